import PyProof.Rows.All
import Wide.All
import OpenK.AllK
import Wide.FinOn
import Lean
import PyProof.EqAt
import PyProof.EqKinds
import PyProof.TupleCall
import PySem.Challenge.RW_glazework_k11_whole_turned
set_option compiler.extract_closed false
noncomputable section
set_option Elab.async false
set_option linter.all false
set_option maxRecDepth 100000
namespace L2
open PySem PySem.Spec PyProof.Rows
noncomputable abbrev Key := Sum Int Str
noncomputable def bl7 : Key → Value → Bool
 | .inl k, v => Value.isInt k v
 | .inr x, v => Value.isStrOf x v
noncomputable def bL0 (w : World) : Key → Int
 | .inl k => hashInt k
 | .inr x => hashStr w x
theorem M4 : ∀ {k : Key} {v : Value}, bl7 k v = true → (∃ i t, k = Sum.inl i ∧ v = Value.int i t) ∨ (∃ x t, k = Sum.inr x ∧ v = Value.str x t)
 | .inl i, v, h => by
  obtain ⟨t, e⟩ := Value.isInt_shape (k := i) (v := v) h
  exact .inl ⟨i, t, rfl, e⟩
 | .inr x, v, h => by
  obtain ⟨t, e⟩ := Value.isStrOf_shape (x := x) (v := v) h
  exact .inr ⟨x, t, rfl, e⟩
theorem bu7 (a b : Int) : decide ((Sum.inl a : Key) = Sum.inl b) = (a == b) := by
 by_cases e : a = b
 ·subst e; simp
 ·have h : ¬ (Sum.inl a : Key) = Sum.inl b := fun q => e (Sum.inl.inj q)
  rw [decide_eq_false h]
  exact (beq_eq_false_iff_ne.mpr e).symm
theorem bu4 (a b : Str) : decide ((Sum.inr a : Key) = Sum.inr b) = decide (a = b) := by
 by_cases e : a = b
 ·subst e; simp
 ·have h : ¬ (Sum.inr a : Key) = Sum.inr b := fun q => e (Sum.inr.inj q)
  rw [decide_eq_false h, decide_eq_false e]
theorem bu6 (a : Int) (b : Str) : decide ((Sum.inl a : Key) = Sum.inr b) = false := decide_eq_false (fun q => nomatch q)
theorem bu5 (a : Str) (b : Int) : decide ((Sum.inr a : Key) = Sum.inl b) = false := decide_eq_false (fun q => nomatch q)
noncomputable def ar2 (prog : Program) (w : World) : PySem.KeyKind prog w Key where
 is := bl7
 hash := bL0 w
 inj := fun v a b ha hb => by
  rcases M4 ha with ⟨i, t, rfl, rfl⟩ | ⟨x, t, rfl, rfl⟩
  ·rcases M4 hb with ⟨j, u, rfl, e⟩ | ⟨y, u, rfl, e⟩
   ·injection e with e1 _; rw [e1]
   ·exact nomatch e
  ·rcases M4 hb with ⟨j, u, rfl, e⟩ | ⟨y, u, rfl, e⟩
   ·exact nomatch e
   ·injection e with e1 _; rw [e1]
 byValue := fun k v h => by
  rcases M4 h with ⟨i, t, rfl, rfl⟩ | ⟨x, t, rfl, rfl⟩ <;> rfl
 pyHash := fun hv h => by
  rcases M4 hv with ⟨i, t, rfl, rfl⟩ | ⟨x, t, rfl, rfl⟩
  ·exact wpAny_pyHash_int h
  ·exact wpAny_pyHash_str h
 eqBool := fun hu hv h => by
  rcases M4 hu with ⟨i, t, rfl, rfl⟩ | ⟨x, t, rfl, rfl⟩
  ·rcases M4 hv with ⟨j, u, rfl, rfl⟩ | ⟨y, u, rfl, rfl⟩
   ·rw [bu7] at h; exact wpAny_eqBool_int h
   ·rw [bu6] at h; exact SeqAt.EqAt.int_str i t y u _ _ _ _ h
  ·rcases M4 hv with ⟨j, u, rfl, rfl⟩ | ⟨y, u, rfl, rfl⟩
   ·rw [bu5] at h; exact SeqAt.EqAt.str_int x t j u _ _ _ _ h
   ·rw [bu4] at h; exact wpAny_eqBool_str h
 «strs» := fun k x t v h => by
  rcases M4 h with ⟨i, u, rfl, e⟩ | ⟨y, u, rfl, e⟩
  ·exact nomatch e
  ·injection e with e1 _
   subst e1
   cases v <;> rfl
end L2
namespace L2
open PySem PySem.Spec PyProof.Rows
inductive V where
 | non | bl (b : Bool) | int (i : Int) | str (x : Str) | byt (b : Array UInt8) | flt (b : UInt64) | ref (a : Addr) | ty (n : String)
 deriving DecidableEq
noncomputable def L0 : V → Value → Prop
 | .non, u => u = Value.none
 | .bl b, u => u = Value.bool b
 | .int i, u => ∃ t, u = Value.int i t
 | .str x, u => ∃ t, u = Value.str x t
 | .byt b, u => ∃ t, u = Value.bytes b t
 | .flt b, u => ∃ t, u = Value.float b t
 | .ref a, u => u = Value.ref a
 | .ty n, u => u = Value.type n
noncomputable abbrev B8 : List V → List Value → Prop := Paired L0
theorem B8.length {xs : List V} {us : List Value} (r : B8 xs us) : xs.length = us.length := Paired.length r
theorem B8.get : ∀ {xs : List V} {us : List Value} {i : Nat} {x : V}, B8 xs us → xs[i]? = some x → ∃ u, us[i]? = some u ∧ L0 x u
 | _, _, _, _, .nil, e => by simp at e
 | _, _, 0, _, .cons r _, e => by simp at e; subst e; exact ⟨_, rfl, r⟩
 | _, _, i + 1, x, .cons _ t, e => by
  obtain ⟨u, h1, h2⟩ := B8.get (i := i) (x := x) t (by simpa using e)
  exact ⟨u, by simpa using h1, h2⟩
theorem B8.append : ∀ {xs ys : List V} {us ws : List Value}, B8 xs us → B8 ys ws → B8 (xs ++ ys) (us ++ ws)
 | _, _, _, _, .nil, s => s
 | _, _, _, _, .cons r t, s => .cons r (B8.append t s)
theorem B8.take : ∀ {xs : List V} {us : List Value} (n : Nat), B8 xs us → B8 (xs.take n) (us.take n)
 | _, _, 0, _ => .nil
 | _, _, _ + 1, .nil => .nil
 | _, _, n + 1, .cons r t => .cons r (B8.take n t)
theorem B8.drop : ∀ {xs : List V} {us : List Value} (n : Nat), B8 xs us → B8 (xs.drop n) (us.drop n)
 | _, _, 0, r => r
 | _, _, _ + 1, .nil => .nil
 | _, _, n + 1, .cons _ t => B8.drop n t
noncomputable def bJ0 : Option V → Option Value → Prop
 | some v, some u => L0 v u
 | none, none => True
 | _, _ => False
noncomputable def KV {κ : Type} : List (κ × V) → List (κ × Value) → Prop := Paired fun (p : κ × V) (q : κ × Value) => p.1 = q.1 ∧ L0 p.2 q.2
noncomputable def kV : Key → V
 | .inl i => .int i
 | .inr x => .str x
inductive HO where
 /-- a list -/
 | lst (xs : List V)
 /-- a tuple (never changes) -/
 | tup (xs : List V)
 /-- a dict whose keys are ints and texts; one whose keys are tuples of ints and texts (the empty one is both) -/
 | dK (kvs : List (Key × V)) | dT (kvs : List (List Key × V))
 /-- a set of ints: its members, its size -/
 | set (S : Int → Bool) (n : Nat)
 /-- an instance of the class at C, its dict at dx, its attributes -/
 | ins (C dx : Addr) (fs : List (Str × V))
 /-- the dict of the instance at x -/
 | own (x : Addr)
 /-- the dict of an exception -/
 | xd (fs : List (Str × V))
 /-- a bound method, f of x -/
 | met (f x : Addr)
 /-- a range object lo, lo + 1, .. below hi -/
 | rng (lo hi : Int)
 /-- a thing that is known to the object (the script; a dict while a loop walks it): read, never written while it is so -/
 | frz (o : Obj) (u : HO)
 /-- a code object's table -/
 | tbl (ps : Array Value)
 /-- any other thing, by what is true of its one object (a def of one's own: SetO a S n := HO.ext fun h => ..) -/
 | ext (φ : Heap → Prop)
noncomputable abbrev Hp := Addr → Option HO
noncomputable def upd (H : Hp) (a : Addr) (o : HO) : Hp := fun b => if b = a then some o else H b
theorem A7 {H : Hp} {a : Addr} {o : HO} : upd H a o a = some o := by unfold upd; rw [if_pos rfl]
theorem A8 {H : Hp} {a b : Addr} {o : HO} (h : b ≠ a) : upd H a o b = H b := by unfold upd; rw [if_neg h]
theorem A9 {H : Hp} {a b : Addr} {o : HO} (h : H a = some o) (h' : H b = none) : a ≠ b := by
 intro e; subst e; rw [h] at h'; cases h'
section
variable (P : Program) (w : World)
noncomputable def V2 (H : Hp) (h : Heap) (a : Addr) : HO → Prop
 | .lst xs => xs.length ≤ sizeLine ∧ ∃ (its : List Value) (n : Nat), B8 xs its ∧ h.get? a = some { cls := .type "list", data := .seq its.toArray n }
 | .tup xs => xs.length ≤ sizeLine ∧ ∃ its : List Value, B8 xs its ∧ IsTup h a its.toArray
 | .dK kvs => kvs.length ≤ sizeLine ∧ (a == sysModules) = false ∧ ∃ vs, KV kvs vs ∧ h.DictOf (ar2 P w) a vs
 | .dT kvs => kvs.length ≤ sizeLine ∧ (a == sysModules) = false ∧ ∃ xs : List (List Key × Addr × Value),
   Paired (fun (p : List Key × V) (q : List Key × Addr × Value) => p.1 = q.1 ∧ H q.2.1 = some (.tup (p.1.map kV)) ∧ L0 p.2 q.2.2) kvs xs ∧
   ∃ o es ep, h.get? a = some o ∧ o.ExactDict ∧ o.data = .dict es ep ∧ es.toList = xs.map (entryOfKey (tupleKind (ar2 P w))) ∧ (xs.map (·.1)).Nodup
 | .set S n => h.SetOf (intKind P w) a S n
 | .ins C dx fs => H dx = some (.own a) ∧ fs.length ≤ 1000 ∧ dx ≠ a ∧ h.get? a = some (PySem.W.instObj C dx) ∧
   ∃ mA, h.Ns1 dx mA ∧ (∀ f, bJ0 (fs.lookup f) (mA f)) ∧ PySem.Within mA (fs.map (·.1))
 | .own _ => ∃ o, h.get? a = some o
 | .xd fs => ∃ mA, h.Ns1 a mA ∧ ∀ f, bJ0 (fs.lookup f) (mA f)
 | .rng lo hi => ∃ t u v, h.get? a = some { cls := .type "range", data := .fields #[.int lo t, .int hi u, .int 1 v] }
 | .frz o u => h.get? a = some o ∧ V2 H h a u
 | .tbl ps => h.get? a = some { cls := .none, data := .fields ps }
 | .met f x => h.get? a = some (PySem.W.methodObj (.ref f) (.ref x))
 | .ext φ => φ h ∧ (∃ o, h.get? a = some o) ∧ ∀ h1 h2 : Heap, φ h1 → (∀ o, h1.get? a = some o → h2.get? a = some o) → φ h2
noncomputable def HOk (H : Hp) (h : Heap) : Prop := ∀ a o, H a = some o → V2 P w H h a o
end
section
variable {P : Program} {w : World} {H H' : Hp} {h h' : Heap} {a : Addr} {o : HO}
theorem V2.lt (x : V2 P w H h a o) : a < h.objs.size := by
 cases o with
 | lst xs => obtain ⟨_, _, _, _, e⟩ := x; exact Heap.lt_size e
 | tup xs => obtain ⟨_, _, _, p⟩ := x; exact p.lt
 | dK kvs => obtain ⟨_, _, _, _, o, _, _, e, _⟩ := x; exact Heap.lt_size e
 | dT kvs => obtain ⟨_, _, _, _, o, _, _, e, _⟩ := x; exact Heap.lt_size e
 | set S n => obtain ⟨o, _, _, _, e, _⟩ := x; exact Heap.lt_size e
 | ins C dx fs => obtain ⟨_, _, _, e, _⟩ := x; exact Heap.lt_size e
 | own y => obtain ⟨_, e⟩ := x; exact Heap.lt_size e
 | xd fs => obtain ⟨_, ⟨_, _, _, e, _⟩, _⟩ := x; exact Heap.lt_size e
 | rng lo hi => obtain ⟨_, _, _, e⟩ := x; exact Heap.lt_size e
 | frz ob u => obtain ⟨e, _⟩ := x; exact Heap.lt_size e
 | tbl ps => exact Heap.lt_size (show h.get? a = some _ from x)
 | met f y => exact Heap.lt_size (show h.get? a = some _ from x)
 | ext φ => obtain ⟨_, ⟨_, e⟩, _⟩ := x; exact Heap.lt_size e
theorem Paired.mapP {α β : Type} {F G : α → β → Prop} : ∀ {l₁ : List α} {l₂ : List β}, Paired F l₁ l₂ → (∀ a b, F a b → G a b) → Paired G l₁ l₂
 | _, _, .nil, _ => .nil
 | _, _, .cons r t, f => .cons (f _ _ r) (Paired.mapP t f)
theorem V2.stay (x : V2 P w H h a o) (k : ∀ b u, (b = a ∨ H b = some (.own a)) → h.get? b = some u → h'.get? b = some u)
  (ho : ∀ b, H b = some (.own a) → H' b = some (.own a)) (ht : ∀ b xs, H b = some (.tup xs) → H' b = some (.tup xs)) : V2 P w H' h' a o := by
 induction o with
 | lst xs => obtain ⟨z, its, n, r, e⟩ := x; exact ⟨z, its, n, r, k _ _ (.inl rfl) e⟩
 | tup xs => obtain ⟨z, its, r, ob, e, c⟩ := x; exact ⟨z, its, r, ob, k _ _ (.inl rfl) e, c⟩
 | dK kvs => obtain ⟨z, y, vs, r, ob, es, ep, e, c⟩ := x; exact ⟨z, y, vs, r, ob, es, ep, k _ _ (.inl rfl) e, c⟩
 | dT kvs =>
  obtain ⟨z, y, xs, r, ob, es, ep, e, c⟩ := x
  exact ⟨z, y, xs, Paired.mapP r fun p q z => ⟨z.1, ht _ _ z.2.1, z.2.2⟩, ob, es, ep, k _ _ (.inl rfl) e, c⟩
 | set S n => obtain ⟨ob, es, ep, t, e, c⟩ := x; exact ⟨ob, es, ep, t, k _ _ (.inl rfl) e, c⟩
 | ins C dx fs =>
  obtain ⟨d, z, ne, e, mA, ⟨od, es, ep, e2, c⟩, r⟩ := x
  exact ⟨ho _ d, z, ne, k _ _ (.inl rfl) e, mA, ⟨od, es, ep, k _ _ (.inr d) e2, c⟩, r⟩
 | own y => obtain ⟨ob, e⟩ := x; exact ⟨ob, k _ _ (.inl rfl) e⟩
 | xd fs => obtain ⟨mA, ⟨od, es, ep, e, c⟩, r⟩ := x; exact ⟨mA, ⟨od, es, ep, k _ _ (.inl rfl) e, c⟩, r⟩
 | rng lo hi => obtain ⟨t, u, v, e⟩ := x; exact ⟨t, u, v, k _ _ (.inl rfl) e⟩
 | frz ob u ih => obtain ⟨e, q⟩ := x; exact ⟨k _ _ (.inl rfl) e, ih q⟩
 | tbl ps =>
  have e : h.get? a = some { cls := .none, data := .fields ps } := x
  show h'.get? a = some { cls := .none, data := .fields ps }
  exact k a _ (.inl rfl) e
 | met f y =>
  have e : h.get? a = some (PySem.W.methodObj (.ref f) (.ref y)) := x
  show h'.get? a = some (PySem.W.methodObj (.ref f) (.ref y))
  exact k a _ (.inl rfl) e
 | ext φ => obtain ⟨p, ⟨o, e⟩, st⟩ := x; exact ⟨st _ _ p fun o q => k _ _ (.inl rfl) q, ⟨o, k _ _ (.inl rfl) e⟩, st⟩
theorem HOk.lt (x : HOk P w H h) (e : H a = some o) : a < h.objs.size := (x a o e).lt
theorem HOk.fresh (x : HOk P w H h) (e : h.objs.size ≤ a) : H a = none := by
 cases q : H a with
 | none => rfl
 | some u => exact absurd (Nat.lt_of_lt_of_le (x.lt q) e) (Nat.lt_irrefl _)
theorem HOk.kept (x : HOk P w H h) (k : ∀ b u, h.get? b = some u → h'.get? b = some u) : HOk P w H h' := fun a o e =>
 (x a o e).stay (fun b u _ q => k b u q) (fun _ q => q) fun _ _ q => q
theorem HOk.laid (x : HOk P w H h) (k : ∀ b u, h.get? b = some u → h'.get? b = some u) (hp : h.objs.size ≤ a) (new : V2 P w (upd H a o) h' a o) : HOk P w (upd H a o) h' := fun b u e => by
 have hn := x.fresh hp
 by_cases hb : b = a
 ·subst hb; rw [A7] at e; cases e; exact new
 ·rw [A8 hb] at e
  exact (x b u e).stay (fun c v _ q => k c v q) (fun c q => by rw [A8 (A9 q hn)]; exact q) fun c xs q => by rw [A8 (A9 q hn)]; exact q
end
noncomputable def Rd (H : Hp) (a : Addr) (u : HO) : Prop := H a = some u ∨ ∃ o, H a = some (.frz o u)
theorem Rd.ok {P : Program} {w : World} {H : Hp} {h : Heap} {a : Addr} {u : HO} (r : Rd H a u) (x : HOk P w H h) : V2 P w H h a u := by
 rcases r with r | ⟨o, r⟩
 ·exact x a u r
 ·obtain ⟨_, q⟩ := x a _ r
  exact q
noncomputable def Mut : Option HO → Prop
 | some (.lst _) => True
 | some (.dK _) => True
 | some (.dT _) => True
 | some (.set _ _) => True
 | some (.ins _ _ _) => True
 | some (.ext _) => True
 | _ => False
section
variable {P : Program} {w : World} {H : Hp} {h h' : Heap} {x e : Addr} {o' : HO}
theorem HOk.write (ok : HOk P w H h) (mu : Mut (H x)) (he : e = x ∨ H e = some (.own x)) (k : ∀ b u, b ≠ e → h.get? b = some u → h'.get? b = some u) (heo : ∃ u, h'.get? e = some u)
  (new : V2 P w (upd H x o') h' x o') : HOk P w (upd H x o') h' := fun b u q => by
 have nown : ∀ c y, H c = some (.own y) → c ≠ x := fun c y r z => by subst z; rw [r] at mu; exact mu
 have ntup : ∀ c xs, H c = some (.tup xs) → c ≠ x := fun c xs r z => by subst z; rw [r] at mu; exact mu
 by_cases hb : b = x
 ·subst hb; rw [A7] at q; cases q; exact new
 ·rw [A8 hb] at q
  by_cases hbe : b = e
  ·have q' : H b = some (.own x) := by
    rcases he with z | z
    ·exact absurd (hbe.trans z) hb
    ·rw [hbe]; exact z
   rw [q] at q'; cases q'
   obtain ⟨v, hv⟩ := heo
   exact ⟨v, by rw [hbe]; exact hv⟩
  ·refine (ok b u q).stay (fun c v hc r => k c v ?_ r) (fun c r => by rw [A8 (nown c b r)]; exact r) fun c xs r => by rw [A8 (ntup c xs r)]; exact r
   rcases hc with rfl | hc
   ·exact hbe
   ·rintro rfl
    rcases he with z | z
    ·exact nown c b hc z
    ·rw [hc] at z; cases z; exact hb rfl
end
structure Un (fs ex : List Addr) (H H' : Hp) (h h' : Heap) : Prop where
 keep : ∀ b o, h.get? b = some o → H b = none → b ∉ fs → b ∉ ex → h'.get? b = some o
 slot : ∀ b o, h.get? b = some o → H b = none → b ∈ fs → b ∉ ex → ∃ sl, h'.get? b = some { o with slots := sl }
 free : ∀ b o, h.get? b = some o → H b = none → b ∉ ex → H' b = none
 there : ∀ b o, h.get? b = some o → b ∉ ex → ∃ o', h'.get? b = some o'
 tups : ∀ b xs, H b = some (.tup xs) → H' b = some (.tup xs)
 frzs : ∀ b o u, H b = some (.frz o u) → H' b = some (.frz o u)
 tbls : ∀ b ps, H b = some (.tbl ps) → ∃ more, H' b = some (.tbl (ps ++ more))
section
variable {fs fs' ex ex' : List Addr} {H H1 H2 : Hp} {h h1 h2 h' : Heap} {a x e : Addr} {o : HO}
theorem Un.any (u : Un fs ex H H1 h h1) {b : Addr} {ob : Obj} (q : h.get? b = some ob) (n : H b = none) (hx : b ∉ ex) : ∃ sl, h1.get? b = some { ob with slots := sl } := by
 by_cases hb : b ∈ fs
 ·exact u.slot b ob q n hb hx
 ·exact ⟨ob.slots, u.keep b ob q n hb hx⟩
theorem Un.kept (k : ∀ b u, h.get? b = some u → h'.get? b = some u) : Un fs ex H H h h' :=
 ⟨fun b ob q _ _ _ => k b ob q, fun b ob q _ _ _ => ⟨ob.slots, k b ob q⟩, fun _ _ _ n _ => n, fun b ob q _ => ⟨ob, k b ob q⟩, fun _ _ q => q, fun _ _ _ q => q, fun _ ps q => ⟨#[], by rw [q]; simp⟩⟩
theorem Un.refl : Un fs ex H H h h := Un.kept fun _ _ q => q
theorem Un.laid (k : ∀ b u, h.get? b = some u → h'.get? b = some u) (hp : h.objs.size ≤ a) (hn : H a = none) : Un fs ex H (upd H a o) h h' where
 keep := fun b u q _ _ _ => k b u q
 slot := fun b u q _ _ _ => ⟨u.slots, k b u q⟩
 free := fun b u q n _ => by rw [A8 (Nat.ne_of_lt (Nat.lt_of_lt_of_le (Heap.lt_size q) hp))]; exact n
 there := fun b u q _ => ⟨u, k b u q⟩
 tups := fun b xs q => by rw [A8 (A9 q hn)]; exact q
 frzs := fun b u xs q => by rw [A8 (A9 q hn)]; exact q
 tbls := fun b ps q => ⟨#[], by rw [A8 (A9 q hn), q]; simp⟩
theorem Un.write (mu : Mut (H x)) (he : e = x ∨ H e = some (.own x)) (k : ∀ b u, b ≠ e → h.get? b = some u → h'.get? b = some u) (heo : ∃ u, h'.get? e = some u) : Un fs ex H (upd H x o) h h' := by
 have hx : ∀ b, H b = none → b ≠ x := fun b n z => by subst z; rw [n] at mu; exact mu
 have hb : ∀ b, H b = none → b ≠ e := fun b n z => by
  subst z
  rcases he with r | r
  ·exact hx b n r
  ·rw [n] at r; cases r
 have hm : ∀ b u, H b = some u → ¬ Mut (some u) → b ≠ x := fun b u q nm z => by subst z; rw [q] at mu; exact nm mu
 refine ⟨fun b u q n _ _ => k b u (hb b n) q, fun b u q n _ _ => ⟨u.slots, k b u (hb b n) q⟩, fun b u q n _ => by rw [A8 (hx b n)]; exact n, fun b u q _ => ?_,
  fun b xs q => by rw [A8 (hm b _ q fun z => z)]; exact q, fun b u xs q => by rw [A8 (hm b _ q fun z => z)]; exact q, fun b ps q => ⟨#[], by rw [A8 (hm b _ q fun z => z), q]; simp⟩⟩
 by_cases hbe : b = e
 ·subst hbe; exact heo
 ·exact ⟨u, k b u hbe q⟩
end
noncomputable def trk (h : Heap) (H : Hp) : List Addr := (List.range h.objs.size).filter fun a => (H a).isSome
noncomputable def as0 (h : Heap) (H : Hp) : Heap := PySem.W.hideAll h (trk h H)
theorem aM6 (h : Heap) (H : Hp) : (as0 h H).objs.size = h.objs.size := PySem.W.hideAll_size _ _
theorem aX6 {h : Heap} {H : Hp} {b : Addr} {o : Obj} (e : h.get? b = some o) (n : H b = none) : (as0 h H).get? b = some o :=
 PySem.W.hideAll_get _ e fun hm => by
  have q : (H b).isSome = true := (List.mem_filter.mp hm).2
  rw [n] at q; simp at q
theorem bf0 {h : Heap} {H : Hp} {b : Addr} {o : Obj} (e : (as0 h H).get? b = some o) : h.get? b = some o ∧ H b = none := by
 have e' : h.get? b = some o := PySem.W.of_hideAll (trk h H) e
 refine ⟨e', ?_⟩
 cases q : H b with
 | none => rfl
 | some x =>
  have hm : b ∈ trk h H := List.mem_filter.mpr ⟨List.mem_range.mpr (Heap.lt_size e'), by simp [q]⟩
  have z : (as0 h H).get? b = none := PySem.W.hideAll_none (trk h H) hm
  rw [z] at e; cases e
noncomputable def bk2 (g h : Heap) (L : Addr) : List (Addr × Obj) := (List.range h.objs.size).filterMap fun a => if a = L ∨ (g.get? a).isSome = true then none else (h.get? a).map fun o => (a, o)
noncomputable def Q2 (g h : Heap) (L d : Addr) : List (Addr × Obj) := (bk2 g h L).filter fun p => decide (p.1 ≠ d)
end L2
namespace L2
open PySem PySem.Spec PyProof.Rows
structure Mod (K : PySem.W.Frag) (mg : Str → Option Value) (base : Heap) : Prop where
 kin : K.In base
 glob : base.Ns mainGlobals mg
 blt : ∃ mb, base.Ns builtinsNs mb ∧ ∀ x : Str, x ≠ "__name__" → mb x = bootBuiltins x
 nolimit : base.NoLimit
structure Cx where
 prog : Program
 w : World
 K : PySem.W.Frag
 mg : Str → Option Value
 base : Heap
 A : Around
 N : List Str
 s₀ : Shared
 H₀ : Hp
 env : Env
 outer : List Env
 stack : List Env
 ex : List Addr
 fn : Str → Bool
 calm : Bool
 pn : List (Addr × Obj)
 xe : Value → Shared → Prop
noncomputable def frs (l : List Env) : List Addr := l.filterMap (·.frame)
noncomputable abbrev Cx.fs (X : Cx) : List Addr := frs X.outer
noncomputable def Vis (sc : Scope) (x : Str) : Prop := sc.names.lookup x = some .local ∨ sc.names.lookup x = some .cell ∨ sc.names.lookup x = some .free
noncomputable def Loc (sc : Scope) (x : Str) : Prop := sc.names.lookup x = some .local ∨ sc.names.lookup x = some .cell
noncomputable def bL7 (env : Env) (h : Heap) (m : Str → Option Value) (x : Str) (u : Value) : Prop :=
 (env.kindOf x = some .local ∧ m x = some u) ∨ ((env.kindOf x = some .cell ∨ env.kindOf x = some .free) ∧ ∃ c, env.cells.lookup x = some c ∧ h.IsCell c (some u))
structure Cx.Ok (X : Cx) : Prop where
 mod : Mod X.K X.mg X.base
 kind : X.env.scope.kind = .function
 glob : X.env.globals = mainGlobals
 blt : X.env.builtins = builtinsNs
 above : X.s₀.heap.objs.size ≤ X.env.locals
 inj : ∀ x y c, X.env.cells.lookup x = some c → X.env.cells.lookup y = some c → x = y
 has : ∀ x, (X.env.kindOf x = some .cell ∨ X.env.kindOf x = some .free) → ∃ c, X.env.cells.lookup x = some c
 cab : ∀ x c, X.fn x = true → X.env.cells.lookup x = some c → X.s₀.heap.objs.size ≤ c
 hd : X.calm = true → X.A.handled = none
 frames : X.A.frames = some X.stack
 stk : X.stack = X.outer ∨ (X.stack = X.env :: X.outer ∧ X.env.frame = some X.env.locals)
 exf : ∀ b ∈ X.ex, b ≠ X.env.locals ∧ ∀ x c, X.env.cells.lookup x = some c → c ≠ b
 bs : ∀ b o, X.base.get? b = some o → X.s₀.heap.get? b = some o ∧ X.H₀ b = none
 bsz : X.base.objs.size ≤ X.s₀.heap.objs.size
 noex : ∀ b o, X.base.get? b = some o → b ∉ X.ex
 exfs : ∀ b ∈ X.ex, b ∉ X.fs
 funs : X.s₀.heap.FunFrames X.base X.outer
 frf : ∀ b ∈ X.fs, X.H₀ b = none
structure Inv (X : Cx) (pins : List (Addr × Obj)) (σ : List (Option V)) (H : Hp) (s : Shared) : Prop where
 ok : X.Ok
 os : s.os = X.s₀.os
 bare : AllBare s.gens
 base : Un X.fs X.ex X.H₀ H X.s₀.heap s.heap
 loc : ∃ m, s.heap.Ns X.env.locals m ∧ ∀ (i : Nat) (x : Str) (v : V), X.N[i]? = some x → σ[i]? = some (some v) → Vis X.env.scope x → ∃ u, L0 v u ∧ bL7 X.env s.heap m x u
 cell : ∀ x c, X.env.cells.lookup x = some c → ∃ v, s.heap.IsCell c v
 free : H X.env.locals = none
 freeC : ∀ x c, X.env.cells.lookup x = some c → H c = none
 pin : ∀ p ∈ X.pn ++ pins, s.heap.get? p.1 = some p.2 ∧ H p.1 = none ∧ p.1 ≠ X.env.locals ∧ p.1 ∉ X.fs ∧ ∀ v, p.2.data ≠ .cell v
 hok : HOk X.prog X.w H s.heap
 len : σ.length = X.N.length
section
variable {X : Cx} {pins : List (Addr × Obj)} {σ : List (Option V)} {H H' : Hp} {s : Shared} {h' : Heap}
theorem Cx.Ok.nofr (ok : X.Ok) {b : Addr} {o : Obj} (e : X.base.get? b = some o) : b ∉ X.fs := fun hb => by
 have := (ok.funs.mem hb).1
 rw [e] at this; cases this
theorem Inv.bs (I : Inv X pins σ H s) : ∀ b o, X.base.get? b = some o → s.heap.get? b = some o ∧ H b = none := fun b o e =>
 ⟨I.base.keep b o (I.ok.bs b o e).1 (I.ok.bs b o e).2 (I.ok.nofr e) (I.ok.noex b o e), I.base.free b o (I.ok.bs b o e).1 (I.ok.bs b o e).2 (I.ok.noex b o e)⟩
theorem Inv.bk (I : Inv X pins σ H s) : ∀ b o, X.base.get? b = some o → s.heap.get? b = some o := fun b o e => (I.bs b o e).1
theorem Inv.mod (I : Inv X pins σ H s) : Mod X.K X.mg X.base := I.ok.mod
theorem Inv.kIn (I : Inv X pins σ H s) : X.K.In s.heap := I.ok.mod.kin.keeps I.bk
theorem Inv.lt (I : Inv X pins σ H s) : X.env.locals < s.heap.objs.size := let ⟨_, hn, _⟩ := I.loc; hn.lt
theorem Inv.sz (I : Inv X pins σ H s) : X.s₀.heap.objs.size ≤ s.heap.objs.size := Nat.le_trans I.ok.above (Nat.le_of_lt I.lt)
theorem Inv.nofs (I : Inv X pins σ H s) {a : Addr} (h : s.heap.objs.size ≤ a) : a ∉ X.fs := fun hb => by
 obtain ⟨_, o, ho, _⟩ := I.ok.funs.mem hb
 exact absurd (Nat.lt_of_lt_of_le (Heap.lt_size ho) (Nat.le_trans I.sz h)) (Nat.lt_irrefl _)
theorem Inv.cne (I : Inv X pins σ H s) : ∀ x c, X.env.cells.lookup x = some c → c ≠ X.env.locals := fun x c e z => by
 obtain ⟨v, o, ho, hd⟩ := I.cell x c e
 obtain ⟨m, ⟨o', es, ep, ho', hd', _⟩, _⟩ := I.loc
 rw [z, ho'] at ho; cases ho; rw [hd'] at hd; cases hd
theorem Inv.funs (I : Inv X pins σ H s) : s.heap.FunFrames X.base X.outer := by
 have all : ∀ (l : List Env), (∀ b ∈ frs l, b ∈ X.fs) → X.s₀.heap.FunFrames X.base l → s.heap.FunFrames X.base l := by
  intro l
  induction l with
  | nil => intro _ _; trivial
  | cons env r ih =>
   intro hs hl
   obtain ⟨hk, ⟨L, o, hf, hn, ho, hd⟩, hr⟩ := hl
   have hL : L ∈ X.fs := hs L (by unfold frs; rw [List.filterMap_cons, hf]; exact List.mem_cons_self)
   obtain ⟨sl, e⟩ := I.base.slot L o ho (I.ok.frf L hL) hL fun z => I.ok.exfs L z hL
   exact ⟨hk, ⟨L, _, hf, hn, e, hd⟩, ih (fun b hb => hs b (by unfold frs; rw [List.filterMap_cons, hf]; exact List.mem_cons_of_mem _ hb)) hr⟩
 exact all X.outer (fun _ hb => hb) I.ok.funs
theorem Inv.stack (I : Inv X pins σ H s) : s.heap.FunFrames X.base X.stack := by
 rcases I.ok.stk with e | ⟨e, hf⟩
 ·rw [e]; exact I.funs
 ·rw [e]
  obtain ⟨m, hn, _⟩ := I.loc
  refine .cons (by rw [I.ok.kind]; decide) hf hn ?_ I.funs
  exact Heap.get?_none_of_le (Nat.le_trans I.ok.bsz I.ok.above)
theorem Inv.stkSub (I : Inv X pins σ H s) : ∀ b ∈ frs X.stack, b ∈ X.env.locals :: X.fs := fun b hb => by
 rcases I.ok.stk with e | ⟨e, hf⟩
 ·rw [e] at hb; exact List.mem_cons_of_mem _ hb
 ·rw [e] at hb
  unfold frs at hb
  rw [List.filterMap_cons, hf] at hb
  exact hb
theorem Inv.stkFree (I : Inv X pins σ H s) : ∀ b ∈ frs X.stack, H b = none := fun b hb => by
 rcases List.mem_cons.mp (I.stkSub b hb) with e | hb
 ·rw [e]; exact I.free
 ·obtain ⟨_, o, ho, _⟩ := I.ok.funs.mem hb
  exact I.base.free b o ho (I.ok.frf b hb) fun z => I.ok.exfs b z hb
theorem Inv.step {g' : Array GenState} {t' : Nat} {d' : Drawn} {ch : List Addr} (I : Inv X pins σ H s)
  (hch : ∀ b ∈ ch, (b ∈ X.ex ∨ X.s₀.heap.objs.size ≤ b) ∧ b ≠ X.env.locals ∧ (∀ x c, X.env.cells.lookup x = some c → c ≠ b) ∧ ∀ p ∈ X.pn ++ pins, p.1 ≠ b)
  (keep : ∀ b o, b ≠ X.env.locals → b ∉ X.fs → b ∉ ch → s.heap.get? b = some o → H b = none → h'.get? b = some o)
  (slot : ∀ b o, b ≠ X.env.locals → b ∈ X.fs → b ∉ ch → s.heap.get? b = some o → H b = none → ∃ sl, h'.get? b = some { o with slots := sl }) (free : ∀ b o, b ∉ ch → s.heap.get? b = some o → H b = none → H' b = none)
  (there : ∀ b o, b ∉ ch → s.heap.get? b = some o → ∃ o', h'.get? b = some o')
  (tups : ∀ b xs, H b = some (.tup xs) → H' b = some (.tup xs)) (frzs : ∀ b o u, H b = some (.frz o u) → H' b = some (.frz o u)) (tbls : ∀ b ps, H b = some (.tbl ps) → ∃ more, H' b = some (.tbl (ps ++ more)))
  (ns : ∀ m, s.heap.Ns X.env.locals m → h'.Ns X.env.locals m) (hok : HOk X.prog X.w H' h') (hg : AllBare g') :
  Inv X pins σ H' { s with heap := h', gens := g', drawn := d', toks := t' } := by
 have neL : ∀ b o, X.s₀.heap.get? b = some o → b ≠ X.env.locals := fun b o e => Nat.ne_of_lt (Nat.lt_of_lt_of_le (Heap.lt_size e) I.ok.above)
 have neC : ∀ b o, X.s₀.heap.get? b = some o → b ∉ X.ex → b ∉ ch := fun b o e hx hb => by
  rcases (hch b hb).1 with z | z
  ·exact hx z
  ·exact absurd (Nat.lt_of_lt_of_le (Heap.lt_size e) z) (Nat.lt_irrefl _)
 have cellK : ∀ x c, X.env.cells.lookup x = some c → ∀ v, s.heap.IsCell c v → h'.IsCell c v := fun x c e v ⟨o, ho, hd⟩ => by
  have nch : c ∉ ch := fun z => (hch c z).2.2.1 x c e rfl
  by_cases hc : c ∈ X.fs
  ·obtain ⟨sl, q⟩ := slot c o (I.cne x c e) hc nch ho (I.freeC x c e)
   exact ⟨_, q, hd⟩
  ·exact ⟨o, keep c o (I.cne x c e) hc nch ho (I.freeC x c e), hd⟩
 refine ⟨I.ok, I.os, hg, ⟨fun b o e n hb hx => ?_, fun b o e n hb hx => ?_, fun b o e n hx => ?_, fun b o e hx => ?_, fun b xs e => tups b xs (I.base.tups b xs e), fun b o xs e => frzs b o xs (I.base.frzs b o xs e), fun b ps e => ?_⟩, ?_, fun x c e => ?_, ?_, fun x c e => ?_, fun p hp => ?_, hok, I.len⟩
 ·exact keep b o (neL b o e) hb (neC b o e hx) (I.base.keep b o e n hb hx) (I.base.free b o e n hx)
 ·obtain ⟨sl, e1⟩ := I.base.slot b o e n hb hx
  obtain ⟨sl', e2⟩ := slot b _ (neL b o e) hb (neC b o e hx) e1 (I.base.free b o e n hx)
  exact ⟨sl', e2⟩
 ·obtain ⟨o', e1⟩ := I.base.there b o e hx
  exact free b o' (neC b o e hx) e1 (I.base.free b o e n hx)
 ·obtain ⟨o', e1⟩ := I.base.there b o e hx
  exact there b o' (neC b o e hx) e1
 ·obtain ⟨m1, e1⟩ := I.base.tbls b ps e
  obtain ⟨m2, e2⟩ := tbls b _ e1
  exact ⟨m1 ++ m2, by rw [e2, Array.append_assoc]⟩
 ·obtain ⟨m, hn, hl⟩ := I.loc
  refine ⟨m, ns m hn, fun i x v e1 e2 e3 => ?_⟩
  obtain ⟨u, r, l⟩ := hl i x v e1 e2 e3
  refine ⟨u, r, ?_⟩
  rcases l with l | ⟨k, c, e, z⟩
  ·exact .inl l
  ·exact .inr ⟨k, c, e, cellK x c e _ z⟩
 ·obtain ⟨v, z⟩ := I.cell x c e
  exact ⟨v, cellK x c e v z⟩
 ·obtain ⟨m, ⟨o, _, _, ho, _⟩, _⟩ := I.loc
  exact free _ o (fun z => (hch _ z).2.1 rfl) ho I.free
 ·obtain ⟨v, o, ho, hd⟩ := I.cell x c e
  exact free c o (fun z => (hch c z).2.2.1 x c e rfl) ho (I.freeC x c e)
 ·obtain ⟨e, n, ne, nf, d⟩ := I.pin p hp
  have nch : p.1 ∉ ch := fun z => (hch p.1 z).2.2.2 p hp rfl
  exact ⟨keep p.1 p.2 ne nf nch e n, free p.1 p.2 nch e n, ne, nf, d⟩
theorem Inv.un {t' : Nat} (I : Inv X pins σ H s) (u : Un X.fs [] H H' s.heap h') (hok : HOk X.prog X.w H' h') : Inv X pins σ H' { s with heap := h', toks := t' } := by
 obtain ⟨m, ⟨o, es, ep, ho, r⟩, _⟩ := id I.loc
 obtain ⟨sl, hL⟩ := u.any ho I.free (by simp)
 exact I.step (g' := s.gens) (d' := s.drawn) (ch := []) (fun _ z => nomatch z) (fun b o _ hb _ e n => u.keep b o e n hb (by simp)) (fun b o _ hb _ e n => u.slot b o e n hb (by simp)) (fun b o _ e n => u.free b o e n (by simp)) (fun b o _ e => u.there b o e (by simp)) u.tups u.frzs u.tbls (fun m' hm => by
  obtain ⟨o', es', ep', ho', r'⟩ := hm
  rw [ho] at ho'; cases ho'
  exact ⟨_, es', ep', hL, r'⟩) hok I.bare
theorem Inv.call {g' : Array GenState} {t' : Nat} {d' : Drawn} {ch : List Addr} (I : Inv X pins σ H s) (u : Un (frs X.stack) ch H H' s.heap h') (hok : HOk X.prog X.w H' h') (hg : AllBare g')
  (hch : ∀ b ∈ ch, (b ∈ X.ex ∨ X.s₀.heap.objs.size ≤ b) ∧ b ≠ X.env.locals ∧ (∀ x c, X.env.cells.lookup x = some c → c ≠ b) ∧ ∀ p ∈ X.pn ++ pins, p.1 ≠ b) :
  Inv X pins σ H' { s with heap := h', gens := g', drawn := d', toks := t' } := by
 obtain ⟨m, ⟨o, es, ep, ho, r⟩, _⟩ := id I.loc
 obtain ⟨sl, hL⟩ := u.any ho I.free fun z => (hch _ z).2.1 rfl
 exact I.step (ch := ch) hch (fun b o hL hb hc e n => u.keep b o e n (fun z => (List.mem_cons.mp (I.stkSub b z)).elim hL hb) hc) (fun b o _ _ hc e n => u.any e n hc) (fun b o hc e n => u.free b o e n hc) (fun b o hc e => u.there b o e hc) u.tups u.frzs u.tbls (fun m' hm => by
  obtain ⟨o', es', ep', ho', r'⟩ := hm
  rw [ho] at ho'; cases ho'
  exact ⟨_, es', ep', hL, r'⟩) hok hg
theorem Inv.turned {t' : Nat} {it : Addr} (I : Inv X pins σ H s) (k : ∀ b o, b ≠ it → s.heap.get? b = some o → h'.get? b = some o) (hn : H it = none) (hL : it ≠ X.env.locals)
  (h1 : it ∈ X.ex ∨ X.s₀.heap.objs.size ≤ it) (h2 : ∀ x c, X.env.cells.lookup x = some c → c ≠ it) (h3 : ∀ p ∈ X.pn ++ pins, p.1 ≠ it) : Inv X pins σ H { s with heap := h', toks := t' } := by
 have nit : ∀ b u, H b = some u → b ≠ it := fun b u e z => by rw [z, hn] at e; cases e
 refine I.step (g' := s.gens) (d' := s.drawn) (ch := [it]) (fun b hb => ?_) (fun b o _ _ hc e _ => k b o (fun z => hc (by simp [z])) e) (fun b o _ _ hc e _ => ⟨o.slots, k b o (fun z => hc (by simp [z])) e⟩) (fun _ _ _ _ n => n)
  (fun b o hc e => ⟨o, k b o (fun z => hc (by simp [z])) e⟩) (fun _ _ e => e) (fun _ _ _ e => e) (fun b ps e => ⟨#[], by rw [e]; simp⟩) (fun m hm => ?_) (fun b u e => ?_) I.bare
 ·have e : b = it := by simpa using hb
  subst e
  exact ⟨h1, hL, h2, h3⟩
 ·obtain ⟨o, es, ep, ho, r⟩ := hm
  exact ⟨o, es, ep, k _ o (Ne.symm hL) ho, r⟩
 ·refine (I.hok b u e).stay (fun c v hc q => k c v ?_ q) (fun _ q => q) fun _ _ q => q
  rcases hc with z | z
  ·rw [z]; exact nit b u e
  ·exact nit c _ z
theorem Inv.tok (I : Inv X pins σ H s) (t : Nat) : Inv X pins σ H { s with toks := t } := I.un (h' := s.heap) (t' := t) Un.refl I.hok
theorem Inv.kept {t' : Nat} (I : Inv X pins σ H s) (k : ∀ b u, s.heap.get? b = some u → h'.get? b = some u) : Inv X pins σ H { s with heap := h', toks := t' } := I.un (Un.kept k) (I.hok.kept k)
theorem Inv.laid {a : Addr} {o : HO} {t' : Nat} (I : Inv X pins σ H s) (k : ∀ b u, s.heap.get? b = some u → h'.get? b = some u) (hp : s.heap.objs.size ≤ a) (new : V2 X.prog X.w (upd H a o) h' a o) :
  Inv X pins σ (upd H a o) { s with heap := h', toks := t' } := I.un (Un.laid k hp (I.hok.fresh hp)) (I.hok.laid k hp new)
theorem Inv.write {x e : Addr} {o : HO} {t' : Nat} (I : Inv X pins σ H s) (mu : Mut (H x)) (he : e = x ∨ H e = some (.own x)) (k : ∀ b u, b ≠ e → s.heap.get? b = some u → h'.get? b = some u) (heo : ∃ u, h'.get? e = some u)
  (new : V2 X.prog X.w (upd H x o) h' x o) : Inv X pins σ (upd H x o) { s with heap := h', toks := t' } := I.un (Un.write mu he k heo) (I.hok.write mu he k heo new)
theorem Inv.pins_of {pins' : List (Addr × Obj)} (I : Inv X pins σ H s) (h : ∀ p ∈ pins', s.heap.get? p.1 = some p.2 ∧ H p.1 = none ∧ p.1 ≠ X.env.locals ∧ p.1 ∉ X.fs ∧ ∀ v, p.2.data ≠ .cell v) : Inv X pins' σ H s :=
 ⟨I.ok, I.os, I.bare, I.base, I.loc, I.cell, I.free, I.freeC, fun p hp => (List.mem_append.mp hp).elim (fun z => I.pin p (List.mem_append_left _ z)) (h p), I.hok, I.len⟩
theorem av6 {N : List Str} (hN : N.Nodup) {i j : Nat} {x : Str} (a : N[i]? = some x) (b : N[j]? = some x) : i = j := by
 obtain ⟨h1, e1⟩ := List.getElem?_eq_some_iff.mp a
 obtain ⟨h2, e2⟩ := List.getElem?_eq_some_iff.mp b
 exact (List.getElem_inj hN).mp (e1.trans e2.symm)
theorem al3 {M : Model} {A : Around} {E : Value → Shared → Prop} {i : Nat} {x : Str} {v : V} {u : Value} {Q : Unit → Shared → Prop} (I : Inv X pins σ H s) (hN : X.N.Nodup) (hi : X.N[i]? = some x) (hx : Loc X.env.scope x) (r : L0 v u)
  (h : ∀ s', Inv X pins (σ.set i (some v)) H s' → (∃ a, Heap.SameBut a s.heap s'.heap ∧ (a = X.env.locals ∨ X.env.cells.lookup x = some a)) → Q () s') (hf : X.fn x = true ∨ X.env.scope.names.lookup x = some .local := by first | exact .inl rfl | exact .inr rfl | assumption) : wpAny M A (storeName X.env x u) Q E s := by
 obtain ⟨m, hn, hl⟩ := id I.loc
 have hcls : (X.env.scope.kind == .class || (X.env.scope.kind == .module && X.env.locals != X.env.globals)) = false := by rw [I.ok.kind]; rfl
 have hiσ : i < σ.length := by rw [I.len]; exact (List.getElem?_eq_some_iff.mp hi).1
 have cne := I.cne
 have tracked : ∀ {a : Addr} {h' : Heap}, (∃ o, s.heap.get? a = some o ∧ H a = none) → Heap.SameBut a s.heap h' → HOk X.prog X.w H h' := fun {a h'} ha hs b ob e => by
  obtain ⟨_, _, hfree⟩ := ha
  refine (I.hok b ob e).stay (fun c w' hc q => (hs.2 c ?_).trans q) (fun _ q => q) fun _ _ q => q
  rintro rfl
  rcases hc with rfl | hc
  ·rw [hfree] at e; cases e
  ·rw [hfree] at hc; cases hc
 rcases hx with hk | hk
 ·refine wpAny_storeName_local hk hn (fun h' hn' hs => ?_) hcls
  obtain ⟨oL, _, _, hoL, _⟩ := id hn
  refine h _ ⟨I.ok, I.os, I.bare, ⟨fun b o e n hb hx => ?_, fun b o e n hb hx => ?_, I.base.free, fun b o e hx => ?_, I.base.tups, I.base.frzs, I.base.tbls⟩, ⟨_, hn', fun j y v' e1 e2 e3 => ?_⟩, fun y c e => ?_, I.free, I.freeC, fun p hp => ?_, tracked ⟨oL, hoL, I.free⟩ hs, by simpa using I.len⟩ ⟨_, hs, .inl rfl⟩
  ·exact (hs.2 b (Nat.ne_of_lt (Nat.lt_of_lt_of_le (Heap.lt_size e) I.ok.above))).trans (I.base.keep b o e n hb hx)
  ·obtain ⟨sl, e1⟩ := I.base.slot b o e n hb hx
   exact ⟨sl, (hs.2 b (Nat.ne_of_lt (Nat.lt_of_lt_of_le (Heap.lt_size e) I.ok.above))).trans e1⟩
  ·obtain ⟨o', e1⟩ := I.base.there b o e hx
   exact ⟨o', (hs.2 b (Nat.ne_of_lt (Nat.lt_of_lt_of_le (Heap.lt_size e) I.ok.above))).trans e1⟩
  ·by_cases hj : j = i
   ·subst hj
    rw [hi] at e1; cases e1
    rw [List.getElem?_set_self hiσ] at e2
    cases e2
    exact ⟨u, r, .inl ⟨hk, by simp⟩⟩
   ·rw [List.getElem?_set_ne (Ne.symm hj)] at e2
    obtain ⟨u', r', q⟩ := hl j y v' e1 e2 e3
    refine ⟨u', r', ?_⟩
    rcases q with ⟨k, e⟩ | ⟨k, c, e, z⟩
    ·refine .inl ⟨k, ?_⟩
     have : y ≠ x := fun e => hj (av6 hN e1 (e ▸ hi))
     simp [this, e]
    ·exact .inr ⟨k, c, e, z.sameBut hs (cne y c e)⟩
  ·obtain ⟨w', z⟩ := I.cell y c e
   exact ⟨w', z.sameBut hs (cne y c e)⟩
  ·obtain ⟨e, n, ne, nf, d⟩ := I.pin p hp
   exact ⟨(hs.2 p.1 ne).trans e, n, ne, nf, d⟩
 ·have hfn : X.fn x = true := by
   rcases hf with z | z
   ·exact z
   ·rw [z] at hk; cases hk
  obtain ⟨c, hc⟩ := I.ok.has x (.inl hk)
  obtain ⟨w', z⟩ := I.cell x c hc
  refine wpAny_storeName_cell I.ok.kind hk hc z (fun h' hc' hs => ?_)
  obtain ⟨oc, hoc, hocd⟩ := id z
  refine h { s with heap := h' } ⟨I.ok, I.os, I.bare, ⟨fun b o e n hb hx => ?_, fun b o e n hb hx => ?_, I.base.free, fun b o e hx => ?_, I.base.tups, I.base.frzs, I.base.tbls⟩, ⟨m, hn.sameBut hs (Ne.symm (cne x c hc)), fun j y v' e1 e2 e3 => ?_⟩, fun y c' e => ?_, I.free, I.freeC, fun p hp => ?_, tracked ⟨oc, hoc, I.freeC x c hc⟩ hs, by simpa using I.len⟩ ⟨c, hs, .inr hc⟩
  ·exact (hs.2 b (Nat.ne_of_lt (Nat.lt_of_lt_of_le (Heap.lt_size e) (I.ok.cab x c hfn hc)))).trans (I.base.keep b o e n hb hx)
  ·obtain ⟨sl, e1⟩ := I.base.slot b o e n hb hx
   exact ⟨sl, (hs.2 b (Nat.ne_of_lt (Nat.lt_of_lt_of_le (Heap.lt_size e) (I.ok.cab x c hfn hc)))).trans e1⟩
  ·obtain ⟨o', e1⟩ := I.base.there b o e hx
   exact ⟨o', (hs.2 b (Nat.ne_of_lt (Nat.lt_of_lt_of_le (Heap.lt_size e) (I.ok.cab x c hfn hc)))).trans e1⟩
  ·by_cases hj : j = i
   ·subst hj
    rw [hi] at e1; cases e1
    rw [List.getElem?_set_self hiσ] at e2
    cases e2
    exact ⟨u, r, .inr ⟨.inl hk, c, hc, hc'⟩⟩
   ·rw [List.getElem?_set_ne (Ne.symm hj)] at e2
    obtain ⟨u', r', q⟩ := hl j y v' e1 e2 e3
    refine ⟨u', r', ?_⟩
    rcases q with q | ⟨k, c', e, z'⟩
    ·exact .inl q
    ·refine .inr ⟨k, c', e, z'.sameBut hs ?_⟩
     rintro rfl
     exact hj (av6 hN e1 (I.ok.inj _ _ _ e hc ▸ hi))
  ·by_cases hcc : c' = c
   ·subst hcc; exact ⟨_, hc'⟩
   ·obtain ⟨w2, z2⟩ := I.cell y c' e
    exact ⟨w2, z2.sameBut hs hcc⟩
  ·obtain ⟨e, n, ne, nf, d⟩ := I.pin p hp
   refine ⟨(hs.2 p.1 ?_).trans e, n, ne, nf, d⟩
   intro q
   rw [q, hoc] at e
   have q' : oc = p.2 := Option.some.inj e
   exact d w' (by rw [← q']; exact hocd)
theorem u7 {M : Model} {A : Around} {E : Value → Shared → Prop} {i : Nat} {x : Str} {v : V} {u : Value} {Q : Unit → Shared → Prop} (I : Inv X pins σ H s) (hN : X.N.Nodup) (hi : X.N[i]? = some x) (hx : Loc X.env.scope x) (r : L0 v u)
  (h : ∀ s', Inv X pins (σ.set i (some v)) H s' → Q () s') (hf : X.fn x = true ∨ X.env.scope.names.lookup x = some .local := by first | exact .inl rfl | exact .inr rfl | assumption) : wpAny M A (storeName X.env x u) Q E s :=
 al3 I hN hi hx r (fun s' I' _ => h s' I') hf
theorem Inv.call' {s' : Shared} {ch : List Addr} (I : Inv X pins σ H s) (ho : s'.os = s.os) (u : Un (frs X.stack) ch H H' s.heap s'.heap) (hok : HOk X.prog X.w H' s'.heap) (hg : AllBare s'.gens)
  (hch : ∀ b ∈ ch, (b ∈ X.ex ∨ X.s₀.heap.objs.size ≤ b) ∧ b ≠ X.env.locals ∧ (∀ x c, X.env.cells.lookup x = some c → c ≠ b) ∧ ∀ p ∈ X.pn ++ pins, p.1 ≠ b) : Inv X pins σ H' s' := by
 obtain ⟨h', g', d', t', o'⟩ := s'
 have e : o' = s.os := ho
 subst e
 exact I.call (g' := g') (t' := t') (d' := d') u hok hg hch
end
noncomputable abbrev XK := Value → Option Addr → Hp → Prop
noncomputable abbrev St := List (Option V)
noncomputable abbrev VK := V → Hp → Prop
noncomputable abbrev TE := St → Hp → VK → Prop
noncomputable abbrev TT := St → Hp → (Bool → Hp → Prop) → Prop
noncomputable abbrev TA := St → Hp → (List V → Hp → Prop) → Prop
structure Ends where
 nx : St → Hp → Prop
 rt : VK
 bk : St → Hp → Prop := fun _ _ => False
 ct : St → Hp → Prop := fun _ _ => False
noncomputable abbrev TS := Ends → St → Hp → Prop
noncomputable def EP (X : Cx) (pins : List (Addr × Obj)) (σ : St) (Q : VK) (u : Value) (s' : Shared) : Prop := ∃ v H', Inv X pins σ H' s' ∧ L0 v u ∧ Q v H'
noncomputable def TP (X : Cx) (pins : List (Addr × Obj)) (σ : St) (Q : Bool → Hp → Prop) (b : Bool) (s' : Shared) : Prop := ∃ H', Inv X pins σ H' s' ∧ Q b H'
noncomputable def AP (X : Cx) (pins : List (Addr × Obj)) (σ : St) (Q : List V → Hp → Prop) (us : List Value) (s' : Shared) : Prop := ∃ vs H', Inv X pins σ H' s' ∧ B8 vs us ∧ Q vs H'
noncomputable def SP (X : Cx) (pins : List (Addr × Obj)) (D : Ends) (f : Flow) (s' : Shared) : Prop :=
 match f with
 | .next => ∃ σ' H', Inv X pins σ' H' s' ∧ D.nx σ' H'
 | .brk => ∃ σ' H', Inv X pins σ' H' s' ∧ D.bk σ' H'
 | .cont => ∃ σ' H', Inv X pins σ' H' s' ∧ D.ct σ' H'
 | .ret u => ∃ v σ' H', Inv X pins σ' H' s' ∧ L0 v u ∧ D.rt v H'
noncomputable def PE (X : Cx) (e : Expr) (t : TE) : Prop :=
 ∀ (pins : List (Addr × Obj)) (s : Shared) (σ : St) (H : Hp) (Q : VK), Inv X pins σ H s → t σ H Q → wpAny (model X.prog X.w) X.A (eval e X.env) (EP X pins σ Q) X.xe s
noncomputable def PT (X : Cx) (e : Expr) (t : TT) : Prop :=
 ∀ (pins : List (Addr × Obj)) (s : Shared) (σ : St) (H : Hp) (Q : Bool → Hp → Prop), Inv X pins σ H s → t σ H Q → wpAny (model X.prog X.w) X.A (isTrue e X.env (eval e X.env)) (TP X pins σ Q) X.xe s
noncomputable def PW (X : Cx) (e : Expr) (t : TT) : Prop :=
 ∀ (whole : Sem Value) (pins : List (Addr × Obj)) (s : Shared) (σ : St) (H : Hp) (Q : Bool → Hp → Prop), Inv X pins σ H s → t σ H Q → wpAny (model X.prog X.w) X.A (isTrue e X.env whole) (TP X pins σ Q) X.xe s
theorem PW.pt {X : Cx} {e : Expr} {t : TT} (h : PW X e t) : PT X e t := h _
noncomputable def PA (X : Cx) (es : List Expr) (t : TA) : Prop :=
 ∀ (pos : Pos) (pins : List (Addr × Obj)) (s : Shared) (σ : St) (H : Hp) (Q : List V → Hp → Prop), Inv X pins σ H s → t σ H Q → wpAny (model X.prog X.w) X.A (spliced (backTo pos (starEach es X.env))) (AP X pins σ Q) X.xe s
noncomputable def PS (X : Cx) (st : Stmt) (t : TS) : Prop :=
 ∀ (pins : List (Addr × Obj)) (s : Shared) (σ : St) (H : Hp) (D : Ends), Inv X pins σ H s → t D σ H → wpAny (model X.prog X.w) X.A (exec st X.env) (SP X pins D) X.xe s
noncomputable def PSs (X : Cx) (st : List Stmt) (t : TS) : Prop :=
 ∀ (pins : List (Addr × Obj)) (s : Shared) (σ : St) (H : Hp) (D : Ends), Inv X pins σ H s → t D σ H → wpAny (model X.prog X.w) X.A (execs st X.env) (SP X pins D) X.xe s
theorem thn {α : Type} {t : Sem α} {Q Q' : α → Shared → Prop} {M : Model} {A : Around} {E : Value → Shared → Prop} {s : Shared} (h : wpAny M A t Q E s) (hQ : ∀ a s, Q a s → Q' a s) : wpAny M A t Q' E s := wpAny_mono h hQ fun _ _ x => x
end L2
namespace L2
open PySem PySem.Spec PyProof.Rows
section
variable {X : Cx}
theorem bin {a b : Expr} {ta tb : TE} (ha : PE X a ta) (hb : PE X b tb) {pins : List (Addr × Obj)} {s : Shared} {σ : St} {H : Hp} {R : V → V → Hp → Prop} (I : Inv X pins σ H s) (h : ta σ H fun x H1 => tb σ H1 fun y H2 => R x y H2)
  {α : Type} {Q : α → Shared → Prop} {f : Value → Value → Sem α}
  (hf : ∀ v u s2 x y H2, Inv X pins σ H2 s2 → L0 x v → L0 y u → R x y H2 → wpAny (model X.prog X.w) X.A (f v u) Q X.xe s2) :
  wpAny (model X.prog X.w) X.A (eval a X.env) (fun v s₁ => wpAny (model X.prog X.w) X.A (eval b X.env) (fun u s₂ => wpAny (model X.prog X.w) X.A (f v u) Q X.xe s₂) X.xe s₁) X.xe s := by
 refine thn (ha pins s σ H _ I h) fun v s1 ⟨x, H1, I1, r1, q1⟩ => ?_
 refine thn (hb pins s1 σ H1 _ I1 q1) fun u s2 ⟨y, H2, I2, r2, q2⟩ => ?_
 exact hf v u s2 x y H2 I2 r1 r2 q2
noncomputable def bC4 (i : Nat) : TE := fun σ H Q => ∃ v, σ[i]? = some (some v) ∧ Q v H
noncomputable def tC (v : V) : TE := fun _ H Q => Q v H
theorem p5 {i : Nat} {x : Str} {pos : Pos} (hN : X.N[i]? = some x) (hv : Vis X.env.scope x) (hd : (x == ("__debug__" : Str)) = false := by decide) (hcd : (x == ("__classdict__" : Str)) = false := by decide) : PE X (.Name x pos) (bC4 i) := by
 intro pins s σ H Q I h
 obtain ⟨v, e, h⟩ := h
 obtain ⟨m, hn, hl⟩ := I.loc
 obtain ⟨u, r, l⟩ := hl i x v hN e hv
 have fin : EP X pins σ Q u s := ⟨v, H, I, r, h⟩
 rcases l with ⟨hk, hm⟩ | ⟨hk, c, hc, hcell⟩
 ·exact wpAny_Name (wpAny_loadName_local I.ok.kind hk hn hm fin) hd
 ·rcases hk with hk | hk
  ·exact wpAny_Name (wpAny_loadName_cell I.ok.kind hk hc hcell fin) hd
  ·exact wpAny_Name (wpAny_loadName_free I.ok.kind hk hc hcell fin hcd) hd
theorem bs8 {i j pos} : PE X (.Constant (.int i) j pos) (tC (.int i)) := fun _ _ _ H _ I h => wpAny_Constant_int ⟨.int i, H, I.tok _, ⟨_, rfl⟩, h⟩
theorem bE3 {b j pos} : PE X (.Constant (.bool b) j pos) (tC (.bl b)) := fun _ _ _ H _ I h => Constant_bool ⟨.bl b, H, I, rfl, h⟩
theorem bs6 {j pos} : PE X (.Constant .none j pos) (tC .non) := fun _ _ _ H _ I h => Constant_none ⟨.non, H, I, rfl, h⟩
theorem bs0 {x j pos} : PE X (.Constant (.str x) j pos) (tC (.str x)) := fun _ _ _ H _ I h => Calls.Constant_str ⟨.str x, H, I.tok _, ⟨_, rfl⟩, h⟩
noncomputable def Gl (X : Cx) (x : Str) : Prop := X.env.kindOf x = some .globalImplicit
theorem ar5 {E : Value → Shared → Prop} {pins : List (Addr × Obj)} {s : Shared} {σ : St} {H : Hp} {x : Str} {u : Value} {pos : Pos} {Q : Value → Shared → Prop} (I : Inv X pins σ H s) (hg : Gl X x) (hm : X.mg x = some u) (h : Q u s)
  (hd : (x == ("__debug__" : Str)) = false := by decide) : wpAny (model X.prog X.w) X.A (eval (.Name x pos) X.env) Q E s :=
 Calls.Name_function_global I.ok.kind hg (Calls.loadGlobal_global (by rw [I.ok.glob]; exact I.mod.glob.keeps I.bk) hm h) hd
theorem i9 {E : Value → Shared → Prop} {pins : List (Addr × Obj)} {s : Shared} {σ : St} {H : Hp} {x : Str} {u : Value} {pos : Pos} {Q : Value → Shared → Prop} (I : Inv X pins σ H s) (hg : Gl X x) (hm : X.mg x = none) (hv : bootBuiltins x = some u) (h : Q u s)
  (hn : x ≠ "__name__" := by decide) (hd : (x == ("__debug__" : Str)) = false := by decide) : wpAny (model X.prog X.w) X.A (eval (.Name x pos) X.env) Q E s := by
 obtain ⟨mb, h1, h2⟩ := I.mod.blt
 exact Calls.Name_function_global I.ok.kind hg (Calls.loadGlobal_builtin (by rw [I.ok.glob]; exact I.mod.glob.keeps I.bk) hm (by rw [I.ok.blt]; exact h1.keeps I.bk) ((h2 x hn).trans hv) h) hd
theorem be0 {x : Str} {v : V} {u : Value} {pos : Pos} (hg : Gl X x) (hm : X.mg x = some u) (r : L0 v u) (hd : (x == ("__debug__" : Str)) = false := by decide) : PE X (.Name x pos) (tC v) :=
 fun _ _ _ H _ I h => ar5 I hg hm ⟨v, H, I, r, h⟩ hd
theorem be3 {x : Str} {v : V} {u : Value} {pos : Pos} (hg : Gl X x) (hm : X.mg x = none) (hv : bootBuiltins x = some u) (r : L0 v u) (hn : x ≠ "__name__" := by decide) (hd : (x == ("__debug__" : Str)) = false := by decide) : PE X (.Name x pos) (tC v) :=
 fun _ _ _ H _ I h => i9 I hg hm hv ⟨v, H, I, r, h⟩ hn hd
variable {a b : Expr} {ta tb : TE} {pos : Pos}
variable {tA tB' : TT} {Q2 : List Expr}
noncomputable def bK4 (t u : TT) : TT := fun σ H Q => t σ H fun c H1 => if c = true then u σ H1 Q else Q false H1
noncomputable def tOr (t u : TT) : TT := fun σ H Q => t σ H fun c H1 => if c = true then Q true H1 else u σ H1 Q
noncomputable def bK0 (t : TT) : TT := fun σ H Q => t σ H fun c H1 => Q (!c) H1
theorem bc7 (ha : PT X a tA) : PW X (.BoolOp .And [a] pos) tA := by
 intro wh pins s σ H Q I h
 refine isTrue_and (thn (ha pins s σ H Q I h) fun c s1 e => ?_)
 cases c with
 | true => exact isTrue_and_nil e
 | false => exact e
theorem bq9 (ha : PT X a tA) : PW X (.BoolOp .Or [a] pos) tA := by
 intro wh pins s σ H Q I h
 refine isTrue_or (thn (ha pins s σ H Q I h) fun c s1 e => ?_)
 cases c with
 | false => exact isTrue_or_nil e
 | true => exact e
theorem aR8 (ha : PT X a tA) (hb : PW X (.BoolOp .And (b :: Q2) pos) tB') : PW X (.BoolOp .And (a :: b :: Q2) pos) (bK4 tA tB') := by
 intro wh pins s σ H Q I h
 refine isTrue_and (thn (ha pins s σ H _ I h) fun c s1 ⟨H1, I1, q1⟩ => ?_)
 cases c with
 | true => exact hb wh pins s1 σ H1 Q I1 q1
 | false => exact ⟨H1, I1, q1⟩
theorem bk9 (ha : PT X a tA) (hb : PW X (.BoolOp .Or (b :: Q2) pos) tB') : PW X (.BoolOp .Or (a :: b :: Q2) pos) (tOr tA tB') := by
 intro wh pins s σ H Q I h
 refine isTrue_or (thn (ha pins s σ H _ I h) fun c s1 ⟨H1, I1, q1⟩ => ?_)
 cases c with
 | true => exact ⟨H1, I1, q1⟩
 | false => exact hb wh pins s1 σ H1 Q I1 q1
theorem br0 (ha : PT X a tA) : PT X (.UnaryOp .Not a pos) (bK0 tA) := by
 intro pins s σ H Q I h
 exact isTrue_not (ha pins s σ H (fun c H1 => Q (!c) H1) I h)
noncomputable def bD2 (ta tb : TE) : TE := fun σ H Q => ta σ H fun x H1 => ∃ c, x = .bl c ∧ if c = true then tb σ H1 Q else Q (.bl false) H1
noncomputable def bJ9 (ta tb : TE) : TE := fun σ H Q => ta σ H fun x H1 => ∃ c, x = .bl c ∧ if c = true then Q (.bl true) H1 else tb σ H1 Q
noncomputable def bC6 (ta : TE) : TE := fun σ H Q => ta σ H fun x H1 => ∃ c, x = .bl c ∧ Q (.bl (!c)) H1
theorem bs4 {op} {t : TE} (h : PE X a t) : PE X (.BoolOp op [a] pos) t := fun pins s σ H Q I hw => BoolOp_one (h pins s σ H Q I hw)
theorem aS8 (ha : PE X a ta) (hb : PE X (.BoolOp .And (b :: Q2) pos) tb) : PE X (.BoolOp .And (a :: b :: Q2) pos) (bD2 ta tb) := by
 intro pins s σ H Q I h
 refine BoolOp_and (thn (ha pins s σ H _ I h) fun v s1 ⟨x, H1, I1, r1, q1⟩ => ?_)
 obtain ⟨c, rfl, q1⟩ := q1
 cases r1
 refine wpAny_truthy_bool ?_
 cases c with
 | true => exact hb pins s1 σ H1 Q I1 q1
 | false => exact ⟨.bl false, H1, I1, rfl, q1⟩
theorem bl2 (ha : PE X a ta) (hb : PE X (.BoolOp .Or (b :: Q2) pos) tb) : PE X (.BoolOp .Or (a :: b :: Q2) pos) (bJ9 ta tb) := by
 intro pins s σ H Q I h
 refine BoolOp_or (thn (ha pins s σ H _ I h) fun v s1 ⟨x, H1, I1, r1, q1⟩ => ?_)
 obtain ⟨c, rfl, q1⟩ := q1
 cases r1
 refine wpAny_truthy_bool ?_
 cases c with
 | false => exact hb pins s1 σ H1 Q I1 q1
 | true => exact ⟨.bl true, H1, I1, rfl, q1⟩
theorem bs5 (ha : PE X a ta) : PE X (.UnaryOp .Not a pos) (bC6 ta) := by
 intro pins s σ H Q I h
 refine UnaryOp_ (thn (ha pins s σ H _ I h) fun v s1 ⟨x, H1, I1, r1, q1⟩ => ?_)
 obtain ⟨c, rfl, q1⟩ := q1
 cases r1
 exact not_of (wpAny_truthy_bool ⟨.bl (!c), H1, I1, rfl, q1⟩)
noncomputable def tIf (t : TT) (ta tb : TE) : TE := fun σ H Q => t σ H fun c H1 => if c = true then ta σ H1 Q else tb σ H1 Q
theorem av2 {c : Expr} (hc : PT X c tA) (ha : PE X a ta) (hb : PE X b tb) : PE X (.IfExp c a b pos) (tIf tA ta tb) := by
 intro pins s σ H Q I h
 refine wpAny_IfExp (thn (hc pins s σ H _ I h) fun d s1 ⟨H1, I1, q1⟩ => ?_)
 cases d with
 | true => exact ha pins s1 σ H1 Q I1 q1
 | false => exact hb pins s1 σ H1 Q I1 q1
end
end L2
namespace L2
open PySem PySem.Spec PyProof.Rows
noncomputable def SqL (K : PySem.W.Frag) (H : Hp) (a : Addr) (xs : List V) : Prop :=
 Rd H a (.lst xs) ∨
  ∃ (o : Obj) (its : Array Value) (n : Nat), K.lookup a = some o ∧ o.cls = .type "list" ∧ o.dict = none ∧ o.data = .seq its n ∧ its.size ≤ sizeLine ∧ B8 xs its.toList
noncomputable def SqT (K : PySem.W.Frag) (H : Hp) (a : Addr) (xs : List V) : Prop :=
 Rd H a (.tup xs) ∨
  ∃ (o : Obj) (its : Array Value) (n : Nat), K.lookup a = some o ∧ o.cls = .type "tuple" ∧ o.data = .seq its n ∧ its.size ≤ sizeLine ∧ B8 xs its.toList
noncomputable def bL5 : Value → Option V
 | .none => some .non
 | .bool b => some (.bl b)
 | .int i _ => some (.int i)
 | .str x _ => some (.str x)
 | .bytes b _ => some (.byt b)
 | .float b _ => some (.flt b)
 | .ref a => some (.ref a)
 | .type n => some (.ty n)
 | _ => none
theorem L0.abs {x : V} {u : Value} (r : L0 x u) : bL5 u = some x := by
 cases x with
 | non => cases r; rfl
 | bl _ => cases r; rfl
 | int _ => obtain ⟨t, rfl⟩ := r; rfl
 | str _ => obtain ⟨t, rfl⟩ := r; rfl
 | byt _ => obtain ⟨t, rfl⟩ := r; rfl
 | flt _ => obtain ⟨t, rfl⟩ := r; rfl
 | ref _ => cases r; rfl
 | ty _ => cases r; rfl
theorem L0.inj {x y : V} {u : Value} (r : L0 x u) (q : L0 y u) : x = y := Option.some.inj (r.abs.symm.trans q.abs)
theorem B8.inj : ∀ {xs ys : List V} {us : List Value}, B8 xs us → B8 ys us → xs = ys
 | _, _, _, .nil, .nil => rfl
 | _, _, _, .cons r t, .cons r' t' => by rw [r.inj r', B8.inj t t']
section
variable {X : Cx} {pins : List (Addr × Obj)} {σ : St} {H : Hp} {s : Shared} {a : Addr} {xs ys : List V}
theorem SqL.of {K : PySem.W.Frag} (h : H a = some (.lst xs)) : SqL K H a xs := .inl (.inl h)
theorem SqT.of {K : PySem.W.Frag} (h : H a = some (.tup xs)) : SqT K H a xs := .inl (.inl h)
theorem Inv.list (I : Inv X pins σ H s) (h : SqL X.K H a xs) : ∃ its : List Value, B8 xs its ∧ PlainL s.heap a its.toArray ∧ xs.length ≤ sizeLine := by
 rcases h with h | ⟨o, its, n, hk, hc, hd, hs, hz, r⟩
 ·obtain ⟨z, its, n, r, e⟩ := h.ok I.hok
  exact ⟨its, r, ⟨_, n, e, rfl, rfl, rfl⟩, z⟩
 ·refine ⟨its.toList, r, ⟨o, n, I.kIn a o hk, hc, hd, by simpa using hs⟩, ?_⟩
  have e := r.length
  simp only [Array.length_toList] at e
  omega
theorem Inv.tuple (I : Inv X pins σ H s) (h : SqT X.K H a xs) : ∃ its : List Value, B8 xs its ∧ IsTup s.heap a its.toArray ∧ xs.length ≤ sizeLine := by
 rcases h with h | ⟨o, its, n, hk, hc, hs, hz, r⟩
 ·obtain ⟨z, its, r, p⟩ := h.ok I.hok
  exact ⟨its, r, p, z⟩
 ·refine ⟨its.toList, r, ⟨o, I.kIn a o hk, hc, n, by simpa using hs⟩, ?_⟩
  have e := r.length
  simp only [Array.length_toList] at e
  omega
theorem Inv.list_inj (I : Inv X pins σ H s) (h : SqL X.K H a xs) (h' : SqL X.K H a ys) : xs = ys := by
 obtain ⟨its, r, ⟨o, n, e, _, _, d⟩, _⟩ := I.list h
 obtain ⟨its', r', ⟨o', n', e', _, _, d'⟩, _⟩ := I.list h'
 rw [e] at e'; cases e'
 rw [d] at d'
 injection d' with d1 _
 have : its = its' := by simpa using congrArg Array.toList d1
 subst this
 exact r.inj r'
theorem Inv.tuple_inj (I : Inv X pins σ H s) (h : SqT X.K H a xs) (h' : SqT X.K H a ys) : xs = ys := by
 obtain ⟨its, r, ⟨o, e, _, n, d⟩, _⟩ := I.tuple h
 obtain ⟨its', r', ⟨o', e', _, n', d'⟩, _⟩ := I.tuple h'
 rw [e] at e'; cases e'
 rw [d] at d'
 injection d' with d1 _
 have : its = its' := by simpa using congrArg Array.toList d1
 subst this
 exact r.inj r'
end
noncomputable abbrev Cx.wish (X : Cx) (E : Value → Shared → Prop) : Cx := { X with xe := E }
noncomputable abbrev Cx.nox (X : Cx) : Cx := X.wish fun _ _ => False
theorem Cx.Ok.wish {X : Cx} (ok : X.Ok) (E : Value → Shared → Prop) : (X.wish E).Ok :=
 ⟨ok.mod, ok.kind, ok.glob, ok.blt, ok.above, ok.inj, ok.has, ok.cab, ok.hd, ok.frames, ok.stk, ok.exf, ok.bs, ok.bsz, ok.noex, ok.exfs, ok.funs, ok.frf⟩
theorem Cx.Ok.unwish {X : Cx} {E : Value → Shared → Prop} (ok : (X.wish E).Ok) : X.Ok :=
 ⟨ok.mod, ok.kind, ok.glob, ok.blt, ok.above, ok.inj, ok.has, ok.cab, ok.hd, ok.frames, ok.stk, ok.exf, ok.bs, ok.bsz, ok.noex, ok.exfs, ok.funs, ok.frf⟩
section
variable {X : Cx} {pins : List (Addr × Obj)} {σ : St} {H : Hp} {s : Shared} {E : Value → Shared → Prop}
theorem Inv.wish (I : Inv X pins σ H s) (E : Value → Shared → Prop) : Inv (X.wish E) pins σ H s := ⟨I.ok.wish E, I.os, I.bare, I.base, I.loc, I.cell, I.free, I.freeC, I.pin, I.hok, I.len⟩
theorem Inv.unwish (I : Inv (X.wish E) pins σ H s) : Inv X pins σ H s := ⟨I.ok.unwish, I.os, I.bare, I.base, I.loc, I.cell, I.free, I.freeC, I.pin, I.hok, I.len⟩
theorem SP.unwish {D : Ends} {f : Flow} {s' : Shared} (h : SP (X.wish E) pins D f s') : SP X pins D f s' := by
 cases f with
 | next => obtain ⟨σ', H', I, q⟩ := h; exact ⟨σ', H', I.unwish, q⟩
 | brk => obtain ⟨σ', H', I, q⟩ := h; exact ⟨σ', H', I.unwish, q⟩
 | cont => obtain ⟨σ', H', I, q⟩ := h; exact ⟨σ', H', I.unwish, q⟩
 | ret u => obtain ⟨v, σ', H', I, r, q⟩ := h; exact ⟨v, σ', H', I.unwish, r, q⟩
theorem PSs.nox {st : List Stmt} {t : TS} (h : PSs X.nox st t) : PSs X st t := fun pins s σ H D I hw =>
 wpAny_mono (h pins s σ H D (I.wish _) hw) (fun _ _ q => q.unwish) fun _ _ z => False.elim z
end
section
variable {X : Cx} {st : Stmt} {Q2 : List Stmt} {t u : TS} {e : Expr} {te : TE} {pos : Pos}
noncomputable def bk4 : TS := fun D σ H => D.nx σ H
noncomputable def bJ6 (t u : TS) : TS := fun D σ H => t { D with nx := u D } σ H
theorem bd2 : PSs X [] bk4 := fun _ _ σ H _ I h => wpAny_execs_nil ⟨σ, H, I, h⟩
theorem v6 (h1 : PS X st t) (h2 : PSs X Q2 u) : PSs X (st :: Q2) (bJ6 t u) := by
 intro pins s σ H D I h
 refine wpAny_execs_cons (thn (h1 pins s σ H { D with nx := u D } I h) fun f s1 q => ?_)
 cases f with
 | next =>
  obtain ⟨σ', H', I', q⟩ := q
  exact h2 pins s1 σ' H' D I' q
 | ret v => exact q
 | brk => exact q
 | cont => exact q
theorem bd1 (h1 : PS X st t) : PSs X [st] t := by
 intro pins s σ H D I h
 refine wpAny_execs_cons (thn (h1 pins s σ H D I h) fun f s1 q => ?_)
 cases f with
 | next => exact wpAny_execs_nil q
 | ret v => exact q
 | brk => exact q
 | cont => exact q
noncomputable def bq2 : TS := fun D σ H => D.bk σ H
noncomputable def bC9 : TS := fun D σ H => D.ct σ H
theorem bd3 : PS X (.Pass pos) bk4 := fun _ _ σ H _ I h => wpAny_Pass ⟨σ, H, I, h⟩
theorem aS2 : PS X (.Break pos) bq2 := fun _ _ σ H _ I h => wpAny_Break ⟨σ, H, I, h⟩
theorem av0 : PS X (.Continue pos) bC9 := fun _ _ σ H _ I h => wpAny_Continue ⟨σ, H, I, h⟩
theorem Inv.quiet {pins : List (Addr × Obj)} {σ : St} {H : Hp} {s : Shared} (I : Inv X pins σ H s) : interactive X.env = false := by simp [interactive, I.ok.kind]
noncomputable def bC8 (te : TE) : TS := fun D σ H => te σ H fun _ H1 => D.nx σ H1
theorem aq3 (he : PE X e te) (hs : swapsWith e none pos.line X.env = pure false := by rfl) : PS X (.Expr e pos) (bC8 te) := by
 intro pins s σ H D I h
 exact wpAny_Expr_any (thn (he pins s σ H _ I h) fun v s1 ⟨x, H1, I1, r1, q1⟩ => ⟨σ, H1, I1, q1⟩) I.quiet hs
noncomputable def bJ7 (te : TE) : TS := fun D σ H => te σ H D.rt
theorem br2 (he : PE X e te) : PS X (.Return (some e) pos) (bJ7 te) := by
 intro pins s σ H D I h
 exact wpAny_Return_some (thn (he pins s σ H _ I h) fun v s1 ⟨x, H1, I1, r1, q1⟩ => ⟨x, σ, H1, I1, r1, q1⟩)
noncomputable def bK2 (c : TT) (t u : TS) : TS := fun D σ H => c σ H fun b H1 => if b = true then t D σ H1 else u D σ H1
theorem bl0 {c : Expr} {a b : List Stmt} {tc : TT} (hc : PT X c tc) (ha : PSs X a t) (hb : PSs X b u) : PS X (.If c a b pos) (bK2 tc t u) := by
 intro pins s σ H D I h
 refine wpAny_If (thn (hc pins s σ H _ I h) fun d s1 ⟨H1, I1, q1⟩ => ?_)
 cases d with
 | true => exact ha pins s1 σ H1 D I1 q1
 | false => exact hb pins s1 σ H1 D I1 q1
noncomputable def bq1 : TS := fun _ _ _ => False
theorem Y8 {sts : List Stmt} : PSs X sts bq1 := fun _ _ _ _ _ _ h => h.elim
end
noncomputable abbrev TG := V → St → Hp → (St → Hp → Prop) → Prop
noncomputable abbrev TGs := List V → St → Hp → (St → Hp → Prop) → Prop
noncomputable def PG (X : Cx) (target : Expr) (t : TG) : Prop :=
 ∀ (pins : List (Addr × Obj)) (s : Shared) (σ : St) (H : Hp) (v : V) (u : Value) (Q : St → Hp → Prop), Inv X pins σ H s → L0 v u → t v σ H Q →
  wpAny (model X.prog X.w) X.A (assign target X.env u) (fun _ s' => ∃ σ' H', Inv X pins σ' H' s' ∧ Q σ' H') X.xe s
noncomputable def PGs (X : Cx) (ts : List Expr) (t : TGs) : Prop :=
 ∀ (pins : List (Addr × Obj)) (s : Shared) (σ : St) (H : Hp) (vs : List V) (us : List Value) (Q : St → Hp → Prop), Inv X pins σ H s → B8 vs us → t vs σ H Q →
  wpAny (model X.prog X.w) X.A (assignInOrder ((assignEach ts X.env).map (·.2)) us) (fun _ s' => ∃ σ' H', Inv X pins σ' H' s' ∧ Q σ' H') X.xe s
section
variable {X : Cx} {pos : Pos}
noncomputable def bm2 (i : Nat) : TG := fun v σ H Q => Q (σ.set i (some v)) H
theorem bd9 {i : Nat} {x : Str} (hN : X.N.Nodup) (hi : X.N[i]? = some x) (hx : Loc X.env.scope x) (hf : X.fn x = true ∨ X.env.scope.names.lookup x = some .local := by first | exact .inl rfl | exact .inr rfl | assumption) : PG X (.Name x pos) (bm2 i) := by
 intro pins s σ H v u Q I r h
 exact wpAny_assign_Name (u7 I hN hi hx r (fun s' I' => ⟨_, H, I', h⟩) hf)
noncomputable def bL3 : TGs := fun vs σ H Q => vs = [] ∧ Q σ H
noncomputable def bH8 (t : TG) (u : TGs) : TGs := fun vs σ H Q => ∃ v r, vs = v :: r ∧ t v σ H fun σ' H' => u r σ' H' Q
theorem bd8 : PGs X [] bL3 := by
 intro pins s σ H vs us Q I r h
 obtain ⟨e, h⟩ := h
 subst e
 cases r
 exact assignInOrder_nil ⟨σ, H, I, h⟩
theorem aS6 {e : Expr} {es : List Expr} {t : TG} {u : TGs} (h1 : PG X e t) (h2 : PGs X es u)
  (hs : (assignEach (e :: es) X.env).map (·.2) = assign e X.env :: (assignEach es X.env).map (·.2) := by rfl) : PGs X (e :: es) (bH8 t u) := by
 intro pins s σ H vs us Q I r h
 obtain ⟨v, vr, e1, h⟩ := h
 subst e1
 cases r with
 | cons r rr =>
  rw [hs]
  refine assignInOrder_cons (thn (h1 pins s σ H _ _ _ I r h) fun _ s1 ⟨σ1, H1, I1, q1⟩ => ?_)
  exact h2 pins s1 σ1 H1 _ _ Q I1 rr q1
noncomputable def bL2 (K : PySem.W.Frag) (n : Nat) (t : TGs) : TG := fun v σ H Q => ∃ a xs, v = .ref a ∧ SqT K H a xs ∧ xs.length = n ∧ t xs σ H Q
theorem br8 {es : List Expr} {k : Nat} {t : TGs} {n : Nat} (hc : X.calm = true) (h : PGs X es t)
  (hn : (assignEach es X.env).length = n := by rfl) (hst : (assignEach es X.env).findIdx? (·.1) = none := by rfl) : PG X (.Tuple es k pos) (bL2 X.K n t) := by
 intro pins s σ H v u Q I r hw
 obtain ⟨a, xs, e1, hq, hl, hw⟩ := hw
 subst e1
 cases r
 obtain ⟨its, rv, ht, hz⟩ := I.tuple hq
 refine assign_Tuple_tuple (I.ok.hd hc) ht (by simp [hn, ← hl, rv.length]) hst fun h' hx => ?_
 have I1 : Inv X pins σ H { s with heap := h' } := I.kept (t' := s.toks) fun b o e => hx b o (Nat.ne_of_lt (Heap.lt_size e)) e
 exact h pins _ σ H xs _ Q I1 (by simpa using rv) hw
noncomputable def bD1 (te : TE) (g : TG) : TS := fun D σ H => te σ H fun x H1 => g x σ H1 D.nx
theorem br5 {tg e : Expr} {te : TE} {g : TG} (he : PE X e te) (hg : PG X tg g) (hs : swapsWithSole [tg] e pos.line X.env = pure false := by rfl) (hw : swappedStores [tg] e X.env = pure none := by rfl)
  (h1 : (assignEach [tg] X.env).map (·.2) = [assign tg X.env] := by rfl) : PS X (.Assign [tg] e pos) (bD1 te g) := by
 intro pins s σ H D I h
 refine wpAny_Assign_stores (thn (he pins s σ H _ I h) fun v s1 ⟨x, H1, I1, r1, q1⟩ => ?_) hs hw
 rw [h1]
 exact thn (hg pins s1 σ H1 x v _ I1 r1 q1) fun _ s2 q => q
theorem aS1 {i : Nat} {x : Str} {e : Expr} {te : TE} {pos' : Pos} (hN : X.N.Nodup) (hi : X.N[i]? = some x) (hx : Loc X.env.scope x) (he : PE X e te) (hs : swapsWith e (some (.Name x pos')) pos.line X.env = pure false := by rfl) (hf : X.fn x = true ∨ X.env.scope.names.lookup x = some .local := by first | exact .inl rfl | exact .inr rfl | assumption) :
  PS X (.Assign [.Name x pos'] e pos) (bD1 te (bm2 i)) := by
 intro pins s σ H D I h
 refine wpAny_Assign_Name (thn (he pins s σ H _ I h) fun v s1 ⟨y, H1, I1, r1, q1⟩ => ?_) hs
 exact u7 I1 hN hi hx r1 (fun s2 I2 => ⟨_, H1, I2, q1⟩) hf
noncomputable def bJ8 (i j : Nat) (ta : TA) : TS := fun D σ H => ta σ H fun vs H1 => ∃ v w, vs = [v, w] ∧ D.nx ((σ.set i (some v)).set j (some w)) H1
theorem br3 {i j : Nat} {x y : Str} {a b : Expr} {ta : TA} {px py pt : Pos} {kt k2 pt2} (hc : X.calm = true) (hN : X.N.Nodup) (hi : X.N[i]? = some x) (hj : X.N[j]? = some y) (hij : i ≠ j)
  (hx : X.env.scope.names.lookup x = some .local) (hy : X.env.scope.names.lookup y = some .local) (ha : PA X [a, b] ta)
  (hw : swappedStores [.Tuple [.Name x px, .Name y py] kt pt] (.Tuple [a, b] k2 pt2) X.env = pure (some [x, y]))
  (hs : swapsWithSole [.Tuple [.Name x px, .Name y py] kt pt] (.Tuple [a, b] k2 pt2) pos.line X.env = pure false := by rfl) :
  PS X (.Assign [.Tuple [.Name x px, .Name y py] kt pt] (.Tuple [a, b] k2 pt2) pos) (bJ8 i j ta) := by
 intro pins s σ H D I h
 rw [exec_Assign_arm]
 refine wpAny_bind (wpAny_standAt ?_)
 rw [hs]
 refine wpAny_bind (wpAny_pure ?_)
 rw [if_neg (by decide)]
 refine wpAny_bind (Tuple_ (thn (ha _ pins s σ H _ I h) fun us s1 ⟨vs, H1, I1, r1, q1⟩ => ?_))
 obtain ⟨v, w, e1, q1⟩ := q1
 subst e1
 obtain ⟨u1, u2, rfl, rv, rw'⟩ : ∃ u1 u2, us = [u1, u2] ∧ L0 v u1 ∧ L0 w u2 := by
  cases r1 with
  | cons p q =>
   cases q with
   | cons p' q' =>
    cases q'
    exact ⟨_, _, rfl, p, p'⟩
 refine wpAny_newObj_type ?_ (by show 2 ≤ sizeLine; decide)
 have I2 : Inv X pins σ H1 { s1 with heap := s1.heap.push { cls := .type "tuple", data := .seq [u1, u2].toArray } } := I1.kept (t' := s1.toks) fun b o e => Heap.get?_push_of_some _ e
 rw [hw]
 refine wpAny_bind (wpAny_pure ?_)
 show wpAny (model X.prog X.w) X.A (do rule "assign.swapped-stores"; let items ← unpackItems (.ref s1.heap.objs.size) 2 none; assignInOrder [fun v => bindName X.env y v, fun v => bindName X.env x v] items.reverse; pure Flow.next) _ _ _
 refine wpAny_bind (wpAny_rule (wpAny_bind (unpackItems_tuple (items := #[u1, u2]) (I.ok.hd hc) (IsTup.new s1.heap _) fun h' hx' => ?_)))
 have I3 := I2.kept (h' := h') (t' := s1.toks) fun b o e => hx' b o (Nat.ne_of_lt (Heap.lt_size e)) e
 show wpAny _ _ (assignInOrder [fun v => bindName X.env y v, fun v => bindName X.env x v] [u2, u1] >>= fun _ => pure Flow.next) _ _ _
 refine wpAny_bind (assignInOrder_cons (wpAny_bindName (u7 I3 hN hj (.inl hy) rw' (fun s2 I4 => ?_) (.inr hy))))
 refine assignInOrder_cons (wpAny_bindName (u7 I4 hN hi (.inl hx) rv (fun s3 I5 => assignInOrder_nil (wpAny_pure ?_)) (.inr hx)))
 rw [List.set_comm _ _ (Ne.symm hij)] at I5
 exact ⟨_, H1, I5, q1⟩
end
section
variable {X : Cx} {pos : Pos}
noncomputable def bq0 (c : TT) (tb : TS) : TS := fun D σ H => ∃ W : Nat → St → Hp → Prop, (∃ m, W m σ H) ∧ ∀ m σ H, W m σ H →
 c σ H fun b H1 => if b = true then ∃ N : St → Hp → Prop, (∀ σ' H', N σ' H' → ∃ m', m' < m ∧ W m' σ' H') ∧ tb { D with nx := N, ct := N, bk := D.nx } σ H1 else D.nx σ H1
theorem aS0 {c : Expr} {body : List Stmt} {tc : TT} {tb : TS} (hp : PassesOwn (model X.prog X.w) X.A X.env X.xe) (hc : PT X c tc) (hb : PSs X body tb) : PS X (.While c body [] pos) (bq0 tc tb) := by
 intro pins s σ H D I h
 obtain ⟨W, ⟨m0, w0⟩, turn⟩ := h
 refine wpAny_While (codeAny_whileLoop (fun n s' => ∃ σ' H', Inv X pins σ' H' s' ∧ W n σ' H') ?_ m0 ⟨σ, H, I, w0⟩)
 rintro n s1 ⟨σ1, H1, I1, w1⟩
 refine wpAny_passesOwn hp (thn (hc pins s1 σ1 H1 _ I1 (turn n σ1 H1 w1)) fun b s2 ⟨H2, I2, q2⟩ => ?_)
 cases b with
 | true =>
  obtain ⟨N, hN, q2⟩ := q2
  rw [if_pos rfl]
  refine wpAny_passesOwn hp (thn (hb pins s2 σ1 H2 _ I2 q2) fun f s3 q3 => ?_)
  cases f with
  | next =>
   obtain ⟨σ3, H3, I3, n3⟩ := q3
   obtain ⟨m', hm, w3⟩ := hN σ3 H3 n3
   exact ⟨m', hm, σ3, H3, I3, w3⟩
  | cont =>
   obtain ⟨σ3, H3, I3, n3⟩ := q3
   obtain ⟨m', hm, w3⟩ := hN σ3 H3 n3
   exact ⟨m', hm, σ3, H3, I3, w3⟩
  | brk => exact q3
  | ret v => exact q3
 | false =>
  rw [if_neg Bool.false_ne_true]
  exact wpAny_execs_nil ⟨σ1, H2, I2, q2⟩
end
structure It where
 go : Nat → Hp → Prop
 yld : Nat → Hp → V → Hp → Prop
 stop : Nat → Hp → Prop
noncomputable def Y3 (X : Cx) (pins : List (Addr × Obj)) (H : Hp) (b : Addr) : Prop :=
 H b = none ∧ b ≠ X.env.locals ∧ b ∉ X.fs ∧ (b ∈ X.ex ∨ X.s₀.heap.objs.size ≤ b) ∧ (∀ x c, X.env.cells.lookup x = some c → c ≠ b) ∧ ∀ p ∈ X.pn ++ pins, p.1 ≠ b
theorem Inv.fpOk {X : Cx} {pins : List (Addr × Obj)} {σ : St} {H H' : Hp} {s : Shared} {b : Addr} (I : Inv X pins σ H s) (hb : s.heap.objs.size ≤ b) (hn : H' b = none) : Y3 X pins H' b := by
 refine ⟨hn, Nat.ne_of_gt (Nat.lt_of_lt_of_le I.lt hb), I.nofs hb, .inr (Nat.le_trans I.sz hb), fun x c e z => ?_, fun p hp z => ?_⟩
 ·obtain ⟨v, q⟩ := I.cell x c e
  exact absurd (Nat.lt_of_lt_of_le q.lt (by rw [z]; exact hb)) (Nat.lt_irrefl _)
 ·exact absurd (Nat.lt_of_lt_of_le (Heap.lt_size (I.pin p hp).1) (by rw [z]; exact hb)) (Nat.lt_irrefl _)
structure Turn (P : Program) (w : World) (K : PySem.W.Frag) (tg : Expr) (J : It) (fp : List Addr) (it : Addr) (tn : Nat → Heap → Prop) : Prop where
 mem : it ∈ fp
 obj : ∀ i h, tn i h → ∀ b ∈ fp, ∃ o, h.get? b = some o ∧ ∀ v, o.data ≠ .cell v
 keep : ∀ i h h', tn i h → (∀ b ∈ fp, ∀ o, h.get? b = some o → h'.get? b = some o) → tn i h'
 item : ∀ (X : Cx), X.prog = P → X.w = w → X.K = K → X.calm = true → ∀ (i : Nat) (pins : List (Addr × Obj)) (s : Shared) (σ : St) (H : Hp) (E : Value → Shared → Prop), Inv X pins σ H s → (∀ b ∈ fp, Y3 X pins H b) → tn i s.heap → J.go i H →
  wpAny (model P w) X.A (pyNext (.ref it)) (fun r s1 => ∃ u, r = some u ∧
   wpAny (model P w) X.A (letOwnedTupleGo tg (.ref it) u) (fun _ s2 => ∃ x H', Inv X pins σ H' s2 ∧ L0 x u ∧ J.yld i H x H' ∧ tn (i + 1) s2.heap ∧ ∀ b ∈ fp, H' b = none) E s1) E s
 done : ∀ (X : Cx), X.prog = P → X.w = w → X.K = K → X.calm = true → ∀ (i : Nat) (pins : List (Addr × Obj)) (s : Shared) (σ : St) (H : Hp) (E : Value → Shared → Prop), Inv X pins σ H s → (∀ b ∈ fp, Y3 X pins H b) → tn i s.heap → J.stop i H →
  wpAny (model P w) X.A (pyNext (.ref it)) (fun r s1 => r = none ∧ Inv X pins σ H s1) E s
 self : ∀ (A : Around) (i : Nat) (s : Shared) (Q : Value → Shared → Prop) (E : Value → Shared → Prop), tn i s.heap → Q (.ref it) s → wpAny (model P w) A (pyIter (.ref it)) Q E s
noncomputable abbrev TI := St → Hp → (It → Hp → Prop) → Prop
noncomputable def PIE (X : Cx) (pins : List (Addr × Obj)) (σ : St) (tg : Expr) (R : It → Hp → Prop) (itv : Value) (s2 : Shared) : Prop :=
 ∃ (it : Addr) (fp : List Addr) (tn : Nat → Heap → Prop) (J : It) (H' : Hp), itv = .ref it ∧ Inv X pins σ H' s2 ∧ Turn X.prog X.w X.K tg J fp it tn ∧ tn 0 s2.heap ∧ (∀ b ∈ fp, Y3 X pins H' b) ∧ R J H'
noncomputable def PI (X : Cx) (tg iter : Expr) (wi : TI) : Prop :=
 ∀ (pins : List (Addr × Obj)) (s : Shared) (σ : St) (H : Hp) (R : It → Hp → Prop), Inv X pins σ H s → wi σ H R →
  wpAny (model X.prog X.w) X.A (eval iter X.env) (fun v s1 => wpAny (model X.prog X.w) X.A (pyIter v) (PIE X pins σ tg R) X.xe s1) X.xe s
theorem ax1 {M : Model} {A : Around} {E : Value → Shared → Prop} {s : Shared} {tg : Expr} {it : Addr} {u : Value} {o : Obj} {n : String} {vs : Array Value} {Q : Unit → Shared → Prop} (ho : s.heap.get? it = some o) (hc : o.cls = .type n) (hd : o.data = .fields vs)
    (hn : ["enumerate", "zip", "dict_itemiterator", "dict_reverseitemiterator", "odict_iterator", "itertools.zip_longest", "itertools.pairwise"].contains n = false) (hQ : Q () s) : wpAny M A (letOwnedTupleGo tg (.ref it) u) Q E s := by
  unfold letOwnedTupleGo
  cases tg <;> first
    | exact wpAny_pure hQ
    | (cases u <;> first
        | exact wpAny_pure hQ
        | (refine wpAny_bind (wpAny_load ho ?_)
           rw [hc, hd]
           show wpAny M A (if (["enumerate", "zip", "dict_itemiterator", "dict_reverseitemiterator", "odict_iterator", "itertools.zip_longest", "itertools.pairwise"].contains n && vs[0]? == some (rawInt _)) = true then _ else _) Q E s
           rw [if_neg (by intro h; rw [hn, Bool.false_and] at h; cases h)]
           exact wpAny_pure hQ))
noncomputable def Itl (K : PySem.W.Frag) (a : Addr) : It :=
 ⟨fun i H => ∃ xs x, SqL K H a xs ∧ xs[i]? = some x, fun i H x H' => H' = H ∧ ∀ xs, SqL K H a xs → xs[i]? = some x, fun i H => ∃ xs, SqL K H a xs ∧ xs.length ≤ i⟩
noncomputable def Itt (K : PySem.W.Frag) (a : Addr) : It :=
 ⟨fun i H => ∃ xs x, SqT K H a xs ∧ xs[i]? = some x, fun i H x H' => H' = H ∧ ∀ xs, SqT K H a xs → xs[i]? = some x, fun i H => ∃ xs, SqT K H a xs ∧ xs.length ≤ i⟩
noncomputable def Itr (lo : Int) (n : Nat) : It := ⟨fun i _ => i < n, fun i H x H' => H' = H ∧ x = .int (lo + i), fun i _ => n ≤ i⟩
theorem aJ2 {P : Program} {w : World} {K : PySem.W.Frag} {tg : Expr} (a it : Addr) : Turn P w K tg (Itl K a) [it] it (fun i h => h.IsListIter it a i) where
 mem := by simp
 obj := fun i h st b hb => by
  have e : b = it := by simpa using hb
  subst e
  obtain ⟨o, e, c, d⟩ := st
  exact ⟨o, e, fun v z => by rw [d] at z; cases z⟩
 keep := fun i h h' st k => st.at fun o e => k it (by simp) o e
 item := by
  intro X hP hw hK hc i pins s σ H E I hf st hg
  subst hP hw hK
  obtain ⟨xs, x, hq, hx⟩ := hg
  obtain ⟨its, rv, p, hz⟩ := I.list hq
  obtain ⟨u, hu, ru⟩ := rv.get hx
  obtain ⟨f0, f1, f2, f3, f4, f5⟩ := hf it (by simp)
  refine wpAny_pyNext_list_item st p.isList (x := u) (by simpa using hu) fun h' st' sb => ?_
  have I1 : Inv X pins σ H { s with heap := h' } := I.turned (t' := s.toks) (fun b o hb e => (sb.2 b hb).trans e) f0 f1 f3 f4 f5
  obtain ⟨o, e, c, d⟩ := id st'
  exact ⟨u, rfl, ax1 (s := { s with heap := h' }) e c d (by decide) ⟨x, H, I1, ru, ⟨rfl, fun ys hy => by rw [I.list_inj hy hq]; exact hx⟩, st', fun b hb => (hf b hb).1⟩⟩
 done := by
  intro X hP hw hK hc i pins s σ H E I hf st hg
  subst hP hw hK
  obtain ⟨xs, hq, hx⟩ := hg
  obtain ⟨its, rv, p, hz⟩ := I.list hq
  obtain ⟨f0, f1, f2, f3, f4, f5⟩ := hf it (by simp)
  have hl := rv.length
  exact wpAny_pyNext_list_end (I.ok.hd hc) st p.isList (by simp; omega) fun h' eb => ⟨rfl, I.turned (t' := s.toks) (fun b o hb e => eb b o hb e) f0 f1 f3 f4 f5⟩
 self := fun _ _ _ _ _ st h => wpAny_pyIter_listiter st h
theorem az6 {P : Program} {w : World} {K : PySem.W.Frag} {tg : Expr} (a it : Addr) : Turn P w K tg (Itt K a) [it] it (fun i h => h.IsTupleIter it a i) where
 mem := by simp
 obj := fun i h st b hb => by
  have e : b = it := by simpa using hb
  subst e
  obtain ⟨o, e, c, d⟩ := st
  exact ⟨o, e, fun v z => by rw [d] at z; cases z⟩
 keep := fun i h h' st k => st.at fun o e => k it (by simp) o e
 item := by
  intro X hP hw hK hc i pins s σ H E I hf st hg
  subst hP hw hK
  obtain ⟨xs, x, hq, hx⟩ := hg
  obtain ⟨its, rv, p, hz⟩ := I.tuple hq
  obtain ⟨u, hu, ru⟩ := rv.get hx
  obtain ⟨f0, f1, f2, f3, f4, f5⟩ := hf it (by simp)
  refine wpAny_pyNext_tuple_item st (show s.heap.IsTuple a its.toArray from p) (x := u) (by simpa using hu) fun h' st' sb => ?_
  have I1 : Inv X pins σ H { s with heap := h' } := I.turned (t' := s.toks) (fun b o hb e => (sb.2 b hb).trans e) f0 f1 f3 f4 f5
  obtain ⟨o, e, c, d⟩ := id st'
  exact ⟨u, rfl, ax1 (s := { s with heap := h' }) e c d (by decide) ⟨x, H, I1, ru, ⟨rfl, fun ys hy => by rw [I.tuple_inj hy hq]; exact hx⟩, st', fun b hb => (hf b hb).1⟩⟩
 done := by
  intro X hP hw hK hc i pins s σ H E I hf st hg
  subst hP hw hK
  obtain ⟨xs, hq, hx⟩ := hg
  obtain ⟨its, rv, p, hz⟩ := I.tuple hq
  obtain ⟨f0, f1, f2, f3, f4, f5⟩ := hf it (by simp)
  have hl := rv.length
  exact wpAny_pyNext_tuple_end (I.ok.hd hc) st (show s.heap.IsTuple a its.toArray from p) (by simp; omega) fun h' eb => ⟨rfl, I.turned (t' := s.toks) (fun b o hb e => eb b o hb e) f0 f1 f3 f4 f5⟩
 self := fun _ _ _ _ _ st h => wpAny_pyIter_tupleiter st h
theorem az7 {P : Program} {w : World} {K : PySem.W.Frag} {tg : Expr} (it : Addr) (lo : Int) (n : Nat) : Turn P w K tg (Itr lo n) [it] it (fun i h => IsRangeIter h it (lo + (i : Nat) * 1) ((n : Int) - (i : Nat)) 1) where
 mem := by simp
 obj := fun i h st b hb => by
  have e : b = it := by simpa using hb
  subst e
  exact ⟨_, st, fun v z => by
   have z' : Data.fields _ = Data.cell v := z
   cases z'⟩
 keep := fun i h h' st k => k it (by simp) _ st
 item := by
  intro X hP hw hK hc i pins s σ H E I hf st hg
  subst hP hw hK
  obtain ⟨f0, f1, f2, f3, f4, f5⟩ := hf it (by simp)
  have W := Walks.range (prog := X.prog) (w := X.w) (I.ok.hd hc) it lo 1 n
  refine W.item i s _ _ hg st fun v h' tk hv st' kk => ?_
  obtain ⟨t, rfl⟩ := hv
  have I1 : Inv X pins σ H { s with heap := h', toks := tk } := I.turned (fun b o hb e => kk b o (by simpa using hb) e) f0 f1 f3 f4 f5
  refine ⟨_, rfl, ax1 (s := { s with heap := h', toks := tk }) (n := "range_iterator") st' rfl rfl (by decide) ⟨.int (lo + i), H, I1, ⟨t, ?_⟩, ⟨rfl, rfl⟩, st', fun b hb => (hf b hb).1⟩⟩
  rw [Int.mul_one]
 done := by
  intro X hP hw hK hc i pins s σ H E I hf st hg
  subst hP hw hK
  obtain ⟨f0, f1, f2, f3, f4, f5⟩ := hf it (by simp)
  exact wpAny_pyNext_range_end (I.ok.hd hc) st (by have : n ≤ i := hg; omega) fun h' eb => ⟨rfl, I.turned (t' := s.toks) (fun b o hb e => eb b o hb e) f0 f1 f3 f4 f5⟩
 self := fun _ _ _ _ _ st h => wpAny_pyIter_rangeiter st h
end L2
namespace L2
open PySem PySem.Spec PyProof.Rows
section
variable {X : Cx} {tg : Expr}
noncomputable def bH6 (K : PySem.W.Frag) (tl : TE) : TI := fun σ H R => tl σ H fun x H1 => ∃ a, x = .ref a ∧ (∃ xs, SqL K H1 a xs) ∧ R (Itl K a) H1
noncomputable def bL1 (K : PySem.W.Frag) (tl : TE) : TI := fun σ H R => tl σ H fun x H1 => ∃ a, x = .ref a ∧ (∃ xs, SqT K H1 a xs) ∧ R (Itt K a) H1
theorem bd7 {l : Expr} {tl : TE} (hl : PE X l tl) : PI X tg l (bH6 X.K tl) := by
 intro pins s σ H R I h
 refine thn (hl pins s σ H _ I h) fun v s1 ⟨x, H1, I1, r1, q1⟩ => ?_
 obtain ⟨a, e, ⟨xs, hq⟩, q⟩ := q1
 subst e
 cases r1
 obtain ⟨its, rv, p, hz⟩ := I1.list hq
 refine wpAny_pyIter_list p.isList ?_
 refine ⟨s1.heap.objs.size, [s1.heap.objs.size], _, _, H1, rfl, I1.kept (t' := s1.toks) fun b o e => Heap.get?_push_of_some _ e, aJ2 a _, ⟨_, Heap.get?_push_size _ rfl, rfl, rfl⟩, fun b hb => ?_, q⟩
 have e : b = s1.heap.objs.size := by simpa using hb
 subst e
 exact I1.fpOk (Nat.le_refl _) (I1.hok.fresh (Nat.le_refl _))
theorem br7 {l : Expr} {tl : TE} (hl : PE X l tl) : PI X tg l (bL1 X.K tl) := by
 intro pins s σ H R I h
 refine thn (hl pins s σ H _ I h) fun v s1 ⟨x, H1, I1, r1, q1⟩ => ?_
 obtain ⟨a, e, ⟨xs, hq⟩, q⟩ := q1
 subst e
 cases r1
 obtain ⟨its, rv, p, hz⟩ := I1.tuple hq
 refine wpAny_pyIter_tuple (show s1.heap.IsTuple a its.toArray from p) ?_
 refine ⟨s1.heap.objs.size, [s1.heap.objs.size], _, _, H1, rfl, I1.kept (t' := s1.toks) fun b o e => Heap.get?_push_of_some _ e, az6 a _, ⟨_, Heap.get?_push_size _ rfl, rfl, rfl⟩, fun b hb => ?_, q⟩
 have e : b = s1.heap.objs.size := by simpa using hb
 subst e
 exact I1.fpOk (Nat.le_refl _) (I1.hok.fresh (Nat.le_refl _))
theorem au8 {pins : List (Addr × Obj)} {σ : St} {H : Hp} {s : Shared} {R : It → Hp → Prop} {E : Value → Shared → Prop} {lo hi : Int} {t u v : Tok} {tk : Nat} (I : Inv X pins σ H s) (h1 : -(2 ^ 62) ≤ lo) (h2 : lo < 2 ^ 62) (h3 : -(2 ^ 62) ≤ hi) (h4 : hi < 2 ^ 62)
  (q : R (Itr lo (hi - lo).toNat) H) : wpAny (model X.prog X.w) X.A (pyIter (.ref s.heap.objs.size)) (PIE X pins σ tg R) E { s with heap := s.heap.push { cls := .type "range", data := .fields #[.int lo t, .int hi u, .int 1 v] }, toks := tk } := by
 refine wpAny_pyIter_range (IsRange.new ..) (small_one h1 h2 h3 h4) ?_
 have I1 : Inv X pins σ H { s with heap := s.heap.push { cls := .type "range", data := .fields #[.int lo t, .int hi u, .int 1 v] }, toks := tk } := I.kept fun b o e => Heap.get?_push_of_some _ e
 refine ⟨(s.heap.push { cls := .type "range", data := .fields #[.int lo t, .int hi u, .int 1 v] }).objs.size, [(s.heap.push { cls := .type "range", data := .fields #[.int lo t, .int hi u, .int 1 v] }).objs.size], _, _, H, rfl,
  I1.kept (t' := tk) fun b o e => Heap.get?_push_of_some _ e, az7 _ lo (hi - lo).toNat, ?_, fun b hb => ?_, q⟩
 ·have e1 : lo + ((0 : Nat) : Int) * 1 = lo := by simp
  have e2 : (((hi - lo).toNat : Nat) : Int) - ((0 : Nat) : Int) = Builtin.Range.rangeSize lo hi 1 := by rw [rangeSize_one]; split <;> omega
  show IsRangeIter _ _ (lo + ((0 : Nat) : Int) * 1) ((((hi - lo).toNat : Nat) : Int) - ((0 : Nat) : Int)) 1
  rw [e1, e2]
  exact Heap.get?_push_size _ rfl
 ·have e : b = (s.heap.push { cls := .type "range", data := .fields #[.int lo t, .int hi u, .int 1 v] }).objs.size := by simpa using hb
  subst e
  exact I1.fpOk (Nat.le_refl _) (I1.hok.fresh (Nat.le_refl _))
noncomputable def bH5 (ta : TA) : TI := fun σ H R => ta σ H fun vs H1 => ∃ j : Int, vs = [.int j] ∧ -(2 ^ 62) ≤ j ∧ j < 2 ^ 62 ∧ R (Itr 0 j.toNat) H1
noncomputable def bH4 (ta : TA) : TI := fun σ H R => ta σ H fun vs H1 => ∃ i j : Int, vs = [.int i, .int j] ∧ (-(2 ^ 62) ≤ i ∧ i < 2 ^ 62 ∧ -(2 ^ 62) ≤ j ∧ j < 2 ^ 62) ∧ R (Itr i (j - i).toNat) H1
theorem aK3 {a : Expr} {ta : TA} {p pos : Pos} (hg : Gl X "range") (hm : X.mg "range" = none) (ha : PA X [a] ta) (hs : starEach [a] X.env = [(false, eval a X.env)] := by rfl) : PI X tg (.Call (.Name "range" p) [a] [] pos) (bH5 ta) := by
 intro pins s σ H R I h
 refine Call_ (i9 I hg hm boot_range (PyProof.Rows.callWith_type1 (thn (ha pos pins s σ H _ I h) fun us s1 ⟨vs, H1, I1, r1, q1⟩ => ?_) hs rfl))
 obtain ⟨j, e, q1, q2, q⟩ := q1
 subst e
 cases r1 with
 | cons r rr =>
  cases rr
  obtain ⟨t, rfl⟩ := r
  exact call_range_1 (au8 I1 (by omega) (by omega) q1 q2 (by simpa using q))
theorem aK2 {a b : Expr} {ta : TA} {p pos : Pos} (hg : Gl X "range") (hm : X.mg "range" = none) (ha : PA X [a, b] ta) (hs : starEach [a, b] X.env = [(false, eval a X.env), (false, eval b X.env)] := by rfl) (hs2 : starEach [b] X.env = [(false, eval b X.env)] := by rfl) :
  PI X tg (.Call (.Name "range" p) [a, b] [] pos) (bH4 ta) := by
 intro pins s σ H R I h
 refine Call_ (i9 I hg hm boot_range (PyProof.Rows.callWith_type1 (thn (ha pos pins s σ H _ I h) fun us s1 ⟨vs, H1, I1, r1, q1⟩ => ?_) (by rw [hs, hs2]) (by rw [hs2]; rfl)))
 obtain ⟨i, j, e, ⟨q1, q2, q3, q4⟩, q⟩ := q1
 subst e
 cases r1 with
 | cons r rr =>
  cases rr with
  | cons r' rr =>
   cases rr
   obtain ⟨t, rfl⟩ := r
   obtain ⟨t', rfl⟩ := r'
   exact call_range_2 (au8 I1 q1 q2 q3 q4 q)
noncomputable def bK3 (wi : TI) (g : TG) (tb : TS) : TS := fun D σ H => wi σ H fun J H1 => ∃ W : Nat → Nat → St → Hp → Prop, (∃ m, W 0 m σ H1) ∧ ∀ i m σ H, W i m σ H →
 (J.stop i H ∧ D.nx σ H) ∨ (J.go i H ∧ ∃ N : St → Hp → Prop, (∀ σ' H', N σ' H' → ∃ m', m' < m ∧ W (i + 1) m' σ' H') ∧ ∀ x H', J.yld i H x H' → g x σ H' fun σ2 H2 => tb { D with nx := N, ct := N, bk := D.nx } σ2 H2)
noncomputable def ai6 (fp : List Addr) (h : Heap) : List (Addr × Obj) := fp.filterMap fun b => (h.get? b).map fun o => (b, o)
theorem a9 {fp : List Addr} {h : Heap} {b : Addr} {o : Obj} (hb : b ∈ fp) (e : h.get? b = some o) : (b, o) ∈ ai6 fp h := List.mem_filterMap.mpr ⟨b, hb, by rw [e]; rfl⟩
theorem aK8 {fp : List Addr} {h : Heap} {p : Addr × Obj} (hp : p ∈ ai6 fp h) : p.1 ∈ fp ∧ h.get? p.1 = some p.2 := by
 obtain ⟨b, hb, e⟩ := List.mem_filterMap.mp hp
 cases q : h.get? b with
 | none => rw [q] at e; cases e
 | some o =>
  rw [q] at e
  have e' : (b, o) = p := Option.some.inj e
  subst e'
  exact ⟨hb, q⟩
theorem Inv.pinned {pins : List (Addr × Obj)} {σ : St} {H : Hp} {s : Shared} {fp : List Addr} (I : Inv X pins σ H s) (hf : ∀ b ∈ fp, Y3 X pins H b) (ho : ∀ b ∈ fp, ∃ o, s.heap.get? b = some o ∧ ∀ v, o.data ≠ .cell v) : Inv X (pins ++ ai6 fp s.heap) σ H s :=
 I.pins_of fun p hp => (List.mem_append.mp hp).elim (fun z => I.pin p (List.mem_append_right _ z)) fun z => by
  obtain ⟨hb, e⟩ := aK8 z
  obtain ⟨f0, f1, f2, _⟩ := hf p.1 hb
  obtain ⟨o, e', d⟩ := ho p.1 hb
  rw [e] at e'; cases e'
  exact ⟨e, f0, f1, f2, d⟩
theorem Inv.unpinned {pins pl : List (Addr × Obj)} {σ : St} {H : Hp} {s : Shared} (I : Inv X (pins ++ pl) σ H s) : Inv X pins σ H s := I.pins_of fun p hp => I.pin p (List.mem_append_right _ (List.mem_append_left _ hp))
theorem br4 {iter : Expr} {body : List Stmt} {wi : TI} {g : TG} {tb : TS} {pos : Pos} (hp : PassesOwn (model X.prog X.w) X.A X.env X.xe) (hc : X.calm = true) (hi : PI X tg iter wi) (hg : PG X tg g) (hb : PSs X body tb)
  (hs : ∀ x, foldedSetIterable iter X.env x = pure x := by intro _; rfl) : PS X (.For tg iter body [] pos) (bK3 wi g tb) := by
 intro pins s σ H D I h
 refine wpAny_For (thn (hi pins s σ H _ I h) fun v s1 h1 => thn h1 fun itv s2 h2 => ?_) hs
 obtain ⟨it, fp, tn, J, H2, e, I2, T, st2, f2, W, ⟨m0, w0⟩, turn⟩ := h2
 subst e
 have stat : ∀ {H' : Hp}, (∀ b ∈ fp, H' b = none) → ∀ b ∈ fp, Y3 X pins H' b := fun hn b hb => ⟨hn b hb, (f2 b hb).2⟩
 refine codeAny_forLoop_any (fun n s' => ∃ i σ' H', Inv X pins σ' H' s' ∧ tn i s'.heap ∧ (∀ b ∈ fp, H' b = none) ∧ W i n σ' H') ?_ m0 ⟨0, σ, H2, I2, st2, fun b hb => (f2 b hb).1, w0⟩
 rintro n s3 ⟨i, σ3, H3, I3, st3, fr3, w3⟩
 rcases turn i n σ3 H3 w3 with ⟨stop, qn⟩ | ⟨go, N, hN, step⟩
 ·refine wpAny_passesOwn hp (thn (T.done X rfl rfl rfl hc i pins s3 σ3 H3 X.xe I3 (stat fr3) st3 stop) fun r s4 ⟨hr, I4⟩ => ?_)
  subst hr
  exact wpAny_execs_nil ⟨σ3, H3, I4, qn⟩
 ·refine wpAny_passesOwn hp (thn (T.item X rfl rfl rfl hc i pins s3 σ3 H3 X.xe I3 (stat fr3) st3 go) fun r s4 ⟨u, hr, h4⟩ => ?_)
  subst hr
  refine wpAny_passesOwn hp (thn h4 fun _ s5 ⟨x, H5, I5, r5, y5, st5, fr5⟩ => ?_)
  have I5' := I5.pinned (stat fr5) (T.obj _ _ st5)
  refine wpAny_passesOwn hp (thn (hg _ s5 σ3 H5 x u _ I5' r5 (step x H5 y5)) fun _ s6 ⟨σ6, H6, I6, q6⟩ => ?_)
  refine wpAny_passesOwn hp (thn (hb _ s6 σ6 H6 _ I6 q6) fun f s7 q7 => ?_)
  have again : ∀ {σ7 : St} {H7 : Hp}, Inv X (pins ++ ai6 fp s5.heap) σ7 H7 s7 → N σ7 H7 → ∃ m, m < n ∧ ∃ i σ' H', Inv X pins σ' H' s7 ∧ tn i s7.heap ∧ (∀ b ∈ fp, H' b = none) ∧ W i m σ' H' := fun {σ7 H7} I7 n7 => by
   obtain ⟨m', hm, w7⟩ := hN σ7 H7 n7
   refine ⟨m', hm, i + 1, σ7, H7, I7.unpinned, T.keep _ _ _ st5 fun b hb o e => (I7.pin (b, o) (List.mem_append_right _ (List.mem_append_right _ (a9 hb e)))).1, fun b hb => ?_, w7⟩
   obtain ⟨o, e, d⟩ := T.obj _ _ st5 b hb
   exact (I7.pin (b, o) (List.mem_append_right _ (List.mem_append_right _ (a9 hb e)))).2.1
  cases f with
  | next => obtain ⟨σ7, H7, I7, n7⟩ := q7; exact again I7 n7
  | cont => obtain ⟨σ7, H7, I7, n7⟩ := q7; exact again I7 n7
  | brk => obtain ⟨σ7, H7, I7, q7⟩ := q7; exact ⟨σ7, H7, I7.unpinned, q7⟩
  | ret v => obtain ⟨x7, σ7, H7, I7, r7, q7⟩ := q7; exact ⟨x7, σ7, H7, I7.unpinned, r7, q7⟩
end
end L2
namespace L2
open PySem PySem.Spec PyProof.Rows
noncomputable abbrev R2 := V → V → Hp → VK → Prop
noncomputable def OpR (X : Cx) (f : Value → Value → Sem Value) (r : R2) : Prop :=
 ∀ (pins : List (Addr × Obj)) (s : Shared) (σ : St) (H : Hp) (x y : V) (v u : Value) (Q : VK), Inv X pins σ H s → L0 x v → L0 y u → r x y H Q →
  wpAny (model X.prog X.w) X.A (f v u) (EP X pins σ Q) X.xe s
noncomputable def UnR (X : Cx) (f : Value → Sem Value) (r : V → Hp → VK → Prop) : Prop :=
 ∀ (pins : List (Addr × Obj)) (s : Shared) (σ : St) (H : Hp) (x : V) (v : Value) (Q : VK), Inv X pins σ H s → L0 x v → r x H Q →
  wpAny (model X.prog X.w) X.A (f v) (EP X pins σ Q) X.xe s
noncomputable def S4 (X : Cx) (f : Value) (r : List V → Hp → VK → Prop) : Prop :=
 ∀ (pins : List (Addr × Obj)) (s : Shared) (σ : St) (H : Hp) (xs : List V) (us : List Value) (Q : VK), Inv X pins σ H s → B8 xs us → r xs H Q →
  wpAny (model X.prog X.w) X.A (call f us) (EP X pins σ Q) X.xe s
noncomputable def bL6 (X : Cx) (r : V → Hp → (Bool → Hp → Prop) → Prop) : Prop :=
 ∀ (pins : List (Addr × Obj)) (s : Shared) (σ : St) (H : Hp) (x : V) (v : Value) (Q : Bool → Hp → Prop), Inv X pins σ H s → L0 x v → r x H Q →
  wpAny (model X.prog X.w) X.A (truthy v) (TP X pins σ Q) X.xe s
noncomputable def tOp (r : R2) (ta tb : TE) : TE := fun σ H Q => ta σ H fun x H1 => tb σ H1 fun y H2 => r x y H2 Q
noncomputable def tUn (r : V → Hp → VK → Prop) (ta : TE) : TE := fun σ H Q => ta σ H fun x H1 => r x H1 Q
noncomputable def rI (C : Int → Int → Prop) (g : Int → Int → V) : R2 := fun x y H Q => ∃ i j, x = .int i ∧ y = .int j ∧ C i j ∧ Q (g i j) H
noncomputable def rI0 (g : Int → Int → V) : R2 := fun x y H Q => ∃ i j, x = .int i ∧ y = .int j ∧ Q (g i j) H
noncomputable def rU (g : Int → V) : V → Hp → VK → Prop := fun x H Q => ∃ i, x = .int i ∧ Q (g i) H
section
variable {X : Cx} {a b c : Expr} {ta tb tc : TE} {pos : Pos}
theorem bA3 (ha : PE X a ta) (hb : PE X b tb) {pins : List (Addr × Obj)} {s : Shared} {σ : St} {H : Hp} {R : V → V → Hp → Prop} (I : Inv X pins σ H s)
  (h : ta σ H fun x H1 => tb σ H1 fun y H2 => R x y H2) {Q : Value → Shared → Prop} {f : Value → Value → Sem Value}
  (hf : ∀ v u s2 x y H2, Inv X pins σ H2 s2 → L0 x v → L0 y u → R x y H2 → wpAny (model X.prog X.w) X.A (f v u) Q X.xe s2) :
  wpAny (model X.prog X.w) X.A (eval a X.env) (fun v s₁ => wpAny (model X.prog X.w) X.A (eval b X.env) (fun u s₂ => wpAny (model X.prog X.w) X.A (f v u) Q X.xe s₂) X.xe s₁) X.xe s := by
 refine thn (ha pins s σ H _ I h) fun v s1 ⟨x, H1, I1, r1, q1⟩ => ?_
 refine thn (hb pins s1 σ H1 _ I1 q1) fun u s2 ⟨y, H2, I2, r2, q2⟩ => ?_
 exact hf v u s2 x y H2 I2 r1 r2 q2
theorem bl3 {op : Operator} {r : R2} (ho : OpR X (binaryOp op) r) (ha : PE X a ta) (hb : PE X b tb) : PE X (.BinOp a op b pos) (tOp r ta tb) := by
 intro pins s σ H Q I h
 exact wpAny_BinOp (bA3 ha hb I h fun v u s2 x y H2 I2 rx ry q => ho pins s2 σ H2 x y v u Q I2 rx ry q)
theorem bE2 {op : UnaryOp} {r : V → Hp → VK → Prop} (ho : UnR X (unaryOp op) r) (ha : PE X a ta) : PE X (.UnaryOp op a pos) (tUn r ta) := by
 intro pins s σ H Q I h
 exact UnaryOp_ (thn (ha pins s σ H _ I h) fun v s1 ⟨x, H1, I1, r1, q1⟩ => ho pins s1 σ H1 x v Q I1 r1 q1)
theorem opI {f : Value → Value → Sem Value} {C : Int → Int → Prop} {g : Int → Int → Int}
  (rule : ∀ (i j : Int) (t u : Tok) (s : Shared) (Q : Value → Shared → Prop) (E : Value → Shared → Prop), C i j → Q (.int (g i j) s.toks) { s with toks := s.toks + 1 } → wpAny (model X.prog X.w) X.A (f (.int i t) (.int j u)) Q E s) :
  OpR X f (rI C fun i j => .int (g i j)) := by
 intro pins s σ H x y v u Q I rx ry h
 obtain ⟨i, j, rfl, rfl, hc, q⟩ := h
 obtain ⟨t, rfl⟩ := rx
 obtain ⟨t', rfl⟩ := ry
 exact rule i j t t' s _ _ hc ⟨.int (g i j), H, I.tok _, ⟨_, rfl⟩, q⟩
theorem bE9 {f : Value → Value → Sem Value} {g : Int → Int → Int}
  (rule : ∀ (i j : Int) (t u : Tok) (s : Shared) (Q : Value → Shared → Prop) (E : Value → Shared → Prop), Q (.int (g i j) s.toks) { s with toks := s.toks + 1 } → wpAny (model X.prog X.w) X.A (f (.int i t) (.int j u)) Q E s) :
  OpR X f (rI0 fun i j => .int (g i j)) := by
 intro pins s σ H x y v u Q I rx ry h
 obtain ⟨i, j, rfl, rfl, q⟩ := h
 obtain ⟨t, rfl⟩ := rx
 obtain ⟨t', rfl⟩ := ry
 exact rule i j t t' s _ _ ⟨.int (g i j), H, I.tok _, ⟨_, rfl⟩, q⟩
theorem be9 {f : Value → Value → Sem Value} {g : Int → Int → Bool}
  (rule : ∀ (i j : Int) (t u : Tok) (s : Shared) (Q : Value → Shared → Prop) (E : Value → Shared → Prop), Q (.bool (g i j)) s → wpAny (model X.prog X.w) X.A (f (.int i t) (.int j u)) Q E s) :
  OpR X f (rI0 fun i j => .bl (g i j)) := by
 intro pins s σ H x y v u Q I rx ry h
 obtain ⟨i, j, rfl, rfl, q⟩ := h
 obtain ⟨t, rfl⟩ := rx
 obtain ⟨t', rfl⟩ := ry
 exact rule i j t t' s _ _ ⟨.bl (g i j), H, I, rfl, q⟩
noncomputable def bM0 (i j : Int) : Prop := 0 ≤ j ∧ j ≤ 1000000 ∧ i.natAbs < 2 ^ 64
theorem aT1 : OpR X (binaryOp .Add) (rI0 fun i j => .int (i + j)) := bE9 fun _ _ _ _ _ _ _ q => add_int q
theorem bs9 : OpR X (binaryOp .Sub) (rI0 fun i j => .int (i - j)) := bE9 fun _ _ _ _ _ _ _ q => sub_int q
theorem bt1 : OpR X (binaryOp .Mod) (rI (fun _ j => 0 < j) fun i j => .int (i % j)) := opI fun i j _ _ _ _ _ hc q => by
 have h1 : (0 : Int) < j := hc
 exact mod_int' (by omega) (by rw [Int.fmod_eq_emod_of_nonneg i (by omega)]; exact q)
theorem bt0 : OpR X (binaryOp .Pow) (rI bM0 fun i j => .int (i ^ j.toNat)) := opI fun _ _ _ _ _ _ _ hc q => pow_int_small hc.1 hc.2.1 hc.2.2 q
theorem unI {f : Value → Sem Value} {g : Int → Int}
  (rule : ∀ (i : Int) (t : Tok) (s : Shared) (Q : Value → Shared → Prop) (E : Value → Shared → Prop), Q (.int (g i) s.toks) { s with toks := s.toks + 1 } → wpAny (model X.prog X.w) X.A (f (.int i t)) Q E s) :
  UnR X f (rU fun i => .int (g i)) := by
 intro pins s σ H x v Q I rx h
 obtain ⟨i, rfl, q⟩ := h
 obtain ⟨t, rfl⟩ := rx
 exact rule i t s _ _ ⟨.int (g i), H, I.tok _, ⟨_, rfl⟩, q⟩
theorem bn9 : UnR X (unaryOp .USub) (rU fun i => .int (-i)) := unI fun _ _ _ _ _ q => neg_int q
end
section
variable {X : Cx} {a b c : Expr} {ta tb tc : TE} {pos : Pos}
theorem as3 {pins : List (Addr × Obj)} {σ : St} {H : Hp} {s : Shared} {Q : VK} {k k' : Bool} (I : Inv X pins σ H s) (q : Q (.bl k) H) (e : k = k') : EP X pins σ Q (.bool k') s := by
 subst e
 exact ⟨.bl k, H, I, rfl, q⟩
theorem bE5 : OpR X (compareOp .Lt) (rI0 fun i j => .bl (decide (i < j))) := be9 fun _ _ _ _ _ _ _ q => lt_int q
theorem bE6 : OpR X (compareOp .LtE) (rI0 fun i j => .bl (decide (i ≤ j))) := be9 fun _ _ _ _ _ _ _ q => le_int q
theorem bE7 : OpR X (compareOp .Gt) (rI0 fun i j => .bl (decide (j < i))) := be9 fun _ _ _ _ _ _ _ q => gt_int q
theorem bE8 : OpR X (compareOp .GtE) (rI0 fun i j => .bl (decide (j ≤ i))) := be9 fun _ _ _ _ _ _ _ q => ge_int q
theorem aK4 : OpR X (compareOp .In) (fun x y H Q => ∃ i j, x = .str i ∧ y = .str j ∧ Q (.bl (!(Builtin.Str.occurrences j i 0 j.length 1).isEmpty)) H) := by
 intro pins s σ H x y v u Q I rx ry h
 obtain ⟨i, j, rfl, rfl, q⟩ := h
 obtain ⟨t, rfl⟩ := rx
 obtain ⟨t', rfl⟩ := ry
 exact in_str (as3 I q rfl)
theorem bt2 : OpR X (compareOp .Is) (fun x y H Q => y = .non ∧ Q (.bl (decide (x = .non))) H) := by
 intro pins s σ H x y v u Q I rx ry h
 obtain ⟨rfl, q⟩ := h
 cases ry
 refine is_none_gen (as3 I q ?_)
 cases x <;> first
  | (cases rx; rfl)
  | (obtain ⟨t, rfl⟩ := rx; rfl)
theorem be6 : OpR X (compareOp .IsNot) (fun x y H Q => y = .non ∧ Q (.bl (!decide (x = .non))) H) := by
 intro pins s σ H x y v u Q I rx ry h
 obtain ⟨rfl, q⟩ := h
 cases ry
 refine isnot_none_gen (as3 I q ?_)
 cases x <;> first
  | (cases rx; rfl)
  | (obtain ⟨t, rfl⟩ := rx; rfl)
theorem aq5 : OpR X (compareOp .NotIn) (fun x y H Q => ∃ i j, x = .str i ∧ y = .str j ∧ Q (.bl (!(!(Builtin.Str.occurrences j i 0 j.length 1).isEmpty))) H) := by
 intro pins s σ H x y v u Q I rx ry h
 obtain ⟨i, j, rfl, rfl, q⟩ := h
 obtain ⟨t, rfl⟩ := rx
 obtain ⟨t', rfl⟩ := ry
 exact notIn_str (as3 I q rfl)
theorem aU0 (b : Expr) {op : CmpOp} (h : op ≠ .In := by decide) (h2 : op ≠ .NotIn := by decide) : behindInMarks op b = false := by
 have e1 : (op == CmpOp.In) = false := by cases op <;> first | rfl | exact absurd rfl h
 have e2 : (op == CmpOp.NotIn) = false := by cases op <;> first | rfl | exact absurd rfl h2
 cases b <;> simp [behindInMarks, e1, e2]
theorem be1 {op : CmpOp} {r : R2} (ho : OpR X (compareOp op) r) (ha : PE X a ta) (hb : PE X b tb) (hm : behindInMarks op b = false) : PE X (.Compare a [op] [b] pos) (tOp r ta tb) := by
 intro pins s σ H Q I h
 exact wpAny_Compare1 (bA3 ha hb I h fun v u s2 x y H2 I2 rx ry q => ho pins s2 σ H2 x y v u Q I2 rx ry q) hm
noncomputable def bk3 (t : TE) : TT := fun σ H Q => t σ H fun x H' => ∃ k, x = .bl k ∧ Q k H'
theorem bd0 {op : CmpOp} {r : R2} (ho : OpR X (compareOp op) r) (ha : PE X a ta) (hb : PE X b tb) (hm : behindInMarks op b = false) : PT X (.Compare a [op] [b] pos) (bk3 (tOp r ta tb)) := by
 intro pins s σ H Q I h
 refine wpAny_isTrue_Compare1 (thn (ha pins s σ H _ I h) fun v s1 ⟨x, H1, I1, r1, q1⟩ => thn (hb pins s1 σ H1 _ I1 q1) fun u s2 ⟨y, H2, I2, r2, q2⟩ =>
  thn (ho pins s2 σ H2 x y v u _ I2 r1 r2 q2) fun c s3 ⟨z, H3, I3, r3, k, e, q3⟩ => ?_) hm
 subst e
 cases r3
 exact wpAny_truthy_bool ⟨H3, I3, q3⟩
noncomputable def aQ3 (r r' : R2) (ta tb tc : TE) : TE := fun σ H Q => ta σ H fun x H1 => tb σ H1 fun y H2 => r x y H2 fun z H3 => ∃ k, z = .bl k ∧
 (if k = true then tc σ H3 fun w' H4 => r' y w' H4 Q else Q (.bl false) H3)
theorem av3 {op op' : CmpOp} {r r' : R2} (ho : OpR X (compareOp op) r) (ho' : OpR X (compareOp op') r') (ha : PE X a ta) (hb : PE X b tb) (hc : PE X c tc)
  (hm : lastMarks [op, op'] [b, c] = false := by with_unfolding_all rfl) : PE X (.Compare a [op, op'] [b, c] pos) (aQ3 r r' ta tb tc) := by
 intro pins s σ H Q I h
 refine Compare_chain (thn (ha pins s σ H _ I h) fun v s1 ⟨x, H1, I1, r1, q1⟩ => chain_link (thn (hb pins s1 σ H1 _ I1 q1) fun u s2 ⟨y, H2, I2, r2, q2⟩ =>
  thn (ho pins s2 σ H2 x y v u _ I2 r1 r2 q2) fun d s3 ⟨z, H3, I3, r3, k, e, q3⟩ => ?_)) hm
 subst e
 cases r3
 refine wpAny_truthy_bool ?_
 cases k with
 | false => exact ite_ff ⟨.bl false, H3, I3, rfl, q3⟩
 | true => exact ite_tt (chain_last (thn (hc pins s3 σ H3 _ I3 q3) fun w' s4 ⟨z', H4, I4, r4, q4⟩ => ho' pins s4 σ H4 y z' u w' Q I4 r2 r4 q4))
theorem au9 {op op' : CmpOp} {r r' : R2} (ho : OpR X (compareOp op) r) (ho' : OpR X (compareOp op') r') (ha : PE X a ta) (hb : PE X b tb) (hc : PE X c tc)
  (hm : lastMarks [op, op'] [b, c] = false := by with_unfolding_all rfl) : PT X (.Compare a [op, op'] [b, c] pos) (bk3 (aQ3 r r' ta tb tc)) := by
 intro pins s σ H Q I h
 refine isTrue_chain (thn (ha pins s σ H _ I h) fun v s1 ⟨x, H1, I1, r1, q1⟩ => test_link (thn (hb pins s1 σ H1 _ I1 q1) fun u s2 ⟨y, H2, I2, r2, q2⟩ =>
  thn (ho pins s2 σ H2 x y v u _ I2 r1 r2 q2) fun d s3 ⟨z, H3, I3, r3, k, e, q3⟩ => ?_)) hm
 subst e
 cases r3
 refine wpAny_truthy_bool ?_
 cases k with
 | false =>
  obtain ⟨k', e', q'⟩ := q3
  cases e'
  exact ite_ff ⟨H3, I3, q'⟩
 | true =>
  refine ite_tt (test_last (thn (hc pins s3 σ H3 _ I3 q3) fun w' s4 ⟨z', H4, I4, r4, q4⟩ => thn (ho' pins s4 σ H4 y z' u w' _ I4 r2 r4 q4) fun d' s5 ⟨z2, H5, I5, r5, k2, e2, q5⟩ => ?_))
  subst e2
  cases r5
  exact wpAny_truthy_bool ⟨H5, I5, q5⟩
noncomputable def bI9 (K : PySem.W.Frag) (x : V) (H : Hp) (k : Bool) : Prop :=
 match x with
 | .non => k = false
 | .bl b => k = b
 | .int i => k = (i != 0)
 | .str y => y.length ≤ sizeLine ∧ k = ((y.length : Int) != 0)
 | .byt y => y.size ≤ sizeLine ∧ k = ((y.size : Int) != 0)
 | .ref p => (∃ xs, SqL K H p xs ∧ k = !xs.isEmpty) ∨ (∃ xs, SqT K H p xs ∧ k = !xs.isEmpty) ∨ ∃ kvs, H p = some (.dK kvs) ∧ k = !kvs.isEmpty
 | _ => False
theorem aC1 {κ : Type} {kvs : List (κ × V)} {vs : List (κ × Value)} (r : KV kvs vs) : (!vs.isEmpty) = !kvs.isEmpty := by
 cases r <;> rfl
theorem aj2 {xs : List V} {its : List Value} (r : B8 xs its) : (!its.toArray.isEmpty) = !xs.isEmpty := by
 cases r <;> simp
theorem ad6 : (sizeLine : Nat) < 2 ^ 63 := by rw [sizeLine_eq]; decide
theorem bo2 : bL6 X (fun x H Q => ∃ k, bI9 X.K x H k ∧ Q k H) := by
 intro pins s σ H x v Q I rx h
 obtain ⟨k, e, q⟩ := h
 have hl := ad6
 have hs : sizeLine = 16777216 := sizeLine_eq
 cases x with
 | non =>
  cases rx
  have e' : k = false := e
  subst e'
  exact truthy_none ⟨H, I, q⟩
 | bl b =>
  cases rx
  have e' : k = b := e
  subst e'
  exact wpAny_truthy_bool ⟨H, I, q⟩
 | int i =>
  obtain ⟨t, rfl⟩ := rx
  have e' : k = (i != 0) := e
  subst e'
  exact PySem.P.truthy_int ⟨H, I, q⟩
 | str y =>
  obtain ⟨t, rfl⟩ := rx
  obtain ⟨hy, e'⟩ : y.length ≤ sizeLine ∧ k = ((y.length : Int) != 0) := e
  subst e'
  exact PySem.P.truthy_str (by omega) ⟨H, I.tok _, q⟩
 | byt y =>
  obtain ⟨t, rfl⟩ := rx
  obtain ⟨hy, e'⟩ : y.size ≤ sizeLine ∧ k = ((y.size : Int) != 0) := e
  subst e'
  exact PySem.W.truthy_bytes (by omega) ⟨H, I.tok _, q⟩
 | ref p =>
  cases rx
  have e' : (∃ xs, SqL X.K H p xs ∧ k = !xs.isEmpty) ∨ (∃ xs, SqT X.K H p xs ∧ k = !xs.isEmpty) ∨ ∃ kvs, H p = some (.dK kvs) ∧ k = !kvs.isEmpty := e
  rcases e' with ⟨xs, hx, e'⟩ | ⟨xs, hx, e'⟩ | ⟨kvs, hx, e'⟩
  ·subst e'
   obtain ⟨its, r, pl, hz⟩ := I.list hx
   have hlen := r.length
   exact wpAny_truthy_list pl.isList (by simp only [List.size_toArray]; omega) ⟨H, I.tok _, by rw [aj2 r]; exact q⟩
  ·subst e'
   obtain ⟨its, r, pl, hz⟩ := I.tuple hx
   have hlen := r.length
   exact truthy_tuple pl (by simp only [List.size_toArray]; omega) ⟨H, I.tok _, by rw [aj2 r]; exact q⟩
  ·subst e'
   obtain ⟨hz, hS, vs, r, m⟩ : kvs.length ≤ sizeLine ∧ (p == sysModules) = false ∧ ∃ vs, KV kvs vs ∧ s.heap.DictOf (ar2 X.prog X.w) p vs := I.hok p _ hx
   have hlen : kvs.length = vs.length := Paired.length r
   exact wpAny_truthy_dict hS m (by omega) ⟨H, I.tok _, by rw [aC1 r]; exact q⟩
 | _ => exact (show False from e).elim
theorem aR9 (ha : PE X a ta) (he : ∀ whole, isTrue a X.env whole = (do let v ← whole; standAt a.pos; holding [v] (truthy v))) :
  PT X a (fun σ H Q => ta σ H fun x H' => ∃ k, bI9 X.K x H' k ∧ Q k H') := by
 intro pins s σ H Q I h
 exact isTrue_plain (thn (ha pins s σ H _ I h) fun v s1 ⟨x, H1, I1, r1, q1⟩ => bo2 pins s1 σ H1 x v Q I1 r1 q1) (he _)
theorem aB7 : OpR X (binaryOp .Add) (fun x y H Q => ∃ i j, x = .str i ∧ y = .str j ∧ i.length + j.length ≤ sizeLine ∧ Q (.str (i ++ j)) H) := by
 intro pins s σ H x y v u Q I rx ry h
 obtain ⟨i, j, rfl, rfl, hz, q⟩ := h
 obtain ⟨t, rfl⟩ := rx
 obtain ⟨t', rfl⟩ := ry
 exact add_str (fun t' tk => ⟨.str (i ++ j), H, I.tok _, ⟨_, rfl⟩, q⟩) hz
theorem W9 {x : V} {us : List Value} (r : B8 [x] us) : ∃ u, us = [u] ∧ L0 x u := by
 cases r with
 | cons r1 r2 => cases r2; exact ⟨_, rfl, r1⟩
theorem aE3 {x y : V} {us : List Value} (r : B8 [x, y] us) : ∃ u w', us = [u, w'] ∧ L0 x u ∧ L0 y w' := by
 cases r with
 | cons r1 r2 =>
  cases r2 with
  | cons r3 r4 => cases r4; exact ⟨_, _, rfl, r1, r3⟩
theorem aZ9 : S4 X (.builtin "abs") (fun xs H Q => ∃ i, xs = [.int i] ∧ Q (.int (if i < 0 then -i else i)) H) := by
 intro pins s σ H xs us Q I r h
 obtain ⟨i, rfl, q⟩ := h
 obtain ⟨u, rfl, t, rfl⟩ := W9 r
 exact call_abs_int fun u tk => ⟨.int (if i < 0 then -i else i), H, I.tok _, ⟨_, rfl⟩, q⟩
theorem aO3 (hc : X.calm = true) : S4 X (.builtin "max") (fun xs H Q => ∃ i j, xs = [.int i, .int j] ∧ Q (.int (if j > i then j else i)) H) := by
 intro pins s σ H xs us Q I r h
 obtain ⟨i, j, rfl, q⟩ := h
 obtain ⟨u, w', rfl, ⟨t, rfl⟩, ⟨t', rfl⟩⟩ := aE3 r
 refine max_two_ints (I.ok.hd hc) fun h' tk k => ⟨_, H, I.kept k, ?_, q⟩
 by_cases hj : j > i
 ·rw [if_pos hj, if_pos hj]; exact ⟨_, rfl⟩
 ·rw [if_neg hj, if_neg hj]; exact ⟨_, rfl⟩
theorem aO1 (hc : X.calm = true) : S4 X (.builtin "min") (fun xs H Q => ∃ i j, xs = [.int i, .int j] ∧ Q (.int (if j < i then j else i)) H) := by
 intro pins s σ H xs us Q I r h
 obtain ⟨i, j, rfl, q⟩ := h
 obtain ⟨u, w', rfl, ⟨t, rfl⟩, ⟨t', rfl⟩⟩ := aE3 r
 refine min_two_ints (I.ok.hd hc) fun h' tk k => ⟨_, H, I.kept k, ?_, q⟩
 by_cases hj : j < i
 ·rw [if_pos hj, if_pos hj]; exact ⟨_, rfl⟩
 ·rw [if_neg hj, if_neg hj]; exact ⟨_, rfl⟩
theorem am9 : S4 X (.type "int") (fun xs H Q => (∃ i, xs = [.int i] ∧ Q (.int i) H) ∨ ∃ k, xs = [.bl k] ∧ Q (.int (if k then 1 else 0)) H) := by
 intro pins s σ H xs us Q I r h
 rcases h with ⟨i, rfl, q⟩ | ⟨k, rfl, q⟩
 ·obtain ⟨u, rfl, t, rfl⟩ := W9 r
  exact call_int_int ⟨.int i, H, I, ⟨_, rfl⟩, q⟩
 ·obtain ⟨u, rfl, r1⟩ := W9 r
  cases r1
  exact call_int_bool ⟨.int (if k then 1 else 0), H, I.tok _, ⟨_, rfl⟩, q⟩
theorem as7 : S4 X (.type "str") (fun xs H Q => ∃ i, xs = [.int i] ∧ i.natAbs.log2 < 1920 ∧ Q (.str (toString i)) H) := by
 intro pins s σ H xs us Q I r h
 obtain ⟨i, rfl, hz, q⟩ := h
 obtain ⟨u, rfl, t, rfl⟩ := W9 r
 exact PySem.P.str_of_int hz ⟨.str _, H, I.tok _, ⟨_, rfl⟩, q⟩
end
end L2
namespace L2
open PySem PySem.Spec PyProof.Rows
section
variable {prog : Program} {w : World} {A : Around} {E : Value → Shared → Prop} {s : Shared} {K : PySem.W.Frag} {x dx C f : Addr} {mA : Str → Option Value} {name : Str} {v : Value}
end
section
variable {P : Program} {w : World} {H H' : Hp} {h h' : Heap} {a C dx : Addr} {fs fs' : List (Str × V)}
end
section
variable {X : Cx} {pins : List (Addr × Obj)} {σ : St} {H : Hp} {s : Shared} {a C dx : Addr} {fs : List (Str × V)} {f : Str} {v : V} {A : Around} {E : Value → Shared → Prop}
end
section
variable {X : Cx} {o e value : Expr} {f : Str} {pos pos' tpos : Pos} {ta tv : TE}
end
section
variable {X : Cx} {pins : List (Addr × Obj)} {σ : St} {H : Hp} {s : Shared} {A : Around} {E : Value → Shared → Prop} {Q : Value → Shared → Prop} {c : Value} {b : Bool}
end
end L2
namespace L2
open PySem PySem.Spec PyProof.Rows
structure Room (k : Nat) (A : Around) : Prop where
 hd : A.handled = none
 dp : A.depth + 3 * k + 5 < recursionLimit
 un : A.units + 16 * k + 200 < cLine
theorem Room.mono {j k : Nat} {A : Around} (r : Room k A) (h : j ≤ k) : Room j A := ⟨r.hd, by have := r.dp; omega, by have := r.un; omega⟩
theorem Room.deeper {k : Nat} {A : Around} (r : Room (k + 1) A) (env : Env) : Room k (A.deeper env) :=
 ⟨r.hd, by have := r.dp; show A.depth + 1 + 3 * k + 5 < _; omega, by have := r.un; show A.units + 3 + 16 * k + 200 < _; omega⟩
theorem Room.depth {k : Nat} {A : Around} (r : Room k A) : A.depth < recursionLimit := by have := r.dp; omega
theorem Room.units {k : Nat} {A : Around} (r : Room k A) : A.units + 64 < cLine := by have := r.un; omega
noncomputable def bC7 : TA := fun _ H Q => Q [] H
noncomputable def bD0 (ta : TE) (tr : TA) : TA := fun σ H Q => ta σ H fun x H1 => tr σ H1 fun xs H2 => Q (x :: xs) H2
section
variable {X : Cx} {e : Expr} {es : List Expr} {te : TE} {t : TA} {pos : Pos}
theorem K2 : PA X [] bC7 := fun _ _ _ _ H Q I h => Calls.spliced_nil ⟨[], H, I, .nil, h⟩
theorem C0 (ha : PE X e te) (hr : PA X es t) (hs : starEach (e :: es) X.env = (false, eval e X.env) :: starEach es X.env := by rfl) : PA X (e :: es) (bD0 te t) := by
 intro pos pins s σ H Q I h
 rw [hs]
 show wpAny _ _ (spliced ((false, eval e X.env) :: backTo pos (starEach es X.env))) _ _ s
 refine Calls.spliced_cons (thn (ha pins s σ H _ I h) fun u s1 ⟨x, H1, I1, r1, q1⟩ => ?_)
 exact thn (hr pos pins s1 σ H1 _ I1 q1) fun us s2 ⟨xs, H2, I2, r2, q2⟩ => ⟨x :: xs, H2, I2, .cons r1 r2, q2⟩
noncomputable def bJ5 (t : TA) : TE := fun σ H Q => t σ H fun xs H1 => xs.length ≤ sizeLine ∧ ∀ p, H1 p = none → Q (.ref p) (upd H1 p (.tup xs))
noncomputable def bK1 (t : TA) : TE := fun σ H Q => t σ H fun xs H1 => xs.length ≤ sizeLine ∧ ∀ p, H1 p = none → Q (.ref p) (upd H1 p (.lst xs))
theorem br9 {x1} (h : PA X es t) : PE X (.Tuple es x1 pos) (bJ5 t) := by
 intro pins s σ H Q I hq
 refine wpAny_Tuple_spliced (thn (h pos pins s σ H _ I hq) fun us s1 ⟨xs, H1, I1, r, z, q⟩ => ⟨by rw [← r.length]; exact z, ?_⟩)
 have hf : H1 s1.heap.objs.size = none := I1.hok.fresh (Nat.le_refl _)
 refine ⟨.ref s1.heap.objs.size, upd H1 s1.heap.objs.size (.tup xs), I1.laid (t' := s1.toks) (fun b u e => Heap.get?_push_of_some _ e) (Nat.le_refl _) ?_, rfl, q _ hf⟩
 exact ⟨z, us, r, ⟨_, Heap.get?_push_size _ rfl, rfl, _, rfl⟩⟩
theorem bs7 (h : PA X es t) : PE X (.List es pos) (bK1 t) := by
 intro pins s σ H Q I hq
 refine wpAny_List_spliced (thn (h pos pins s σ H _ I hq) fun us s1 ⟨xs, H1, I1, r, z, q⟩ => ⟨by rw [← r.length]; exact z, ?_⟩)
 have hf : H1 s1.heap.objs.size = none := I1.hok.fresh (Nat.le_refl _)
 refine ⟨.ref s1.heap.objs.size, upd H1 s1.heap.objs.size (.lst xs), I1.laid (t' := s1.toks) (fun b u e => Heap.get?_push_of_some _ e) (Nat.le_refl _) ?_, rfl, q _ hf⟩
 exact ⟨z, us, 0, r, Heap.get?_push_size _ rfl⟩
end
noncomputable abbrev Sp := List V → Hp → VK → XK → Prop
noncomputable abbrev CXT := List Env → Hp → Shared → XK → Value → Shared → Prop
structure Env0 (P : Program) (w : World) (K : PySem.W.Frag) (mg : Str → Option Value) (base : Heap) (A : Around) (outer : List Env) (s : Shared) (H : Hp) : Prop where
 frames : A.frames = some outer
 mod : Mod K mg base
 bs : ∀ b o, base.get? b = some o → s.heap.get? b = some o ∧ H b = none
 bsz : base.objs.size ≤ s.heap.objs.size
 funs : s.heap.FunFrames base outer
 frf : ∀ b ∈ frs outer, H b = none
 hok : HOk P w H s.heap
 bare : AllBare s.gens
noncomputable def CE (outer : List Env) (P : Program) (w : World) (H : Hp) (s : Shared) (Q : VK) (u : Value) (s' : Shared) : Prop :=
 ∃ v H', s'.os = s.os ∧ AllBare s'.gens ∧ Un (frs outer) [] H H' s.heap s'.heap ∧ HOk P w H' s'.heap ∧ L0 v u ∧ Q v H'
noncomputable def CR (CX : CXT) (outer : List Env) (P : Program) (w : World) (H : Hp) (s : Shared) (Q : VK) (E : XK) (r : Result) (s' : Shared) : Prop :=
 match r with
 | .ok (.ret u) => CE outer P w H s Q u s'
 | .ok _ => False
 | .error e => CX outer H s E e s'
structure FnOk (P : Program) (w : World) (K : PySem.W.Frag) (mg : Str → Option Value) (base : Heap) (CX : CXT) (k : Nat) (f : Addr) (fd : FuncData) (ps : List Str) (sp : Sp) : Prop where
 len : ∀ vs H Q E, sp vs H Q E → vs.length = ps.length
 run : ∀ (A : Around) (outer : List Env) (s : Shared) (H : Hp) (args : Args) (us : List Value) (vs : List V) (Q : VK) (E : XK), Room k A → Env0 P w K mg base A outer s H → BindsTo s fd args (ps.zip us) → B8 vs us → sp vs H Q E →
  codeAny (model P w) A (.call (.ref f) args) (CR CX outer P w H s Q E) s
theorem FnOk.mono {P : Program} {w : World} {K : PySem.W.Frag} {mg : Str → Option Value} {base : Heap} {CX : CXT} {j k : Nat} {f : Addr} {fd : FuncData} {ps : List Str} {sp : Sp} (F : FnOk P w K mg base CX j f fd ps sp) (h : j ≤ k) :
  FnOk P w K mg base CX k f fd ps sp := ⟨F.len, fun A outer s H args us vs Q E hr => F.run A outer s H args us vs Q E (hr.mono h)⟩
section
variable {X : Cx} {pins : List (Addr × Obj)} {σ : St} {H : Hp} {s s' : Shared}
theorem Inv.env0 (I : Inv X pins σ H s) : Env0 X.prog X.w X.K X.mg X.base X.A X.stack s H :=
 ⟨I.ok.frames, I.ok.mod, I.bs, Nat.le_trans I.ok.bsz I.sz, I.stack, I.stkFree, I.hok, I.bare⟩
theorem Inv.after {Q : VK} {u : Value} (I : Inv X pins σ H s) (h : CE X.stack X.prog X.w H s Q u s') : EP X pins σ Q u s' := by
 obtain ⟨v, H', os, bare, un, hok, r, q⟩ := h
 obtain ⟨hh, g, d, t, os'⟩ := s'
 obtain rfl : os' = s.os := os
 exact ⟨v, H', I.call (h' := hh) (g' := g) (d' := d) (t' := t) (ch := []) un hok bare (fun b z => absurd z (by simp)), r, q⟩
end
noncomputable def bk5 (sp : Sp) (dvs : List V) (E : XK) (t : TA) : TE := fun σ H Q => t σ H fun vs H1 => sp (vs ++ dvs) H1 Q E
noncomputable def o0 (K : PySem.W.Frag) (fd : FuncData) (ps : List Str) (ds : List Value) : Prop :=
 ∀ (s : Shared) (us : List Value), K.In s.heap → (us ++ ds).length = ps.length → BindsTo s fd ⟨us, []⟩ (ps.zip (us ++ ds))
theorem o0.all {K : PySem.W.Frag} {fd : FuncData} {ps : List Str} (h : ∀ us : List Value, us.length = ps.length → bindArgs fd ⟨us, []⟩ = pure (ps.zip us)) : o0 K fd ps [] := fun s us _ hl => by
 rw [List.append_nil] at hl ⊢
 exact .of_eq (h us hl)
noncomputable def at7 (CX : CXT) (X : Cx) (E : XK) : Prop := ∀ (pins : List (Addr × Obj)) (σ : St) (H : Hp) (s : Shared) (e : Value) (s' : Shared), Inv X pins σ H s → CX X.stack H s E e s' → X.xe e s'
section
variable {X : Cx} {CX : CXT} {k : Nat} {f C : Addr} {fd : FuncData} {ps : List Str} {sp : Sp} {dvs : List V} {ds : List Value} {E : XK} {x m : Str} {p pos apos : Pos} {e o : Expr} {es : List Expr} {ta : TE} {t : TA}
theorem aR4 {pins : List (Addr × Obj)} {σ : St} {H : Hp} {s : Shared} {Q : VK} {us : List Value} {vs : List V} (F : FnOk X.prog X.w X.K X.mg X.base CX k f fd ps sp) (hr : Room k X.A) (hb : o0 X.K fd ps ds) (hd : B8 dvs ds) (hx : at7 CX X E)
  (I : Inv X pins σ H s) (r : B8 vs us) (h : sp (vs ++ dvs) H Q E) : wpAny (model X.prog X.w) X.A (call (.ref f) us) (EP X pins σ Q) X.xe s := by
 have r2 : B8 (vs ++ dvs) (us ++ ds) := r.append hd
 have hl : (us ++ ds).length = ps.length := by rw [← r2.length]; exact F.len _ _ _ _ h
 refine wpAny_call (codeAny_mono (F.run X.A X.stack s H ⟨us, []⟩ (us ++ ds) (vs ++ dvs) Q E hr I.env0 (hb s us I.kIn hl) r2 h) fun r s' hq => ?_)
 cases r with
 | error e => exact hx pins σ H s e s' I hq
 | ok fl =>
  cases fl with
  | ret u => exact I.after hq
  | next => exact False.elim hq
  | brk => exact False.elim hq
  | cont => exact False.elim hq
theorem be2 (F : FnOk X.prog X.w X.K X.mg X.base CX k f fd ps sp) (hr : Room k X.A) (hg : Gl X x) (hm : X.mg x = some (.ref f)) (hk : PySem.W.keepIn X.K (.ref f) = true) (hb : o0 X.K fd ps ds) (hd : B8 dvs ds) (hx : at7 CX X E)
  (ha : PA X (e :: es) t) (hdb : (x == ("__debug__" : Str)) = false := by decide) (he : starEach (e :: es) X.env = (false, eval e X.env) :: starEach es X.env := by rfl) (hpl : (backTo pos (starEach es X.env)).any (·.1) = false := by rfl) :
  PE X (.Call (.Name x p) (e :: es) [] pos) (bk5 sp dvs E t) := by
 intro pins s σ H Q I h
 refine wpAny_Call_Name_kw (ar5 I hg hm ?_ hdb)
 refine PySem.W.callWith_K (h₀ := X.base) I.ok.mod.kin hk (thn (ha pos pins s σ H _ I h) fun us s1 ⟨vs, H1, I1, r, q⟩ => ⟨I1.kIn, ?_⟩) he hpl
 exact aR4 F hr hb hd hx I1 r q
theorem aS7 (F : FnOk X.prog X.w X.K X.mg X.base CX k f fd ps sp) (hr : Room k X.A) (hg : Gl X x) (hm : X.mg x = some (.ref f)) (hk : PySem.W.keepIn X.K (.ref f) = true) (hb : o0 X.K fd ps ds) (hd : B8 dvs ds) (hx : at7 CX X E)
  (hdb : (x == ("__debug__" : Str)) = false := by decide) : PE X (.Call (.Name x p) [] [] pos) (bk5 sp dvs E bC7) := by
 intro pins s σ H Q I h
 refine wpAny_Call_Name_kw (ar5 I hg hm ?_ hdb)
 exact PySem.W.callWith_K0 I.kIn hk (aR4 (us := []) F hr hb hd hx I .nil h)
end
section
variable {X : Cx} {CX : CXT} {k : Nat} {f C : Addr} {fd : FuncData} {ps ks : List Str} {sp : Sp} {E : XK} {x m : Str} {p pos apos kpos : Pos} {e o : Expr} {es : List Expr} {kws : List Keyword} {te ta : TE} {t tk : TA} {nm : Option Str}
variable {g : List Value → List Value → List Value} {gV : List V → List V → List V}
end
structure FnScope (N P : List Str) (sc : Scope) : Prop where
 kind : sc.kind = .function
 co : sc.isCoroutine = false
 gen : sc.isGenerator = false
 nd : N.Nodup
 pre : N.take P.length = P
 par : ∀ x ∈ P, sc.names.lookup x = some .local ∨ sc.names.lookup x = some .cell
 nofree : ∀ y ∈ sc.names, y.2 ≠ .free
theorem an0 {kindOf : Str → Option NameKind} {x : Str} : ∀ {binds : List (Str × Value)} {m : Str → Option Value}, (∀ v, (x, v) ∉ binds) → bindL kindOf binds m x = m x
 | [], _, _ => rfl
 | (n, v) :: r, m, h => by
  unfold bindL
  rw [an0 fun w hw => h w (List.mem_cons_of_mem _ hw)]
  split
  ·have : x ≠ n := by rintro rfl; exact h v List.mem_cons_self
   simp [this]
  ·rfl
theorem an2 {kindOf : Str → Option NameKind} {x : Str} : ∀ {binds : List (Str × Value)} {m : Str → Option Value}, (∀ v, (x, v) ∉ binds) → bindC kindOf binds m x = m x
 | [], _, _ => rfl
 | (n, v) :: r, m, h => by
  unfold bindC
  rw [an2 fun w hw => h w (List.mem_cons_of_mem _ hw)]
  split
  ·rfl
  ·have : x ≠ n := by rintro rfl; exact h v List.mem_cons_self
   simp [this]
theorem an1 {kindOf : Str → Option NameKind} {x : Str} {v : Value} : ∀ {P : List Str} {vs : List Value} {i : Nat} {m : Str → Option Value}, P.Nodup → P[i]? = some x → vs[i]? = some v → kindOf x = some .local →
  bindL kindOf (P.zip vs) m x = some v
 | [], _, _, _, _, h, _, _ => by simp at h
 | _ :: _, [], _, _, _, _, h, _ => by simp at h
 | p :: P, w :: vs, 0, m, nd, h1, h2, hk => by
  simp at h1 h2; subst h1; subst h2
  show bindL kindOf ((p, w) :: P.zip vs) m p = _
  unfold bindL
  rw [an0 fun v hv => (List.nodup_cons.mp nd).1 (List.of_mem_zip hv).1, if_pos hk]
  simp
 | p :: P, w :: vs, i + 1, m, nd, h1, h2, hk => by
  show bindL kindOf ((p, w) :: P.zip vs) m x = _
  unfold bindL
  exact an1 (i := i) (List.nodup_cons.mp nd).2 (by simpa using h1) (by simpa using h2) hk
theorem an3 {kindOf : Str → Option NameKind} {x : Str} {v : Value} : ∀ {P : List Str} {vs : List Value} {i : Nat} {m : Str → Option Value}, P.Nodup → P[i]? = some x → vs[i]? = some v → kindOf x ≠ some .local →
  bindC kindOf (P.zip vs) m x = some v
 | [], _, _, _, _, h, _, _ => by simp at h
 | _ :: _, [], _, _, _, _, h, _ => by simp at h
 | p :: P, w :: vs, 0, m, nd, h1, h2, hk => by
  simp at h1 h2; subst h1; subst h2
  show bindC kindOf ((p, w) :: P.zip vs) m p = _
  unfold bindC
  rw [an2 fun v hv => (List.nodup_cons.mp nd).1 (List.of_mem_zip hv).1, if_neg hk]
  simp
 | p :: P, w :: vs, i + 1, m, nd, h1, h2, hk => by
  show bindC kindOf ((p, w) :: P.zip vs) m x = _
  unfold bindC
  exact an3 (i := i) (List.nodup_cons.mp nd).2 (by simpa using h1) (by simpa using h2) hk
noncomputable def d9 (N : List Str) (vs : List V) : St := vs.map some ++ List.replicate (N.length - vs.length) none
noncomputable def aC6 (CX : CXT) (P : Program) (w : World) (K : PySem.W.Frag) (mg : Str → Option Value) (base : Heap) (N : List Str) (qual : Str) (scope : Scope) (f : Addr) (cd : Value) (A : Around) (outer : List Env) (s : Shared) (H : Hp) (E : XK) : Cx where
 prog := P
 w := w
 K := K
 mg := mg
 base := base
 A := A.deeper (envOfC qual scope s.heap.objs.size f cd)
 N := N
 s₀ := s
 H₀ := H
 env := envOfC qual scope s.heap.objs.size f cd
 outer := outer
 stack := envOfC qual scope s.heap.objs.size f cd :: outer
 ex := []
 calm := true
 fn := fun _ => true
 pn := []
 xe := fun e s' => wpAny (model P w) (A.deeper (envOfC qual scope s.heap.objs.size f cd)) (leaving (envOfC qual scope s.heap.objs.size f cd) e) (fun _ s'' => CX outer H s E e s'') (fun e' s'' => CX outer H s E e' s'') s'
theorem ay3 {sc : Scope} {n : Nat} {x : Str} (h : sc.names.lookup x = some .cell) : ∃ c, (cellsFrom n sc.names []).lookup x = some c := by
 have q := PySem.W.cellsFrom_some sc.names n [] (.inl h)
 exact Option.isSome_iff_exists.mp q
theorem aM5 {CX : CXT} {P : Program} {w : World} {K : PySem.W.Frag} {mg : Str → Option Value} {base : Heap} {N ps : List Str} {qual : Str} {scope : Scope} {f : Addr} {cd : Value} {A : Around} {outer : List Env} {s s1 : Shared} {H : Hp} {E : XK} {us : List Value} {vs : List V}
  (S : FnScope N ps scope) (hd : A.handled = none) (e0 : Env0 P w K mg base A outer s H) (hl : vs.length = ps.length) (r : B8 vs us)
  (x : InCallC s s.heap.objs.size (bindL (envOfC qual scope s.heap.objs.size f cd).kindOf (ps.zip us) fun _ => none) (cellsFrom (s.heap.objs.size + 1) scope.names []) (bindC (envOfC qual scope s.heap.objs.size f cd).kindOf (ps.zip us) fun _ => none) s1) :
  Inv (aC6 CX P w K mg base N qual scope f cd A outer s H E) [] (d9 N vs) H s1 := by
 have hpl : ps.length ≤ N.length := by have := congrArg List.length S.pre; rw [List.length_take] at this; omega
 obtain ⟨h1, tk, rfl, hk⟩ := x.done
 have noA : ∀ b : Addr, b ∉ (aC6 CX P w K mg base N qual scope f cd A outer s H E).ex := fun b z => absurd (show b ∈ ([] : List Addr) from z) (by simp)
 refine ⟨⟨e0.mod, S.kind, rfl, rfl, Nat.le_refl _, fun y z c h1 h2 => ?_, fun y hy => ?_, fun y c _ h => ?_, fun _ => hd, Around.frames_deeper e0.frames, .inr ⟨rfl, rfl⟩, fun b z => absurd z (noA b), e0.bs, e0.bsz, fun b _ _ => noA b, fun b z => absurd z (noA b), e0.funs, e0.frf⟩,
  rfl, e0.bare, Un.kept hk, ⟨_, x.toInCall.ns, fun i y v h1 h2 h3 => ?_⟩, fun y c h => ⟨_, x.cell y c h⟩, e0.hok.fresh (Nat.le_refl _), fun y c h => ?_, fun p hp => absurd (show p ∈ ([] : List (Addr × Obj)) from hp) (by simp), e0.hok.kept hk, ?_⟩
 ·exact name_of_addr x.apart (PySem.mem_of_lookup h1) (PySem.mem_of_lookup h2)
 ·have hy : scope.names.lookup y = some .cell ∨ scope.names.lookup y = some .free := hy
  rcases hy with hy | hy
  ·exact ay3 hy
  ·exact absurd rfl (S.nofree _ (PySem.mem_of_lookup hy))
 ·exact Nat.le_of_lt (x.above y c (PySem.mem_of_lookup h))
 ·have hi : i < vs.length := by
   unfold d9 at h2
   by_cases hi : i < vs.length
   ·exact hi
   ·rw [List.getElem?_append_right (by simpa using hi)] at h2
    rw [List.getElem?_replicate] at h2
    split at h2 <;> cases h2
  have ha : vs[i]? = some v := by
   unfold d9 at h2
   rw [List.getElem?_append_left (by simpa using hi), List.getElem?_map] at h2
   cases e : vs[i]? with
   | none => rw [e] at h2; cases h2
   | some a => rw [e] at h2; cases h2; rfl
  obtain ⟨u, hu, rv⟩ := r.get ha
  have hp : ps[i]? = some y := by
   rw [← S.pre, List.getElem?_take_of_lt (by omega)]; exact h1
  have ndP : ps.Nodup := by rw [← S.pre]; exact S.nd.sublist (List.take_sublist _ _)
  refine ⟨u, rv, ?_⟩
  rcases S.par y (List.mem_of_getElem? hp) with k | k
  ·exact .inl ⟨k, an1 ndP hp hu k⟩
  ·obtain ⟨c, e⟩ := ay3 (n := s.heap.objs.size + 1) k
   refine .inr ⟨.inl k, c, e, ?_⟩
   have q := x.cell y c e
   rw [an3 ndP hp hu (by show scope.names.lookup y ≠ _; rw [k]; decide)] at q
   exact q
 ·exact e0.hok.fresh (Nat.le_of_lt (x.above y c (PySem.mem_of_lookup h)))
 ·unfold d9
  show _ = N.length
  rw [List.length_append, List.length_map, List.length_replicate]
  omega
theorem bH9 {CX : CXT} {P : Program} {w : World} {K : PySem.W.Frag} {mg : Str → Option Value} {base : Heap} {k : Nat} {f : Addr} {name qual : Str} {params : Arguments} {body : List Stmt} {scope : Scope} {dV kV doc pm cdv ct oc : Value} {an od : Option Addr}
  {osl : Array (Option Value)} {N ps : List Str} {sp : Sp} (lk : K.lookup f = some ⟨oc, od, .func (PySem.W.fnOf name qual params body scope dV kV doc pm an cdv ct), osl⟩) (hcd : PySem.W.codeIn K cdv qual = true) (S : FnScope N ps scope)
  (len : ∀ vs H Q E, sp vs H Q E → vs.length = ps.length)
  (hbody : ∀ (A : Around) (outer : List Env) (s : Shared) (H : Hp) (vs : List V) (Q : VK) (E : XK), Room k (A.deeper (envOfC qual scope s.heap.objs.size f cdv)) → sp vs H Q E →
   ∃ t, PSs (aC6 CX P w K mg base N qual scope f cdv A outer s H E) body t ∧ t { nx := fun _ H' => Q .non H', rt := Q } (d9 N vs) H) :
  FnOk P w K mg base CX (k + 1) f (PySem.W.fnOf name qual params body scope dV kV doc pm an cdv ct) ps sp := by
 refine ⟨len, fun A outer s H args us vs Q E hr e0 hb r hsp => ?_⟩
 have hl := len _ _ _ _ hsp
 have KX : K.In s.heap := e0.mod.kin.keeps fun b o e => (e0.bs b o e).1
 have lim : s.heap.NoLimit := e0.mod.nolimit.keeps fun b o e => (e0.bs b o e).1
 have hkind : ∀ y ∈ ps.zip us, scope.names.lookup y.1 = some .local ∨ (scope.names.lookup y.1 = some .cell ∧ ((cellsFrom (s.heap.objs.size + 1) scope.names []).lookup y.1).isSome = true) := fun ⟨n, v⟩ hy => by
  rcases S.par n (List.of_mem_zip hy).1 with q | q
  ·exact .inl q
  ·exact .inr ⟨q, PySem.W.cellsFrom_some _ _ _ (.inl q)⟩
 refine codeAny_call_function hr.depth (KX _ _ lk) rfl S.co S.gen rfl (PySem.W.codeRec_of KX hcd) (hb _ _ _ _ ?_)
 refine wpAny_newFunctionEnv_cells S.kind hkind fun env he s1 x => ?_
 subst he
 refine ⟨lim.keeps x.toInCall.keep, codeAny_func ?_⟩
 obtain ⟨t, ht, hq⟩ := hbody A outer s H vs Q E (hr.deeper _) hsp
 have I : Inv (aC6 CX P w K mg base N qual scope f cdv A outer s H E) [] (d9 N vs) H s1 := aM5 S hr.hd e0 hl r x
 refine wpAny_mono (ht [] s1 (d9 N vs) H _ I hq) (fun fl s' hs => ?_) fun e s' hs => hs
 have fin : ∀ {σ' : St} {H' : Hp} {v : V} {u : Value}, Inv (aC6 CX P w K mg base N qual scope f cdv A outer s H E) [] σ' H' s' → L0 v u → Q v H' → CE outer P w H s Q u s' :=
  fun {σ' H' v u} J rv q => ⟨v, H', J.os, J.bare, J.base, J.hok, rv, q⟩
 cases fl with
 | ret u =>
  obtain ⟨v, σ', H', J, rv, q⟩ := hs
  exact fin J rv q
 | next =>
  obtain ⟨σ', H', J, q⟩ := hs
  exact fin (v := V.non) (u := Value.none) J rfl q
 | brk =>
  obtain ⟨_, _, _, q⟩ := hs
  exact False.elim q
 | cont =>
  obtain ⟨_, _, _, q⟩ := hs
  exact False.elim q
end L2
namespace L2
open PySem PySem.Spec PyProof.Rows
section
variable {X : Cx} {x : Str} {p pos : Pos} {e : Expr} {es : List Expr} {t : TA} {id T : String} {r : List V → Hp → VK → Prop}
noncomputable def tCB (r : List V → Hp → VK → Prop) (t : TA) : TE := fun σ H Q => t σ H fun vs H1 => r vs H1 Q
theorem O7 (hc : S4 X (.builtin id) r) (hg : Gl X x) (hm : X.mg x = none) (hv : bootBuiltins x = some (.builtin id)) (ha : PA X (e :: es) t) (hn : x ≠ "__name__" := by decide) (hdb : (x == ("__debug__" : Str)) = false := by decide)
  (he : starEach (e :: es) X.env = (false, eval e X.env) :: starEach es X.env := by rfl) (hpl : (backTo pos (starEach es X.env)).any (·.1) = false := by rfl) : PE X (.Call (.Name x p) (e :: es) [] pos) (tCB r t) := by
 intro pins s σ H Q I h
 refine wpAny_Call_Name_kw (i9 I hg hm hv ?_ hn hdb)
 exact PyProof.Rows.callWith_builtin1 (thn (ha pos pins s σ H _ I h) fun us s1 ⟨vs, H1, I1, r1, q1⟩ => hc pins s1 σ H1 vs us Q I1 r1 q1) he hpl
theorem W1 (hc : S4 X (.type T) r) (hg : Gl X x) (hm : X.mg x = none) (hv : bootBuiltins x = some (.type T)) (ha : PA X (e :: es) t) (hn : x ≠ "__name__" := by decide) (hdb : (x == ("__debug__" : Str)) = false := by decide)
  (he : starEach (e :: es) X.env = (false, eval e X.env) :: starEach es X.env := by rfl) (hpl : (backTo pos (starEach es X.env)).any (·.1) = false := by rfl) : PE X (.Call (.Name x p) (e :: es) [] pos) (tCB r t) := by
 intro pins s σ H Q I h
 refine wpAny_Call_Name_kw (i9 I hg hm hv ?_ hn hdb)
 exact PyProof.Rows.callWith_type1 (thn (ha pos pins s σ H _ I h) fun us s1 ⟨vs, H1, I1, r1, q1⟩ => hc pins s1 σ H1 vs us Q I1 r1 q1) he hpl
end
end L2
namespace HT
open PySem PyProof.Rows
section
open PySem.SeqAt
open PySem.AutoSeq1 (wpAny_loadPart')
open PySem.MeetsSeq PySem.MeetsSeq2 PySem.MeetsSeq3
end
section
variable {prog : Program} {w : World} {A : Around} {E : Value → Shared → Prop} {s : Shared}
theorem cat_tup {t b : Addr} {vs ws : List Value} {Q : Value → Shared → Prop} (ht : IsTup s.heap t vs.toArray) (hb : IsTup s.heap b ws.toArray) (hv : vs ≠ [])
  (h1 : ws = [] → Q (.ref t) s) (h2 : ws ≠ [] → Q (.ref s.heap.objs.size) { s with heap := s.heap.push { cls := .type "tuple", data := .seq (vs ++ ws).toArray } })
  (hsz : vs.length + ws.length ≤ sizeLine) : wpAny (model prog w) A (binaryOp .Add (.ref t) (.ref b)) Q E s := by
 obtain ⟨⟨cls, dd, data, sl⟩, ho, hc, n, hd⟩ := id ht
 obtain ⟨⟨cls2, dd2, data2, sl2⟩, ho2, hc2, n2, hd2⟩ := id hb
 simp only at hc hd hc2 hd2
 subst hc hd hc2 hd2
 have e : vs.toArray ++ ws.toArray = (vs ++ ws).toArray := by simp
 by_cases hw : ws = []
 ·exact concat_meets ⟨_, ho, rfl⟩ ⟨_, ho2, rfl⟩ noFill_tuple_add seq_tuple_add PySem.F.slot_tuple_add PySem.F.entry_tuple_add (PySem.F.args_tuple_add_2 _ _)
   (tuple_addW1 t b vs.toArray ws.toArray n n2 dd dd2 sl sl2 (by simpa using hv) (by simp [hw])) ⟨ho, ho2, h1 hw⟩
 ·refine concat_meets ⟨_, ho, rfl⟩ ⟨_, ho2, rfl⟩ noFill_tuple_add seq_tuple_add PySem.F.slot_tuple_add PySem.F.entry_tuple_add (PySem.F.args_tuple_add_2 _ _)
   (tuple_addW2 t b vs.toArray ws.toArray n n2 dd dd2 sl sl2 (by simpa using hv) (by simpa using hw) (by rw [List.size_toArray, List.size_toArray]; exact hsz)) ⟨ho, ho2, ?_⟩
  rw [e]
  exact h2 hw
noncomputable def sIx (n d : Nat) : Option Int → Nat
 | none => d
 | some v => if v < 0 then (v + (n : Int)).toNat else min v.toNat n
theorem bq5 (n d : Nat) (hd : d ≤ n) (o : Option Int) : sIx n d o ≤ n := by
 cases o with
 | none => exact hd
 | some v =>
  show (if v < 0 then (v + (n : Int)).toNat else min v.toNat n) ≤ n
  by_cases hv : v < 0
  ·rw [if_pos hv]; omega
  ·rw [if_neg hv]; exact Nat.min_le_right _ _
theorem aH8 (v : Int) (n d : Nat) : (if v < 0 then max (v + (n : Int)) 0 else min v (n : Int)) = ((sIx n d (some v) : Nat) : Int) := by
 show (if v < 0 then max (v + (n : Int)) 0 else min v (n : Int)) = (((if v < 0 then (v + (n : Int)).toNat else min v.toNat n) : Nat) : Int)
 by_cases hv : v < 0
 ·simp only [if_pos hv]; omega
 ·simp only [if_neg hv]; omega
theorem aE0 (lo hi : Option Int) (n : Nat) : Builtin.Slice.sliceAdjust lo hi 1 (n : Int) = (((sIx n 0 lo : Nat) : Int), ((sIx n n hi : Nat) : Int)) := by
 have h1 : ¬ ((1 : Int) < 0) := by omega
 unfold Builtin.Slice.sliceAdjust
 simp only [h1, if_false]
 refine Prod.ext ?_ ?_
 ·cases lo with
  | none => rfl
  | some v => exact aH8 v n 0
 ·cases hi with
  | none => rfl
  | some v => exact aH8 v n n
theorem aB6 (i j : Nat) : Builtin.Slice.slicePlaces (i : Int) (j : Int) 1 = j - i := by
 unfold Builtin.Slice.slicePlaces
 have h1 : (1 : Int) > 0 := by omega
 simp only [h1, if_true, Int.ediv_one]
 split <;> omega
theorem ah4 {v : Value} {o : Option Int} {Q : Option Int → Shared → Prop} (p : IsPart v o) (h : Q o s) : wpAny (model prog w) A (Builtin.Slice.slicePartIndex v) Q E s := by
 cases p with
 | none => exact slicePart_none h
 | int i t => exact slicePart_int h
theorem sliceApplied_gen {sl : Addr} {vl vu : Value} {lo hi : Option Int} {n : Nat} {Q : Int × Int × Nat → Shared → Prop} (hs : s.heap.IsSliceOf sl vl vu .none) (pl : IsPart vl lo) (pu : IsPart vu hi)
  (h : Q (((sIx n 0 lo : Nat) : Int), 1, sIx n n hi - sIx n 0 lo) s) : wpAny (model prog w) A (Builtin.Slice.sliceApplied (.ref sl) (pure (n : Int))) Q E s := by
 obtain ⟨os, hos, hcs, hds⟩ := id hs
 unfold Builtin.Slice.sliceApplied Builtin.Slice.sliceFields
 refine wpAny_bind (wpAny_bind (wpAny_field hos hds (x := vl) rfl (wpAny_bind (wpAny_field hos hds (x := vu) rfl (wpAny_bind (wpAny_field hos hds (x := .none) rfl (wpAny_pure ?_)))))))
 refine wpAny_bind (slicePart_none ?_)
 show wpAny _ _ (if ((1 : Int) == 0) = true then _ else _) _ _ s
 rw [if_neg (by decide)]
 refine wpAny_bind (ah4 pl (wpAny_bind (ah4 pu (wpAny_bind (wpAny_pure ?_)))))
 show wpAny _ _ (match Builtin.Slice.sliceAdjust lo hi 1 (n : Int) with | (lo, hi) => pure (lo, (1 : Int), Builtin.Slice.slicePlaces lo hi 1)) _ _ s
 rw [aE0 lo hi n]
 show wpAny _ _ (pure (((sIx n 0 lo : Nat) : Int), (1 : Int), Builtin.Slice.slicePlaces ((sIx n 0 lo : Nat) : Int) ((sIx n n hi : Nat) : Int) 1)) _ _ s
 rw [aB6]
 exact wpAny_pure h
theorem aS5 (xs : Array Value) (i k : Nat) : ((List.range k).filterMap fun (m : Nat) => xs[((i : Int) + (m : Int) * 1).toNat]?).toArray = ((xs.toList.drop i).take k).toArray := by
 have e : (fun (m : Nat) => xs[((i : Int) + (m : Int) * 1).toNat]?) = fun m => xs[i + m]? := by
  funext m
  have : ((i : Int) + (m : Int) * 1).toNat = i + m := by omega
  rw [this]
 rw [e]
 have := pick_run xs i k
 rw [List.filterMap_map] at this
 have e2 : ((fun x => xs[x]?) ∘ fun x => i + x) = fun m => xs[i + m]? := rfl
 rw [e2] at this
 rw [this]
theorem getItem_tuple_cut {t sl : Addr} {items : Array Value} {vl vu : Value} {lo hi : Option Int} {Q : Value → Shared → Prop} (ht : IsTup s.heap t items) (hs : s.heap.IsSliceOf sl vl vu .none) (pl : IsPart vl lo) (pu : IsPart vu hi)
  (hw : ¬ (sIx items.size 0 lo = 0 ∧ sIx items.size items.size hi = items.size))
  (h : Q (.ref s.heap.objs.size) { s with heap := s.heap.push { cls := .type "tuple", data := .seq ((items.toList.drop (sIx items.size 0 lo)).take (sIx items.size items.size hi - sIx items.size 0 lo)).toArray } })
  (hsz : items.size ≤ sizeLine) : wpAny (model prog w) A (getItem (.ref t) (.ref sl)) Q E s := by
 have htake : sizeOk (.seq ((items.toList.drop (sIx items.size 0 lo)).take (sIx items.size items.size hi - sIx items.size 0 lo)).toArray) := by
  show ((items.toList.drop (sIx items.size 0 lo)).take (sIx items.size items.size hi - sIx items.size 0 lo)).toArray.size ≤ sizeLine
  rw [List.size_toArray, List.length_take, List.length_drop, Array.length_toList]
  omega
 have hj : sIx items.size items.size hi ≤ items.size := bq5 _ _ (Nat.le_refl _) hi
 obtain ⟨os, hos, hcs, hds⟩ := id hs
 have hTs : s.TypeIs (.ref sl) "slice" := ⟨os, hos, hcs⟩
 unfold getItem
 try with_reducible refine wpAny_holding ?_
 first | refine wpAny_bind (wpAny_pure ?_) | skip
 refine wpAny_bind (wpAny_sequenceKey ht.typeIs (by decide) ?_)
 refine wpAny_bind (wpAny_callSpecial?_slot (name := Str.ofString "__getitem__") ht.typeIs PyProof.Rows.slot_tuple_getitem
  (wpAny_call_entry PyProof.Rows.slot_tuple_getitem ht.typeIs entry_tuple_getitem ?_ (args_tuple_getitem _ _)))
 show wpAny _ _ (Builtin.Tuple.tupleItemsOf (.ref t) >>= _) _ _ s
 refine wpAny_bind (tupleItemsOf_ ht ?_)
 refine wpAny_bind (wpAny_typeOf hTs ?_)
 rw [if_pos (by decide)]
 refine wpAny_bind (sliceApplied_gen hs pl pu ?_)
 have hno : ¬ ((((sIx items.size 0 lo : Nat) : Int) == 0 && (1 : Int) == 1 && (sIx items.size items.size hi - sIx items.size 0 lo) == items.size) = true) := by
  intro q
  rw [Bool.and_eq_true, Bool.and_eq_true] at q
  have q1 : ((sIx items.size 0 lo : Nat) : Int) = 0 := eq_of_beq q.1.1
  have q2 : sIx items.size items.size hi - sIx items.size 0 lo = items.size := eq_of_beq q.2
  exact hw ⟨by omega, by omega⟩
 show wpAny _ _ (if (((sIx items.size 0 lo : Nat) : Int) == 0 && (1 : Int) == 1 && (sIx items.size items.size hi - sIx items.size 0 lo) == items.size) = true then _ else _) _ _ s
 rw [if_neg hno, aS5]
 first
  | exact wpAny_bind (m := Builtin.Tuple.tupleExact _) (wpAny_newObj_type (wpAny_pure ⟨_, rfl, wpAny_pure h⟩) htake)
  | exact wpAny_bind (m := Builtin.Tuple.tupleExact _) (wpAny_newObj_type (wpAny_bind (wpAny_pure (wpAny_pure ⟨_, rfl, wpAny_pure h⟩))) htake)
  | exact wpAny_bind (wpAny_bind (m := Builtin.Tuple.tupleExact _) (wpAny_newObj_type (wpAny_pure (wpAny_pure ⟨_, rfl, wpAny_pure h⟩)) htake))
  | exact wpAny_bind (wpAny_bind (m := Builtin.Tuple.tupleExact _) (wpAny_newObj_type (wpAny_pure ⟨_, rfl, wpAny_pure h⟩) htake))
end
end HT
namespace L2
open PySem PySem.Spec PyProof.Rows
noncomputable abbrev TO := St → Hp → (Option Int → Hp → Prop) → Prop
noncomputable def PO (X : Cx) (e : Option Expr) (t : TO) : Prop :=
 ∀ (pins : List (Addr × Obj)) (s : Shared) (σ : St) (H : Hp) (Q : Option Int → Hp → Prop), Inv X pins σ H s → t σ H Q →
  wpAny (model X.prog X.w) X.A (evalPart e X.env) (fun u s' => ∃ o H', Inv X pins σ H' s' ∧ IsPart u o ∧ Q o H') X.xe s
noncomputable def bb9 : TO := fun _ H Q => Q none H
noncomputable def bC5 (t : TE) : TO := fun σ H Q => t σ H fun x H1 => ∃ i, x = .int i ∧ Q (some i) H1
section
variable {X : Cx} {e : Expr} {te : TE} {lo hi : Option Expr} {tl th : TO} {pos p2 : Pos}
theorem bd5 : PO X none bb9 := by
 intro pins s σ H Q I h
 rw [evalPart_none]
 exact wpAny_pure ⟨none, H, I, .none, h⟩
theorem bd4 (h : PE X e te) : PO X (some e) (bC5 te) := by
 intro pins s σ H Q I hw
 rw [evalPart_some]
 refine thn (h pins s σ H _ I hw) fun u s1 ⟨x, H1, I1, r1, q1⟩ => ?_
 obtain ⟨i, rfl, q⟩ := q1
 obtain ⟨t, rfl⟩ := r1
 exact ⟨some i, H1, I1, .int i t, q⟩
noncomputable def SlR (X : Cx) (r : V → Option Int → Option Int → Hp → VK → Prop) : Prop :=
 ∀ (pins : List (Addr × Obj)) (s : Shared) (σ : St) (H : Hp) (x : V) (v vl vu : Value) (lo hi : Option Int) (sl : Addr) (Q : VK), Inv X pins σ H s → L0 x v → s.heap.IsSliceOf sl vl vu .none → IsPart vl lo → IsPart vu hi → r x lo hi H Q →
  ∃ T id, typeLookup (.type T) "__getitem__" = pure (some (.builtin id)) ∧ s.TypeIs v T ∧ wpAny (model X.prog X.w) X.A (getItem v (.ref sl)) (EP X pins σ Q) X.xe s
theorem SlR.or {r r' : V → Option Int → Option Int → Hp → VK → Prop} (h : SlR X r) (h' : SlR X r') : SlR X (fun x lo hi H Q => r x lo hi H Q ∨ r' x lo hi H Q) := by
 intro pins s σ H x v vl vu lo hi sl Q I rx hs pl pu q
 rcases q with q | q
 ·exact h pins s σ H x v vl vu lo hi sl Q I rx hs pl pu q
 ·exact h' pins s σ H x v vl vu lo hi sl Q I rx hs pl pu q
noncomputable def tSl (r : V → Option Int → Option Int → Hp → VK → Prop) (te : TE) (tl th : TO) : TE := fun σ H Q => te σ H fun x H1 => tl σ H1 fun l H2 => th σ H2 fun u H3 => r x l u H3 Q
theorem v7 {r : V → Option Int → Option Int → Hp → VK → Prop} (hr : SlR X r) (he : PE X e te) (hl : PO X lo tl) (hu : PO X hi th) : PE X (.Subscript e (.Slice lo hi none p2) pos) (tSl r te tl th) := by
 intro pins s σ H Q I h
 refine Subscript_ (thn (he pins s σ H _ I h) fun v s1 ⟨x, H1, I1, r1, q1⟩ => ?_)
 refine wpAny_Slice (thn (hl pins s1 σ H1 _ I1 q1) fun vl s2 ⟨l, H2, I2, pl, q2⟩ => thn (hu pins s2 σ H2 _ I2 q2) fun vu s3 ⟨u, H3, I3, pu, q3⟩ => ?_)
 rw [evalPart_none]
 refine wpAny_pure ?_
 have I4 : Inv X pins σ H3 { s3 with heap := s3.heap.push { cls := .type "slice", data := .fields #[vl, vu, .none] } } := I3.kept (t' := s3.toks) fun b ob q => Heap.get?_push_of_some _ q
 obtain ⟨T, id, hT, ht, hg⟩ := hr pins { s3 with heap := s3.heap.push { cls := .type "slice", data := .fields #[vl, vu, .none] } } σ H3 x v vl vu l u s3.heap.objs.size Q I4 r1 (Heap.IsSliceOf.new ..) pl pu q3
 show wpAny (model X.prog X.w) X.A (subscriptTail e (.Slice lo hi none p2) v (.ref s3.heap.objs.size)) (EP X pins σ Q) X.xe { s3 with heap := s3.heap.push { cls := .type "slice", data := .fields #[vl, vu, .none] } }
 exact tail_any (ops := [.ref s3.heap.objs.size, v]) ht hT hg (by with_unfolding_all rfl)
noncomputable def ay0 (xs : List V) (lo hi : Option Int) : List V := (xs.drop (HT.sIx xs.length 0 lo)).take (HT.sIx xs.length xs.length hi - HT.sIx xs.length 0 lo)
theorem af0 (xs : List V) (lo hi : Option Int) : (ay0 xs lo hi).length ≤ xs.length := by
 unfold ay0
 rw [List.length_take, List.length_drop]
 omega
noncomputable def bK6 (K : PySem.W.Frag) : V → Option Int → Option Int → Hp → VK → Prop := fun x lo hi H Q => ∃ a xs, x = .ref a ∧ SqT K H a xs ∧
 ¬ (HT.sIx xs.length 0 lo = 0 ∧ HT.sIx xs.length xs.length hi = xs.length) ∧ ∀ p, H p = none → Q (.ref p) (upd H p (.tup (ay0 xs lo hi)))
theorem bq4 : SlR X (bK6 X.K) := by
 intro pins s σ H x v vl vu lo hi sl Q I rx hs pl pu h
 obtain ⟨a, xs, rfl, hx, hw, q⟩ := h
 cases rx
 obtain ⟨its, r, ht, hz⟩ := I.tuple hx
 have hlen : its.toArray.size = xs.length := by rw [List.size_toArray]; exact r.length.symm
 refine ⟨"tuple", _, PyProof.Rows.slot_tuple_getitem.lookup, ht.typeIs, ?_⟩
 refine HT.getItem_tuple_cut ht hs pl pu (by rw [hlen]; exact hw) ?_ (by rw [hlen]; exact hz)
 rw [hlen]
 refine ⟨.ref s.heap.objs.size, _, I.laid (t' := s.toks) (o := .tup (ay0 xs lo hi)) (fun b ob q => Heap.get?_push_of_some _ q) (Nat.le_refl _) ?_, rfl, q _ (I.hok.fresh (Nat.le_refl _))⟩
 exact ⟨Nat.le_trans (af0 xs lo hi) hz, _, (r.drop (HT.sIx xs.length 0 lo)).take (HT.sIx xs.length xs.length hi - HT.sIx xs.length 0 lo), IsTup.new _ _⟩
noncomputable def bE1 (K : PySem.W.Frag) : R2 := fun x y H Q => ∃ a b xs ys, x = .ref a ∧ y = .ref b ∧ SqT K H a xs ∧ SqT K H b ys ∧ xs ≠ [] ∧ xs.length + ys.length ≤ sizeLine ∧
 (ys = [] → Q (.ref a) H) ∧ (ys ≠ [] → ∀ p, H p = none → Q (.ref p) (upd H p (.tup (xs ++ ys))))
theorem B8.nil_iff {xs : List V} {us : List Value} (r : B8 xs us) : us = [] ↔ xs = [] := by
 cases r with
 | nil => simp
 | cons _ _ => simp
theorem be8 : OpR X (binaryOp .Add) (bE1 X.K) := by
 intro pins s σ H x y v u Q I rx ry h
 obtain ⟨a, b, xs, ys, rfl, rfl, ha, hb, hx, hz, q1, q2⟩ := h
 cases rx
 cases ry
 obtain ⟨its, r1, p1, _⟩ := I.tuple ha
 obtain ⟨its2, r2, p2, _⟩ := I.tuple hb
 refine HT.cat_tup p1 p2 (fun z => hx (r1.nil_iff.mp z)) (fun z => ⟨.ref a, H, I, rfl, q1 (r2.nil_iff.mp z)⟩) (fun z => ?_) (by rw [← r1.length, ← r2.length]; exact hz)
 refine ⟨.ref s.heap.objs.size, _, I.laid (t' := s.toks) (o := .tup (xs ++ ys)) (fun b ob q => Heap.get?_push_of_some _ q) (Nat.le_refl _) ?_, rfl, q2 (fun w => z (r2.nil_iff.mpr w)) _ (I.hok.fresh (Nat.le_refl _))⟩
 exact ⟨by rw [List.length_append]; exact hz, _, r1.append r2, IsTup.new _ _⟩
end
end L2
namespace L2
open PySem PySem.Spec PyProof.Rows
noncomputable def ixN (n : Nat) (i : Int) : Option Nat := if 0 ≤ i then (if i < n then some i.toNat else none) else if -(n : Int) ≤ i then some (i + n).toNat else none
noncomputable def atI {α : Type} (xs : List α) (i : Int) : Option α := (ixN xs.length i).bind fun j => xs[j]?
theorem bi8 {n : Nat} {i : Int} {j : Nat} (h : ixN n i = some j) : seqIndex? i n = some j ∧ j < n ∧ -(n : Int) ≤ i ∧ i < n := by
 unfold ixN at h
 by_cases h0 : 0 ≤ i
 ·rw [if_pos h0] at h
  by_cases h1 : i < n
  ·rw [if_pos h1] at h
   have e : i.toNat = j := Option.some.inj h
   exact ⟨by rw [seqIndex_of h0 h1, e], by omega, by omega, h1⟩
  ·rw [if_neg h1] at h; cases h
 ·rw [if_neg h0] at h
  by_cases h1 : -(n : Int) ≤ i
  ·rw [if_pos h1] at h
   have e : (i + n).toNat = j := Option.some.inj h
   exact ⟨by rw [seqIndex_neg (by omega) h1, e], by omega, h1, by omega⟩
  ·rw [if_neg h1] at h; cases h
theorem at5 {α : Type} {xs : List α} {i : Int} {v : α} (h : atI xs i = some v) : ∃ j, seqIndex? i xs.length = some j ∧ xs[j]? = some v ∧ j < xs.length ∧ -(xs.length : Int) ≤ i ∧ i < xs.length := by
 unfold atI at h
 cases e : ixN xs.length i with
 | none => rw [e] at h; cases h
 | some j =>
  rw [e] at h
  obtain ⟨h1, h2, h3, h4⟩ := bi8 e
  exact ⟨j, h1, h, h2, h3, h4⟩
theorem bk1 {α : Type} {xs : List α} {j : Nat} {v : α} (h : xs[j]? = some v) : atI xs (j : Int) = some v := by
 have hj : j < xs.length := (List.getElem?_eq_some_iff.mp h).1
 have e : ixN xs.length (j : Int) = some j := by
  unfold ixN
  rw [if_pos (by omega), if_pos (by omega)]; simp
 unfold atI; rw [e]; exact h
noncomputable def ag8 (b : Expr) : Prop := ∀ o i, subscripted b false o i = operate [o, i] (getItem o i)
noncomputable def IxR (X : Cx) (r : R2) : Prop :=
 ∀ (value slice : Expr) (pins : List (Addr × Obj)) (s : Shared) (σ : St) (H : Hp) (x y : V) (v u : Value) (Q : VK), Inv X pins σ H s → L0 x v → L0 y u → r x y H Q →
  subscripted slice false v u = operate [v, u] (getItem v u) → wpAny (model X.prog X.w) X.A (subscriptTail value slice v u) (EP X pins σ Q) X.xe s
noncomputable def MtR (X : Cx) (id : String) (r : V → List V → Hp → VK → Prop) : Prop :=
 ∀ (pins : List (Addr × Obj)) (s : Shared) (σ : St) (H : Hp) (x : V) (xs : List V) (v : Value) (us : List Value) (Q : VK), Inv X pins σ H s → L0 x v → B8 xs us → r x xs H Q →
  wpAny (model X.prog X.w) X.A (call (.builtin id) (v :: us)) (EP X pins σ Q) X.xe s
section
variable {X : Cx} {a b : Expr} {ta tb : TE} {pos : Pos}
theorem IxR.or {r r' : R2} (h : IxR X r) (h' : IxR X r') : IxR X (fun x y H Q => r x y H Q ∨ r' x y H Q) := by
 intro value slice pins s σ H x y v u Q I rx ry q hs
 rcases q with q | q
 ·exact h value slice pins s σ H x y v u Q I rx ry q hs
 ·exact h' value slice pins s σ H x y v u Q I rx ry q hs
theorem bl4 {r : R2} (hr : IxR X r) (ha : PE X a ta) (hb : PE X b tb) (hs : ag8 b) : PE X (.Subscript a b pos) (tOp r ta tb) := by
 intro pins s σ H Q I h
 exact Subscript_ (bA3 ha hb I h fun v u s2 x y H2 I2 rx ry q => hr a b pins s2 σ H2 x y v u Q I2 rx ry q (hs _ _))
noncomputable def bE0 (K : PySem.W.Frag) : R2 := fun x y H Q => ∃ p xs i v, x = .ref p ∧ y = .int i ∧ SqL K H p xs ∧ atI xs i = some v ∧ Q v H
noncomputable def bD8 (K : PySem.W.Frag) : R2 := fun x y H Q => ∃ p xs i v, x = .ref p ∧ y = .int i ∧ SqT K H p xs ∧ atI xs i = some v ∧ Q v H
noncomputable def bD9 : R2 := fun x y H Q => ∃ z i c, x = .str z ∧ y = .int i ∧ z.length ≤ sizeLine ∧ atI z.cps.toList i = some c ∧ Q (.str ⟨#[c]⟩) H
theorem bi7 : IxR X (bE0 X.K) := by
 intro value slice pins s σ H x y v u Q I rx ry h hs
 obtain ⟨p, xs, i, z, rfl, rfl, hq, he, q⟩ := h
 cases rx
 obtain ⟨t, rfl⟩ := ry
 obtain ⟨its, r, pl, hz⟩ := I.list hq
 obtain ⟨j, h1, h2, h3, h4, h5⟩ := at5 he
 obtain ⟨w, ew, rw'⟩ := r.get h2
 have hl := r.length
 have hn := ad6
 have fin : EP X pins σ Q w s := ⟨z, H, I, rw', q⟩
 by_cases h0 : 0 ≤ i
 ·have hj : i.toNat = j := by
   rw [seqIndex_of h0 h5] at h1
   exact Option.some.inj h1
  exact item_listR pl.isList h0 (by omega) (by rw [hj]; simpa using ew) fin hs
 ·have hj : (i + (its.toArray.size : Int)).toNat = j := by
   rw [seqIndex_neg (by omega) h4] at h1
   rw [List.size_toArray, ← hl]
   exact Option.some.inj h1
  exact subscriptTail_builtinR (x := w) pl.isList.typeIs slot_list_getitem.lookup
   (wpAny_getItem_list_neg (Q := fun r s' => r = w ∧ EP X pins σ Q r s') pl.isList (by omega) (by rw [List.size_toArray] <;> omega) (by omega) (by rw [hj]; simpa using ew) ⟨rfl, fin⟩) hs
theorem bz0 : IxR X (bD8 X.K) := by
 intro value slice pins s σ H x y v u Q I rx ry h hs
 obtain ⟨p, xs, i, z, rfl, rfl, hq, he, q⟩ := h
 cases rx
 obtain ⟨t, rfl⟩ := ry
 obtain ⟨its, r, pl, hz⟩ := I.tuple hq
 obtain ⟨j, h1, h2, h3, h4, h5⟩ := at5 he
 obtain ⟨w, ew, rw'⟩ := r.get h2
 have hl := r.length
 have hn := ad6
 have fin : EP X pins σ Q w s := ⟨z, H, I, rw', q⟩
 exact subscriptTail_builtinR (x := w) pl.typeIs slot_tuple_getitem.lookup
  (getItem_tuple (j := j) (Q := fun r s' => r = w ∧ EP X pins σ Q r s') pl (by omega) (by omega) (by rw [List.size_toArray, ← hl]; exact h1) (by simpa using ew) ⟨rfl, fin⟩) hs
theorem bz1 : IxR X bD9 := by
 intro value slice pins s σ H x y v u Q I rx ry h hs
 obtain ⟨z, i, c, rfl, rfl, hz, he, q⟩ := h
 obtain ⟨t, rfl⟩ := rx
 obtain ⟨t', rfl⟩ := ry
 obtain ⟨j, h1, h2, h3, h4, h5⟩ := at5 he
 have hl : z.cps.toList.length = z.length := by simp [Str.length]
 rw [hl] at h1 h4 h5
 have hn := ad6
 exact tail_any (typeIs_str s z t) slot_str_getitem.lookup (getItem_str (c := c) (by
  have e1 : decide (i < -(2 ^ 63 : Int)) = false := decide_eq_false (by omega)
  have e2 : decide (i ≥ 2 ^ 63) = false := decide_eq_false (by omega)
  rw [e1, e2, Bool.or_false]) (by rw [h1]; simpa using h2) ⟨.str ⟨#[c]⟩, H, I.tok _, ⟨_, rfl⟩, q⟩) hs
noncomputable def rIx (K : PySem.W.Frag) : R2 := fun x y H Q => bE0 K x y H Q ∨ bD8 K x y H Q ∨ bD9 x y H Q
theorem aX3 : IxR X (rIx X.K) := bi7.or (bz0.or bz1)
theorem u8 (lo hi : Option Int) (n : Nat) : (sliceBounds lo hi none n).1 = ((HT.sIx n 0 lo : Nat) : Int) ∧ (sliceBounds lo hi none n).2.1 = ((HT.sIx n n hi : Nat) : Int) ∧ (sliceBounds lo hi none n).2.2 = 1 := by
 refine ⟨?_, ?_, rfl⟩
 ·cases lo with
  | none => simp [sliceBounds, HT.sIx]
  | some i =>
   simp only [sliceBounds, HT.sIx, Option.getD_none, show (1 : Int) > 0 by decide, if_true]
   by_cases h : i < 0
   ·simp only [h, if_true] <;> omega
   ·simp only [h, if_false] <;> omega
 ·cases hi with
  | none => simp [sliceBounds, HT.sIx]
  | some i =>
   simp only [sliceBounds, HT.sIx, Option.getD_none, show (1 : Int) > 0 by decide, if_true]
   by_cases h : i < 0
   ·simp only [h, if_true] <;> omega
   ·simp only [h, if_false] <;> omega
theorem ak3 (its : List Value) (lo hi : Option Int) : slicePick its.toArray lo hi none = ((its.drop (HT.sIx its.length 0 lo)).take (HT.sIx its.length its.length hi - HT.sIx its.length 0 lo)).toArray := by
 obtain ⟨h1, h2, h3⟩ := u8 lo hi its.toArray.size
 unfold slicePick
 rw [h1, h2, h3]
 simp only [sliceRange_one, pick_run, List.size_toArray] <;> rfl
noncomputable def bK7 (K : PySem.W.Frag) : V → Option Int → Option Int → Hp → VK → Prop := fun x lo hi H Q => ∃ a xs, x = .ref a ∧ SqL K H a xs ∧ ∀ p, H p = none → Q (.ref p) (upd H p (.lst (ay0 xs lo hi)))
theorem aE8 : SlR X (bK7 X.K) := by
 intro pins s σ H x v vl vu lo hi sl Q I rx hs pl pu h
 obtain ⟨a, xs, rfl, hx, q⟩ := h
 cases rx
 obtain ⟨its, r, ht, hz⟩ := I.list hx
 have hlen := r.length
 refine ⟨"list", _, slot_list_getitem.lookup, ht.isList.typeIs, ?_⟩
 refine wpAny_getItem_list_slice ht.isList hs pl pu .none (by simp) ?_ (by rw [List.size_toArray] <;> omega)
 rw [ak3, ← hlen]
 refine ⟨.ref s.heap.objs.size, _, I.laid (t' := s.toks) (o := .lst (ay0 xs lo hi)) (fun b ob q => Heap.get?_push_of_some _ q) (Nat.le_refl _) ?_, rfl, q _ (I.hok.fresh (Nat.le_refl _))⟩
 exact ⟨Nat.le_trans (af0 xs lo hi) hz, _, 0, (r.drop (HT.sIx xs.length 0 lo)).take (HT.sIx xs.length xs.length hi - HT.sIx xs.length 0 lo), Heap.get?_push_size _ rfl⟩
noncomputable def n9 : V → Bool
 | .non => true
 | .bl _ => true
 | .int _ => true
 | .str _ => true
 | _ => false
noncomputable def eqV : V → V → Bool
 | .non, .non => true
 | .bl a, .bl b => a == b
 | .bl a, .int b => (if a then 1 else 0) == b
 | .int a, .bl b => a == (if b then 1 else 0)
 | .int a, .int b => a == b
 | .str a, .str b => a == b
 | _, _ => false
theorem bz7 {A : Around} {s : Shared} {y x : V} {u v : Value} (ry : L0 y u) (rx : L0 x v) (fy : n9 y = true) (fx : n9 x = true) : SeqAt.EqAt A s u v (eqV y x) := by
 cases y with
 | non =>
  cases ry
  cases x with
  | non => cases rx; exact SeqAt.EqAt.same _
  | bl b => cases rx; exact SeqAt.EqAt.none_bool b
  | int b => obtain ⟨t, rfl⟩ := rx; exact SeqAt.EqAt.none_int b t
  | str b => obtain ⟨t, rfl⟩ := rx; exact SeqAt.EqAt.none_str b t
  | _ => exact absurd (show false = true from fx) Bool.false_ne_true
 | bl a =>
  cases ry
  cases x with
  | non => cases rx; exact SeqAt.EqAt.bool_none a
  | bl b => cases rx; exact SeqAt.EqAt.bool_bool a b
  | int b => obtain ⟨t, rfl⟩ := rx; exact SeqAt.EqAt.bool_int a b t
  | str b => obtain ⟨t, rfl⟩ := rx; exact SeqAt.EqAt.bool_str a b t
  | _ => exact absurd (show false = true from fx) Bool.false_ne_true
 | int a =>
  obtain ⟨t', rfl⟩ := ry
  cases x with
  | non => cases rx; exact SeqAt.EqAt.int_none a t'
  | bl b => cases rx; exact SeqAt.EqAt.int_bool a t' b
  | int b => obtain ⟨t, rfl⟩ := rx; exact SeqAt.EqAt.int_int a t' b t
  | str b => obtain ⟨t, rfl⟩ := rx; exact SeqAt.EqAt.int_str a t' b t
  | _ => exact absurd (show false = true from fx) Bool.false_ne_true
 | str a =>
  obtain ⟨t', rfl⟩ := ry
  cases x with
  | non => cases rx; exact SeqAt.EqAt.str_none a t'
  | bl b => cases rx; exact SeqAt.EqAt.str_bool a t' b
  | int b => obtain ⟨t, rfl⟩ := rx; exact SeqAt.EqAt.str_int a t' b t
  | str b => obtain ⟨t, rfl⟩ := rx; exact SeqAt.EqAt.str_str a t' b t
  | _ => exact absurd (show false = true from fx) Bool.false_ne_true
 | _ => exact absurd (show false = true from fy) Bool.false_ne_true
noncomputable def eqU (x : V) (u : Value) : Bool := match u with
 | .none => eqV .non x
 | .bool b => eqV (.bl b) x
 | .int i _ => eqV (.int i) x
 | .str z _ => eqV (.str z) x
 | _ => false
theorem aY8 {x y : V} {u : Value} (r : L0 y u) (f : n9 y = true) : eqU x u = eqV y x := by
 cases y with
 | non => cases r; rfl
 | bl b => cases r; rfl
 | int i => obtain ⟨t, rfl⟩ := r; rfl
 | str z => obtain ⟨t, rfl⟩ := r; rfl
 | _ => exact absurd (show false = true from f) Bool.false_ne_true
theorem ab1 {x : V} : ∀ {xs : List V} {us : List Value}, B8 xs us → xs.all n9 = true → us.any (eqU x) = xs.any fun y => eqV y x
 | _, _, .nil, _ => rfl
 | y :: xs, u :: us, .cons r t, f => by
  rw [List.all_cons, Bool.and_eq_true] at f
  rw [List.any_cons, List.any_cons, aY8 r f.1, ab1 t f.2]
theorem i8 {A : Around} {s : Shared} {x : V} {v : Value} (rx : L0 x v) (fx : n9 x = true) : ∀ {xs : List V} {us : List Value}, B8 xs us → xs.all n9 = true → ∀ u ∈ us, SeqAt.EqAt A s u v (eqU x u)
 | _, _, .nil, _ => fun u hu => by cases hu
 | y :: xs, u :: us, .cons r t, f => fun u' hu => by
  rw [List.all_cons, Bool.and_eq_true] at f
  rcases List.mem_cons.mp hu with rfl | hu
  ·rw [aY8 r f.1]; exact bz7 r rx f.1 fx
  ·exact i8 rx fx t f.2 u' hu
noncomputable def inV (x : V) (xs : List V) : Bool := xs.any fun y => eqV y x
noncomputable def rIn (K : PySem.W.Frag) (neg : Bool) : R2 := fun x y H Q => ∃ p xs, y = .ref p ∧ (SqL K H p xs ∨ SqT K H p xs) ∧ n9 x = true ∧ xs.all n9 = true ∧ Q (.bl (if neg then !inV x xs else inV x xs)) H
theorem aK5 : OpR X (compareOp .In) (rIn X.K false) := by
 intro pins s σ H x y v u Q I rx ry h
 obtain ⟨p, xs, rfl, hq, fx, fs, q⟩ := h
 cases ry
 rcases hq with hq | hq
 ·obtain ⟨its, r, pl, hz⟩ := I.list hq
  refine SeqAt.in_listAt (eqU x) pl.isList (fun w hw => i8 rx fx r fs w (by simpa using hw)) ⟨.bl _, H, I, rfl, ?_⟩
  rw [show its.toArray.any (eqU x) = its.any (eqU x) by simp, ab1 r fs]
  exact q
 ·obtain ⟨its, r, pl, hz⟩ := I.tuple hq
  refine SeqAt.in_tupleAt (eqU x) pl (fun w hw => i8 rx fx r fs w (by simpa using hw)) ⟨.bl _, H, I, rfl, ?_⟩
  rw [show its.toArray.any (eqU x) = its.any (eqU x) by simp, ab1 r fs]
  exact q
theorem aq6 : OpR X (compareOp .NotIn) (rIn X.K true) := by
 intro pins s σ H x y v u Q I rx ry h
 obtain ⟨p, xs, rfl, hq, fx, fs, q⟩ := h
 cases ry
 rcases hq with hq | hq
 ·obtain ⟨its, r, pl, hz⟩ := I.list hq
  refine SeqAt.notIn_listAt (eqU x) pl.isList (fun w hw => i8 rx fx r fs w (by simpa using hw)) ⟨.bl _, H, I, rfl, ?_⟩
  rw [show its.toArray.any (eqU x) = its.any (eqU x) by simp, ab1 r fs]
  exact q
 ·obtain ⟨its, r, pl, hz⟩ := I.tuple hq
  refine SeqAt.notIn_tupleAt (eqU x) pl (fun w hw => i8 rx fx r fs w (by simpa using hw)) ⟨.bl _, H, I, rfl, ?_⟩
  rw [show its.toArray.any (eqU x) = its.any (eqU x) by simp, ab1 r fs]
  exact q
theorem at0 : S4 X (.builtin "len") (fun xs H Q => ∃ p ys, xs = [.ref p] ∧ (SqL X.K H p ys ∨ SqT X.K H p ys) ∧ Q (.int ys.length) H) := by
 intro pins s σ H xs us Q I r h
 obtain ⟨p, ys, rfl, hq, q⟩ := h
 obtain ⟨u, rfl, rx⟩ := W9 r
 cases rx
 have hn := ad6
 rcases hq with hq | hq
 ·obtain ⟨its, r', pl, hz⟩ := I.list hq
  have hlen := r'.length
  exact Calls.call_len_list pl.isList (by simp only [List.size_toArray] <;> omega) ⟨.int ys.length, H, I.tok _, ⟨s.toks + 1, by rw [List.size_toArray, hlen]⟩, q⟩
 ·obtain ⟨its, r', pl, hz⟩ := I.tuple hq
  have hlen := r'.length
  exact len_tuple pl (by simp only [List.size_toArray] <;> omega) ⟨.int ys.length, H, I.tok _, ⟨s.toks + 1, by rw [List.size_toArray, hlen]⟩, q⟩
theorem as9 : S4 X (.builtin "len") (fun xs H Q => ∃ z, xs = [.str z] ∧ z.length ≤ sizeLine ∧ Q (.int z.length) H) := by
 intro pins s σ H xs us Q I r h
 obtain ⟨z, rfl, hz, q⟩ := h
 obtain ⟨u, rfl, t, rfl⟩ := W9 r
 have hn := ad6
 exact len_str (by omega) ⟨.int z.length, H, I.tok _, ⟨_, rfl⟩, q⟩
theorem as8 : S4 X (.type "list") (fun xs H Q => ∃ p ys, xs = [.ref p] ∧ (SqL X.K H p ys ∨ SqT X.K H p ys) ∧ ∀ l, H l = none → Q (.ref l) (upd H l (.lst ys))) := by
 intro pins s σ H xs us Q I r h
 obtain ⟨p, ys, rfl, hq, q⟩ := h
 obtain ⟨u, rfl, rx⟩ := W9 r
 cases rx
 have fin : ∀ (its : List Value), B8 ys its → ys.length ≤ sizeLine → ∀ (h' : Heap) (c' : Nat), (∀ b o', s.heap.get? b = some o' → h'.get? b = some o') →
   h'.get? s.heap.objs.size = some { cls := .type "list", dict := none, data := .seq its.toArray c', slots := #[] } → EP X pins σ Q (.ref s.heap.objs.size) { s with heap := h' } := fun its r' hz h' c' kp e =>
  ⟨.ref s.heap.objs.size, _, I.laid (t' := s.toks) kp (Nat.le_refl _) (show V2 X.prog X.w _ h' _ (.lst ys) from ⟨hz, its, c', r', e⟩), rfl, q _ (I.hok.fresh (Nat.le_refl _))⟩
 rcases hq with hq | hq
 ·obtain ⟨its, r', pl, hz⟩ := I.list hq
  have hlen := r'.length
  obtain ⟨o, ho, hc, n, hd⟩ := pl.isList
  exact call_list_seq p (.inl rfl) ho hc hd (fun h' c' kp e => fin its r' hz h' c' kp e) (by simp only [List.size_toArray] <;> omega)
 ·obtain ⟨its, r', pl, hz⟩ := I.tuple hq
  have hlen := r'.length
  obtain ⟨o, ho, hc, n, hd⟩ := pl
  exact call_list_seq p (.inr rfl) ho hc hd (fun h' c' kp e => fin its r' hz h' c' kp e) (by simp only [List.size_toArray] <;> omega)
theorem ak9 : S4 X (.type "tuple") (fun xs H Q => ∃ p ys, xs = [.ref p] ∧ ((SqL X.K H p ys ∧ ∀ l, H l = none → Q (.ref l) (upd H l (.tup ys))) ∨ (SqT X.K H p ys ∧ Q (.ref p) H))) := by
 intro pins s σ H xs us Q I r h
 obtain ⟨p, ys, rfl, h⟩ := h
 obtain ⟨u, rfl, rx⟩ := W9 r
 cases rx
 rcases h with ⟨hq, q⟩ | ⟨hq, q⟩
 ·obtain ⟨its, r', pl, hz⟩ := I.list hq
  have hlen := r'.length
  refine call_tuple_list pl.isList (fun h' kp => ?_) (by simp only [List.size_toArray] <;> omega)
  have I1 : Inv X pins σ H { s with heap := h' } := I.kept (t' := s.toks) kp
  have I2 : Inv X pins σ (upd H h'.objs.size (.tup ys)) { s with heap := h'.push { cls := .type "tuple", data := .seq its.toArray } } :=
   I1.laid (t' := s.toks) (fun b o e => Heap.get?_push_of_some _ e) (Nat.le_refl _) (show V2 X.prog X.w _ _ _ (.tup ys) from ⟨hz, its, r', IsTup.new _ _⟩)
  exact ⟨.ref h'.objs.size, _, I2, rfl, q _ (I1.hok.fresh (Nat.le_refl _))⟩
 ·obtain ⟨its, r', pl, hz⟩ := I.tuple hq
  exact call_tuple_same pl ⟨.ref p, H, I, rfl, q⟩
noncomputable def tyV (K : PySem.W.Frag) (T : String) (x : V) (H : Hp) : Prop := match x with
 | .str _ => T = "str"
 | .int _ => T = "int"
 | .ref p => (T = "list" ∧ ∃ xs, SqL K H p xs) ∨ (T = "tuple" ∧ ∃ o, K.lookup p = some o ∧ o.cls = .type "tuple" ∧ o.dict = none) ∨
   (T = "dict" ∧ ((∃ kvs, H p = some (.dK kvs)) ∨ ∃ kvs, H p = some (.dT kvs))) ∨ (T = "set" ∧ ∃ S n, H p = some (.set S n))
 | _ => False
theorem bo0 {pins : List (Addr × Obj)} {σ : St} {H : Hp} {s : Shared} {T : String} {x : V} {v : Value} (I : Inv X pins σ H s) (r : L0 x v) (ty : tyV X.K T x H) :
  s.TypeIs v T ∧ ∀ a, v = .ref a → ∃ ob, s.heap.get? a = some ob ∧ ob.dict = none := by
 cases x with
 | str z =>
  obtain ⟨t, rfl⟩ := r
  cases (show T = "str" from ty)
  exact ⟨typeIs_str s z t, fun _ e => nomatch e⟩
 | int i =>
  obtain ⟨t, rfl⟩ := r
  cases (show T = "int" from ty)
  exact ⟨typeIs_int s i t, fun _ e => nomatch e⟩
 | ref p =>
  cases r
  rcases ty with ⟨rfl, xs, hq⟩ | ⟨rfl, o, hk, hc, hd⟩ | ⟨rfl, hk⟩ | ⟨rfl, S, n, hk⟩
  ·obtain ⟨its, _, pl, _⟩ := I.list hq
   refine ⟨pl.isList.typeIs, fun a e => ?_⟩
   cases e
   obtain ⟨o, n, e, c, hd, _⟩ := pl
   exact ⟨o, e, hd⟩
  ·refine ⟨⟨o, I.kIn p o hk, hc⟩, fun a e => ?_⟩
   cases e
   exact ⟨o, I.kIn _ o hk, hd⟩
  ·have z : ∃ o, s.heap.get? p = some o ∧ o.ExactDict := by
    rcases hk with ⟨kvs, hk⟩ | ⟨kvs, hk⟩
    ·obtain ⟨_, _, _, _, o, _, _, e, ex, _⟩ := I.hok p _ hk
     exact ⟨o, e, ex⟩
    ·obtain ⟨_, _, _, _, o, _, _, e, ex, _⟩ := I.hok p _ hk
     exact ⟨o, e, ex⟩
   obtain ⟨o, e, ex⟩ := z
   refine ⟨⟨o, e, ex.1⟩, fun a e2 => ?_⟩
   cases e2
   exact ⟨o, e, ex.2.1⟩
  ·obtain ⟨o, _, _, _, e, ex, _⟩ := I.hok p _ hk
   refine ⟨⟨o, e, ex.1⟩, fun a e2 => ?_⟩
   cases e2
   exact ⟨o, e, ex.2.1⟩
 | _ => exact False.elim ty
noncomputable def tBM (K : PySem.W.Frag) (T : String) (r : V → List V → Hp → VK → Prop) (to : TE) (t : TA) : TE := fun σ H Q => to σ H fun x H1 => tyV K T x H1 ∧ t σ H1 fun xs H2 => r x xs H2 Q
variable {o e : Expr} {es : List Expr} {to : TE} {t : TA} {name : Str} {apos cpos : Pos} {T id : String} {r : V → List V → Hp → VK → Prop}
theorem aF8 (pa : PlainAttrs T) (slot : Slot T name id) (hty : typeOf (.builtin id) = pure (.type "method_descriptor")) (hm : MtR X id r) (ho : PE X o to) (ha : PA X (e :: es) t)
  (hbase : attributeBase o name X.env (eval o X.env) = eval o X.env := by rfl)
  (hfew : ((backTo cpos (starEach (e :: es) X.env)).all (fun x => !x.1) && (backToKw cpos (keywordEach [] X.env)).all (fun x => x.1.isSome)
   && decide ((e :: es).length + ([] : List Keyword).length + (if ([] : List Keyword).isEmpty then 0 else 1) < 30)) = true := by rfl)
  (hline : (apos.endLine == cpos.line) = true := by rfl) (hs : starEach (e :: es) X.env = (false, eval e X.env) :: starEach es X.env := by rfl) (hplain : (backTo cpos (starEach es X.env)).any (·.1) = false := by rfl) :
  PE X (.Call (.Attribute o name apos) (e :: es) [] cpos) (tBM X.K T r to t) := by
 intro pins s σ H Q I h
 refine wpAny_Call_method_late hbase hfew hline rfl (thn (ho pins s σ H _ I h) fun v s1 ⟨x, H1, I1, r1, ty, q1⟩ => ?_)
 obtain ⟨h1, h2⟩ := bo0 I1 r1 ty
 refine ⟨T, id, pa, slot, hty, h1, h2, ?_⟩
 have hA := ha cpos pins s1 σ H1 _ I1 q1
 rw [hs] at hA ⊢
 refine Calls.callWith_builtin (by show (false || (backTo cpos (starEach es X.env)).any (·.1)) = false; rw [hplain] <;> rfl) (Calls.evalArgs_plain ?_)
 exact thn hA fun us s2 ⟨vs, H2, I2, r2, q2⟩ => hm pins s2 σ H2 x vs v us Q I2 r1 r2 q2
end
end L2
namespace L2
open PySem PySem.Spec PyProof.Rows
noncomputable def MtM (X : Cx) (id : String) (r : V → List V → Hp → VK → Prop) : Prop :=
 ∀ (pins : List (Addr × Obj)) (s : Shared) (σ : St) (H : Hp) (x : V) (xs : List V) (v : Value) (us : List Value) (Q : VK), Inv X pins σ H s → L0 x v → B8 xs us → r x xs H Q →
  wpAny (model X.prog X.w) X.A (call (.builtin id) (v :: us)) (EP X pins σ Q) X.xe s
theorem B8.one : ∀ {x : V} {us : List Value}, B8 [x] us → ∃ u, us = [u] ∧ L0 x u
 | _, _, .cons r .nil => ⟨_, rfl, r⟩
theorem B8.rep {xs : List V} {us : List Value} (h : B8 xs us) : ∀ k : Nat, B8 (List.replicate k xs).flatten (List.replicate k us).flatten
 | 0 => .nil
 | k + 1 => by
  rw [List.replicate_succ, List.replicate_succ, List.flatten_cons, List.flatten_cons]
  exact B8.append h (B8.rep h k)
theorem am2 (its : List Value) : ∀ (k : Nat) (acc : List Value),
  List.foldl (fun x1 x2 => x1 ++ x2) acc.toArray (List.replicate k its.toArray) = (acc ++ (List.replicate k its).flatten).toArray
 | 0, acc => by simp
 | k + 1, acc => by
  have e : acc.toArray ++ its.toArray = (acc ++ its).toArray := by simp
  have e2 : (acc ++ its) ++ (List.replicate k its).flatten = acc ++ (List.replicate (k + 1) its).flatten := by
   rw [List.replicate_succ, List.flatten_cons, List.append_assoc]
  rw [← e2, ← am2 its k (acc ++ its), ← e, List.replicate_succ, List.foldl_cons]
section
variable {X : Cx} {pins : List (Addr × Obj)} {σ : St} {H : Hp} {s : Shared} {l b : Addr} {xs ys zs : List V}
theorem Inv.lset {its its' : List Value} {n : Nat} {f : Array Value → Array Value} {t' : Nat} (I : Inv X pins σ H s) (hH : H l = some (.lst xs))
  (e : s.heap.get? l = some { cls := .type "list", data := .seq its.toArray n }) (hf : f its.toArray = its'.toArray) (hv : B8 ys its') (hz : ys.length ≤ sizeLine) :
  Inv X pins σ (upd H l (.lst ys)) { s with heap := s.heap.update l (Obj.mapSeq f), toks := t' } := by
 have q := PySem.IsL.update e f
 rw [hf] at q
 refine I.write (x := l) (e := l) (by rw [hH]; exact trivial) (.inl rfl) (fun b' u hb hu => (Heap.get?_update_other s.heap (Obj.mapSeq f) (Ne.symm hb)).trans hu) ⟨_, q⟩ ?_
 exact ⟨hz, its', _, hv, q⟩
theorem Inv.lnew {its : List Value} {t' : Nat} (I : Inv X pins σ H s) (hv : B8 ys its) (hz : ys.length ≤ sizeLine) :
  Inv X pins σ (upd H s.heap.objs.size (.lst ys)) { s with heap := s.heap.push { cls := .type "list", data := .seq its.toArray }, toks := t' } :=
 I.laid (fun _ _ q => Heap.get?_push_of_some _ q) (Nat.le_refl _) ⟨hz, its, 0, hv, Heap.get?_push_size _ rfl⟩
theorem Inv.fresh (I : Inv X pins σ H s) : H s.heap.objs.size = none := I.hok.fresh (Nat.le_refl _)
theorem Inv.lstM (I : Inv X pins σ H s) (hH : H l = some (.lst xs)) : xs.length ≤ sizeLine ∧ ∃ (its : List Value) (n : Nat), B8 xs its ∧ xs.length = its.length ∧ s.heap.get? l = some { cls := .type "list", data := .seq its.toArray n } := by
 obtain ⟨z, its, n, r, e⟩ := I.hok l _ hH
 exact ⟨z, its, n, r, r.length, e⟩
theorem g9 {n : Nat} (h : n ≤ sizeLine) : Builtin.List.listTooLong n = false := by
 unfold Builtin.List.listTooLong
 exact decide_eq_false (by omega)
end
section
variable {X : Cx}
noncomputable def bc6 : V → List V → Hp → VK → Prop := fun x vs H Q => ∃ l xs y, x = .ref l ∧ vs = [y] ∧ H l = some (.lst xs) ∧ xs.length < sizeLine ∧ Q .non (upd H l (.lst (xs ++ [y])))
theorem al7 : MtM X "list.append" bc6 := by
 intro pins s σ H x vs v us Q I rx rv h
 obtain ⟨l, xs, y, rfl, rfl, hH, hz, q⟩ := h
 cases rx
 obtain ⟨u, rfl, ru⟩ := rv.one
 obtain ⟨z, its, n, r, hl, e⟩ := I.lstM hH
 refine call_meets F.slot_list_append ⟨_, e, rfl⟩ F.entry_list_append (F.args_list_append_2 _ _) (PySem.list_append l its.toArray n u (by rw [List.size_toArray]; omega)) ⟨e, ?_⟩
 refine ⟨.non, _, I.lset (its' := its ++ [u]) hH e (by simp) (r.append (.cons ru .nil)) ?_, rfl, q⟩
 rw [List.length_append, List.length_singleton]
 omega
theorem ar4 {α : Type} (xs : List α) (k : Nat) : (List.replicate k xs).flatten.length = k * xs.length := by
 induction k with
 | zero => simp
 | succ k ih => rw [List.replicate_succ, List.flatten_cons, List.length_append, ih, Nat.succ_mul, Nat.add_comm]
end
section
variable {prog : Program} {w : World} {A : Around} {E : Value → Shared → Prop} {s : Shared}
theorem aJ7 (its its2 : List Value) (a c : Nat) : its.toArray.extract 0 a ++ its2.toArray ++ its.toArray.extract c its.toArray.size = (its.take a ++ its2 ++ its.drop c).toArray := by
  apply Array.toList_inj.mp
  first
    | (simp
       exact List.take_of_length_le (by simp))
    | simp [List.take_of_length_le]
    | simp
set_option maxRecDepth 100000 in
end
section
variable {X : Cx}
end
end L2
namespace Att
open PySem PySem.W PySem.Calls PyProof.Rows
theorem af4 {P : Params} {h : Heap} : ∀ (ns : List Int) (vs : List Value), WellAll P h vs (ns.map WData.int) → IntsAre vs ns := by
 intro ns
 induction ns with
 | nil =>
  intro vs w
  rw [List.map_nil] at w
  cases w
  exact .nil
 | cons n ns ih =>
  intro vs w
  rw [List.map_cons] at w
  cases w with
  | cons a b =>
   cases a
   exact .cons _ _ (ih _ b)
theorem aK0 {l : OpenLaw} {n : Nat} (hn : l.most = some n) {P : Params} {h : Heap} {args : List WData} {vals : List Value}
  (hpre : l.row.toRowW.claim.pre args = true) (hwl : WellAll P h vals args) :
  ∃ a vs ns, vals = [Value.ref a] ∧ args = [WData.list (ns.map WData.int)] ∧ h.get? a = some { cls := .type "list", data := .seq vs.toArray } ∧ IntsAre vs ns ∧ ns.length ≤ n := by
 have hsh : WShape.hasAll [] args [.list .int] = true := (pre_splitW hpre).1
 have hc : l.pre.holds [] { args := args } = true := (pre_splitW hpre).2
 obtain ⟨d, r, rfl, h1, h2⟩ := hasAllW_cons hsh
 obtain rfl := hasAllW_nil h2
 obtain ⟨xs, rfl, h3⟩ := hasW_list h1
 obtain ⟨ns, rfl⟩ := items_int h3
 have hlen : ns.length ≤ n := by
  unfold OpenLaw.pre at hc
  have h4 : (WTm.not (.lt (.lit (.int (n : Int))) (.len (.arg 0)))).holds [] { args := [.list (ns.map .int)] } = true := by
   have h4 := (holds_andW hc).1
   rw [hn] at h4
   exact h4
  have h5 := condW_of h4 (w_not (w_lt w_lit (w_len_list (w_arg rfl))))
  rw [List.length_map] at h5
  refine Nat.le_of_not_lt fun q => ?_
  have q' : (n : Int) < ((ns.length : Nat) : Int) := by omega
  first
   | (rw [decide_eq_true q'] at h5; exact absurd h5 (by decide))
   | (simp at h5; omega)
 cases hwl with
 | cons w1 w2 =>
  cases w2
  cases w1 with
  | list ho hall => exact ⟨_, _, ns, rfl, rfl, ho, af4 ns _ hall, hlen⟩
theorem aK1 (l : OpenLaw) (args : List WData) : l.row.toRowW.claim.post args (.bool true) args = true :=
 postW_of (r := l.row.toRowW) (X := (true == true))
  (show WShape.has [] (.bool true) .bool = true by first | rfl | decide | simp [WShape.has, WShape.arms, WShape.armsAll])
  (show (WTm.eq .res (.lit (.bool true))).value [] { args := args, res := some (.bool true), after := args } = some (.bool (true == true)) from w_eq_bool (w_res rfl) w_lit) rfl
theorem attach_call {l : OpenLaw} {n : Nat} {q : Program} {loose : List Str} {XP : (Str → Option Value) → Heap → Prop} {YP : World → Heap → Prop} {d : DefRec}
  (hn : l.most = some n) (hdf : d.params.defaults = [])
  (call : ∀ (w : World) (s₀ s₁ : Shared) (mg mb : Str → Option Value) (fa : Addr) (o : Obj) (pm cd doc : Value) (a : Addr) (vs : List Value) (ns : List Int),
   Ground q loose [] XP w s₀ mg mb s₁.heap → YP w s₁.heap →
   s₁.heap.get? fa = some o → o.data = .func (docDef d.name d.params d.body d.scope pm cd doc) → s₁.heap.CodeRec cd d.name → mg d.name = some (.ref fa) →
   s₁.heap.get? a = some { cls := .type "list", data := .seq vs.toArray } → IntsAre vs ns → ns.length ≤ n → s₁.gens = #[] →
   codeAny (model l.prog w) callerA (.call (.ref fa) ⟨[.ref a], []⟩) (fun r s' => r = .ok (.ret (.bool true)) ∧ OldK s₁.heap s'.heap ∧ s'.os = s₁.os ∧ AllBare s'.gens) s₁) :
  WalkO q loose XP YP l.row.toRowW d [] (fun f vs => PySem.call f vs) := by
 intro w s₀ s₁ mg mb G Y fa o pm cd doc dV kV ho hd hcd hD hmg hg args vals as hpre hlay hrd hwl hlo
 obtain rfl : dV = .none := Dflts.none hD hdf
 obtain rfl : kV = .none := Dflts.noKw hD
 obtain ⟨a, vs, ns, rfl, rfl, hobj, hints, hlen⟩ := aK0 hn hpre hwl
 refine enter_call (codeAny_mono (call w s₀ s₁ mg mb fa o pm cd doc a vs ns G Y ho (fd_plain hd) hcd hmg hobj hints hlen hg) fun r s' hq => ?_)
 obtain ⟨rfl, h2, h3, h4⟩ := hq
 exact ⟨.inl ⟨.bool true, .bool true, [], rfl, fun _ => rfl, .bool true, aK1 l _, fun _ => ⟨List.Pairwise.nil, fun _ hm => (nomatch hm)⟩⟩, h2, h3, h4⟩
section
variable {prog : Program} {w : World} {A : Around} {E : Value → Shared → Prop} {s : Shared} {K : Frag}
end
end Att
namespace L2
open PySem PySem.Spec PyProof.Rows
theorem W0 : ∀ {vs : List Value} {ns : List Int}, IntsAre vs ns → B8 (ns.map V.int) vs
 | _, _, .nil => .nil
 | _, _, .cons n t h => .cons ⟨t, rfl⟩ (W0 h)
noncomputable def bB1 (H : Hp) : Prop := ∀ b, H b = none ∨ ∃ o xs, H b = some (.frz o (.lst xs))
theorem aV2 {P : Program} {w : World} {K : PySem.W.Frag} {mg mb : Str → Option Value} {CX : CXT} {k : Nat} {fa a : Addr} {fd : FuncData} {x : Str} {sp : Sp} {s₁ : Shared} {vs : List Value} {ns : List Int}
  (KX : K.In s₁.heap) (hns : s₁.heap.Ns mainGlobals mg) (hb : s₁.heap.Ns builtinsNs mb) (hbb : ∀ x : Str, x ≠ "__name__" → mb x = bootBuiltins x) (hlim : s₁.heap.NoLimit) (hg : s₁.gens = #[])
  (ha : s₁.heap.get? a = some { cls := .type "list", data := .seq vs.toArray }) (hi : IntsAre vs ns) (hl : ns.length ≤ sizeLine) (hr : Room k callerA)
  (F : ∀ base : Heap, K.In base → base.Ns mainGlobals mg → FnOk P w K mg base CX k fa fd [x] sp) (hbind : ∀ (s : Shared) (u : Value), BindsTo s fd ⟨[u], []⟩ [(x, u)])
  (hsp : ∀ H : Hp, bB1 H → SqL K H a (ns.map V.int) → sp [.ref a] H (fun v _ => v = .bl true) fun _ _ _ => False)
  (hCX : ∀ H e s', CX [] H s₁ (fun _ _ _ => False) e s' → False) :
  codeAny (model P w) callerA (.call (.ref fa) ⟨[.ref a], []⟩) (fun r s' => r = .ok (.ret (.bool true)) ∧ OldK s₁.heap s'.heap ∧ s'.os = s₁.os ∧ AllBare s'.gens) s₁ := by
 have rv := W0 hi
 have lenV := hi.length
 have core : ∀ H : Hp, bB1 H → SqL K H a (ns.map V.int) → HOk P w H s₁.heap → (∀ b, H b ≠ none → b = a) → (H a ≠ none → K.lookup a = none) →
   codeAny (model P w) callerA (.call (.ref fa) ⟨[.ref a], []⟩) (fun r s' => r = .ok (.ret (.bool true)) ∧ OldK s₁.heap s'.heap ∧ s'.os = s₁.os ∧ AllBare s'.gens) s₁ := by
  intro H hO hS hok hA hK
  have base_of : ∀ {b : Addr} {o : Obj}, s₁.heap.get? b = some o → H b = none → (as0 s₁.heap H).get? b = some o := fun e n => aX6 e n
  have noA : ∀ {b : Addr} {o : Obj} {es : Array DictEntry} {ep : Nat}, s₁.heap.get? b = some o → o.data = .dict es ep → H b = none := fun {b o es ep} e d => by
   cases q : H b with
   | none => rfl
   | some u =>
    have e' : b = a := hA b (by rw [q]; simp)
    subst e'
    rw [ha] at e; cases e
    have d' : Data.seq vs.toArray _ = Data.dict es ep := d
    cases d'
  have nsK : ∀ {b : Addr} {m : Str → Option Value}, s₁.heap.Ns b m → (as0 s₁.heap H).Ns b m := fun {b m} ⟨o, es, ep, e, d, r⟩ => ⟨o, es, ep, base_of e (noA e d), d, r⟩
  have hKb : K.In (as0 s₁.heap H) := fun b o e => base_of (KX b o e) (by
   cases q : H b with
   | none => rfl
   | some u =>
    have e' : b = a := hA b (by rw [q]; simp)
    subst e'
    rw [hK (by rw [q]; simp)] at e; cases e)
  have hM : Mod K mg (as0 s₁.heap H) := ⟨hKb, nsK hns, ⟨mb, nsK hb, hbb⟩, let ⟨mc, h1, h2⟩ := hlim; ⟨mc, nsK h1, h2⟩⟩
  have e0 : Env0 P w K mg (as0 s₁.heap H) callerA [] s₁ H := ⟨rfl, hM, fun b o e => bf0 e, Nat.le_of_eq (aM6 _ _), trivial, fun b hb => absurd (show b ∈ ([] : List Addr) from hb) (by simp), hok, .of_eq hg⟩
  refine codeAny_mono ((F _ hKb (nsK hns)).run callerA [] s₁ H ⟨[.ref a], []⟩ [.ref a] [.ref a] _ _ hr e0 (hbind s₁ (.ref a)) (.cons rfl .nil) (hsp H hO hS)) fun r s' h => ?_
  cases r with
  | error e => exact (hCX H e s' h).elim
  | ok fl =>
   cases fl with
   | next => exact False.elim h
   | brk => exact False.elim h
   | cont => exact False.elim h
   | ret u =>
    obtain ⟨v, H', os, bare, un, hok', r', q⟩ := h
    have q' : v = .bl true := q
    subst q'
    obtain rfl : u = Value.bool true := r'
    refine ⟨rfl, OldK.of_keep fun b o e => ?_, os, bare⟩
    cases q : H b with
    | none => exact un.keep b o e q (by intro z; exact absurd (show b ∈ ([] : List Addr) from z) (by simp)) (by simp)
    | some u =>
     rcases hO b with z | ⟨ob, xs, z⟩
     ·rw [q] at z; cases z
     ·have z2 := un.frzs b ob _ z
      obtain ⟨e1, _⟩ := hok b _ z
      obtain ⟨e2, _⟩ := hok' b _ z2
      rw [e] at e1; cases e1
      exact e2
 cases hk : K.lookup a with
 | some o =>
  have e := KX a o hk
  rw [ha] at e
  cases e
  refine core (fun _ => none) (fun _ => .inl rfl) (.inr ⟨_, vs.toArray, _, hk, rfl, rfl, rfl, by rw [List.size_toArray, lenV]; exact hl, by simpa using rv⟩) (fun b u z => by have z' : (none : Option HO) = some u := z; cases z') (fun b z => absurd rfl z) fun z => absurd rfl z
 | none =>
  refine core (fun b => if b = a then some (.frz { cls := .type "list", data := .seq vs.toArray } (.lst (ns.map V.int))) else none) (fun b => ?_) (.inl (.inr ⟨{ cls := .type "list", data := .seq vs.toArray }, if_pos rfl⟩)) (fun b u z => ?_) (fun b z => ?_) fun _ => hk
  ·by_cases hb : b = a
   ·exact .inr ⟨_, _, if_pos hb⟩
   ·exact .inl (if_neg hb)
  ·by_cases hb : b = a
   ·have z' := (if_pos hb).symm.trans z
    cases z'
    subst hb
    exact ⟨ha, by rw [List.length_map]; exact hl, vs, _, rv, ha⟩
   ·have z' := (if_neg hb).symm.trans z
    cases z'
  ·by_cases hb : b = a
   ·exact hb
   ·exact absurd (if_neg hb) z
end L2
namespace L2
open PySem PySem.Spec PyProof.Rows
theorem bb8 {l : PySem.W.OpenLaw} {n k : Nat} {q : Program} {loose : List Str} {XP : (Str → Option Value) → Heap → Prop} {YP : World → Heap → Prop} {d : DefRec} {K : Params → PySem.W.Frag} {CX : World → CXT} {sp : World → Sp} {x : Str}
  (hn : l.most = some n) (hn2 : n ≤ sizeLine) (hdf : d.params.defaults = []) (hr : Room k callerA)
  (hY : ∀ (w : World) (h : Heap), YP w h → (K w.params).In h)
  (F : ∀ (w : World) (mg : Str → Option Value) (fa : Addr) (h : Heap), (K w.params).In h → h.Ns mainGlobals mg → mg d.name = some (.ref fa) →
   ∃ fd : FuncData, (∀ (s : Shared) (u : Value), BindsTo s fd ⟨[u], []⟩ [(x, u)]) ∧
    ∀ base : Heap, (K w.params).In base → base.Ns mainGlobals mg → FnOk l.prog w (K w.params) mg base (CX w) k fa fd [x] (sp w))
  (hsp : ∀ (w : World) (H : Hp) (a : Addr) (ns : List Int), ns.length ≤ n → bB1 H → SqL (K w.params) H a (ns.map V.int) → sp w [.ref a] H (fun v _ => v = .bl true) fun _ _ _ => False)
  (hCX : ∀ (w : World) (H : Hp) (s : Shared) (e : Value) (s' : Shared), CX w [] H s (fun _ _ _ => False) e s' → False) :
  PySem.W.WalkO q loose XP YP l.row.toRowW d [] (fun f vs => PySem.call f vs) := by
 refine Att.attach_call hn hdf fun w s₀ s₁ mg mb fa o pm cd doc a vs ns G Y ho hd hcd hmg hobj hints hlen hg => ?_
 have KX := hY w _ Y
 obtain ⟨fd, hb, hF⟩ := F w mg fa _ KX G.T.g hmg
 exact aV2 KX G.T.g G.T.b G.T.builtins G.T.nolimit hg hobj hints (Nat.le_trans hlen hn2) hr hF hb (fun H hO hS => hsp w H a ns hlen hO hS) fun H e s' => hCX w H s₁ e s'
end L2
namespace L2
open PySem PySem.Spec PyProof.Rows
noncomputable def X2 (s : Stmt) : Arguments := match s with
 | .FunctionDef _ a _ _ _ _ _ _ _ _ => a
 | _ => { posonlyargs := [], args := [], vararg := none, kwonlyargs := [], kw_defaults := [], kwarg := none, defaults := [] }
noncomputable def S2 (s : Stmt) : List Stmt := match s with
 | .FunctionDef _ _ b _ _ _ _ _ _ _ => b
 | _ => []
noncomputable def K0 (s : Stmt) : Scope := match s with
 | .FunctionDef _ _ _ _ _ _ sc _ _ _ => sc
 | _ => { kind := .function, names := [], isGenerator := false, isCoroutine := false }
noncomputable abbrev CX0 : CXT := fun _ _ _ _ _ _ => False
noncomputable abbrev E0 : XK := fun _ _ _ => False
theorem bl5 {X : Cx} : at7 CX0 X E0 := fun _ _ _ _ _ _ _ h => h.elim
structure Fun (K : PySem.W.Frag) (x qual : Str) (st : Stmt) (f : Addr) (fd : FuncData) : Prop where
 ex : ∃ (oc : Value) (od : Option Addr) (kV doc pm : Value) (an : Option Addr) (cdv ct : Value) (osl : Array (Option Value)),
  fd = PySem.W.fnOf x qual (X2 st) (S2 st) (K0 st) .none kV doc pm an cdv ct ∧ K.lookup f = some ⟨oc, od, .func fd, osl⟩ ∧ PySem.W.codeIn K cdv qual = true
 kp : PySem.W.keepIn K (.ref f) = true
section
variable {P : Program} {w : World} {K : PySem.W.Frag} {mg : Str → Option Value} {base : Heap}
theorem Fun.ok {x qual : Str} {st : Stmt} {f : Addr} {fd : FuncData} {N ps : List Str} {k : Nat} {sp : Sp} (F : Fun K x qual st f fd) (S : FnScope N ps (K0 st)) (len : ∀ vs H Q E, sp vs H Q E → vs.length = ps.length)
  (hbody : ∀ (cdv : Value) (A : Around) (outer : List Env) (s : Shared) (H : Hp) (vs : List V) (Q : VK) (E : XK), Room k (A.deeper (envOfC qual (K0 st) s.heap.objs.size f cdv)) → sp vs H Q E →
   ∃ t, PSs (aC6 CX0 P w K mg base N qual (K0 st) f cdv A outer s H E).nox (S2 st) t ∧ t { nx := fun _ H' => Q .non H', rt := Q } (d9 N vs) H) : FnOk P w K mg base CX0 (k + 1) f fd ps sp := by
 obtain ⟨oc, od, kV, doc, pm, an, cdv, ct, osl, rfl, lk, hcd⟩ := F.ex
 refine bH9 lk hcd S len fun A outer s H vs Q E hr hsp => ?_
 obtain ⟨t, h, q⟩ := hbody cdv A outer s H vs Q E hr hsp
 exact ⟨t, h.nox, q⟩
theorem bz4 {x qual : Str} {st : Stmt} {f : Addr} {oc : Value} {od an : Option Addr} {osl : Array (Option Value)} {kV doc pm cdv ct : Value} (l : K.lookup f = some ⟨oc, od, .func (PySem.W.fnOf x qual (X2 st) (S2 st) (K0 st) .none kV doc pm an cdv ct), osl⟩)
  (c : PySem.W.codeIn K cdv qual = true) (k : PySem.W.keepIn K (.ref f) = true) : Fun K x qual st f (PySem.W.fnOf x qual (X2 st) (S2 st) (K0 st) .none kV doc pm an cdv ct) := ⟨⟨oc, od, kV, doc, pm, an, cdv, ct, osl, rfl, l, c⟩, k⟩
end
theorem ab6 {n : Nat} (h : n ≤ 1000) : n < sizeLine := Nat.lt_of_le_of_lt h (by decide)
section
variable {X : Cx}
theorem pv (i : Nat) {x : Str} {pos : Pos} (hN : X.N[i]? = some x := by rfl) (hv : Vis X.env.scope x := by first | exact Or.inl rfl | exact Or.inr (Or.inl rfl) | exact Or.inr (Or.inr rfl)) (hd : (x == ("__debug__" : Str)) = false := by decide)
  (hcd : (x == ("__classdict__" : Str)) = false := by decide) : PE X (.Name x pos) (bC4 i) := p5 hN hv hd hcd
end
theorem ak6 {A B : Prop} (h : B) : if false = true then A else B := by
 rw [if_neg Bool.false_ne_true]
 exact h
theorem ak5 {A B : Prop} (h : A) : if true = true then A else B := by
 rw [if_pos rfl]
 exact h
noncomputable def D6 (H H' : Hp) : Prop := ∀ b o, H b = some o → H' b = some o
theorem D6.refl (H : Hp) : D6 H H := fun _ _ h => h
theorem D6.trans {H H1 H2 : Hp} (a : D6 H H1) (b : D6 H1 H2) : D6 H H2 := fun c o h => b c o (a c o h)
theorem D6.free {H H' : Hp} (e : D6 H H') {l : Addr} (h : H' l = Option.none) : H l = Option.none := by
 cases q : H l with
 | none => rfl
 | some o =>
  rw [e l o q] at h
  cases h
end L2
set_option maxHeartbeats 4000000
namespace G
theorem xbm {α β : Type} {o : Option α} {f : α → Option β} {b : β} (h : o.bind f = some b) : ∃ a, o = some a ∧ f a = some b := Option.bind_eq_some_iff.mp h
open PySem PySem.Spec PyProof.Rows L2
noncomputable abbrev D := PyData
mutual
noncomputable def Rep (K : PySem.W.Frag) (H : Hp) : D → V → Prop
 | .none, v => v = .non
 | .bool b, v => v = .bl b
 | .int i, v => v = .int i
 | .str x, v => v = .str x
 | .tuple ds, v => ∃ a vs, v = .ref a ∧ SqT K H a vs ∧ Reps K H ds vs
 | .list ds, v => ∃ a vs, v = .ref a ∧ SqL K H a vs ∧ Reps K H ds vs
 | .dict _, _ => False
noncomputable def Reps (K : PySem.W.Frag) (H : Hp) : List D → List V → Prop
 | [], vs => vs = []
 | d :: ds, vs => ∃ v r, vs = v :: r ∧ Rep K H d v ∧ Reps K H ds r
end
section
variable {K : PySem.W.Frag} {H H' H0 H1 H2 Hf Hf' Hf1 Hf2 : Hp}
theorem aF0 {a : Addr} {u : HO} (e : D6 H H') (h : Rd H a u) : Rd H' a u := by
 rcases h with h | ⟨o, h⟩
 ·exact .inl (e _ _ h)
 ·exact .inr ⟨o, e _ _ h⟩
theorem B5 {a : Addr} {xs : List V} (e : D6 H H') (h : SqT K H a xs) : SqT K H' a xs := h.imp (aF0 e) id
theorem D3 {a : Addr} {xs : List V} (e : D6 H H') (h : SqL K H a xs) : SqL K H' a xs := h.imp (aF0 e) id
mutual
theorem Rep.mono (e : D6 H H') : ∀ {d : D} {v : V}, Rep K H d v → Rep K H' d v
 | .none, _, h => h
 | .bool _, _, h => h
 | .int _, _, h => h
 | .str _, _, h => h
 | .tuple _, _, ⟨a, vs, h1, h2, h3⟩ => ⟨a, vs, h1, B5 e h2, Reps.mono e h3⟩
 | .list _, _, ⟨a, vs, h1, h2, h3⟩ => ⟨a, vs, h1, D3 e h2, Reps.mono e h3⟩
 | .dict _, _, h => h
theorem Reps.mono (e : D6 H H') : ∀ {ds : List D} {vs : List V}, Reps K H ds vs → Reps K H' ds vs
 | [], _, h => h
 | _ :: _, _, ⟨v, r, h1, h2, h3⟩ => ⟨v, r, h1, Rep.mono e h2, Reps.mono e h3⟩
end
theorem Reps.length : ∀ {ds : List D} {vs : List V}, Reps K H ds vs → vs.length = ds.length
 | [], _, h => by cases h; rfl
 | _ :: _, _, ⟨v, r, h1, h2, h3⟩ => by subst h1; simp [Reps.length h3]
theorem Reps.get : ∀ {ds : List D} {vs : List V} {i : Nat} {d : D}, Reps K H ds vs → ds[i]? = some d → ∃ v, vs[i]? = some v ∧ Rep K H d v
 | [], _, _, _, _, e => by simp at e
 | x :: _, _, 0, _, ⟨v, r, h1, h2, h3⟩, e => by subst h1; simp at e; subst e; exact ⟨v, rfl, h2⟩
 | x :: _, _, i + 1, _, ⟨v, r, h1, h2, h3⟩, e => by
  subst h1
  obtain ⟨u, q1, q2⟩ := Reps.get (i := i) h3 (by simpa using e)
  exact ⟨u, by simpa using q1, q2⟩
theorem Reps.append : ∀ {ds es : List D} {vs us : List V}, Reps K H ds vs → Reps K H es us → Reps K H (ds ++ es) (vs ++ us)
 | [], _, _, _, h, q => by cases h; exact q
 | _ :: _, _, _, _, ⟨v, r, h1, h2, h3⟩, q => by subst h1; exact ⟨v, r ++ _, rfl, h2, Reps.append h3 q⟩
theorem Reps.take : ∀ {ds : List D} {vs : List V} (n : Nat), Reps K H ds vs → Reps K H (ds.take n) (vs.take n)
 | [], _, n, h => by cases h; simp [Reps]
 | _ :: _, _, 0, h => by simp [Reps]
 | _ :: _, _, n + 1, ⟨v, r, h1, h2, h3⟩ => by subst h1; exact ⟨v, r.take n, rfl, h2, Reps.take n h3⟩
theorem Reps.drop : ∀ {ds : List D} {vs : List V} (n : Nat), Reps K H ds vs → Reps K H (ds.drop n) (vs.drop n)
 | [], _, n, h => by cases h; simp [Reps]
 | _ :: _, _, 0, h => h
 | _ :: _, _, n + 1, ⟨v, r, h1, h2, h3⟩ => by subst h1; exact Reps.drop n h3
theorem Reps.ints : ∀ (ns : List Int), Reps K H (ns.map PyData.int) (ns.map V.int)
 | [] => rfl
 | n :: r => ⟨.int n, r.map V.int, rfl, rfl, Reps.ints r⟩
theorem Reps.flatten {ds : List D} {vs : List V} (h : Reps K H ds vs) : ∀ k : Nat, Reps K H (List.replicate k ds).flatten (List.replicate k vs).flatten
 | 0 => rfl
 | k + 1 => by simp only [List.replicate_succ, List.flatten_cons]; exact h.append (Reps.flatten h k)
structure Grow (H Hf H' Hf' : Hp) : Prop where
 big : D6 H H'
 sub : D6 Hf' H'
 ext : D6 Hf Hf'
 new : ∀ b, Hf' b ≠ none → Hf b ≠ none ∨ H b = none
theorem Grow.refl (h : D6 Hf H) : Grow H Hf H Hf := ⟨D6.refl _, h, D6.refl _, fun _ h => .inl h⟩
theorem Grow.trans (a : Grow H Hf H1 Hf1) (b : Grow H1 Hf1 H2 Hf2) : Grow H Hf H2 Hf2 :=
 ⟨a.big.trans b.big, b.sub, a.ext.trans b.ext, fun x h => (b.new x h).elim (a.new x) fun z => .inr (a.big.free z)⟩
theorem B9 {p : Addr} {o : HO} (h : H p = none) : D6 H (upd H p o) := fun b u e => by rw [A8 (A9 e h)]; exact e
theorem Grow.laid {p : Addr} {o : HO} (s : D6 Hf H) (h : H p = none) : Grow H Hf (upd H p o) (upd Hf p o) := by
 refine ⟨B9 h, fun b u e => ?_, B9 (s.free h), fun b e => ?_⟩
 ·by_cases q : b = p
  ·subst q; rw [A7] at e; rw [A7]; exact e
  ·rw [A8 q] at e; rw [A8 q]; exact s b u e
 ·by_cases q : b = p
  ·subst q; exact .inr h
  ·rw [A8 q] at e; exact .inl e
theorem Grow.made {p : Addr} {o : HO} (s : D6 Hf H) (h : H p = none) : Grow H Hf (upd H p o) Hf :=
 ⟨B9 h, s.trans (B9 h), D6.refl _, fun _ e => .inl e⟩
theorem Grow.freeze {p : Addr} {o : HO} (g : Grow H Hf H1 Hf1) (h : H1 p = some o) (n : Hf1 p = none) (f : H p = none) : Grow H Hf H1 (upd Hf1 p o) := by
 refine ⟨g.big, fun b u e => ?_, g.ext.trans (B9 n), fun b e => ?_⟩
 ·by_cases q : b = p
  ·subst q; rw [A7] at e; rw [h]; exact e
  ·rw [A8 q] at e; exact g.sub b u e
 ·by_cases q : b = p
  ·subst q; exact .inr f
  ·rw [A8 q] at e; exact g.new b e
end
inductive B where
 | val (d : D)
 | own (ds : List D)
noncomputable abbrev Rho := List (Option B)
noncomputable def SB (K : PySem.W.Frag) (H0 H Hf : Hp) : B → V → Prop
 | .val d, v => Rep K Hf d v
 | .own ds, v => ∃ a vs, v = .ref a ∧ H a = some (.lst vs) ∧ Hf a = none ∧ H0 a = none ∧ Reps K Hf ds vs
structure Slots (K : PySem.W.Frag) (H0 : Hp) (ρ : Rho) (σ : L2.St) (H Hf : Hp) : Prop where
 len : ρ.length = σ.length
 is : ∀ (i : Nat) (b : B), ρ[i]? = some (some b) → ∃ v, σ[i]? = some (some v) ∧ SB K H0 H Hf b v
 apart : ∀ (i j : Nat) (ds es : List D) (a : Addr), ρ[i]? = some (some (.own ds)) → ρ[j]? = some (some (.own es)) → σ[i]? = some (some (V.ref a)) → σ[j]? = some (some (V.ref a)) → i = j
section
variable {K : PySem.W.Frag} {H H' H0 H1 H2 Hf Hf' Hf1 Hf2 : Hp} {ρ : Rho} {σ : L2.St}
theorem SB.grow {b : B} {v : V} (h : SB K H0 H Hf b v) (g : Grow H Hf H' Hf') : SB K H0 H' Hf' b v := by
 cases b with
 | val d => exact Rep.mono g.ext h
 | own ds =>
  obtain ⟨a, vs, e, h1, h2, h3, h4⟩ := h
  refine ⟨a, vs, e, g.big _ _ h1, ?_, h3, h4.mono g.ext⟩
  cases q : Hf' a with
  | none => rfl
  | some u =>
   rcases g.new a (by rw [q]; simp) with z | z
   ·exact absurd h2 z
   ·rw [h1] at z; cases z
theorem Slots.grow (s : Slots K H0 ρ σ H Hf) (g : Grow H Hf H' Hf') : Slots K H0 ρ σ H' Hf' :=
 ⟨s.len, fun i b e => let ⟨v, h1, h2⟩ := s.is i b e; ⟨v, h1, h2.grow g⟩, s.apart⟩
end
noncomputable abbrev DE := Rho → Option D
noncomputable def tJ (K : PySem.W.Frag) (ρ : Rho) (R : Hp → V → Hp → Hp → Prop) : TE := fun σ H Q => ∃ H0 Hf, D6 Hf H ∧ Slots K H0 ρ σ H Hf ∧ ∀ v H' Hf', Grow H Hf H' Hf' → R H v H' Hf' → Q v H'
noncomputable def JE (X : Cx) (e : Expr) (f : DE) : Prop := ∀ ρ d, f ρ = some d → PE X e (tJ X.K ρ fun _ v _ Hf => Rep X.K Hf d v)
noncomputable def Sq (K : PySem.W.Frag) : Bool → Hp → Addr → List V → Prop
 | true => SqT K
 | false => SqL K
noncomputable def RQ (K : PySem.W.Frag) (t : Bool) (ds : List D) (v : V) (H Hf : Hp) : Prop := ∃ a vs, v = .ref a ∧ Sq K t H a vs ∧ Reps K Hf ds vs
noncomputable def JQ (X : Cx) (e : Expr) (f : Rho → Option (Bool × List D)) : Prop := ∀ ρ t ds, f ρ = some (t, ds) → PE X e (tJ X.K ρ fun _ v H Hf => RQ X.K t ds v H Hf)
noncomputable def JN (X : Cx) (e : Expr) (f : Rho → Option (List D)) : Prop := ∀ ρ ds, f ρ = some ds → PE X e (tJ X.K ρ fun H v H' Hf' => ∃ a vs, v = .ref a ∧ H a = none ∧ H' a = some (.lst vs) ∧ Hf' a = none ∧ Reps X.K Hf' ds vs)
noncomputable def tJA (K : PySem.W.Frag) (ρ : Rho) (ds : List D) : TA := fun σ H Q => ∃ H0 Hf, D6 Hf H ∧ Slots K H0 ρ σ H Hf ∧ ∀ vs H' Hf', Grow H Hf H' Hf' → Reps K Hf' ds vs → Q vs H'
structure JA (X : Cx) (es : List Expr) (f : Rho → Option (List D)) : Prop where
 len : ∀ ρ ds, f ρ = some ds → ds.length = es.length
 run : ∀ ρ ds, f ρ = some ds → PA X es (tJA X.K ρ ds)
noncomputable def JT (X : Cx) (e : Expr) (f : Rho → Option Bool) : Prop := ∀ ρ c, f ρ = some c → PT X e (fun σ H Q => ∃ H0 Hf, D6 Hf H ∧ Slots X.K H0 ρ σ H Hf ∧ ∀ H' Hf', Grow H Hf H' Hf' → Q c H')
noncomputable def JW (X : Cx) (e : Expr) (f : Rho → Option Bool) : Prop := ∀ ρ c, f ρ = some c → PW X e (fun σ H Q => ∃ H0 Hf, D6 Hf H ∧ Slots X.K H0 ρ σ H Hf ∧ ∀ H' Hf', Grow H Hf H' Hf' → Q c H')
section
variable {X : Cx}
theorem A6 {e : Expr} {t t' : TE} (h : PE X e t) (i : ∀ σ H Q, t' σ H Q → t σ H Q) : PE X e t' := fun pins s σ H Q I q => h pins s σ H Q I (i σ H Q q)
theorem aq2 {e : Expr} {t t' : TT} (h : PT X e t) (i : ∀ σ H Q, t' σ H Q → t σ H Q) : PT X e t' := fun pins s σ H Q I q => h pins s σ H Q I (i σ H Q q)
noncomputable def dC (d : D) : DE := fun _ => some d
noncomputable def A1 (i : Nat) : DE := fun ρ => match ρ[i]? with
 | some (some (.val d)) => some d
 | _ => none
noncomputable def B4 (i : Nat) : Rho → Option (Bool × List D) := fun ρ => match ρ[i]? with
 | some (some (.own ds)) => some (false, ds)
 | some (some (.val (.list ds))) => some (false, ds)
 | some (some (.val (.tuple ds))) => some (true, ds)
 | _ => none
noncomputable def f9 : D → Option (Bool × List D)
 | .list ds => some (false, ds)
 | .tuple ds => some (true, ds)
 | _ => none
theorem aX0 {i : Int} {j : Nat} {pos : Pos} : JE X (.Constant (.int i) j pos) (dC (.int i)) := fun ρ d h => by
 cases h
 exact A6 bs8 fun σ H Q ⟨H0, Hf, s, sl, k⟩ => k _ H Hf (Grow.refl s) rfl
theorem bG9 {b : Bool} {j : Nat} {pos : Pos} : JE X (.Constant (.bool b) j pos) (dC (.bool b)) := fun ρ d h => by
 cases h
 exact A6 bE3 fun σ H Q ⟨H0, Hf, s, sl, k⟩ => k _ H Hf (Grow.refl s) rfl
theorem by0 {j : Nat} {pos : Pos} : JE X (.Constant .none j pos) (dC .none) := fun ρ d h => by
 cases h
 exact A6 bs6 fun σ H Q ⟨H0, Hf, s, sl, k⟩ => k _ H Hf (Grow.refl s) rfl
theorem bx4 {x : Str} {j : Nat} {pos : Pos} : JE X (.Constant (.str x) j pos) (dC (.str x)) := fun ρ d h => by
 cases h
 exact A6 bs0 fun σ H Q ⟨H0, Hf, s, sl, k⟩ => k _ H Hf (Grow.refl s) rfl
theorem bx2 (i : Nat) {x : Str} {pos : Pos} (hN : X.N[i]? = some x := by rfl) (hv : Vis X.env.scope x := by first | exact Or.inl rfl | exact Or.inr (Or.inl rfl) | exact Or.inr (Or.inr rfl)) (hd : (x == ("__debug__" : Str)) = false := by decide)
  (hcd : (x == ("__classdict__" : Str)) = false := by decide) : JE X (.Name x pos) (A1 i) := fun ρ d h => by
 refine A6 (p5 hN hv hd hcd) fun σ H Q ⟨H0, Hf, s, sl, k⟩ => ?_
 unfold A1 at h
 split at h
 ·rename_i d' e
  cases h
  obtain ⟨v, h1, h2⟩ := sl.is i _ e
  exact ⟨v, h1, k v H Hf (Grow.refl s) h2⟩
 ·cases h
theorem bw4 (i : Nat) {x : Str} {pos : Pos} (hN : X.N[i]? = some x := by rfl) (hv : Vis X.env.scope x := by first | exact Or.inl rfl | exact Or.inr (Or.inl rfl) | exact Or.inr (Or.inr rfl)) (hd : (x == ("__debug__" : Str)) = false := by decide)
  (hcd : (x == ("__classdict__" : Str)) = false := by decide) : JQ X (.Name x pos) (B4 i) := fun ρ t ds h => by
 refine A6 (p5 hN hv hd hcd) fun σ H Q ⟨H0, Hf, s, sl, k⟩ => ?_
 unfold B4 at h
 split at h
 ·rename_i d' e
  cases h
  obtain ⟨v, h1, a, vs, rfl, h2, h3, h4, h5⟩ := sl.is i _ e
  exact ⟨_, h1, k _ H Hf (Grow.refl s) ⟨a, vs, rfl, SqL.of h2, h5⟩⟩
 ·rename_i d' e
  cases h
  obtain ⟨v, h1, a, vs, rfl, h2, h3⟩ := sl.is i _ e
  exact ⟨_, h1, k _ H Hf (Grow.refl s) ⟨a, vs, rfl, D3 s h2, h3⟩⟩
 ·rename_i d' e
  cases h
  obtain ⟨v, h1, a, vs, rfl, h2, h3⟩ := sl.is i _ e
  exact ⟨_, h1, k _ H Hf (Grow.refl s) ⟨a, vs, rfl, B5 s h2, h3⟩⟩
 ·cases h
theorem Rep.seq {K : PySem.W.Frag} {H Hf : Hp} {d : D} {v : V} {t : Bool} {ds : List D} (h : Rep K Hf d v) (s : D6 Hf H) (e : f9 d = some (t, ds)) : RQ K t ds v H Hf := by
 cases d with
 | list xs => cases e; obtain ⟨a, vs, e1, e2, e3⟩ := h; exact ⟨a, vs, e1, D3 s e2, e3⟩
 | tuple xs => cases e; obtain ⟨a, vs, e1, e2, e3⟩ := h; exact ⟨a, vs, e1, B5 s e2, e3⟩
 | _ => cases e
noncomputable def qE (f : DE) : Rho → Option (Bool × List D) := fun ρ => (f ρ).bind f9
theorem aW1 {e : Expr} {f : DE} (h : JE X e f) : JQ X e (qE f) := fun ρ t ds q => by
 obtain ⟨d, h1, h2⟩ := xbm q
 exact A6 (h ρ d h1) fun σ H Q ⟨H0, Hf, s, sl, k⟩ => ⟨H0, Hf, s, sl, fun v H' Hf' g r => k v H' Hf' g (r.seq g.sub h2)⟩
noncomputable def A3 : Rho → Option (List D) := fun _ => some []
noncomputable def A0 (f : DE) (g : Rho → Option (List D)) : Rho → Option (List D) := fun ρ => (f ρ).bind fun d => (g ρ).map fun ds => d :: ds
theorem by9 : JA X [] A3 := ⟨fun ρ ds h => by cases h; rfl, fun ρ ds h pos pins s σ H Q I ⟨H0, Hf, ss, sl, k⟩ => by
 cases h
 exact K2 pos pins s σ H Q I (k [] H Hf (Grow.refl ss) rfl)⟩
theorem bi6 {e : Expr} {es : List Expr} {f : DE} {g : Rho → Option (List D)} (h : JE X e f) (r : JA X es g) (hs : starEach (e :: es) X.env = (false, eval e X.env) :: starEach es X.env := by rfl) : JA X (e :: es) (A0 f g) := by
 refine ⟨fun ρ ds q => ?_, fun ρ ds q => ?_⟩
 ·obtain ⟨d, h1, h2⟩ := xbm q
  obtain ⟨es', h3, h4⟩ := Option.map_eq_some_iff.mp h2
  subst h4
  simp [r.len ρ es' h3]
 ·obtain ⟨d, h1, h2⟩ := xbm q
  obtain ⟨es', h3, h4⟩ := Option.map_eq_some_iff.mp h2
  subst h4
  intro pos pins s σ H Q I ⟨H0, Hf, ss, sl, k⟩
  refine C0 (h ρ d h1) (r.run ρ es' h3) hs pos pins s σ H Q I ⟨H0, Hf, ss, sl, fun v H1 Hf1 g1 r1 => ⟨H0, Hf1, g1.sub, sl.grow g1, fun vs H2 Hf2 g2 r2 => ?_⟩⟩
  exact k (v :: vs) H2 Hf2 (g1.trans g2) ⟨v, vs, rfl, r1.mono g2.ext, r2⟩
noncomputable def O8 (f : Rho → Option (List D)) : DE := fun ρ => (f ρ).map PyData.tuple
theorem bx3 {es : List Expr} {f : Rho → Option (List D)} {k : Nat} {pos : Pos} (h : JA X es f) (hn : es.length ≤ 1000 := by decide) : JE X (.Tuple es k pos) (O8 f) := fun ρ d q => by
 obtain ⟨ds, h1, h2⟩ := Option.map_eq_some_iff.mp q
 subst h2
 refine A6 (br9 fun pos pins s σ H Q I t => h.run ρ ds h1 pos pins s σ H Q I t) fun σ H Q ⟨H0, Hf, s, sl, k⟩ => ?_
 refine ⟨H0, Hf, s, sl, fun vs H1 Hf1 g r => ⟨?_, fun p hp => ?_⟩⟩
 ·rw [r.length, h.len ρ ds h1]; exact Nat.le_of_lt (ab6 hn)
 ·exact k _ _ _ (g.trans (Grow.laid g.sub hp)) ⟨p, vs, rfl, SqT.of A7, r.mono (Grow.laid (o := .tup vs) g.sub hp).ext⟩
theorem bw6 {es : List Expr} {f : Rho → Option (List D)} {pos : Pos} (h : JA X es f) (hn : es.length ≤ 1000 := by decide) : JN X (.List es pos) f := fun ρ ds h1 => by
 refine A6 (bs7 fun pos pins s σ H Q I t => h.run ρ ds h1 pos pins s σ H Q I t) fun σ H Q ⟨H0, Hf, s, sl, k⟩ => ?_
 refine ⟨H0, Hf, s, sl, fun vs H1 Hf1 g r => ⟨?_, fun p hp => ?_⟩⟩
 ·rw [r.length, h.len ρ ds h1]; exact Nat.le_of_lt (ab6 hn)
 ·exact k _ _ _ (g.trans (Grow.made g.sub hp)) ⟨p, vs, rfl, g.big.free hp, A7, g.sub.free hp, r⟩
noncomputable def Y2 (f : Rho → Option (List D)) : DE := fun ρ => (f ρ).map PyData.list
theorem aj1 {e : Expr} {f : Rho → Option (List D)} (h : JN X e f) : JE X e (Y2 f) := fun ρ d q => by
 obtain ⟨ds, h1, h2⟩ := Option.map_eq_some_iff.mp q
 subst h2
 refine A6 (h ρ ds h1) fun σ H Q ⟨H0, Hf, s, sl, k⟩ => ⟨H0, Hf, s, sl, fun v H' Hf' g ⟨a, vs, e1, e2, e3, e4, e5⟩ => ?_⟩
 subst e1
 exact k _ _ _ (g.freeze e3 e4 e2) ⟨a, vs, rfl, SqL.of A7, e5.mono (B9 e4)⟩
theorem aW0 {e : Expr} {f : Rho → Option (List D)} (h : JN X e f) : JQ X e (fun ρ => (f ρ).map fun ds => (false, ds)) := fun ρ t ds q => by
 obtain ⟨ds', h1, h2⟩ := Option.map_eq_some_iff.mp q
 cases h2
 refine A6 (h ρ ds h1) fun σ H Q ⟨H0, Hf, s, sl, k⟩ => ⟨H0, Hf, s, sl, fun v H' Hf' g ⟨a, vs, e1, e2, e3, e4, e5⟩ => ?_⟩
 subst e1
 exact k _ _ _ g ⟨a, vs, rfl, SqL.of e3, e5⟩
noncomputable def OpD (X : Cx) (F : Value → Value → Sem Value) (h : D → D → Option D) : Prop := ∀ x y z, h x y = some z →
 OpR X F fun vx vy H Q => ∃ Hf, D6 Hf H ∧ Rep X.K Hf x vx ∧ Rep X.K Hf y vy ∧ ∀ v H' Hf', Grow H Hf H' Hf' → Rep X.K Hf' z v → Q v H'
noncomputable def A4 (h : D → D → Option D) (f g : DE) : DE := fun ρ => (f ρ).bind fun x => (g ρ).bind fun y => h x y
theorem Y1 {op : Operator} {h : D → D → Option D} {a b : Expr} {f g : DE} {pos : Pos} (o : OpD X (binaryOp op) h) (ha : JE X a f) (hb : JE X b g) : JE X (.BinOp a op b pos) (A4 h f g) := fun ρ d q => by
 obtain ⟨x, h1, q⟩ := xbm q
 obtain ⟨y, h2, h3⟩ := xbm q
 refine A6 (bl3 (o x y d h3) (ha ρ x h1) (hb ρ y h2)) fun σ H Q ⟨H0, Hf, s, sl, k⟩ => ?_
 refine ⟨H0, Hf, s, sl, fun v H1 Hf1 g1 r1 => ⟨H0, Hf1, g1.sub, sl.grow g1, fun u H2 Hf2 g2 r2 => ?_⟩⟩
 exact ⟨Hf2, g2.sub, r1.mono g2.ext, r2, fun w H3 Hf3 g3 r3 => k w H3 Hf3 ((g1.trans g2).trans g3) r3⟩
theorem by5 {op : CmpOp} {h : D → D → Option D} {a b : Expr} {f g : DE} {pos : Pos} (o : OpD X (compareOp op) h) (ha : JE X a f) (hb : JE X b g) (hm : behindInMarks op b = false := by first | exact aU0 _ | rfl) : JE X (.Compare a [op] [b] pos) (A4 h f g) := fun ρ d q => by
 obtain ⟨x, h1, q⟩ := xbm q
 obtain ⟨y, h2, h3⟩ := xbm q
 refine A6 (be1 (o x y d h3) (ha ρ x h1) (hb ρ y h2) hm) fun σ H Q ⟨H0, Hf, s, sl, k⟩ => ?_
 refine ⟨H0, Hf, s, sl, fun v H1 Hf1 g1 r1 => ⟨H0, Hf1, g1.sub, sl.grow g1, fun u H2 Hf2 g2 r2 => ?_⟩⟩
 exact ⟨Hf2, g2.sub, r1.mono g2.ext, r2, fun w H3 Hf3 g3 r3 => k w H3 Hf3 ((g1.trans g2).trans g3) r3⟩
theorem OpR.imp {F : Value → Value → Sem Value} {r r' : R2} (h : OpR X F r) (i : ∀ x y H Q, r' x y H Q → r x y H Q) : OpR X F r' := fun pins s σ H x y v u Q I rx ry q => h pins s σ H x y v u Q I rx ry (i x y H Q q)
end
end G
namespace G
open PySem PySem.Spec PyProof.Rows L2
section
variable {X : Cx}
noncomputable def D5 (i : Int) : Prop := i.natAbs < 2 ^ 8000
instance : DecidablePred D5 := fun i => inferInstanceAs (Decidable (i.natAbs < 2 ^ 8000))
theorem D5.log {i : Int} (h : D5 i) (h0 : i.natAbs ≠ 0) : i.natAbs.log2 < 8000 := (Nat.log2_lt h0).mpr h
theorem D5.bits {i : Int} (h : D5 i) : Builtin.Int.intBits i ≤ 2 ^ 20 := by
 unfold Builtin.Int.intBits
 split
 ·exact Nat.zero_le _
 ·rename_i h0
  have := h.log (by simpa using h0)
  omega
theorem be7 {X : Cx} : OpR X (binaryOp .Mult) (rI (fun i j => D5 i ∧ D5 j) fun i j => .int (i * j)) := opI fun _ _ _ _ _ _ _ hc q => mul_int q (PySem.IntMulOk.of_bits hc.1.bits hc.2.bits)
noncomputable def bI8 (x y : D) : Option D := match x, y with
 | .int i, .int j => some (.int (i + j))
 | _, _ => none
noncomputable def o5 (x y : D) : Option D := match x, y with
 | .int i, .int j => some (.int (i - j))
 | _, _ => none
noncomputable def bu2 (x y : D) : Option D := match x, y with
 | .int i, .int j => if D5 i ∧ D5 j then some (.int (i * j)) else none
 | _, _ => none
noncomputable def t6 (x y : D) : Option D := match x, y with
 | .int i, .int j => if 0 < j ∧ D5 j then some (.int (i / j)) else none
 | _, _ => none
noncomputable def W8 (x y : D) : Option D := match x, y with
 | .int i, .int j => if 0 < j then some (.int (i % j)) else none
 | _, _ => none
noncomputable def br6 (x y : D) : Option D := match x, y with
 | .int i, .int j => if 0 ≤ j ∧ j ≤ 1000000 ∧ i.natAbs < 2 ^ 64 then some (.int (i ^ j.toNat)) else none
 | _, _ => none
theorem bK9 : OpD X (binaryOp .Add) bI8 := fun x y z h => by
 unfold bI8 at h
 split at h
 ·cases h
  exact OpR.imp aT1 fun vx vy H Q ⟨Hf, s, r1, r2, k⟩ => ⟨_, _, r1, r2, k _ H Hf (Grow.refl s) rfl⟩
 ·cases h
theorem bt3 : OpD X (binaryOp .Sub) o5 := fun x y z h => by
 unfold o5 at h
 split at h
 ·cases h
  exact OpR.imp bs9 fun vx vy H Q ⟨Hf, s, r1, r2, k⟩ => ⟨_, _, r1, r2, k _ H Hf (Grow.refl s) rfl⟩
 ·cases h
theorem bt5 : OpD X (binaryOp .Mult) bu2 := fun x y z h => by
 unfold bu2 at h
 split at h
 ·split at h
  ·rename_i c
   cases h
   exact OpR.imp be7 fun vx vy H Q ⟨Hf, s, r1, r2, k⟩ => ⟨_, _, r1, r2, c, k _ H Hf (Grow.refl s) rfl⟩
  ·cases h
 ·cases h
theorem aK6 : OpR X (binaryOp .FloorDiv) (rI (fun _ j => 0 < j ∧ D5 j) fun i j => .int (i / j)) := opI fun i j _ _ s Q E hc q => by
 have e : i.fdiv j = i / j := Int.fdiv_eq_ediv_of_nonneg i (Int.le_of_lt hc.1)
 refine floordiv_int (by omega) (by rw [e]; exact q) (.inl (PyProof.noPylong_of_log2 ?_))
 have h2 := hc.2.log (by omega)
 omega
theorem bt9 : OpD X (binaryOp .FloorDiv) t6 := fun x y z h => by
 unfold t6 at h
 split at h
 ·split at h
  ·rename_i c
   cases h
   exact OpR.imp aK6 fun vx vy H Q ⟨Hf, s, r1, r2, k⟩ => ⟨_, _, r1, r2, c, k _ H Hf (Grow.refl s) rfl⟩
  ·cases h
 ·cases h
theorem bt6 : OpD X (binaryOp .Mod) W8 := fun x y z h => by
 unfold W8 at h
 split at h
 ·split at h
  ·rename_i c
   cases h
   exact OpR.imp bt1 fun vx vy H Q ⟨Hf, s, r1, r2, k⟩ => ⟨_, _, r1, r2, c, k _ H Hf (Grow.refl s) rfl⟩
  ·cases h
 ·cases h
theorem bt4 : OpD X (binaryOp .Pow) br6 := fun x y z h => by
 unfold br6 at h
 split at h
 ·split at h
  ·rename_i c
   cases h
   exact OpR.imp bt0 fun vx vy H Q ⟨Hf, s, r1, r2, k⟩ => ⟨_, _, r1, r2, c, k _ H Hf (Grow.refl s) rfl⟩
  ·cases h
 ·cases h
theorem aT0 : OpR X (binaryOp .Add) (fun x y H Q => ∃ a b ys, x = .ref a ∧ y = .ref b ∧ SqT X.K H a [] ∧ SqT X.K H b ys ∧ Q (.ref b) H) := by
 intro pins s σ H x y v u Q I rx ry h
 obtain ⟨a, b, ys, rfl, rfl, ha, hb, q⟩ := h
 cases rx
 cases ry
 obtain ⟨its, r1, p1, _⟩ := I.tuple ha
 obtain ⟨its2, r2, p2, _⟩ := I.tuple hb
 cases r1
 obtain ⟨⟨cls, dd, data, sl⟩, ho, hc, n, hd⟩ := id p1
 obtain ⟨⟨cls2, dd2, data2, sl2⟩, ho2, hc2, n2, hd2⟩ := id p2
 simp only at hc hd hc2 hd2
 subst hc hd hc2 hd2
 exact concat_meets ⟨_, ho, rfl⟩ ⟨_, ho2, rfl⟩ noFill_tuple_add seq_tuple_add PySem.F.slot_tuple_add PySem.F.entry_tuple_add (PySem.F.args_tuple_add_2 _ _)
   (tuple_addW0 a b _ its2.toArray n n2 dd dd2 sl sl2 (by rfl)) ⟨ho, ho2, ⟨.ref b, H, I, rfl, q⟩⟩
noncomputable def c6 (x y : D) : Option D := match x, y with
 | .tuple xs, .tuple ys => if xs.length + ys.length ≤ 16777216 then some (.tuple (xs ++ ys)) else none
 | .str a, .str b => if a.length + b.length ≤ 16777216 then some (.str (a ++ b)) else none
 | .int i, .int j => some (.int (i + j))
 | _, _ => none
theorem aT5 : OpD X (binaryOp .Add) c6 := fun x y z h => by
 unfold c6 at h
 split at h
 ·split at h
  ·rename_i xs ys c
   cases h
   cases xs with
   | nil =>
    refine OpR.imp aT0 fun vx vy H Q ⟨Hf, s, r1, r2, k⟩ => ?_
    obtain ⟨a, vs, rfl, h2, h3⟩ := r1
    obtain ⟨b, us, rfl, h5, h6⟩ := r2
    cases h3
    exact ⟨a, b, us, rfl, rfl, B5 s h2, B5 s h5, k _ H Hf (Grow.refl s) ⟨b, us, rfl, h5, h6⟩⟩
   | cons d0 ds0 =>
    refine OpR.imp be8 fun vx vy H Q ⟨Hf, s, r1, r2, k⟩ => ?_
    obtain ⟨a, vs, rfl, h2, h3⟩ := r1
    obtain ⟨b, us, rfl, h5, h6⟩ := r2
    have l1 := h3.length
    have l2 := h6.length
    refine ⟨a, b, vs, us, rfl, rfl, B5 s h2, B5 s h5, ?_, by rw [sizeLine_eq]; omega, fun e => ?_, fun e p hp => ?_⟩
    ·intro e; subst e; simp at l1
    ·subst e
     have : ys = [] := by cases ys <;> simp_all
     subst this
     exact k _ H Hf (Grow.refl s) ⟨a, vs, rfl, h2, by rw [List.append_nil]; exact h3⟩
    ·exact k _ _ _ (Grow.laid s hp) ⟨p, vs ++ us, rfl, SqT.of A7, (h3.append h6).mono (B9 (s.free hp))⟩
  ·cases h
 ·split at h
  ·rename_i c
   cases h
   exact OpR.imp aB7 fun vx vy H Q ⟨Hf, s, r1, r2, k⟩ => ⟨_, _, r1, r2, by rw [sizeLine_eq]; exact c, k _ H Hf (Grow.refl s) rfl⟩
  ·cases h
 ·cases h
  exact OpR.imp aT1 fun vx vy H Q ⟨Hf, s, r1, r2, k⟩ => ⟨_, _, r1, r2, k _ H Hf (Grow.refl s) rfl⟩
 ·cases h
noncomputable def ltI (x y : D) : Option D := match x, y with
 | .int i, .int j => some (.bool (decide (i < j)))
 | _, _ => none
noncomputable def leI (x y : D) : Option D := match x, y with
 | .int i, .int j => some (.bool (decide (i ≤ j)))
 | _, _ => none
noncomputable def gtI (x y : D) : Option D := match x, y with
 | .int i, .int j => some (.bool (decide (j < i)))
 | _, _ => none
noncomputable def geI (x y : D) : Option D := match x, y with
 | .int i, .int j => some (.bool (decide (j ≤ i)))
 | _, _ => none
theorem bF1 : OpD X (compareOp .Lt) ltI := fun x y z h => by
 unfold ltI at h
 split at h
 ·cases h
  exact OpR.imp bE5 fun vx vy H Q ⟨Hf, s, r1, r2, k⟩ => ⟨_, _, r1, r2, k _ H Hf (Grow.refl s) rfl⟩
 ·cases h
theorem bF2 : OpD X (compareOp .LtE) leI := fun x y z h => by
 unfold leI at h
 split at h
 ·cases h
  exact OpR.imp bE6 fun vx vy H Q ⟨Hf, s, r1, r2, k⟩ => ⟨_, _, r1, r2, k _ H Hf (Grow.refl s) rfl⟩
 ·cases h
theorem bF5 : OpD X (compareOp .Gt) gtI := fun x y z h => by
 unfold gtI at h
 split at h
 ·cases h
  exact OpR.imp bE7 fun vx vy H Q ⟨Hf, s, r1, r2, k⟩ => ⟨_, _, r1, r2, k _ H Hf (Grow.refl s) rfl⟩
 ·cases h
theorem bF6 : OpD X (compareOp .GtE) geI := fun x y z h => by
 unfold geI at h
 split at h
 ·cases h
  exact OpR.imp bE8 fun vx vy H Q ⟨Hf, s, r1, r2, k⟩ => ⟨_, _, r1, r2, k _ H Hf (Grow.refl s) rfl⟩
 ·cases h
mutual
theorem Rep.reads {pins : List (Addr × Obj)} {σ : L2.St} {H : Hp} {s : Shared} (I : Inv X pins σ H s) : ∀ {d : D} {v : V} {u : Value}, Rep X.K H d v → L0 v u → ∃ as, Reads s.heap u d as
 | .none, _, _, h, r => by cases h; cases r; exact ⟨_, .none⟩
 | .bool b, _, _, h, r => by cases h; cases r; exact ⟨_, .bool b⟩
 | .int i, _, _, h, r => by cases h; obtain ⟨t, rfl⟩ := r; exact ⟨_, .int i t⟩
 | .str x, _, _, h, r => by cases h; obtain ⟨t, rfl⟩ := r; exact ⟨_, .str x t⟩
 | .tuple ds, _, _, ⟨a, vs, h1, h2, h3⟩, r => by
  subst h1; cases r
  obtain ⟨its, rv, ⟨o, ho, hc, n, hd⟩, _⟩ := I.tuple h2
  obtain ⟨as, q⟩ := Reps.reads I h3 rv
  exact ⟨_, .tuple ho hc hd (by simpa using q)⟩
 | .list ds, _, _, ⟨a, vs, h1, h2, h3⟩, r => by
  subst h1; cases r
  obtain ⟨its, rv, pl, _⟩ := I.list h2
  obtain ⟨o, ho, hc, n, hd⟩ := pl.isList
  obtain ⟨as, q⟩ := Reps.reads I h3 rv
  exact ⟨_, .list ho hc hd (by simpa using q)⟩
 | .dict _, _, _, h, _ => h.elim
theorem Reps.reads {pins : List (Addr × Obj)} {σ : L2.St} {H : Hp} {s : Shared} (I : Inv X pins σ H s) : ∀ {ds : List D} {vs : List V} {us : List Value}, Reps X.K H ds vs → B8 vs us → ∃ as, ReadsAll s.heap us ds as
 | [], _, _, h, r => by cases h; cases r; exact ⟨_, .nil⟩
 | d :: ds, _, _, ⟨v, vr, h1, h2, h3⟩, r => by
  subst h1
  cases r with
  | cons r1 r2 =>
   obtain ⟨as, q1⟩ := Rep.reads I h2 r1
   obtain ⟨bs, q2⟩ := Reps.reads I h3 r2
   exact ⟨_, .cons q1 q2⟩
end
noncomputable def eqD (x y : D) : Option D := if SeqAt.shaped x = true ∧ SeqAt.shaped y = true then some (.bool (PyData.eqv x y)) else none
noncomputable def neD (x y : D) : Option D := if SeqAt.shaped x = true ∧ SeqAt.shaped y = true then some (.bool (!PyData.eqv x y)) else none
theorem bF7 (hu : X.A.units + 64 < cLine) : OpD X (compareOp .Eq) eqD := fun x y z h => by
 unfold eqD at h
 split at h
 ·rename_i c
  cases h
  intro pins s σ H vx vy v u Q I rx ry ⟨Hf, ss, r1, r2, k⟩
  obtain ⟨as, q1⟩ := Rep.reads I (r1.mono ss) rx
  obtain ⟨bs, q2⟩ := Rep.reads I (r2.mono ss) ry
  exact eq_dataH q1 q2 c.1 c.2 hu ⟨.bl _, H, I, rfl, k _ H Hf (Grow.refl ss) rfl⟩
 ·cases h
theorem bF0 (hu : X.A.units + 64 < cLine) : OpD X (compareOp .NotEq) neD := fun x y z h => by
 unfold neD at h
 split at h
 ·rename_i c
  cases h
  intro pins s σ H vx vy v u Q I rx ry ⟨Hf, ss, r1, r2, k⟩
  obtain ⟨as, q1⟩ := Rep.reads I (r1.mono ss) rx
  obtain ⟨bs, q2⟩ := Rep.reads I (r2.mono ss) ry
  exact ne_dataH q1 q2 c.1 c.2 hu ⟨.bl _, H, I, rfl, k _ H Hf (Grow.refl ss) rfl⟩
 ·cases h
noncomputable def isN (x y : D) : Option D := match x, y with
 | .none, .none => some (.bool true)
 | .dict _, _ => none
 | _, .none => some (.bool false)
 | _, _ => none
theorem aF1 {K : PySem.W.Frag} {H : Hp} {d : D} {v : V} (h : Rep K H d v) : (decide (v = .non)) = (match d with | .none => true | _ => false) := by
 cases d with
 | none => cases h; rfl
 | bool b => cases h; rfl
 | int b => cases h; rfl
 | str b => cases h; rfl
 | tuple ds => obtain ⟨a, vs, rfl, _⟩ := h; rfl
 | list ds => obtain ⟨a, vs, rfl, _⟩ := h; rfl
 | dict ds => exact h.elim
theorem bt7 : OpD X (compareOp .Is) isN := fun x y z h => by
 refine OpR.imp bt2 fun vx vy H Q ⟨Hf, s, r1, r2, k⟩ => ?_
 have e := aF1 r1
 cases y <;> cases x <;> simp only [isN, Option.some.injEq, reduceCtorEq] at h <;>
  (subst h; simp only at e; rw [e]; exact ⟨r2, k _ H Hf (Grow.refl s) rfl⟩)
noncomputable def bu0 (x y : D) : Option D := match x, y with
 | .none, .none => some (.bool false)
 | .dict _, _ => none
 | _, .none => some (.bool true)
 | _, _ => none
theorem bf1 : OpD X (compareOp .IsNot) bu0 := fun x y z h => by
 refine OpR.imp be6 fun vx vy H Q ⟨Hf, s, r1, r2, k⟩ => ?_
 have e := aF1 r1
 cases y <;> cases x <;> simp only [bu0, Option.some.injEq, reduceCtorEq] at h <;>
  (subst h; simp only at e; rw [e]; exact ⟨r2, k _ H Hf (Grow.refl s) rfl⟩)
noncomputable def N6 (h1 h2 : D → D → Option D) (f g k : DE) : DE := fun ρ => (f ρ).bind fun x => (g ρ).bind fun y => (h1 x y).bind fun z => match z with
 | .bool true => (k ρ).bind fun w => h2 y w
 | .bool false => some (.bool false)
 | _ => none
theorem aX1 {op op' : CmpOp} {h1 h2 : D → D → Option D} {a b c : Expr} {f g k : DE} {pos : Pos} (o1 : OpD X (compareOp op) h1) (o2 : OpD X (compareOp op') h2) (ha : JE X a f) (hb : JE X b g) (hc : JE X c k)
  (hm : lastMarks [op, op'] [b, c] = false := by with_unfolding_all rfl) : JE X (.Compare a [op, op'] [b, c] pos) (N6 h1 h2 f g k) := fun ρ d q => by
 obtain ⟨x, e1, q⟩ := xbm q
 obtain ⟨y, e2, q⟩ := xbm q
 obtain ⟨z, e3, q⟩ := xbm q
 split at q
 ·obtain ⟨w, e4, e5⟩ := xbm q
  refine A6 (av3 (o1 x y _ e3) (o2 y w d e5) (ha ρ x e1) (hb ρ y e2) (hc ρ w e4) hm) fun σ H Q ⟨H0, Hf, s, sl, kk⟩ => ?_
  refine ⟨H0, Hf, s, sl, fun v H1 Hf1 g1 r1 => ⟨H0, Hf1, g1.sub, sl.grow g1, fun u H2 Hf2 g2 r2 => ⟨Hf2, g2.sub, r1.mono g2.ext, r2, fun z' H3 Hf3 g3 r3 => ?_⟩⟩⟩
  refine ⟨true, r3, ak5 ⟨H0, Hf3, g3.sub, sl.grow ((g1.trans g2).trans g3), fun w' H4 Hf4 g4 r4 => ⟨Hf4, g4.sub, r2.mono (g3.trans g4).ext, r4, fun z2 H5 Hf5 g5 r5 => ?_⟩⟩⟩
  exact kk z2 H5 Hf5 ((((g1.trans g2).trans g3).trans g4).trans g5) r5
 ·cases q
  intro pins s σ H Q I ⟨H0, Hf, ss, sl, kk⟩
  refine av3 (tc := fun _ _ _ => False) (r' := fun _ _ _ _ => False) (o1 x y _ e3) (fun _ _ _ _ _ _ _ _ _ _ _ _ h => h.elim) (ha ρ x e1) (hb ρ y e2) (fun _ _ _ _ _ _ h => h.elim) hm pins s σ H Q I ?_
  refine ⟨H0, Hf, ss, sl, fun v H1 Hf1 g1 r1 => ⟨H0, Hf1, g1.sub, sl.grow g1, fun u H2 Hf2 g2 r2 => ⟨Hf2, g2.sub, r1.mono g2.ext, r2, fun z' H3 Hf3 g3 r3 => ?_⟩⟩⟩
  exact ⟨false, r3, ak6 (kk _ H3 Hf3 ((g1.trans g2).trans g3) rfl)⟩
 ·cases q
theorem bx8 {op : BoolOp} {a : Expr} {f : DE} {pos : Pos} (h : JE X a f) : JE X (.BoolOp op [a] pos) f := fun ρ d q => bs4 (h ρ d q)
noncomputable def j8 (f g : DE) : DE := fun ρ => (f ρ).bind fun x => match x with
 | .bool true => g ρ
 | .bool false => some (.bool false)
 | _ => none
noncomputable def dOr (f g : DE) : DE := fun ρ => (f ρ).bind fun x => match x with
 | .bool true => some (.bool true)
 | .bool false => g ρ
 | _ => none
noncomputable def m9 (f : DE) : DE := fun ρ => (f ρ).bind fun x => match x with
 | .bool c => some (.bool (!c))
 | _ => none
theorem by6 {a b : Expr} {Q2 : List Expr} {f g : DE} {pos : Pos} (ha : JE X a f) (hb : JE X (.BoolOp .And (b :: Q2) pos) g) : JE X (.BoolOp .And (a :: b :: Q2) pos) (j8 f g) := fun ρ d q => by
 obtain ⟨x, e1, q⟩ := xbm q
 split at q
 ·refine A6 (aS8 (ha ρ _ e1) (hb ρ d q)) fun σ H Q ⟨H0, Hf, s, sl, k⟩ => ⟨H0, Hf, s, sl, fun v H1 Hf1 g1 r1 => ⟨true, r1, ak5 ⟨H0, Hf1, g1.sub, sl.grow g1, fun u H2 Hf2 g2 r2 => k u H2 Hf2 (g1.trans g2) r2⟩⟩⟩
 ·cases q
  refine A6 (aS8 (tb := fun _ _ _ => False) (ha ρ _ e1) (fun _ _ _ _ _ _ h => h.elim)) fun σ H Q ⟨H0, Hf, s, sl, k⟩ => ⟨H0, Hf, s, sl, fun v H1 Hf1 g1 r1 => ⟨false, r1, ak6 (k _ H1 Hf1 g1 rfl)⟩⟩
 ·cases q
theorem bG7 {a b : Expr} {Q2 : List Expr} {f g : DE} {pos : Pos} (ha : JE X a f) (hb : JE X (.BoolOp .Or (b :: Q2) pos) g) : JE X (.BoolOp .Or (a :: b :: Q2) pos) (dOr f g) := fun ρ d q => by
 obtain ⟨x, e1, q⟩ := xbm q
 split at q
 ·cases q
  refine A6 (bl2 (tb := fun _ _ _ => False) (ha ρ _ e1) (fun _ _ _ _ _ _ h => h.elim)) fun σ H Q ⟨H0, Hf, s, sl, k⟩ => ⟨H0, Hf, s, sl, fun v H1 Hf1 g1 r1 => ⟨true, r1, ak5 (k _ H1 Hf1 g1 rfl)⟩⟩
 ·refine A6 (bl2 (ha ρ _ e1) (hb ρ d q)) fun σ H Q ⟨H0, Hf, s, sl, k⟩ => ⟨H0, Hf, s, sl, fun v H1 Hf1 g1 r1 => ⟨false, r1, ak6 ⟨H0, Hf1, g1.sub, sl.grow g1, fun u H2 Hf2 g2 r2 => k u H2 Hf2 (g1.trans g2) r2⟩⟩⟩
 ·cases q
theorem bx9 {a : Expr} {f : DE} {pos : Pos} (ha : JE X a f) : JE X (.UnaryOp .Not a pos) (m9 f) := fun ρ d q => by
 obtain ⟨x, e1, q⟩ := xbm q
 split at q
 ·cases q
  exact A6 (bs5 (ha ρ _ e1)) fun σ H Q ⟨H0, Hf, s, sl, k⟩ => ⟨H0, Hf, s, sl, fun v H1 Hf1 g1 r1 => ⟨_, r1, k _ H1 Hf1 g1 rfl⟩⟩
 ·cases q
noncomputable def c9 : D → Option Bool
 | .none => some false
 | .bool b => some b
 | .int i => some (i != 0)
 | .str x => if x.length ≤ 16777216 then some ((x.length : Int) != 0) else none
 | .list ds => some (!ds.isEmpty)
 | .tuple ds => some (!ds.isEmpty)
 | .dict _ => none
noncomputable def Z5 (f : DE) : Rho → Option Bool := fun ρ => (f ρ).bind c9
theorem bv2 {a : Expr} {f : DE} (ha : JE X a f) (he : ∀ whole, isTrue a X.env whole = (do let v ← whole; standAt a.pos; holding [v] (truthy v)) := by intro _; rfl) : JT X a (Z5 f) := fun ρ c q => by
 obtain ⟨d, e1, e2⟩ := xbm q
 refine aq2 (aR9 (ha ρ d e1) he) fun σ H Q ⟨H0, Hf, s, sl, k⟩ => ⟨H0, Hf, s, sl, fun v H1 Hf1 g1 r1 => ⟨c, ?_, k H1 Hf1 g1⟩⟩
 cases d with
 | none => cases e2; cases r1; rfl
 | bool b => cases e2; cases r1; rfl
 | int i => cases e2; cases r1; rfl
 | str x =>
  simp only [c9] at e2
  split at e2
  ·rename_i hx; cases e2; cases r1; exact ⟨by rw [sizeLine_eq]; exact hx, rfl⟩
  ·cases e2
 | list ds =>
  cases e2
  obtain ⟨a, vs, rfl, h2, h3⟩ := r1
  refine .inl ⟨vs, D3 g1.sub h2, ?_⟩
  have := h3.length
  cases ds <;> cases vs <;> simp_all
 | tuple ds =>
  cases e2
  obtain ⟨a, vs, rfl, h2, h3⟩ := r1
  refine .inr (.inl ⟨vs, B5 g1.sub h2, ?_⟩)
  have := h3.length
  cases ds <;> cases vs <;> simp_all
 | dict _ => cases e2
noncomputable def M9 : D → Option Bool
 | .bool b => some b
 | _ => none
noncomputable def tB2 (h : D → D → Option D) (f g : DE) : Rho → Option Bool := fun ρ => (A4 h f g ρ).bind M9
theorem aI0 {d : D} {c : Bool} (h : M9 d = some c) : d = .bool c := by
 cases d <;> simp [M9] at h
 subst h; rfl
theorem bv4 {op : CmpOp} {h : D → D → Option D} {a b : Expr} {f g : DE} {pos : Pos} (o : OpD X (compareOp op) h) (ha : JE X a f) (hb : JE X b g) (hm : behindInMarks op b = false := by first | exact aU0 _ | rfl) : JT X (.Compare a [op] [b] pos) (tB2 h f g) := fun ρ c q => by
 obtain ⟨d, q, e⟩ := xbm q
 obtain ⟨x, h1, q⟩ := xbm q
 obtain ⟨y, h2, h3⟩ := xbm q
 have := aI0 e
 subst this
 refine aq2 (bd0 (o x y _ h3) (ha ρ x h1) (hb ρ y h2) hm) fun σ H Q ⟨H0, Hf, s, sl, k⟩ => ?_
 refine ⟨H0, Hf, s, sl, fun v H1 Hf1 g1 r1 => ⟨H0, Hf1, g1.sub, sl.grow g1, fun u H2 Hf2 g2 r2 => ?_⟩⟩
 exact ⟨Hf2, g2.sub, r1.mono g2.ext, r2, fun w H3 Hf3 g3 r3 => ⟨c, r3, k H3 Hf3 ((g1.trans g2).trans g3)⟩⟩
noncomputable def U9 (f g : Rho → Option Bool) : Rho → Option Bool := fun ρ => (f ρ).bind fun c => if c then g ρ else some false
noncomputable def Z6 (f g : Rho → Option Bool) : Rho → Option Bool := fun ρ => (f ρ).bind fun c => if c then some true else g ρ
noncomputable def U0 (f : Rho → Option Bool) : Rho → Option Bool := fun ρ => (f ρ).map fun c => !c
theorem aq1 {e : Expr} {t t' : TT} (h : PW X e t) (i : ∀ σ H Q, t' σ H Q → t σ H Q) : PW X e t' := fun whole pins s σ H Q I q => h whole pins s σ H Q I (i σ H Q q)
theorem aV4 {e : Expr} {f : Rho → Option Bool} (h : JW X e f) : JT X e f := fun ρ c q => (h ρ c q).pt
theorem bg0 {a : Expr} {f : Rho → Option Bool} {pos : Pos} (h : JT X a f) : JW X (.BoolOp .And [a] pos) f := fun ρ c q => bc7 (h ρ c q)
theorem bu8 {a : Expr} {f : Rho → Option Bool} {pos : Pos} (h : JT X a f) : JW X (.BoolOp .Or [a] pos) f := fun ρ c q => bq9 (h ρ c q)
theorem bu9 {a b : Expr} {Q2 : List Expr} {f g : Rho → Option Bool} {pos : Pos} (ha : JT X a f) (hb : JW X (.BoolOp .And (b :: Q2) pos) g) : JW X (.BoolOp .And (a :: b :: Q2) pos) (U9 f g) := fun ρ c q => by
 obtain ⟨x, e1, q⟩ := xbm q
 cases x with
 | true => exact aq1 (aR8 (ha ρ _ e1) (hb ρ c (by simpa using q))) fun σ H Q ⟨H0, Hf, s, sl, k⟩ => ⟨H0, Hf, s, sl, fun H1 Hf1 g1 => ak5 ⟨H0, Hf1, g1.sub, sl.grow g1, fun H2 Hf2 g2 => k H2 Hf2 (g1.trans g2)⟩⟩
 | false =>
  have : c = false := by simpa using q.symm
  subst this
  exact aq1 (aR8 (tB' := fun _ _ _ => False) (ha ρ _ e1) (fun _ _ _ _ _ _ _ h => h.elim)) fun σ H Q ⟨H0, Hf, s, sl, k⟩ => ⟨H0, Hf, s, sl, fun H1 Hf1 g1 => ak6 (k H1 Hf1 g1)⟩
theorem bG3 {a b : Expr} {Q2 : List Expr} {f g : Rho → Option Bool} {pos : Pos} (ha : JT X a f) (hb : JW X (.BoolOp .Or (b :: Q2) pos) g) : JW X (.BoolOp .Or (a :: b :: Q2) pos) (Z6 f g) := fun ρ c q => by
 obtain ⟨x, e1, q⟩ := xbm q
 cases x with
 | false => exact aq1 (bk9 (ha ρ _ e1) (hb ρ c (by simpa using q))) fun σ H Q ⟨H0, Hf, s, sl, k⟩ => ⟨H0, Hf, s, sl, fun H1 Hf1 g1 => ak6 ⟨H0, Hf1, g1.sub, sl.grow g1, fun H2 Hf2 g2 => k H2 Hf2 (g1.trans g2)⟩⟩
 | true =>
  have : c = true := by simpa using q.symm
  subst this
  exact aq1 (bk9 (tB' := fun _ _ _ => False) (ha ρ _ e1) (fun _ _ _ _ _ _ _ h => h.elim)) fun σ H Q ⟨H0, Hf, s, sl, k⟩ => ⟨H0, Hf, s, sl, fun H1 Hf1 g1 => ak5 (k H1 Hf1 g1)⟩
theorem bv3 {a : Expr} {f : Rho → Option Bool} {pos : Pos} (ha : JT X a f) : JT X (.UnaryOp .Not a pos) (U0 f) := fun ρ c q => by
 obtain ⟨x, e1, e2⟩ := Option.map_eq_some_iff.mp q
 subst e2
 exact aq2 (br0 (ha ρ x e1)) fun σ H Q ⟨H0, Hf, s, sl, k⟩ => ⟨H0, Hf, s, sl, fun H1 Hf1 g1 => k H1 Hf1 g1⟩
noncomputable def ae0 (t : Rho → Option Bool) (f g : DE) : DE := fun ρ => (t ρ).bind fun c => if c then f ρ else g ρ
theorem by3 {c a b : Expr} {t : Rho → Option Bool} {f g : DE} {pos : Pos} (hc : JT X c t) (ha : JE X a f) (hb : JE X b g) : JE X (.IfExp c a b pos) (ae0 t f g) := fun ρ d q => by
 obtain ⟨x, e1, q⟩ := xbm q
 cases x with
 | true => exact A6 (av2 (tb := fun _ _ _ => False) (hc ρ _ e1) (ha ρ d (by simpa using q)) (fun _ _ _ _ _ _ h => h.elim)) fun σ H Q ⟨H0, Hf, s, sl, k⟩ => ⟨H0, Hf, s, sl, fun H1 Hf1 g1 => ak5 ⟨H0, Hf1, g1.sub, sl.grow g1, fun u H2 Hf2 g2 r2 => k u H2 Hf2 (g1.trans g2) r2⟩⟩
 | false => exact A6 (av2 (ta := fun _ _ _ => False) (hc ρ _ e1) (fun _ _ _ _ _ _ h => h.elim) (hb ρ d (by simpa using q))) fun σ H Q ⟨H0, Hf, s, sl, k⟩ => ⟨H0, Hf, s, sl, fun H1 Hf1 g1 => ak6 ⟨H0, Hf1, g1.sub, sl.grow g1, fun u H2 Hf2 g2 r2 => k u H2 Hf2 (g1.trans g2) r2⟩⟩
noncomputable def dIx (f : Rho → Option (Bool × List D)) (g : DE) : DE := fun ρ => (f ρ).bind fun q => (g ρ).bind fun i => match i with
 | .int i => atI q.2 i
 | _ => none
theorem bc4 {K : PySem.W.Frag} {H : Hp} {ds : List D} {vs : List V} {i : Int} {d : D} (h : Reps K H ds vs) (e : atI ds i = some d) : ∃ v, atI vs i = some v ∧ Rep K H d v := by
 unfold atI at e ⊢
 rw [h.length]
 obtain ⟨j, h1, h2⟩ := xbm e
 obtain ⟨v, h3, h4⟩ := h.get h2
 exact ⟨v, by rw [h1]; exact h3, h4⟩
theorem bG8 {a b : Expr} {f : Rho → Option (Bool × List D)} {g : DE} {pos : Pos} (ha : JQ X a f) (hb : JE X b g) (hs : ag8 b := by intro _ _; rfl) : JE X (.Subscript a b pos) (dIx f g) := fun ρ d q => by
 obtain ⟨⟨t, ds⟩, h1, q⟩ := xbm q
 obtain ⟨y, h2, h3⟩ := xbm q
 split at h3
 ·refine A6 (bl4 aX3 (ha ρ t ds h1) (hb ρ _ h2) hs) fun σ H Q ⟨H0, Hf, s, sl, k⟩ => ?_
  refine ⟨H0, Hf, s, sl, fun v H1 Hf1 g1 ⟨p, vs, e1, e2, e3⟩ => ⟨H0, Hf1, g1.sub, sl.grow g1, fun u H2 Hf2 g2 r2 => ?_⟩⟩
  obtain ⟨w, q1, q2⟩ := bc4 (e3.mono g2.ext) h3
  cases t with
  | true => exact .inr (.inl ⟨p, vs, _, w, e1, r2, B5 g2.big e2, q1, k w H2 Hf2 (g1.trans g2) q2⟩)
  | false => exact .inl ⟨p, vs, _, w, e1, r2, D3 g2.big e2, q1, k w H2 Hf2 (g1.trans g2) q2⟩
 ·cases h3
noncomputable def af6 (xs : List D) (lo hi : Option Int) : List D := (xs.drop (HT.sIx xs.length 0 lo)).take (HT.sIx xs.length xs.length hi - HT.sIx xs.length 0 lo)
theorem ai1 {K : PySem.W.Frag} {H : Hp} {ds : List D} {vs : List V} (h : Reps K H ds vs) (lo hi : Option Int) : Reps K H (af6 ds lo hi) (ay0 vs lo hi) := by
 unfold af6 ay0
 rw [h.length]
 exact (h.drop _).take _
noncomputable def JO (X : Cx) (e : Option Expr) (f : Rho → Option (Option Int)) : Prop := ∀ ρ o, f ρ = some o → PO X e (fun σ H Q => ∃ H0 Hf, D6 Hf H ∧ Slots X.K H0 ρ σ H Hf ∧ ∀ H' Hf', Grow H Hf H' Hf' → Q o H')
noncomputable def Q6 : Rho → Option (Option Int) := fun _ => some none
noncomputable def V0 : D → Option Int
 | .int i => some i
 | _ => none
noncomputable def Q5 (f : DE) : Rho → Option (Option Int) := fun ρ => (f ρ).bind fun d => (V0 d).map some
theorem bh0 : JO X none Q6 := fun ρ o q => by
 cases q
 intro pins s σ H Q I ⟨H0, Hf, ss, sl, k⟩
 exact bd5 pins s σ H Q I (k H Hf (Grow.refl ss))
theorem bg9 {e : Expr} {f : DE} (h : JE X e f) : JO X (some e) (Q5 f) := fun ρ o q => by
 obtain ⟨d, e1, e2⟩ := xbm q
 obtain ⟨i, e3, e4⟩ := Option.map_eq_some_iff.mp e2
 subst e4
 cases d <;> simp [V0] at e3
 subst e3
 intro pins s σ H Q I ⟨H0, Hf, ss, sl, k⟩
 exact bd4 (h ρ _ e1) pins s σ H Q I ⟨H0, Hf, ss, sl, fun v H1 Hf1 g1 r1 => ⟨_, r1, k H1 Hf1 g1⟩⟩
noncomputable def aa0 (f : DE) (lo hi : Rho → Option (Option Int)) : DE := fun ρ => (f ρ).bind fun d => (lo ρ).bind fun l => (hi ρ).bind fun h => match d with
 | .tuple xs => some (.tuple (af6 xs l h))
 | _ => none
theorem m8 {prog : Program} {w : World} {A : Around} {E : Value → Shared → Prop} {s : Shared} {t sl : Addr} {items : Array Value} {vl vu : Value} {lo hi : Option Int} {Q : Value → Shared → Prop} (ht : IsTup s.heap t items) (hs : s.heap.IsSliceOf sl vl vu .none) (pl : IsPart vl lo) (pu : IsPart vu hi)
  (hw : HT.sIx items.size 0 lo = 0 ∧ HT.sIx items.size items.size hi = items.size) (h : Q (.ref t) s) : wpAny (model prog w) A (getItem (.ref t) (.ref sl)) Q E s := by
 obtain ⟨os, hos, hcs, hds⟩ := id hs
 have hTs : s.TypeIs (.ref sl) "slice" := ⟨os, hos, hcs⟩
 unfold getItem
 try with_reducible refine wpAny_holding ?_
 first | refine wpAny_bind (wpAny_pure ?_) | skip
 refine wpAny_bind (wpAny_sequenceKey ht.typeIs (by decide) ?_)
 refine wpAny_bind (wpAny_callSpecial?_slot (name := Str.ofString "__getitem__") ht.typeIs PyProof.Rows.slot_tuple_getitem
  (wpAny_call_entry PyProof.Rows.slot_tuple_getitem ht.typeIs entry_tuple_getitem ?_ (args_tuple_getitem _ _)))
 show wpAny _ _ (Builtin.Tuple.tupleItemsOf (.ref t) >>= _) _ _ s
 refine wpAny_bind (tupleItemsOf_ ht ?_)
 refine wpAny_bind (wpAny_typeOf hTs ?_)
 rw [if_pos (by decide)]
 refine wpAny_bind (HT.sliceApplied_gen hs pl pu ?_)
 have hyes : ((((HT.sIx items.size 0 lo : Nat) : Int) == 0 && (1 : Int) == 1 && (HT.sIx items.size items.size hi - HT.sIx items.size 0 lo) == items.size) = true) := by
  rw [hw.1, hw.2]; simp
 show wpAny _ _ (if (((HT.sIx items.size 0 lo : Nat) : Int) == 0 && (1 : Int) == 1 && (HT.sIx items.size items.size hi - HT.sIx items.size 0 lo) == items.size) = true then _ else _) _ _ s
 rw [if_pos hyes]
 unfold Builtin.Tuple.tupleIsExact
 refine wpAny_bind (wpAny_bind (wpAny_typeOf ht.typeIs (wpAny_pure ?_)))
 rw [if_pos (by decide +kernel)]
 exact wpAny_bind (wpAny_rule (wpAny_pure ⟨_, rfl, wpAny_pure h⟩))
theorem ap0 : SlR X (fun x lo hi H Q => ∃ a xs, x = .ref a ∧ SqT X.K H a xs ∧ (HT.sIx xs.length 0 lo = 0 ∧ HT.sIx xs.length xs.length hi = xs.length) ∧ Q (.ref a) H) := by
 intro pins s σ H x v vl vu lo hi sl Q I rx hs pl pu h
 obtain ⟨a, xs, rfl, hx, hw, q⟩ := h
 cases rx
 obtain ⟨its, r, ht, hz⟩ := I.tuple hx
 have hlen : its.toArray.size = xs.length := by rw [List.size_toArray]; exact r.length.symm
 refine ⟨"tuple", _, PyProof.Rows.slot_tuple_getitem.lookup, ht.typeIs, ?_⟩
 exact m8 ht hs pl pu (by rw [hlen]; exact hw) ⟨.ref a, H, I, rfl, q⟩
theorem aW6 {a : Expr} {lo hi : Option Expr} {f : DE} {l h : Rho → Option (Option Int)} {pos p2 : Pos} (ha : JE X a f) (hl : JO X lo l) (hh : JO X hi h) : JE X (.Subscript a (.Slice lo hi none p2) pos) (aa0 f l h) := fun ρ d q => by
 obtain ⟨x, e1, q⟩ := xbm q
 obtain ⟨y, e2, q⟩ := xbm q
 obtain ⟨z, e3, q⟩ := xbm q
 cases x with
 | tuple xs =>
  cases q
  refine A6 (v7 (bq4.or ap0) (ha ρ _ e1) (hl ρ y e2) (hh ρ z e3)) fun σ H Q ⟨H0, Hf, s, sl, k⟩ => ?_
  refine ⟨H0, Hf, s, sl, fun v H1 Hf1 g1 ⟨p, vs, q1, q2, q3⟩ => ⟨H0, Hf1, g1.sub, sl.grow g1, fun H2 Hf2 g2 => ⟨H0, Hf2, g2.sub, sl.grow (g1.trans g2), fun H3 Hf3 g3 => ?_⟩⟩⟩
  subst q1
  have q2' := B5 (g2.trans g3).ext q2
  have q3' := q3.mono (g2.trans g3).ext
  by_cases c : HT.sIx vs.length 0 y = 0 ∧ HT.sIx vs.length vs.length z = vs.length
  ·refine .inr ⟨p, vs, rfl, B5 g3.sub q2', c, k _ H3 Hf3 ((g1.trans g2).trans g3) ⟨p, vs, rfl, q2', ?_⟩⟩
   have : af6 xs y z = xs := by
    unfold af6
    rw [← q3.length, c.1, c.2]
    simp [q3.length]
   rw [this]; exact q3'
  ·refine .inl ⟨p, vs, rfl, B5 g3.sub q2', c, fun p' hp => ?_⟩
   exact k _ _ _ (((g1.trans g2).trans g3).trans (Grow.laid g3.sub hp)) ⟨p', _, rfl, SqT.of A7, (ai1 q3' y z).mono (B9 (g3.sub.free hp))⟩
 | _ => cases q
end
end G
namespace G
open PySem PySem.Spec PyProof.Rows L2
section
variable {X : Cx}
theorem aD2 : bootBuiltins "len" = some (.builtin "len") := PySem.boot_len
theorem bA7 : bootBuiltins "all" = some (.builtin "all") := by decide +kernel
theorem bA6 : bootBuiltins "isinstance" = some (.builtin "isinstance") := by decide +kernel
theorem aD3 : bootBuiltins "int" = some (.type "int") := by decide +kernel
theorem bj8 : bootBuiltins "bool" = some (.type "bool") := by decide +kernel
theorem ba4 : bootBuiltins "str" = some (.type "str") := by decide +kernel
theorem aI1 : bootBuiltins "list" = some (.type "list") := by decide +kernel
theorem ay5 : bootBuiltins "tuple" = some (.type "tuple") := by decide +kernel
theorem bA4 : bootBuiltins "zip" = some (.type "zip") := by decide +kernel
noncomputable def c5 (f : Rho → Option (Bool × List D)) : DE := fun ρ => (f ρ).map fun q => .int q.2.length
theorem aW8 {e : Expr} {f : Rho → Option (Bool × List D)} {p pos : Pos} (hg : Gl X "len") (hm : X.mg "len" = none) (h : JQ X e f) (he : starEach [e] X.env = [(false, eval e X.env)] := by rfl) : JE X (.Call (.Name "len" p) [e] [] pos) (c5 f) := fun ρ d q => by
 obtain ⟨⟨t, ds⟩, h1, h2⟩ := Option.map_eq_some_iff.mp q
 subst h2
 refine A6 (O7 at0 hg hm aD2 (C0 (h ρ t ds h1) K2 he) (he := he)) fun σ H Q ⟨H0, Hf, s, sl, k⟩ => ?_
 refine ⟨H0, Hf, s, sl, fun v H1 Hf1 g1 ⟨a, vs, e1, e2, e3⟩ => ⟨a, vs, by rw [e1], ?_, ?_⟩⟩
 ·cases t with
  | true => exact .inr e2
  | false => exact .inl e2
 ·exact k _ H1 Hf1 g1 (by rw [e3.length]; rfl)
theorem aW4 {e : Expr} {f : Rho → Option (Bool × List D)} {p pos : Pos} (hg : Gl X "tuple") (hm : X.mg "tuple" = none) (h : JQ X e f) (hz : ∀ ρ ds, f ρ ≠ some (true, ds) ∨ True := by intros; exact .inr trivial) (he : starEach [e] X.env = [(false, eval e X.env)] := by rfl) :
  JE X (.Call (.Name "tuple" p) [e] [] pos) (fun ρ => (f ρ).bind fun q => if q.1 = true then none else some (.tuple q.2)) := fun ρ d q => by
 obtain ⟨⟨t, ds⟩, h1, h2⟩ := xbm q
 cases t with
 | true => simp at h2
 | false =>
  simp only [Bool.false_eq_true, if_false, Option.some.injEq] at h2
  subst h2
  refine A6 (W1 ak9 hg hm ay5 (C0 (h ρ false ds h1) K2 he) (he := he)) fun σ H Q ⟨H0, Hf, s, sl, k⟩ => ?_
  refine ⟨H0, Hf, s, sl, fun v H1 Hf1 g1 ⟨a, vs, e1, e2, e3⟩ => ⟨a, vs, by rw [e1], .inl ⟨e2, fun l hl => ?_⟩⟩⟩
  exact k _ _ _ (g1.trans (Grow.laid g1.sub hl)) ⟨l, vs, rfl, SqT.of A7, e3.mono (B9 (g1.sub.free hl))⟩
theorem bh1 {e : Expr} {f : Rho → Option (Bool × List D)} {p pos : Pos} (hg : Gl X "list") (hm : X.mg "list" = none) (h : JQ X e f) (he : starEach [e] X.env = [(false, eval e X.env)] := by rfl) : JN X (.Call (.Name "list" p) [e] [] pos) (fun ρ => (f ρ).map fun q => q.2) := fun ρ ds' q => by
 obtain ⟨⟨t, ds⟩, h1, h2⟩ := Option.map_eq_some_iff.mp q
 subst h2
 refine A6 (W1 as8 hg hm aI1 (C0 (h ρ t ds h1) K2 he) (he := he)) fun σ H Q ⟨H0, Hf, s, sl, k⟩ => ?_
 refine ⟨H0, Hf, s, sl, fun v H1 Hf1 g1 ⟨a, vs, e1, e2, e3⟩ => ⟨a, vs, by rw [e1], ?_, fun l hl => ?_⟩⟩
 ·cases t with
  | true => exact .inr e2
  | false => exact .inl e2
 ·exact k _ _ _ (g1.trans (Grow.made g1.sub hl)) ⟨l, vs, rfl, g1.big.free hl, A7, g1.sub.free hl, e3⟩
noncomputable def n5 (f : DE) : DE := fun ρ => (f ρ).bind fun d => match d with
 | .int i => some (.int i)
 | .bool b => some (.int (if b then 1 else 0))
 | _ => none
theorem aW9 {e : Expr} {f : DE} {p pos : Pos} (hg : Gl X "int") (hm : X.mg "int" = none) (h : JE X e f) (he : starEach [e] X.env = [(false, eval e X.env)] := by rfl) : JE X (.Call (.Name "int" p) [e] [] pos) (n5 f) := fun ρ d q => by
 obtain ⟨x, h1, h2⟩ := xbm q
 split at h2
 ·cases h2
  exact A6 (W1 am9 hg hm aD3 (C0 (h ρ _ h1) K2 he) (he := he)) fun σ H Q ⟨H0, Hf, s, sl, k⟩ =>
   ⟨H0, Hf, s, sl, fun v H1 Hf1 g1 r => .inl ⟨_, by rw [show v = _ from r], k _ H1 Hf1 g1 rfl⟩⟩
 ·cases h2
  exact A6 (W1 am9 hg hm aD3 (C0 (h ρ _ h1) K2 he) (he := he)) fun σ H Q ⟨H0, Hf, s, sl, k⟩ =>
   ⟨H0, Hf, s, sl, fun v H1 Hf1 g1 r => .inr ⟨_, by rw [show v = _ from r], k _ H1 Hf1 g1 rfl⟩⟩
 ·cases h2
noncomputable def bI1 (f : DE) : DE := fun ρ => (f ρ).bind fun d => match d with
 | .int i => if i.natAbs.log2 < 1920 then some (.str (toString i)) else none
 | _ => none
theorem aW5 {e : Expr} {f : DE} {p pos : Pos} (hg : Gl X "str") (hm : X.mg "str" = none) (h : JE X e f) (he : starEach [e] X.env = [(false, eval e X.env)] := by rfl) : JE X (.Call (.Name "str" p) [e] [] pos) (bI1 f) := fun ρ d q => by
 obtain ⟨x, h1, h2⟩ := xbm q
 split at h2
 ·split at h2
  ·rename_i c
   cases h2
   exact A6 (W1 as7 hg hm ba4 (C0 (h ρ _ h1) K2 he) (he := he)) fun σ H Q ⟨H0, Hf, s, sl, k⟩ =>
    ⟨H0, Hf, s, sl, fun v H1 Hf1 g1 r => ⟨_, by rw [show v = _ from r], c, k _ H1 Hf1 g1 rfl⟩⟩
  ·cases h2
 ·cases h2
noncomputable def bA9 : List D → Option Bool
 | [] => some true
 | .bool b :: r => (bA9 r).map fun c => b && c
 | _ :: _ => none
theorem ay8 : ∀ {ds : List D} {c : Bool}, bA9 ds = some c → ∃ bs : List Bool, ds = bs.map PyData.bool ∧ c = bs.all id
 | [], c, h => by cases h; exact ⟨[], rfl, rfl⟩
 | .bool b :: r, c, h => by
  obtain ⟨c', h1, h2⟩ := Option.map_eq_some_iff.mp h
  obtain ⟨bs, h3, h4⟩ := ay8 h1
  exact ⟨b :: bs, by simp [h3], by simp [← h2, h4]⟩
theorem ai2 {K : PySem.W.Frag} {H : Hp} : ∀ {bs : List Bool} {vs : List V}, Reps K H (bs.map PyData.bool) vs → vs = bs.map V.bl
 | [], _, h => h
 | _ :: _, _, ⟨v, r, h1, h2, h3⟩ => by subst h1; rw [show v = _ from h2, ai2 h3]; rfl
theorem aO5 : S4 X (.builtin "all") (fun xs H Q => X.calm = true ∧ ∃ (p : Addr) (bs : List Bool), xs = [.ref p] ∧ SqL X.K H p (bs.map V.bl) ∧ Q (.bl (bs.all id)) H) := by
 intro pins s σ H xs us Q I r h
 obtain ⟨hc, p, bs, rfl, hq, q⟩ := h
 obtain ⟨u, rfl, rx⟩ := W9 r
 cases rx
 obtain ⟨its, rv, pl, hz⟩ := I.list hq
 have hlen := rv.length
 have hh : X.A.in1.handled = none := I.ok.hd hc
 have hlt : p < s.heap.objs.size := by obtain ⟨_, e, _⟩ := pl.isList; exact Heap.lt_size e
 refine call_all_walk (wpAny_pyIter_list pl.isList ?_)
 refine ⟨s.heap.objs.size, _, _, _, _, _, fun i => (bs[i]?).getD false, rfl, Walks.list hh _ p (Nat.ne_of_lt hlt) its.toArray, ⟨⟨_, Heap.get?_push_size _ rfl, rfl, rfl⟩, pl.isList.at fun o e => Heap.get?_push_of_some _ e⟩, ?_, ?_⟩
 ·intro i v s' Q' E' hv hQ
  have hv' : its[i]? = some v := by simpa using hv
  have : ∃ b, bs[i]? = some b := by
   have : i < its.length := (List.getElem?_eq_some_iff.mp hv').1
   have : i < bs.length := by simpa using (by omega : i < (bs.map V.bl).length)
   exact ⟨bs[i], by simp [this]⟩
  obtain ⟨b, hb⟩ := this
  obtain ⟨u, hu, ru⟩ := rv.get (i := i) (x := .bl b) (by simp [hb])
  rw [hv'] at hu; cases hu
  cases ru
  exact wpAny_truthy_bool (by simpa [hb] using hQ)
 ·intro h' tk hk
  have e : ((List.range its.toArray.size).all fun i => (bs[i]?).getD false) = bs.all id := by
   have hn : its.toArray.size = bs.length := by simpa using hlen.symm
   rw [hn, Bool.eq_iff_iff]
   simp only [List.all_eq_true, List.mem_range, id]
   constructor
   ·intro h x hx
    obtain ⟨i, hi, rfl⟩ := List.mem_iff_getElem.mp hx
    simpa [hi] using h i hi
   ·intro h i hi
    simpa [hi] using h bs[i] (List.getElem_mem hi)
  rw [e]
  have I1 : Inv X pins σ H { s with heap := h', toks := tk } := by
   have I0 : Inv X pins σ H { s with heap := s.heap.push { cls := .type "list_iterator", data := .fields #[.ref p, rawInt 0] } } := I.kept (t' := s.toks) fun b o e => Heap.get?_push_of_some _ e
   refine I.kept (t' := tk) fun b o e => hk b o ?_ (Heap.get?_push_of_some _ e)
   intro hb
   have : b = s.heap.objs.size := by simpa using hb
   subst this
   exact absurd (Heap.lt_size e) (Nat.lt_irrefl _)
  exact ⟨.bl (bs.all id), H, I1, rfl, q⟩
noncomputable def n6 (f : Rho → Option (Bool × List D)) : DE := fun ρ => (f ρ).bind fun q => if q.1 = true then none else (bA9 q.2).map PyData.bool
theorem by7 {e : Expr} {f : Rho → Option (Bool × List D)} {p pos : Pos} (hg : Gl X "all") (hm : X.mg "all" = none) (h : JQ X e f) (hc : X.calm = true := by rfl) (he : starEach [e] X.env = [(false, eval e X.env)] := by rfl) : JE X (.Call (.Name "all" p) [e] [] pos) (n6 f) := fun ρ d q => by
 obtain ⟨⟨t, ds⟩, h1, h2⟩ := xbm q
 cases t with
 | true => simp at h2
 | false =>
  simp only [Bool.false_eq_true, if_false] at h2
  obtain ⟨c, h3, h4⟩ := Option.map_eq_some_iff.mp h2
  subst h4
  obtain ⟨bs, h5, h6⟩ := ay8 h3
  subst h5 h6
  refine A6 (O7 aO5 hg hm bA7 (C0 (h ρ false _ h1) K2 he) (he := he)) fun σ H Q ⟨H0, Hf, s, sl, k⟩ => ?_
  refine ⟨H0, Hf, s, sl, fun v H1 Hf1 g1 ⟨a, vs, e1, e2, e3⟩ => ⟨hc, a, bs, by rw [e1], ?_, k _ H1 Hf1 g1 rfl⟩⟩
  rw [ai2 e3] at e2
  exact e2
noncomputable def d5 (T : String) (d : D) : Option Bool := match T, d with
 | "int", .int _ => some true
 | "int", .bool _ => some true
 | "int", .none => some false
 | "int", .str _ => some false
 | "int", .tuple _ => some false
 | "int", .list _ => some false
 | "bool", .int _ => some false
 | "bool", .bool _ => some true
 | "bool", .none => some false
 | "bool", .str _ => some false
 | "bool", .tuple _ => some false
 | "bool", .list _ => some false
 | "str", .int _ => some false
 | "str", .bool _ => some false
 | "str", .none => some false
 | "str", .str _ => some true
 | "str", .tuple _ => some false
 | "str", .list _ => some false
 | "tuple", .int _ => some false
 | "tuple", .bool _ => some false
 | "tuple", .none => some false
 | "tuple", .str _ => some false
 | "tuple", .tuple _ => some true
 | "tuple", .list _ => some false
 | "list", .int _ => some false
 | "list", .bool _ => some false
 | "list", .none => some false
 | "list", .str _ => some false
 | "list", .tuple _ => some false
 | "list", .list _ => some true
 | _, _ => none
noncomputable def tyD : D → String
 | .int _ => "int"
 | .bool _ => "bool"
 | .none => "NoneType"
 | .str _ => "str"
 | .tuple _ => "tuple"
 | .list _ => "list"
 | .dict _ => "dict"
theorem bi9 {K : PySem.W.Frag} {T : String} {d : D} {b : Bool} (h : d5 T d = some b) : PySem.W.kitOne K (.type (tyD d)) (.type T) = some b := by
 unfold d5 at h
 split at h <;> first
  | (cases h; rfl)
  | cases h
theorem aZ8 {T : String} : S4 X (.builtin "isinstance") (fun xs H Q => ∃ d x b, xs = [x, .ty T] ∧ Rep X.K H d x ∧ d5 T d = some b ∧ Q (.bl b) H) := by
 intro pins s σ H xs us Q I r h
 obtain ⟨d, x, b, rfl, hd, hb, q⟩ := h
 obtain ⟨u, c, rfl, rx, rc⟩ := aE3 r
 cases rc
 have e := bi9 (K := X.K) hb
 have fin : ∀ tk, EP X pins σ Q (.bool b) { s with toks := tk } := fun tk => ⟨.bl b, H, I.tok tk, rfl, q⟩
 cases d with
 | none => cases hd; cases rx; exact PySem.W.kia_one PySem.W.kitx_none I.kIn True.intro e (fun z => nomatch z) fin
 | bool y => cases hd; cases rx; exact PySem.W.kia_one PySem.W.kitx_bool I.kIn True.intro e (fun z => nomatch z) fin
 | int i => cases hd; obtain ⟨t, rfl⟩ := rx; exact PySem.W.kia_one PySem.W.kitx_int I.kIn True.intro e (fun z => nomatch z) fin
 | str i => cases hd; obtain ⟨t, rfl⟩ := rx; exact PySem.W.kia_one PySem.W.kitx_str I.kIn True.intro e (fun z => nomatch z) fin
 | tuple ds =>
  obtain ⟨a, vs, rfl, h2, h3⟩ := hd
  cases rx
  obtain ⟨its, rv, ⟨o, ho, hc, _⟩, _⟩ := I.tuple h2
  exact PySem.W.kia_one PySem.W.kitx_tuple I.kIn ⟨o, ho, hc⟩ e (fun z => nomatch z) fin
 | list ds =>
  obtain ⟨a, vs, rfl, h2, h3⟩ := hd
  cases rx
  obtain ⟨its, rv, pl, _⟩ := I.list h2
  obtain ⟨o, ho, hc, _⟩ := pl.isList
  exact PySem.W.kia_one PySem.W.kitx_list I.kIn ⟨o, ho, hc⟩ e (fun z => nomatch z) fin
 | dict ds => exact hd.elim
noncomputable def n4 (T : String) (f : DE) : DE := fun ρ => (f ρ).bind fun d => (d5 T d).map PyData.bool
theorem by2 {e : Expr} {f : DE} {x : Str} {T : String} {p p2 pos : Pos} (hg : Gl X "isinstance") (hm : X.mg "isinstance" = none) (hgT : Gl X x) (hmT : X.mg x = none) (hvT : bootBuiltins x = some (.type T)) (h : JE X e f)
  (hn : x ≠ "__name__" := by decide) (hd : (x == ("__debug__" : Str)) = false := by decide)
  (he : starEach [e, .Name x p2] X.env = (false, eval e X.env) :: starEach [.Name x p2] X.env := by rfl) (he2 : starEach [.Name x p2] X.env = [(false, eval (.Name x p2) X.env)] := by rfl) (hpl : (backTo pos (starEach [.Name x p2] X.env)).any (·.1) = false := by rfl) :
  JE X (.Call (.Name "isinstance" p) [e, .Name x p2] [] pos) (n4 T f) := fun ρ d q => by
 obtain ⟨y, h1, h2⟩ := xbm q
 obtain ⟨b, h3, h4⟩ := Option.map_eq_some_iff.mp h2
 subst h4
 refine A6 (O7 (aZ8 (T := T)) hg hm bA6 (C0 (h ρ y h1) (C0 (be3 (v := .ty T) hgT hmT hvT rfl hn hd) K2 he2) he) (he := he) (hpl := hpl)) fun σ H Q ⟨H0, Hf, s, sl, k⟩ => ?_
 exact ⟨H0, Hf, s, sl, fun v H1 Hf1 g1 r => ⟨y, v, b, rfl, r.mono g1.sub, h3, k _ H1 Hf1 g1 rfl⟩⟩
noncomputable def spF (K : PySem.W.Frag) (n : Nat) (F : List D → Option D) : Sp := fun vs H Q _ => vs.length = n ∧ ∃ Hf ds d, D6 Hf H ∧ Reps K Hf ds vs ∧ F ds = some d ∧ ∀ v H' Hf', Grow H Hf H' Hf' → Rep K Hf' d v → Q v H'
noncomputable def A2 (F : List D → Option D) (f : Rho → Option (List D)) : DE := fun ρ => (f ρ).bind F
theorem bi5 {k : Nat} {f : Addr} {fd : FuncData} {ps : List Str} {n : Nat} {F : List D → Option D} {x : Str} {e : Expr} {es : List Expr} {g : Rho → Option (List D)} {p pos : Pos} (Fk : FnOk X.prog X.w X.K X.mg X.base CX0 k f fd ps (spF X.K n F)) (hr : Room k X.A) (hg : Gl X x) (hm : X.mg x = some (.ref f)) (hk : PySem.W.keepIn X.K (.ref f) = true) (hb : o0 X.K fd ps [])
  (ha : JA X (e :: es) g) (hn : (e :: es).length = n := by rfl) (hdb : (x == ("__debug__" : Str)) = false := by decide) (he : starEach (e :: es) X.env = (false, eval e X.env) :: starEach es X.env := by rfl) (hpl : (backTo pos (starEach es X.env)).any (·.1) = false := by rfl) :
  JE X (.Call (.Name x p) (e :: es) [] pos) (A2 F g) := fun ρ d q => by
 obtain ⟨ds, h1, h2⟩ := xbm q
 refine A6 (be2 Fk hr hg hm hk hb .nil bl5 (fun pos pins s σ H Q I t => ha.run ρ ds h1 pos pins s σ H Q I t) hdb he hpl) fun σ H Q ⟨H0, Hf, s, sl, kk⟩ => ?_
 refine ⟨H0, Hf, s, sl, fun vs H1 Hf1 g1 r1 => ⟨?_, Hf1, ds, d, g1.sub, by rw [List.append_nil]; exact r1, h2, fun v H2 Hf2 g2 r2 => kk v H2 Hf2 (g1.trans g2) r2⟩⟩
 rw [List.append_nil, r1.length, ha.len ρ ds h1, hn]
inductive Fl where
 | nx (ρ : Rho)
 | rt (d : D)
 | bk (ρ : Rho)
 | ct (ρ : Rho)
noncomputable abbrev DS := Rho → Option Fl
structure At (K : PySem.W.Frag) (H0 Hf0 : Hp) (ρ : Rho) (σ : L2.St) (H Hf : Hp) : Prop where
 gr : Grow H0 Hf0 H Hf
 sl : Slots K H0 ρ σ H Hf
noncomputable def Fl.ends (K : PySem.W.Frag) (H0 Hf0 Hf : Hp) (En : Ends) : Fl → Prop
 | .nx ρ => ∀ σ' H' Hf', At K H0 Hf0 ρ σ' H' Hf' → D6 Hf Hf' → En.nx σ' H'
 | .bk ρ => ∀ σ' H' Hf', At K H0 Hf0 ρ σ' H' Hf' → D6 Hf Hf' → En.bk σ' H'
 | .ct ρ => ∀ σ' H' Hf', At K H0 Hf0 ρ σ' H' Hf' → D6 Hf Hf' → En.ct σ' H'
 | .rt d => ∀ v H' Hf', Grow H0 Hf0 H' Hf' → Rep K Hf' d v → En.rt v H'
noncomputable def tJS (K : PySem.W.Frag) (H0 Hf0 : Hp) (ρ : Rho) (fl : Fl) : TS := fun En σ H => ∃ Hf, At K H0 Hf0 ρ σ H Hf ∧ fl.ends K H0 Hf0 Hf En
noncomputable def JS (X : Cx) (st : Stmt) (f : DS) : Prop := ∀ ρ fl, f ρ = some fl → ∀ H0 Hf0, PS X st (tJS X.K H0 Hf0 ρ fl)
noncomputable def JSs (X : Cx) (sts : List Stmt) (f : DS) : Prop := ∀ ρ fl, f ρ = some fl → ∀ H0 Hf0, PSs X sts (tJS X.K H0 Hf0 ρ fl)
theorem O1 {st : Stmt} {t t' : TS} (h : PS X st t) (i : ∀ En σ H, t' En σ H → t En σ H) : PS X st t' := fun pins s σ H En I q => h pins s σ H En I (i En σ H q)
theorem v5 {st : List Stmt} {t t' : TS} (h : PSs X st t) (i : ∀ En σ H, t' En σ H → t En σ H) : PSs X st t' := fun pins s σ H En I q => h pins s σ H En I (i En σ H q)
theorem At.grow {K : PySem.W.Frag} {H0 Hf0 H Hf H' Hf' : Hp} {ρ : Rho} {σ : L2.St} (a : At K H0 Hf0 ρ σ H Hf) (g : Grow H Hf H' Hf') : At K H0 Hf0 ρ σ H' Hf' := ⟨a.gr.trans g, a.sl.grow g⟩
theorem Fl.ends_mono {K : PySem.W.Frag} {H0 Hf0 Hf Hf' : Hp} {En : Ends} {fl : Fl} (h : fl.ends K H0 Hf0 Hf En) (e : D6 Hf Hf') : fl.ends K H0 Hf0 Hf' En := by
 cases fl with
 | nx ρ => exact fun σ' H' Hf'' a s => h σ' H' Hf'' a (e.trans s)
 | bk ρ => exact fun σ' H' Hf'' a s => h σ' H' Hf'' a (e.trans s)
 | ct ρ => exact fun σ' H' Hf'' a s => h σ' H' Hf'' a (e.trans s)
 | rt d => exact h
noncomputable def O5 : DS := fun ρ => some (.nx ρ)
noncomputable def B7 (f g : DS) : DS := fun ρ => (f ρ).bind fun fl => match fl with
 | .nx ρ' => g ρ'
 | fl => some fl
theorem bg4 : JSs X [] O5 := fun ρ fl q H0 Hf0 => by
 cases q
 exact v5 bd2 fun En σ H ⟨Hf, a, e⟩ => e σ H Hf a (D6.refl _)
theorem aV6 {st : Stmt} {sts : List Stmt} {f g : DS} (h1 : JS X st f) (h2 : JSs X sts g) : JSs X (st :: sts) (B7 f g) := fun ρ fl q H0 Hf0 => by
 obtain ⟨fl1, e1, q⟩ := xbm q
 cases fl1 with
 | nx ρ' =>
  refine v5 (v6 (h1 ρ _ e1 H0 Hf0) (h2 ρ' fl q H0 Hf0)) fun En σ H ⟨Hf, a, e⟩ => ⟨Hf, a, fun σ' H' Hf' a' s' => ⟨Hf', a', Fl.ends_mono e s'⟩⟩
 | rt d => cases q; exact v5 (v6 (h1 ρ _ e1 H0 Hf0) Y8) fun En σ H ⟨Hf, a, e⟩ => ⟨Hf, a, e⟩
 | bk ρ' => cases q; exact v5 (v6 (h1 ρ _ e1 H0 Hf0) Y8) fun En σ H ⟨Hf, a, e⟩ => ⟨Hf, a, e⟩
 | ct ρ' => cases q; exact v5 (v6 (h1 ρ _ e1 H0 Hf0) Y8) fun En σ H ⟨Hf, a, e⟩ => ⟨Hf, a, e⟩
theorem bg3 {st : Stmt} {f : DS} (h1 : JS X st f) : JSs X [st] f := fun ρ fl q H0 Hf0 => bd1 (h1 ρ fl q H0 Hf0)
noncomputable def C1 (f : DE) : DS := fun ρ => (f ρ).map Fl.rt
theorem bv6 {e : Expr} {f : DE} {pos : Pos} (h : JE X e f) : JS X (.Return (some e) pos) (C1 f) := fun ρ fl q H0 Hf0 => by
 obtain ⟨d, e1, e2⟩ := Option.map_eq_some_iff.mp q
 subst e2
 exact O1 (br2 (h ρ d e1)) fun En σ H ⟨Hf, a, e⟩ => ⟨H0, Hf, a.gr.sub, a.sl, fun v H' Hf' g r => e v H' Hf' (a.gr.trans g) r⟩
noncomputable def sIf (t : Rho → Option Bool) (f g : DS) : DS := fun ρ => (t ρ).bind fun c => if c then f ρ else g ρ
theorem bG5 {c : Expr} {a b : List Stmt} {t : Rho → Option Bool} {f g : DS} {pos : Pos} (hc : JT X c t) (ha : JSs X a f) (hb : JSs X b g) : JS X (.If c a b pos) (sIf t f g) := fun ρ fl q H0 Hf0 => by
 obtain ⟨x, e1, q⟩ := xbm q
 cases x with
 | true =>
  refine O1 (bl0 (hc ρ _ e1) (ha ρ fl (by simpa using q) H0 Hf0) Y8) fun En σ H ⟨Hf, a, e⟩ => ⟨H0, Hf, a.gr.sub, a.sl, fun H' Hf' g => ak5 ⟨Hf', a.grow g, Fl.ends_mono e g.ext⟩⟩
 | false =>
  refine O1 (bl0 (hc ρ _ e1) Y8 (hb ρ fl (by simpa using q) H0 Hf0)) fun En σ H ⟨Hf, a, e⟩ => ⟨H0, Hf, a.gr.sub, a.sl, fun H' Hf' g => ak6 ⟨Hf', a.grow g, Fl.ends_mono e g.ext⟩⟩
theorem Slots.set {K : PySem.W.Frag} {H0 H Hf : Hp} {ρ : Rho} {σ : L2.St} {i : Nat} {d : D} {v : V} (s : Slots K H0 ρ σ H Hf) (r : Rep K Hf d v) : Slots K H0 (ρ.set i (some (.val d))) (σ.set i (some v)) H Hf := by
 refine ⟨by simp [s.len], fun j b e => ?_, fun j k ds es a h1 h2 h3 h4 => ?_⟩
 ·by_cases q : i = j
  ·subst q
   have hi : i < ρ.length := by
    have := (List.getElem?_eq_some_iff.mp e).1
    simpa using this
   have hi' : i < σ.length := by rw [← s.len]; exact hi
   rw [List.getElem?_set_self hi] at e
   cases e
   exact ⟨v, List.getElem?_set_self hi', r⟩
  ·rw [List.getElem?_set_ne q] at e
   obtain ⟨u, h1, h2⟩ := s.is j b e
   exact ⟨u, by rw [List.getElem?_set_ne q]; exact h1, h2⟩
 ·have hj : i ≠ j := by
   intro q; subst q
   have hi : i < ρ.length := by
    have := (List.getElem?_eq_some_iff.mp h1).1
    simpa using this
   rw [List.getElem?_set_self hi] at h1
   cases h1
  have hk : i ≠ k := by
   intro q; subst q
   have hi : i < ρ.length := by
    have := (List.getElem?_eq_some_iff.mp h2).1
    simpa using this
   rw [List.getElem?_set_self hi] at h2
   cases h2
  rw [List.getElem?_set_ne hj] at h1 h3
  rw [List.getElem?_set_ne hk] at h2 h4
  exact s.apart j k ds es a h1 h2 h3 h4
noncomputable def F3 (i : Nat) (f : DE) : DS := fun ρ => (f ρ).map fun d => .nx (ρ.set i (some (.val d)))
theorem aV8 (i : Nat) {x : Str} {e : Expr} {f : DE} {pos pos' : Pos} (hN : X.N.Nodup) (h : JE X e f) (hi : X.N[i]? = some x := by rfl) (hx : Loc X.env.scope x := by first | exact Or.inl rfl | exact Or.inr rfl)
  (hs : swapsWith e (some (.Name x pos')) pos.line X.env = pure false := by rfl) (hf : X.fn x = true ∨ X.env.scope.names.lookup x = some .local := by first | exact .inl rfl | exact .inr rfl) : JS X (.Assign [.Name x pos'] e pos) (F3 i f) := fun ρ fl q H0 Hf0 => by
 obtain ⟨d, e1, e2⟩ := Option.map_eq_some_iff.mp q
 subst e2
 exact O1 (aS1 hN hi hx (h ρ d e1) hs hf) fun En σ H ⟨Hf, a, e⟩ => ⟨H0, Hf, a.gr.sub, a.sl, fun v H' Hf' g r => e _ H' Hf' ⟨a.gr.trans g, (a.sl.grow g).set r⟩ g.ext⟩
noncomputable def aR2 (i j : Nat) (f : Rho → Option (List D)) : DS := fun ρ => (f ρ).bind fun ds => match ds with
 | [a, b] => some (.nx ((ρ.set i (some (.val a))).set j (some (.val b))))
 | _ => none
end
end G
namespace G
open PySem PySem.Spec PyProof.Rows L2
theorem aN7 {prog : Program} {w : World} {A : Around} {R : Result → Shared → Prop} {s : Shared} {elt target iter : Expr} {ifs : List Expr} {scope : Scope} {pos : Pos} {it acc : Value} {env : Env} (I : Nat → Shared → Prop)
  (turn : ∀ n s, I n s → wpAny (model prog w) A (pyNext it) (fun r s1 => match r with
   | none => R (.ok .next) s1
   | some v => wpAny (model prog w) A (letOwnedTupleGo target it v) (fun _ s1' => wpAny (model prog w) A (assign target env v) (fun _ s2 =>
     wpAny (model prog w) A (forIn ifs true fun c r => if r = true then do let ok ← isTrue c env (eval c env); pure (ForInStep.yield ok) else pure (ForInStep.yield r)) (fun ok s3 =>
      if ok = true then wpAny (model prog w) A (eval elt env) (fun x s4 =>
       wpAny (model prog w) A (call (.builtin "list.append") [acc, x]) (fun _ s5 => ∃ m, m < n ∧ I m s5) (fun _ _ => False) s4) (fun _ _ => False) s3
      else ∃ m, m < n ∧ I m s3) (fun _ _ => False) s2) (fun _ _ => False) s1') (fun _ _ => False) s1) (fun _ _ => False) s)
  (n : Nat) (h : I n s) :
  codeAny (model prog w) A (.compLoop (.ListComp elt [⟨target, iter, ifs, 0⟩] scope pos) 0 it acc env) R s := by
 refine codeAny_loop rfl I (fun n s hI => ?_) n h
 show wpAny _ A ((compTurn (.ListComp elt [⟨target, iter, ifs, 0⟩] scope pos) 0 it acc env).onRaise (fun x => do noteFrame x env; theTreesLotGoes x)) _ _ s
 refine wpAny_noted ?_
 rw [compTurn_list]
 refine wpAny_bind (wpAny_standAt (wpAny_bind (wpAny_mono (turn n s hI) (fun r s1 h1 => ?_) fun _ _ h' => h'.elim)))
 cases r with
 | none => exact wpAny_pure h1
 | some v =>
  refine wpAny_bind (wpAny_mono h1 (fun _ s1' h1' => ?_) fun _ _ h' => h'.elim)
  refine wpAny_bind (wpAny_mono h1' (fun _ s2 h2 => wpAny_bind (wpAny_mono h2 (fun ok s3 h3 => ?_) fun _ _ h' => h'.elim)) fun _ _ h' => h'.elim)
  cases ok with
  | false => exact wpAny_pure ⟨rfl, h3⟩
  | true =>
   exact wpAny_bind (wpAny_bind (wpAny_mono h3 (fun x s4 h4 => wpAny_bind (wpAny_mono h4 (fun _ s5 h5 => wpAny_pure (wpAny_pure ⟨rfl, h5⟩)) fun _ _ h' => h'.elim)) fun _ _ h' => h'.elim))
noncomputable def Q3 (cells : List (Str × Addr)) : List (Str × NameKind) → List (Str × Addr) → List (Str × Addr)
 | [], cs => cs
 | (n, k) :: r, cs => if (k == NameKind.free) = true then Q3 cells r ((n, (cells.lookup n).getD 0) :: cs) else Q3 cells r cs
theorem aj5 {env : Env} : ∀ (names : List (Str × NameKind)) (cs : List (Str × Addr)), (∀ y ∈ names, y.2 = .free → ∃ c, env.cells.lookup y.1 = some c) →
  (forIn names cs fun (x : Str × NameKind) (r : List (Str × Addr)) => if (x.2 == NameKind.free) = true then do let a ← cellOf env x.1; pure (ForInStep.yield ((x.1, a) :: r)) else pure (ForInStep.yield r) : Sem (List (Str × Addr))) = pure (Q3 env.cells names cs)
 | [], cs, _ => rfl
 | (n, k) :: r, cs, h => by
  rw [List.forIn_cons]
  have hr : ∀ y ∈ r, y.2 = .free → ∃ c, env.cells.lookup y.1 = some c := fun y hy => h y (List.mem_cons_of_mem _ hy)
  by_cases hk : (k == NameKind.free) = true
  ·obtain ⟨c, hc⟩ := h (n, k) List.mem_cons_self (by simpa using hk)
   have hc' : env.cells.lookup n = some c := hc
   simp only [hk, if_true]
   have e : cellOf env n = pure c := by unfold cellOf; rw [hc']
   rw [e]
   show (forIn r ((n, c) :: cs) _ : Sem _) = _
   rw [aj5 r _ hr]
   simp only [Q3, hk, if_true, hc', Option.getD_some]
  ·have hk' : (k == NameKind.free) = false := by simpa using hk
   simp only [hk', Bool.false_eq_true, if_false]
   show (forIn r cs _ : Sem _) = _
   rw [aj5 r _ hr]
   simp only [Q3, hk', Bool.false_eq_true, if_false]
theorem bj7 {scope : Scope} {env : Env} (h : ∀ y ∈ scope.names, y.2 = .free → ∃ c, env.cells.lookup y.1 = some c) : closureFor scope env = pure (Q3 env.cells scope.names []) := by
 have := aj5 (env := env) scope.names [] h
 unfold closureFor
 exact congrArg (fun z => z >>= fun cs => pure cs) this
theorem aa2 {cells : List (Str × Addr)} : ∀ {names : List (Str × NameKind)} {cs : List (Str × Addr)} {x : Str} {c : Addr}, (x, c) ∈ Q3 cells names cs → (x, c) ∈ cs ∨ ((x, NameKind.free) ∈ names ∧ c = (cells.lookup x).getD 0)
 | [], cs, x, c, h => .inl h
 | (n, k) :: r, cs, x, c, h => by
  unfold Q3 at h
  split at h
  ·rename_i hk
   rcases aa2 h with q | ⟨q1, q2⟩
   ·rcases List.mem_cons.mp q with q | q
    ·cases q
     have : k = .free := by simpa using hk
     subst this
     exact .inr ⟨List.mem_cons_self, rfl⟩
    ·exact .inl q
   ·exact .inr ⟨List.mem_cons_of_mem _ q1, q2⟩
  ·rcases aa2 h with q | ⟨q1, q2⟩
   ·exact .inl q
   ·exact .inr ⟨List.mem_cons_of_mem _ q1, q2⟩
theorem Z2 {cells : List (Str × Addr)} : ∀ {names : List (Str × NameKind)} {cs : List (Str × Addr)} {x : Str}, ((x, NameKind.free) ∈ names ∨ ∃ c, (x, c) ∈ cs) → ∃ c, (x, c) ∈ Q3 cells names cs
 | [], cs, x, h => by
  rcases h with h | h
  ·cases h
  ·exact h
 | (n, k) :: r, cs, x, h => by
  unfold Q3
  rcases h with h | ⟨c, h⟩
  ·rcases List.mem_cons.mp h with q | q
   ·cases q
    rw [if_pos (by rfl)]
    exact Z2 (.inr ⟨_, List.mem_cons_self⟩)
   ·split
    ·exact Z2 (.inl q)
    ·exact Z2 (.inl q)
  ·split
   ·exact Z2 (.inr ⟨c, List.mem_cons_of_mem _ h⟩)
   ·exact Z2 (.inr ⟨c, h⟩)
theorem p7 {l : List (Str × Addr)} {x : Str} {c : Addr} (h : (x, c) ∈ l) : ∃ c', l.lookup x = some c' := by
 induction l with
 | nil => cases h
 | cons p r ih =>
  obtain ⟨n, a⟩ := p
  rw [List.lookup_cons]
  cases e : x == n with
  | true => exact ⟨a, rfl⟩
  | false =>
   rcases List.mem_cons.mp h with q | q
   ·cases q; simp at e
   ·exact ih q
theorem v4 {scope : Scope} {env : Env} {x : Str} {k : NameKind} : (relabel scope env).names.lookup x = some k → ∃ k0, scope.names.lookup x = some k0 ∧ (k = k0 ∨ k0 = .free) := by
 unfold relabel
 simp only
 generalize scope.names = names
 induction names with
 | nil => intro h; simp at h
 | cons p r ih =>
  obtain ⟨n, k1⟩ := p
  intro h
  rw [List.map_cons] at h
  by_cases hc : (k1 == NameKind.free && env.scope.kind == .function && env.kindOf n == some .cell) = true
  ·simp only [hc, if_true, List.lookup_cons] at h
   rw [List.lookup_cons]
   cases e : x == n with
   | true =>
    rw [e] at h
    rw [Bool.and_eq_true, Bool.and_eq_true] at hc
    exact ⟨k1, rfl, .inr (by simpa using hc.1.1)⟩
   | false => rw [e] at h; exact ih h
  ·have hc' : (k1 == NameKind.free && env.scope.kind == .function && env.kindOf n == some .cell) = false := by simpa using hc
   simp only [hc', Bool.false_eq_true, if_false, List.lookup_cons] at h
   rw [List.lookup_cons]
   cases e : x == n with
   | true => rw [e] at h; cases h; exact ⟨_, rfl, .inl rfl⟩
   | false => rw [e] at h; exact ih h
theorem ap9 {scope : Scope} {env : Env} {x : Str} : scope.names.lookup x = some .free → (relabel scope env).names.lookup x = some .cell ∨ (relabel scope env).names.lookup x = some .free := by
 unfold relabel
 simp only
 generalize scope.names = names
 induction names with
 | nil => intro h; simp at h
 | cons p r ih =>
  obtain ⟨n, k1⟩ := p
  intro h
  rw [List.lookup_cons] at h
  rw [List.map_cons]
  cases e : x == n with
  | true =>
   rw [e] at h
   cases h
   have en : x = n := by simpa using e
   subst en
   by_cases hc : (NameKind.free == NameKind.free && env.scope.kind == .function && env.kindOf x == some .cell) = true
   ·simp only [hc, if_true, List.lookup_cons, e]; exact .inl trivial
   ·have hc' : (NameKind.free == NameKind.free && env.scope.kind == .function && env.kindOf x == some .cell) = false := by simpa using hc
    simp only [hc', Bool.false_eq_true, if_false, List.lookup_cons, e]; exact .inr trivial
  | false =>
   rw [e] at h
   by_cases hc : (k1 == NameKind.free && env.scope.kind == .function && env.kindOf n == some .cell) = true
   ·simp only [hc, if_true, List.lookup_cons, e]; exact ih h
   ·have hc' : (k1 == NameKind.free && env.scope.kind == .function && env.kindOf n == some .cell) = false := by simpa using hc
    simp only [hc', Bool.false_eq_true, if_false, List.lookup_cons, e]; exact ih h
noncomputable def D4 (X : Cx) (N' : List Str) (scope : Scope) (C : Addr) (s₀ : Shared) (H₀ : Hp) (ex : List Addr) : Cx where
 prog := X.prog
 w := X.w
 K := X.K
 mg := X.mg
 base := X.base
 A := X.A
 N := N'
 s₀ := s₀
 H₀ := H₀
 env := compEnvC scope (Q3 X.env.cells scope.names []) C X.env
 outer := X.stack
 stack := X.stack
 ex := ex
 fn := fun _ => false
 calm := X.calm
 pn := []
 xe := fun _ _ => False
structure CompSc (X : Cx) (N' : List Str) (n : Nat) (caps : List Nat) (scope : Scope) : Prop where
 kind : scope.kind = .function
 cell : ∀ y ∈ scope.names, y.2 ≠ .cell
 loc : ∀ y ∈ scope.names, y.2 = .local → scope.names.lookup y.1 = some .local
 free : ∀ y ∈ scope.names, y.2 = .free → X.env.scope.names.lookup y.1 = some .cell ∨ X.env.scope.names.lookup y.1 = some .free
 len : N'.length = n + caps.length
 cap : ∀ (i j : Nat), caps[i]? = some j → ∃ x, X.N[j]? = some x ∧ N'[n + i]? = some x ∧ scope.names.lookup x = some .free
section
variable {X : Cx} {N' : List Str} {n : Nat} {caps : List Nat} {scope : Scope}
theorem R7 {l : List (Str × NameKind)} {x : Str} {k : NameKind} (h : l.lookup x = some k) : (x, k) ∈ l := PySem.mem_of_lookup h
noncomputable def ak8 (n : Nat) (caps : List Nat) (σ : L2.St) : L2.St := List.replicate n none ++ caps.map fun j => (σ[j]?).join
theorem aC7 {pins : List (Addr × Obj)} {σ : L2.St} {H : Hp} {s : Shared} {h1 : Heap} {tk : Nat} {fp : List Addr} {m : Str → Option Value} (S : CompSc X N' n caps scope) (I : Inv X pins σ H s) (hf : ∀ b ∈ fp, Y3 X pins H b) (hlt : ∀ b ∈ fp, b < s.heap.objs.size)
  (hns : h1.Ns s.heap.objs.size m) (hk : ∀ b o, s.heap.get? b = some o → h1.get? b = some o) :
  Inv (D4 X N' scope s.heap.objs.size s H fp) [] (ak8 n caps σ) H { s with heap := h1, toks := tk } := by
 have cl_of : ∀ x c, (Q3 X.env.cells scope.names []).lookup x = some c → X.env.cells.lookup x = some c := fun x c h => by
  have hm := PySem.mem_of_lookup h
  rcases aa2 hm with q | ⟨q1, q2⟩
  ·cases q
  ·obtain ⟨c', hc'⟩ := I.ok.has x (S.free _ q1 rfl)
   rw [hc'] at q2
   rw [hc', q2]; rfl
 have cl_has : ∀ x, (x, NameKind.free) ∈ scope.names → ∃ c, (Q3 X.env.cells scope.names []).lookup x = some c := fun x h => by
  obtain ⟨c, hc⟩ := Z2 (cells := X.env.cells) (cs := []) (.inl h)
  exact p7 hc
 have kind_free : ∀ x, ((relabel scope X.env).names.lookup x = some .cell ∨ (relabel scope X.env).names.lookup x = some .free) → (x, NameKind.free) ∈ scope.names := fun x h => by
  rcases h with h | h
  ·obtain ⟨k0, e1, e2⟩ := v4 h
   rcases e2 with e2 | e2
   ·subst e2; exact absurd rfl (S.cell _ (R7 e1))
   ·subst e2; exact R7 e1
  ·obtain ⟨k0, e1, e2⟩ := v4 h
   rcases e2 with e2 | e2
   ·subst e2; exact R7 e1
   ·subst e2; exact R7 e1
 have cell_lt : ∀ x c, X.env.cells.lookup x = some c → c < s.heap.objs.size := fun x c e => by
  obtain ⟨v, q⟩ := I.cell x c e
  exact q.lt
 have ok : (D4 X N' scope s.heap.objs.size s H fp).Ok := by
  refine ⟨I.ok.mod, S.kind, I.ok.glob, I.ok.blt, Nat.le_refl _, fun x y c e1 e2 => I.ok.inj x y c (cl_of x c e1) (cl_of y c e2), fun x hx => cl_has x (kind_free x hx), fun x c e _ => (Bool.false_ne_true e).elim, I.ok.hd, I.ok.frames, .inl rfl, fun b hb => ⟨Nat.ne_of_lt (hlt b hb), fun x c e => (hf b hb).2.2.2.2.1 x c (cl_of x c e)⟩,
   I.bs, Nat.le_trans I.ok.bsz I.sz, fun b o e hb => ?_, fun b hb hb2 => ?_, I.stack, I.stkFree⟩
  ·rcases (hf b hb).2.2.2.1 with z | z
   ·exact I.ok.noex b o e z
   ·exact absurd (Nat.lt_of_lt_of_le (Heap.lt_size e) (Nat.le_trans I.ok.bsz z)) (Nat.lt_irrefl _)
  ·rcases List.mem_cons.mp (I.stkSub b hb2) with z | z
   ·exact (hf b hb).2.1 z
   ·exact (hf b hb).2.2.1 z
 refine ⟨ok, rfl, I.bare, Un.kept hk, ⟨m, hns, fun i x v e1 e2 e3 => ?_⟩, fun x c e => ?_, I.hok.fresh (Nat.le_refl _), fun x c e => I.freeC x c (cl_of x c e), fun p hp => absurd (show p ∈ ([] : List (Addr × Obj)) from hp) (by simp), I.hok.kept hk, ?_⟩
 ·have hi : n ≤ i := by
   rcases Nat.lt_or_ge i n with h | h
   ·unfold ak8 at e2
    rw [List.getElem?_append_left (by simpa using h), List.getElem?_replicate, if_pos h] at e2
    cases e2
   ·exact h
  unfold ak8 at e2
  rw [List.getElem?_append_right (by simpa using hi), List.getElem?_map] at e2
  simp only [List.length_replicate] at e2
  cases hj : caps[i - n]? with
  | none => rw [hj] at e2; cases e2
  | some j =>
   rw [hj] at e2
   have e2' : (σ[j]?).join = some v := by simpa using e2
   have e2'' : σ[j]? = some (some v) := by
    cases q : σ[j]? with
    | none => rw [q] at e2'; cases e2'
    | some o => rw [q] at e2'; simp at e2'; rw [e2']
   obtain ⟨y, q1, q2, q3⟩ := S.cap _ _ hj
   have : y = x := by
    have e1' : N'[i]? = some x := e1
    rw [show n + (i - n) = i by omega, e1'] at q2
    cases q2; rfl
   subst this
   obtain ⟨m0, hn0, hl0⟩ := I.loc
   have hv : Vis X.env.scope y := by
    rcases S.free _ (R7 q3) rfl with z | z
    ·exact .inr (.inl z)
    ·exact .inr (.inr z)
   obtain ⟨u, ru, lk⟩ := hl0 j y v q1 e2'' hv
   refine ⟨u, ru, .inr ⟨ap9 q3, ?_⟩⟩
   rcases lk with ⟨lk, _⟩ | ⟨_, c, hc, hcell⟩
   ·rcases S.free _ (R7 q3) rfl with z | z
    ·have : X.env.scope.names.lookup y = some .local := lk
     rw [z] at this; cases this
    ·have : X.env.scope.names.lookup y = some .local := lk
     rw [z] at this; cases this
   ·obtain ⟨c', hc'⟩ := cl_has y (R7 q3)
    have := cl_of y c' hc'
    rw [hc] at this; cases this
    obtain ⟨o, ho, hd⟩ := hcell
    exact ⟨c, hc', o, hk c o ho, hd⟩
 ·obtain ⟨v, o, ho, hd⟩ := I.cell x c (cl_of x c e)
  exact ⟨v, o, hk c o ho, hd⟩
 ·show (ak8 n caps σ).length = N'.length
  unfold ak8
  rw [S.len]; simp
theorem am7 {pins : List (Addr × Obj)} {σ σ' : L2.St} {H H' : Hp} {s s' : Shared} {h' : Heap} {fp : List Addr} (I : Inv X pins σ H s) (hf : ∀ b ∈ fp, Y3 X pins H b)
  (I' : Inv (D4 X N' scope s.heap.objs.size s H fp) [] σ' H' s') (sb : Heap.SameBut s.heap.objs.size s'.heap h') : Inv X pins σ H' { s' with heap := h' } := by
 have ne : ∀ b o, s.heap.get? b = some o → b ≠ s.heap.objs.size := fun b o e => Nat.ne_of_lt (Heap.lt_size e)
 refine I.call' (s' := { s' with heap := h' }) (ch := fp) I'.os ?_ ?_ I'.bare fun b hb => ⟨(hf b hb).2.2.2.1, (hf b hb).2.1, (hf b hb).2.2.2.2.1, (hf b hb).2.2.2.2.2⟩
 ·refine ⟨fun b o e n hb hx => sb.extBut b o (ne b o e) (I'.base.keep b o e n hb hx), fun b o e n hb hx => ?_, I'.base.free, fun b o e hx => ?_, I'.base.tups, I'.base.frzs, I'.base.tbls⟩
  ·obtain ⟨sl, q⟩ := I'.base.slot b o e n hb hx
   exact ⟨sl, sb.extBut b _ (ne b o e) q⟩
  ·obtain ⟨o', q⟩ := I'.base.there b o e hx
   exact ⟨o', sb.extBut b _ (ne b o e) q⟩
 ·intro b u e
  have nC : ∀ c v, H' c = some v → c ≠ s.heap.objs.size := fun c v q z => by
   have := I'.free
   have z' : H' c = none := by rw [z]; exact this
   rw [z'] at q; cases q
  refine (I'.hok b u e).stay (fun c v hc q => sb.extBut c v ?_ q) (fun _ q => q) fun _ _ q => q
  rcases hc with z | z
  ·rw [z]; exact nC b u e
  ·exact nC c _ z
noncomputable def PTs (X : Cx) (ifs : List Expr) (t : TT) : Prop :=
 ∀ (pins : List (Addr × Obj)) (s : Shared) (σ : L2.St) (H : Hp) (Q : Bool → Hp → Prop), Inv X pins σ H s → t σ H Q →
  wpAny (model X.prog X.w) X.A (forIn ifs true fun c r => if r = true then do let ok ← isTrue c X.env (eval c X.env); pure (ForInStep.yield ok) else pure (ForInStep.yield r)) (TP X pins σ Q) X.xe s
theorem bc9 : PTs X [] (fun _ H Q => Q true H) := fun pins s σ H Q I h => wpAny_tests_nil ⟨H, I, h⟩
theorem bc8 {c : Expr} {t : TT} (h : PT X c t) : PTs X [c] t := fun pins s σ H Q I q => wpAny_tests_one (h pins s σ H Q I q)
noncomputable def aQ2 (n : Nat) (caps : List Nat) (wi : TI) (g : TG) (tc : TT) (te : TE) : TE := fun σ H Q => wi σ H fun J H1 => ∀ Dd, H1 Dd = none → ∃ W : Nat → Nat → List V → L2.St → Hp → Prop,
 (∃ m, W 0 m [] (ak8 n caps σ) (upd H1 Dd (.lst []))) ∧
 ∀ i m ys σ' H', W i m ys σ' H' →
  (J.stop i H' ∧ Q (.ref Dd) H') ∨
  (J.go i H' ∧ ∀ x H2, J.yld i H' x H2 → g x σ' H2 fun σ3 H3 => tc σ3 H3 fun b H4 =>
   if b = true then te σ3 H4 fun y H5 => H5 Dd = some (.lst ys) ∧ ys.length < sizeLine ∧ ∃ m', m' < m ∧ W (i + 1) m' (ys ++ [y]) σ3 (upd H5 Dd (.lst (ys ++ [y])))
   else ∃ m', m' < m ∧ W (i + 1) m' ys σ3 H4)
theorem ay1 {elt tgt iter : Expr} {ifs : List Expr} {pos : Pos} {wi : TI} {g : TG} {tc : TT} {te : TE} {RR : Value → Addr → Result → Shared → Prop} {E : Value → Shared → Prop} (S : CompSc X N' n caps scope) (hx : ∀ e s, X.xe e s → False) (hc : X.calm = true)
  (hi : PI X tgt iter wi) (hg : ∀ C s0 H0 ex, PG (D4 X N' scope C s0 H0 ex) tgt g) (ht : ∀ C s0 H0 ex, PTs (D4 X N' scope C s0 H0 ex) ifs tc) (he : ∀ C s0 H0 ex, PE (D4 X N' scope C s0 H0 ex) elt te)
  {pins : List (Addr × Obj)} {s : Shared} {σ : L2.St} {H : Hp} {Q : VK} (I : Inv X pins σ H s) (h : aQ2 n caps wi g tc te σ H Q)
  (hRR : ∀ D C r s', r = .ok .next → (∃ m, s'.heap.Ns C m ∧ ∀ h', Heap.SameBut C s'.heap h' → ∃ H', Inv X pins σ H' { s' with heap := h' } ∧ Q (.ref D) H') →
   (∃ s2 fp σ' H2 H', s2.heap.objs.size = C ∧ Inv X pins σ H2 s2 ∧ (∀ b ∈ fp, Y3 X pins H2 b) ∧ Inv (D4 X N' scope s2.heap.objs.size s2 H2 fp) [] σ' H' s' ∧ Q (.ref D) H') → RR (.ref D) C r s') :
  wpAny (model X.prog X.w) X.A (eval iter X.env) (fun x s₁ => wpAny (model X.prog X.w) X.A (pyIter x) (fun it s₂ => wpAny (model X.prog X.w) X.A (newList []) (fun acc s₃ =>
   wpAny (model X.prog X.w) X.A (newFunctionEnv scope X.env.globals (Q3 X.env.cells scope.names []) [] X.env.qual none .none (some X.env)) (fun cenv s₄ =>
    codeAny (model X.prog X.w) X.A (.compStart (.ListComp elt [⟨tgt, iter, ifs, 0⟩] scope pos) 0 it acc { cenv with scope := relabel scope X.env }) (RR acc cenv.locals) s₄) E s₃) E s₂) E s₁) E s := by
 refine wpAny_mono (hi pins s σ H _ I h) (fun v s1 h1 => wpAny_mono h1 (fun itv s2 h2 => ?_) fun _ _ z => (hx _ _ z).elim) fun _ _ z => (hx _ _ z).elim
 obtain ⟨it, fp, tn, J, H2, e, I2, T, st2, f2, R⟩ := h2
 subst e
 refine wpAny_newObj_type (wpAny_newFunctionEnv S.cell (by intro y hy; simp at hy) (fun h₁ hns₁ hsb₁ => ?_) S.kind)
 dsimp only at hns₁ hsb₁ ⊢
 obtain ⟨W, ⟨m0, w0⟩, turn⟩ := R s2.heap.objs.size (I2.hok.fresh (Nat.le_refl _))
 have lt2 : ∀ b ∈ fp, b < s2.heap.objs.size := fun b hb => by
  obtain ⟨o, ho, _⟩ := T.obj _ _ st2 b hb
  exact Heap.lt_size ho
 have I3 : Inv X pins σ (upd H2 s2.heap.objs.size (.lst [])) { s2 with heap := s2.heap.push { cls := .type "list", dict := none, data := .seq ([] : List Value).toArray } } :=
  I2.laid (t' := s2.toks) (fun b u e => Heap.get?_push_of_some _ e) (Nat.le_refl _) ⟨Nat.zero_le _, [], 0, .nil, Heap.get?_push_size _ rfl⟩
 generalize hs3 : ({ s2 with heap := s2.heap.push { cls := .type "list", dict := none, data := .seq ([] : List Value).toArray } } : Shared) = s3 at I3
 have es3 : s3.heap = s2.heap.push { cls := .type "list", dict := none, data := .seq ([] : List Value).toArray } := by rw [← hs3]
 rw [← es3] at hns₁ hsb₁ ⊢
 have keep3 : ∀ b o, s3.heap.get? b = some o → h₁.get? b = some o := fun b o e => hsb₁.extBut b o (Nat.ne_of_lt (Heap.lt_size e)) (Heap.get?_push_of_some _ e)
 have lt3 : ∀ b ∈ fp, b < s3.heap.objs.size := fun b hb => by rw [es3, Heap.size_push]; exact Nat.lt_succ_of_lt (lt2 b hb)
 have f3 : ∀ b ∈ fp, Y3 X pins (upd H2 s2.heap.objs.size (.lst [])) b := fun b hb => ⟨by rw [A8 (Nat.ne_of_lt (lt2 b hb))]; exact (f2 b hb).1, (f2 b hb).2⟩
 generalize hH3 : upd H2 s2.heap.objs.size (HO.lst []) = H3 at I3 f3 w0
 have fin3 : ∀ {σ' : L2.St} {H' : Hp} {pl : List (Addr × Obj)}, (∀ b ∈ fp, H' b = none) → (∀ p ∈ pl, False) → ∀ b ∈ fp, Y3 (D4 X N' scope s3.heap.objs.size s3 H3 fp) pl H' b := fun {σ' H' pl} hn hp b hb => by
  refine ⟨hn b hb, Nat.ne_of_lt (lt3 b hb), fun z => ?_, .inl hb, fun x c e => ?_, fun p hp' => ?_⟩
  ·rcases List.mem_cons.mp (I3.stkSub b z) with z | z
   ·exact (f3 b hb).2.1 z
   ·exact (f3 b hb).2.2.1 z
  ·have hm := PySem.mem_of_lookup e
   rcases aa2 hm with q | ⟨q1, q2⟩
   ·cases q
   ·obtain ⟨c', hc'⟩ := I3.ok.has x (S.free _ q1 rfl)
    rw [hc'] at q2
    have q2' : c = c' := q2
    subst q2'
    exact (f3 b hb).2.2.2.2.1 x c hc'
  ·exact (hp p (by simpa [D4] using hp')).elim
 have toks : ∃ tk, ({ s2 with heap := h₁, toks := s2.toks + ([] : List (Str × Value)).length } : Shared) = { s3 with heap := h₁, toks := tk } := ⟨s2.toks, by rw [← hs3]; rfl⟩
 obtain ⟨tk, htk⟩ := toks
 have st4 : tn 0 h₁ := T.keep 0 s2.heap h₁ st2 fun b hb o e => keep3 b o (by rw [es3]; exact Heap.get?_push_of_some _ e)
 have I4 : Inv (D4 X N' scope s3.heap.objs.size s3 H3 fp) [] (ak8 n caps σ) H3 { s3 with heap := h₁, toks := tk } := aC7 S I3 f3 lt3 hns₁ keep3
 have loop : codeAny (model X.prog X.w) X.A (.compLoop (.ListComp elt [⟨tgt, iter, ifs, 0⟩] scope pos) 0 (.ref it) (.ref s2.heap.objs.size) (compEnvC scope (Q3 X.env.cells scope.names []) s3.heap.objs.size X.env)) (RR (.ref s2.heap.objs.size) s3.heap.objs.size) { s3 with heap := h₁, toks := tk } := by
  refine aN7 (fun k s' => ∃ i ys σ' H', Inv (D4 X N' scope s3.heap.objs.size s3 H3 fp) [] σ' H' s' ∧ tn i s'.heap ∧ (∀ b ∈ fp, H' b = none) ∧ W i k ys σ' H') ?_ m0 ⟨0, [], _, H3, I4, st4, fun b hb => (f3 b hb).1, w0⟩
  rintro k s5 ⟨i, ys, σ5, H5, I5, st5, fr5, w5⟩
  have pz : ∀ p ∈ ([] : List (Addr × Obj)), False := fun p hp => by cases hp
  rcases turn i k ys σ5 H5 w5 with ⟨stop, qn⟩ | ⟨go, step⟩
  ·refine wpAny_mono (T.done (D4 X N' scope s3.heap.objs.size s3 H3 fp) rfl rfl rfl hc i [] s5 σ5 H5 (fun _ _ => False) I5 (fin3 (σ' := σ5) fr5 pz) st5 stop) (fun r s6 ⟨hr, I6⟩ => ?_) fun _ _ z => z
   subst hr
   obtain ⟨m6, hn6, _⟩ := I6.loc
   refine hRR _ _ _ s6 rfl ⟨m6, hn6, fun h' sb => ⟨H5, am7 I3 f3 I6 sb, qn⟩⟩ ⟨s3, fp, σ5, H3, H5, rfl, I3, f3, I6, qn⟩
  ·refine wpAny_mono (T.item (D4 X N' scope s3.heap.objs.size s3 H3 fp) rfl rfl rfl hc i [] s5 σ5 H5 (fun _ _ => False) I5 (fin3 (σ' := σ5) fr5 pz) st5 go) (fun r s6 ⟨u, hr, h6⟩ => ?_) fun _ _ z => z
   subst hr
   refine wpAny_mono h6 (fun _ s7 ⟨x, H7, I7, r7, y7, st7, fr7⟩ => ?_) fun _ _ z => z
   have I7' := I7.pinned (fin3 (σ' := σ5) fr7 pz) (T.obj _ _ st7)
   refine wpAny_mono (hg _ _ _ _ _ s7 σ5 H7 x u _ I7' r7 (step x H7 y7)) (fun _ s8 ⟨σ8, H8, I8, q8⟩ => ?_) fun _ _ z => z
   refine wpAny_mono (ht _ _ _ _ _ s8 σ8 H8 _ I8 q8) (fun ok s9 ⟨H9, I9, q9⟩ => ?_) fun _ _ z => z
   have again : ∀ {σ' : L2.St} {H' : Hp} {s' : Shared}, Inv (D4 X N' scope s3.heap.objs.size s3 H3 fp) ([] ++ ai6 fp s7.heap) σ' H' s' → Inv (D4 X N' scope s3.heap.objs.size s3 H3 fp) [] σ' H' s' ∧ tn (i + 1) s'.heap ∧ ∀ b ∈ fp, H' b = none := fun {σ' H' s'} I' => by
    refine ⟨I'.unpinned, T.keep _ _ _ st7 fun b hb o e => (I'.pin (b, o) (List.mem_append_right _ (List.mem_append_right _ (a9 hb e)))).1, fun b hb => ?_⟩
    obtain ⟨o, e, d⟩ := T.obj _ _ st7 b hb
    exact (I'.pin (b, o) (List.mem_append_right _ (List.mem_append_right _ (a9 hb e)))).2.1
   cases ok with
   | false =>
    rw [if_neg Bool.false_ne_true] at q9 ⊢
    obtain ⟨m', hm, w'⟩ := q9
    obtain ⟨a1, a2, a3⟩ := again I9
    exact ⟨m', hm, i + 1, ys, σ8, H9, a1, a2, a3, w'⟩
   | true =>
    rw [if_pos rfl] at q9 ⊢
    refine wpAny_mono (he _ _ _ _ _ s9 σ8 H9 _ I9 q9) (fun y s10 ⟨vy, H10, I10, r10, q10, z10, m', hm, w'⟩ => ?_) fun _ _ z => z
    refine wpAny_mono (al7 (X := D4 X N' scope s3.heap.objs.size s3 H3 fp) _ s10 σ8 H10 (.ref s2.heap.objs.size) [vy] _ _ (fun v H' => v = .non ∧ H' = upd H10 s2.heap.objs.size (.lst (ys ++ [vy]))) I10 rfl (.cons r10 .nil) ⟨_, ys, vy, rfl, rfl, q10, z10, rfl, rfl⟩) (fun _ s11 ⟨v11, H11, I11, r11, e11, e12⟩ => ?_) fun _ _ z => z
    subst e12
    obtain ⟨a1, a2, a3⟩ := again I11
    exact ⟨m', hm, i + 1, ys ++ [vy], σ8, _, a1, a2, a3, w'⟩
 show codeAny (model X.prog X.w) X.A _ _ ({ s2 with heap := h₁, toks := s2.toks + ([] : List (Str × Value)).length } : Shared)
 rw [htk]
 exact codeAny_compStart_list loop (T.self _ _ _ _ _ st4 loop)
end
end G
namespace G
open PySem PySem.Spec PyProof.Rows L2
section
variable {X : Cx}
noncomputable def tgJ (K : PySem.W.Frag) (f : D → Rho → Option Rho) : TG := fun v σ H Q => ∃ d ρ ρ' H0 Hf, f d ρ = some ρ' ∧ D6 Hf H ∧ Slots K H0 ρ σ H Hf ∧ Rep K Hf d v ∧ ∀ σ', Slots K H0 ρ' σ' H Hf → Q σ' H
noncomputable def JG (X : Cx) (tg : Expr) (f : D → Rho → Option Rho) : Prop := PG X tg (tgJ X.K f)
noncomputable def bJ4 (K : PySem.W.Frag) (f : List D → Rho → Option Rho) : TGs := fun vs σ H Q => ∃ ds ρ ρ' H0 Hf, f ds ρ = some ρ' ∧ D6 Hf H ∧ Slots K H0 ρ σ H Hf ∧ Reps K Hf ds vs ∧ ∀ σ', Slots K H0 ρ' σ' H Hf → Q σ' H
noncomputable def JGs (X : Cx) (tg : List Expr) (f : List D → Rho → Option Rho) : Prop := PGs X tg (bJ4 X.K f)
noncomputable def L4 (i : Nat) : D → Rho → Option Rho := fun d ρ => some (ρ.set i (some (.val d)))
theorem bh6 (i : Nat) {x : Str} {pos : Pos} (hN : X.N.Nodup) (hi : X.N[i]? = some x := by rfl) (hx : Loc X.env.scope x := by first | exact Or.inl rfl | exact Or.inr rfl) (hf : X.fn x = true ∨ X.env.scope.names.lookup x = some .local := by first | exact .inl rfl | exact .inr rfl) : JG X (.Name x pos) (L4 i) := by
 intro pins s σ H v u Q I r ⟨d, ρ, ρ', H0, Hf, e, ss, sl, rp, k⟩
 cases e
 exact bd9 hN hi hx hf pins s σ H v u Q I r (k _ (sl.set rp))
noncomputable def N5 : List D → Rho → Option Rho := fun ds ρ => match ds with
 | [] => some ρ
 | _ => none
noncomputable def B6 (f : D → Rho → Option Rho) (g : List D → Rho → Option Rho) : List D → Rho → Option Rho := fun ds ρ => match ds with
 | d :: r => (f d ρ).bind fun ρ' => g r ρ'
 | [] => none
theorem bh5 : JGs X [] N5 := by
 intro pins s σ H vs us Q I r ⟨ds, ρ, ρ', H0, Hf, e, ss, sl, rp, k⟩
 cases ds with
 | nil => cases e; exact bd8 pins s σ H vs us Q I r ⟨rp, k _ sl⟩
 | cons d ds => cases e
theorem aW3 {e : Expr} {es : List Expr} {f : D → Rho → Option Rho} {g : List D → Rho → Option Rho} (h1 : JG X e f) (h2 : JGs X es g) (hs : (assignEach (e :: es) X.env).map (·.2) = assign e X.env :: (assignEach es X.env).map (·.2) := by rfl) : JGs X (e :: es) (B6 f g) := by
 intro pins s σ H vs us Q I r ⟨ds, ρ, ρ', H0, Hf, e, ss, sl, rp, k⟩
 cases ds with
 | nil => cases e
 | cons d ds =>
  obtain ⟨ρ1, e1, e2⟩ := xbm e
  obtain ⟨v, vr, rfl, q1, q2⟩ := rp
  exact aS6 h1 h2 hs pins s σ H _ us Q I r ⟨v, vr, rfl, d, ρ, ρ1, H0, Hf, e1, ss, sl, q1, fun σ' sl' => ⟨ds, ρ1, ρ', H0, Hf, e2, ss, sl', q2, k⟩⟩
noncomputable def M5 (n : Nat) (g : List D → Rho → Option Rho) : D → Rho → Option Rho := fun d ρ => match d with
 | .tuple ds => if ds.length = n then g ds ρ else none
 | _ => none
theorem bx1 {es : List Expr} {k n : Nat} {pos : Pos} {g : List D → Rho → Option Rho} (h : JGs X es g) (hc : X.calm = true := by rfl) (hn : (assignEach es X.env).length = n := by rfl) (hst : (assignEach es X.env).findIdx? (·.1) = none := by rfl) : JG X (.Tuple es k pos) (M5 n g) := by
 intro pins s σ H v u Q I r ⟨d, ρ, ρ', H0, Hf, e, ss, sl, rp, kk⟩
 cases d with
 | tuple ds =>
  simp only [M5] at e
  split at e
  ·rename_i hl
   obtain ⟨a, vs, rfl, q1, q2⟩ := rp
   exact br8 hc h hn hst pins s σ H _ u Q I r ⟨a, vs, rfl, B5 ss q1, by rw [q2.length, hl], ds, ρ, ρ', H0, Hf, e, ss, sl, q2, kk⟩
  ·cases e
 | _ => cases e
noncomputable def at6 (K : PySem.W.Frag) (J : It) (ds : List D) (Hf1 : Hp) : Prop := ∀ (i : Nat) (H Hf : Hp), D6 Hf1 Hf → D6 Hf H → (ds.length ≤ i → J.stop i H) ∧ ∀ d, ds[i]? = some d → J.go i H ∧ ∀ x H', J.yld i H x H' → ∃ Hf', Grow H Hf H' Hf' ∧ Rep K Hf' d x
noncomputable def tiJ (K : PySem.W.Frag) (ρ : Rho) (ds : List D) : TI := fun σ H R => ∃ H0 Hf, D6 Hf H ∧ Slots K H0 ρ σ H Hf ∧ ∀ J H' Hf', Grow H Hf H' Hf' → at6 K J ds Hf' → R J H'
noncomputable def JI (X : Cx) (tg iter : Expr) (f : Rho → Option (List D)) : Prop := ∀ ρ ds, f ρ = some ds → PI X tg iter (tiJ X.K ρ ds)
theorem aq4 {tg iter : Expr} {t t' : TI} (h : PI X tg iter t) (i : ∀ σ H R, t' σ H R → t σ H R) : PI X tg iter t' := fun pins s σ H R I q => h pins s σ H R I (i σ H R q)
noncomputable def V4 (f : DE) : Rho → Option (List D) := fun ρ => (f ρ).bind fun d => match d with
 | .list ds => some ds
 | .tuple ds => some ds
 | _ => none
theorem aC0 {tg e : Expr} {f : DE} (h : JE X e f) : JI X tg e (V4 f) := fun ρ ds q => by
 obtain ⟨d, e1, e2⟩ := xbm q
 cases d with
 | list xs =>
  cases e2
  refine aq4 (bd7 (h ρ _ e1)) fun σ H R ⟨H0, Hf, s, sl, k⟩ => ⟨H0, Hf, s, sl, fun v H1 Hf1 g1 ⟨a, vs, h1, h2, h3⟩ => ⟨a, h1, ⟨vs, D3 g1.sub h2⟩, k _ H1 Hf1 g1 ?_⟩⟩
  intro i H' Hf' sa sb
  have q' : SqL X.K H' a vs := D3 (sa.trans sb) h2
  refine ⟨fun hi => ⟨vs, q', by rw [h3.length]; exact hi⟩, fun d hd => ?_⟩
  obtain ⟨v, w1, w2⟩ := h3.get hd
  refine ⟨⟨vs, v, q', w1⟩, fun x H'' hy => ?_⟩
  obtain ⟨rfl, hy⟩ := hy
  have := hy vs q'
  rw [w1] at this; cases this
  exact ⟨Hf', Grow.refl sb, w2.mono sa⟩
 | tuple xs =>
  cases e2
  refine aq4 (br7 (h ρ _ e1)) fun σ H R ⟨H0, Hf, s, sl, k⟩ => ⟨H0, Hf, s, sl, fun v H1 Hf1 g1 ⟨a, vs, h1, h2, h3⟩ => ⟨a, h1, ⟨vs, B5 g1.sub h2⟩, k _ H1 Hf1 g1 ?_⟩⟩
  intro i H' Hf' sa sb
  have q' : SqT X.K H' a vs := B5 (sa.trans sb) h2
  refine ⟨fun hi => ⟨vs, q', by rw [h3.length]; exact hi⟩, fun d hd => ?_⟩
  obtain ⟨v, w1, w2⟩ := h3.get hd
  refine ⟨⟨vs, v, q', w1⟩, fun x H'' hy => ?_⟩
  obtain ⟨rfl, hy⟩ := hy
  have := hy vs q'
  rw [w1] at this; cases this
  exact ⟨Hf', Grow.refl sb, w2.mono sa⟩
 | _ => cases e2
noncomputable def X9 (lo hi : Int) : List D := (List.range (hi - lo).toNat).map fun (i : Nat) => PyData.int (lo + i)
theorem u6 {K : PySem.W.Frag} {lo hi : Int} {Hf1 : Hp} : at6 K (Itr lo (hi - lo).toNat) (X9 lo hi) Hf1 := by
 intro i H Hf sa sb
 have hl : (X9 lo hi).length = (hi - lo).toNat := by simp [X9]
 refine ⟨fun h => by rw [hl] at h; exact h, fun d hd => ?_⟩
 have hi' : i < (hi - lo).toNat := by
  have := (List.getElem?_eq_some_iff.mp hd).1
  rw [hl] at this; exact this
 refine ⟨hi', fun x H' hy => ?_⟩
 obtain ⟨e1, e2⟩ := hy
 subst e1 e2
 have : d = .int (lo + i) := by
  have : (X9 lo hi)[i]? = some (.int (lo + i)) := by simp [X9, hi']
  rw [hd] at this; cases this; rfl
 subst this
 exact ⟨Hf, Grow.refl sb, rfl⟩
noncomputable def U3 (f : DE) : Rho → Option (List D) := fun ρ => (f ρ).bind fun d => match d with
 | .int j => if -(2 ^ 62) ≤ j ∧ j < 2 ^ 62 then some (X9 0 j) else none
 | _ => none
theorem aM3 {tg e : Expr} {f : DE} {p pos : Pos} (hg : Gl X "range") (hm : X.mg "range" = none) (h : JE X e f) (hs : starEach [e] X.env = [(false, eval e X.env)] := by rfl) : JI X tg (.Call (.Name "range" p) [e] [] pos) (U3 f) := fun ρ ds q => by
 obtain ⟨d, e1, e2⟩ := xbm q
 split at e2
 ·split at e2
  ·rename_i j c
   cases e2
   refine aq4 (aK3 hg hm (C0 (h ρ _ e1) K2 hs) hs) fun σ H R ⟨H0, Hf, s, sl, k⟩ => ⟨H0, Hf, s, sl, fun v H1 Hf1 g1 r => ⟨j, by rw [show v = _ from r], c.1, c.2, k _ H1 Hf1 g1 ?_⟩⟩
   have := u6 (K := X.K) (lo := 0) (hi := j) (Hf1 := Hf1)
   rw [Int.sub_zero] at this
   exact this
  ·cases e2
 ·cases e2
noncomputable def bm0 (f g : DE) : Rho → Option (List D) := fun ρ => (f ρ).bind fun d => (g ρ).bind fun e => match d, e with
 | .int i, .int j => if (-(2 ^ 62) ≤ i ∧ i < 2 ^ 62) ∧ -(2 ^ 62) ≤ j ∧ j < 2 ^ 62 then some (X9 i j) else none
 | _, _ => none
theorem aM2 {tg a b : Expr} {f g : DE} {p pos : Pos} (hg : Gl X "range") (hm : X.mg "range" = none) (ha : JE X a f) (hb : JE X b g) (hs : starEach [a, b] X.env = [(false, eval a X.env), (false, eval b X.env)] := by rfl) (hs2 : starEach [b] X.env = [(false, eval b X.env)] := by rfl) :
  JI X tg (.Call (.Name "range" p) [a, b] [] pos) (bm0 f g) := fun ρ ds q => by
 obtain ⟨d, e1, q⟩ := xbm q
 obtain ⟨e, e2, q⟩ := xbm q
 split at q
 ·split at q
  ·rename_i c
   cases q
   refine aq4 (aK2 hg hm (C0 (ha ρ _ e1) (C0 (hb ρ _ e2) K2 hs2) (by rw [hs, hs2])) hs hs2) fun σ H R ⟨H0, Hf, s, sl, k⟩ => ⟨H0, Hf, s, sl, fun v H1 Hf1 g1 r => ⟨H0, Hf1, g1.sub, sl.grow g1, fun u H2 Hf2 g2 r2 => ⟨_, _, by rw [show v = _ from r, show u = _ from r2], ⟨c.1.1, c.1.2, c.2.1, c.2.2⟩, k _ H2 Hf2 (g1.trans g2) u6⟩⟩⟩
  ·cases q
 ·cases q
theorem Grow.nofr {H Hf H' Hf' : Hp} {a : Addr} {o : HO} (g : Grow H Hf H' Hf') (h : H a = some o) (n : Hf a = none) : Hf' a = none := by
 cases q : Hf' a with
 | none => rfl
 | some u =>
  rcases g.new a (by rw [q]; simp) with z | z
  ·exact absurd n z
  ·rw [h] at z; cases z
noncomputable def d7 (n : Nat) (caps : List Nat) (ρ : Rho) : Rho := List.replicate n none ++ caps.map fun j => match ρ[j]? with
 | some (some (.val d)) => some (.val d)
 | _ => none
noncomputable def U4 (g : D → Rho → Option Rho) (c : Rho → Option Bool) (e : DE) : List D → Rho → Option (List D)
 | [], _ => some []
 | d :: ds, ρ => (g d ρ).bind fun ρ1 => (c ρ1).bind fun b => if b then (e ρ1).bind fun y => (U4 g c e ds ρ1).map fun r => y :: r else U4 g c e ds ρ1
noncomputable def L1 (n : Nat) (caps : List Nat) (src : Rho → Option (List D)) (g : D → Rho → Option Rho) (c : Rho → Option Bool) (e : DE) : Rho → Option (List D) := fun ρ => (src ρ).bind fun ds => if ds.length ≤ 16777216 then U4 g c e ds (d7 n caps ρ) else none
noncomputable def al1 (K : PySem.W.Frag) (c : Rho → Option Bool) : TT := fun σ H Q => ∃ ρ b, c ρ = some b ∧ ∃ H0 Hf, D6 Hf H ∧ Slots K H0 ρ σ H Hf ∧ ∀ H' Hf', Grow H Hf H' Hf' → Q b H'
noncomputable def aE5 (K : PySem.W.Frag) (e : DE) : TE := fun σ H Q => ∃ ρ d, e ρ = some d ∧ tJ K ρ (fun _ v _ Hf => Rep K Hf d v) σ H Q
noncomputable def JTs (X : Cx) (ifs : List Expr) (c : Rho → Option Bool) : Prop := PTs X ifs (al1 X.K c)
noncomputable def K1 : Rho → Option Bool := fun _ => some true
theorem bg2 : JTs X [] K1 := fun pins s σ H Q I ⟨ρ, b, e, H0, Hf, ss, sl, k⟩ => by
 cases e
 exact bc9 pins s σ H Q I (k H Hf (Grow.refl ss))
theorem bg1 {e : Expr} {c : Rho → Option Bool} (h : JT X e c) : JTs X [e] c := fun pins s σ H Q I ⟨ρ, b, e, H0, Hf, ss, sl, k⟩ => bc8 (h ρ b e) pins s σ H Q I ⟨H0, Hf, ss, sl, k⟩
theorem aD0 {K : PySem.W.Frag} {n : Nat} {caps : List Nat} {H0 H H1 H' Hf : Hp} {ρ : Rho} {σ : L2.St} (sl : Slots K H0 ρ σ H Hf) : Slots K H1 (d7 n caps ρ) (ak8 n caps σ) H' Hf := by
 have noown : ∀ (i : Nat) (ds : List D), (d7 n caps ρ)[i]? ≠ some (some (.own ds)) := fun i ds h => by
  unfold d7 at h
  rcases Nat.lt_or_ge i n with q | q
  ·rw [List.getElem?_append_left (by simpa using q), List.getElem?_replicate, if_pos q] at h; cases h
  ·rw [List.getElem?_append_right (by simpa using q), List.getElem?_map] at h
   cases hj : caps[i - (List.replicate n (none : Option B)).length]? with
   | none => rw [hj] at h; cases h
   | some j =>
    rw [hj] at h
    simp only [Option.map_some, Option.some.injEq] at h
    split at h <;> cases h
 refine ⟨by simp [d7, ak8], fun i b e => ?_, fun i j ds es a h1 => (noown i ds h1).elim⟩
 unfold d7 at e
 unfold ak8
 rcases Nat.lt_or_ge i n with q | q
 ·rw [List.getElem?_append_left (by simpa using q), List.getElem?_replicate, if_pos q] at e; cases e
 ·rw [List.getElem?_append_right (by simpa using q), List.getElem?_map] at e
  rw [List.getElem?_append_right (by simpa using q), List.getElem?_map]
  simp only [List.length_replicate] at e ⊢
  cases hj : caps[i - n]? with
  | none => rw [hj] at e; cases e
  | some j =>
   rw [hj] at e
   simp only [Option.map_some, Option.some.injEq] at e ⊢
   split at e
   ·rename_i d hd
    cases e
    obtain ⟨v, h1, h2⟩ := sl.is j _ hd
    exact ⟨v, by rw [h1]; rfl, h2⟩
   ·cases e
theorem t7 {K : PySem.W.Frag} {n : Nat} {caps : List Nat} {ρ : Rho} {src : Rho → Option (List D)} {g : D → Rho → Option Rho} {c : Rho → Option Bool} {e : DE} {out : List D} (h : L1 n caps src g c e ρ = some out) :
  ∃ ds, src ρ = some ds ∧ ∀ σ H Q, tJ K ρ (fun H v H' Hf' => ∃ a vs, v = .ref a ∧ H a = none ∧ H' a = some (.lst vs) ∧ Hf' a = none ∧ Reps K Hf' out vs) σ H Q → aQ2 n caps (tiJ K ρ ds) (tgJ K g) (al1 K c) (aE5 K e) σ H Q := by
 obtain ⟨ds, e1, e2⟩ := xbm h
 split at e2
 ·rename_i hz
  refine ⟨ds, e1, fun σ H Q ⟨H0, Hf, s, sl, k⟩ => ⟨H0, Hf, s, sl, fun J H1 Hf1 g1 Y Dd hD => ?_⟩⟩
  refine ⟨fun i m ys σ' H' => m = ds.length - i ∧ i ≤ ds.length ∧ ∃ Hf' ρ' o1 o2, Grow H1 Hf1 H' Hf' ∧ H' Dd = some (.lst ys) ∧ Hf' Dd = none ∧ Slots K (upd H1 Dd (.lst [])) ρ' σ' H' Hf' ∧ Reps K Hf' o1 ys ∧ o1.length ≤ i ∧ U4 g c e (ds.drop i) ρ' = some o2 ∧ o1 ++ o2 = out,
   ⟨ds.length, by simp, Nat.zero_le _, Hf1, d7 n caps ρ, [], out, Grow.made g1.sub hD, A7, g1.sub.free hD, aD0 (sl.grow g1), rfl, Nat.le_refl _, by simpa using e2, rfl⟩, ?_⟩
  rintro i m ys σ' H' ⟨rfl, hi, Hf', ρ', o1, o2, gr, hd1, hd2, sl', rp, ho, ec, eo⟩
  obtain ⟨Ys, Yg⟩ := Y i H' Hf' gr.ext gr.sub
  rcases Nat.lt_or_ge i ds.length with hlt | hge
  ·right
   obtain ⟨go, yl⟩ := Yg ds[i] (by simp [hlt])
   refine ⟨go, fun x H2 hy => ?_⟩
   obtain ⟨Hf2, g2, r2⟩ := yl x H2 hy
   rw [List.drop_eq_getElem_cons hlt] at ec
   obtain ⟨ρ1, c1, ec⟩ := xbm ec
   obtain ⟨b, c2, ec⟩ := xbm ec
   refine ⟨ds[i], ρ', ρ1, _, Hf2, c1, g2.sub, sl'.grow g2, r2, fun σ3 sl3 => ⟨ρ1, b, c2, _, Hf2, g2.sub, sl3, fun H4 Hf4 g4 => ?_⟩⟩
   have gr4 := (gr.trans g2).trans g4
   have hd4 : H4 Dd = some (.lst ys) := g4.big _ _ (g2.big _ _ hd1)
   have hf4 : Hf4 Dd = none := (g2.trans g4).nofr hd1 hd2
   have rp4 := rp.mono (g2.trans g4).ext
   cases b with
   | false =>
    rw [if_neg Bool.false_ne_true] at ec
    refine ak6 ?_
    exact ⟨ds.length - (i + 1), by omega, rfl, hlt, Hf4, ρ1, o1, o2, gr4, hd4, hf4, sl3.grow g4, rp4, by omega, ec, eo⟩
   | true =>
    rw [if_pos rfl] at ec
    refine ak5 ?_
    obtain ⟨y, c3, ec⟩ := xbm ec
    obtain ⟨o3, c4, rfl⟩ := Option.map_eq_some_iff.mp ec
    refine ⟨ρ1, y, c3, _, Hf4, g4.sub, sl3.grow g4, fun v H5 Hf5 g5 r5 => ⟨g5.big _ _ hd4, ?_, ?_⟩⟩
    ·rw [rp.length, sizeLine_eq]; omega
    ·have hf5 : Hf5 Dd = none := g5.nofr hd4 hf4
     have gr5 := gr4.trans g5
     refine ⟨ds.length - (i + 1), by omega, rfl, hlt, Hf5, ρ1, o1 ++ [y], o3, ⟨fun b u q => ?_, fun b u q => ?_, gr5.ext, gr5.new⟩, A7, hf5, ?_, (rp4.mono g5.ext).append ⟨v, [], rfl, r5, rfl⟩, by simp; omega, c4, by simp [← eo]⟩
     ·rw [A8 (A9 q hD)]; exact gr5.big b u q
     ·rw [A8 (A9 q hf5)]; exact gr5.sub b u q
     ·have sl5 := (sl3.grow g4).grow g5
      refine ⟨sl5.len, fun j bb q => ?_, sl5.apart⟩
      obtain ⟨w, q1, q2⟩ := sl5.is j bb q
      refine ⟨w, q1, ?_⟩
      cases bb with
      | val d => exact q2
      | own dd =>
       obtain ⟨a, vs, z1, z2, z3, z4, z5⟩ := q2
       have ne : a ≠ Dd := fun z => by rw [z, A7] at z4; cases z4
       exact ⟨a, vs, z1, by rw [A8 ne]; exact z2, z3, z4, z5⟩
  ·left
   have : i = ds.length := by omega
   subst this
   rw [List.drop_length] at ec
   cases ec
   rw [List.append_nil] at eo
   subst eo
   exact ⟨Ys (Nat.le_refl _), k _ H' Hf' (g1.trans gr) ⟨Dd, ys, rfl, g1.big.free hD, hd1, hd2, rp⟩⟩
 ·cases e2
end
end G
namespace G
open PySem PySem.Spec PyProof.Rows L2
section
variable {X : Cx}
noncomputable def ag7 (N N' : List Str) (n : Nat) (caps : List Nat) (sc scope : Scope) : Bool :=
 (match scope.kind with | .function => true | _ => false) &&
 (scope.names.all fun y => (match y.2 with | .cell => false | .local => scope.names.lookup y.1 == some .local | .free => sc.names.lookup y.1 == some .cell || sc.names.lookup y.1 == some .free | _ => true)) &&
 (N'.length == n + caps.length) &&
 ((List.range caps.length).all fun i => match caps[i]? with
  | some j => (match N[j]? with | some x => N'[n + i]? == some x && scope.names.lookup x == some .free | none => false)
  | none => true)
theorem aN8 {N N' : List Str} {n : Nat} {caps : List Nat} {sc scope : Scope} (h : ag7 N N' n caps sc scope = true) (hN : X.N = N) (hS : X.env.scope = sc) : CompSc X N' n caps scope := by
 subst hN hS
 unfold ag7 at h
 simp only [Bool.and_eq_true, List.all_eq_true] at h
 obtain ⟨⟨⟨h1, h2⟩, h3⟩, h4⟩ := h
 refine ⟨?_, fun y hy e => ?_, fun y hy e => ?_, fun y hy e => ?_, by simpa using h3, fun i j e => ?_⟩
 ·cases q : scope.kind <;> rw [q] at h1 <;> first | rfl | cases h1
 ·have := h2 y hy
  rw [e] at this; cases this
 ·have := h2 y hy
  rw [e] at this; simpa using this
 ·have := h2 y hy
  rw [e] at this; simpa using this
 ·have hi : i < caps.length := (List.getElem?_eq_some_iff.mp e).1
  have := h4 i (by simpa using hi)
  rw [e] at this
  simp only at this
  cases q : X.N[j]? with
  | none => rw [q] at this; cases this
  | some x =>
   rw [q] at this
   simp only [Bool.and_eq_true] at this
   exact ⟨x, rfl, by simpa using this.1, by simpa using this.2⟩
theorem aH7 {N' : List Str} {n : Nat} {caps : List Nat} {scope : Scope} {pins : List (Addr × Obj)} {σ : L2.St} {H : Hp} {s : Shared} (S : CompSc X N' n caps scope) (I : Inv X pins σ H s) : closureFor scope X.env = pure (Q3 X.env.cells scope.names []) :=
 bj7 fun y hy e => I.ok.has y.1 (S.free y hy e)
theorem bh2 {N' : List Str} {n : Nat} {caps : List Nat} {scope : Scope} {elt tgt iter : Expr} {ifs : List Expr} {pos : Pos} {src : Rho → Option (List D)} {g : D → Rho → Option Rho} {c : Rho → Option Bool} {e : DE} (S : CompSc X N' n caps scope) (hx : ∀ e s, X.xe e s → False)
  (hi : JI X tgt iter src) (hg : ∀ C s0 H0 ex, JG (D4 X N' scope C s0 H0 ex) tgt g) (ht : ∀ C s0 H0 ex, JTs (D4 X N' scope C s0 H0 ex) ifs c) (he : ∀ C s0 H0 ex, JE (D4 X N' scope C s0 H0 ex) elt e)
  (hc : X.calm = true := by rfl) (hs : ∀ x, foldedSetIterable iter X.env x = pure x := by intro _; rfl) : JN X (.ListComp elt [⟨tgt, iter, ifs, 0⟩] scope pos) (L1 n caps src g c e) := by
 intro ρ out h
 obtain ⟨ds, e1, k⟩ := t7 (K := X.K) h
 intro pins s σ H Q I t
 rw [eval_ListComp]
 refine wpAny_comprehension_free (use := none) rfl hs (aH7 S I) S.kind S.loc (ay1 (RR := fun acc C => compPost (model X.prog X.w) X.A X.xe none (EP X pins σ Q) acc C) S hx hc (hi ρ ds e1) (g := tgJ X.K g) (tc := al1 X.K c) (te := aE5 X.K e) hg ht (fun C s0 H0 ex pins s σ H Q I ⟨ρ, d, e, t⟩ => he C s0 H0 ex ρ d e pins s σ H Q I t) I (k σ H Q t) ?_)
 intro Dd C r s' hr ⟨m, hn, kk⟩ _
 subst hr
 exact ⟨m, hn, fun h' sb => let ⟨H', I', q⟩ := kk h' sb; ⟨.ref Dd, H', I', rfl, q⟩⟩
theorem ai3 {N' : List Str} {n : Nat} {caps : List Nat} {scope : Scope} {elt tgt iter : Expr} {ifs : List Expr} {pos pos' spos : Pos} {i : Nat} {x : Str} {wi : TI} {g : TG} {tc : TT} {te : TE} (S : CompSc X N' n caps scope) (hx : ∀ e s, X.xe e s → False) (hc : X.calm = true)
  (hN : X.N.Nodup) (hi : X.N[i]? = some x) (hl : X.env.scope.names.lookup x = some .local) (hsrc : PI X tgt iter wi) (hg : ∀ C s0 H0 ex, PG (D4 X N' scope C s0 H0 ex) tgt g) (ht : ∀ C s0 H0 ex, PTs (D4 X N' scope C s0 H0 ex) ifs tc) (he : ∀ C s0 H0 ex, PE (D4 X N' scope C s0 H0 ex) elt te)
  (hsw : swapsWith (.ListComp elt [⟨tgt, iter, ifs, 0⟩] scope pos) (some (.Name x pos')) spos.line X.env = pure true) (hs : ∀ x, foldedSetIterable iter X.env x = pure x) :
  PS X (.Assign [.Name x pos'] (.ListComp elt [⟨tgt, iter, ifs, 0⟩] scope pos) spos) (fun En σ H => aQ2 n caps wi g tc te σ H fun v H' => En.nx (σ.set i (some v)) H') := by
 intro pins s σ H En I h
 rw [exec_Assign_Name_used _ _ _ _ hsw]
 refine wpAny_bind (wpAny_standAt (wpAny_bind ?_))
 show wpAny _ X.A (do let _ ← comprehension (.ListComp elt [⟨tgt, iter, ifs, 0⟩] scope pos) scope X.env _ (newList []) false (eval iter X.env) (some (assign (.Name x pos') X.env))) _ _ s
 refine wpAny_bind (wpAny_mono (wpAny_comprehension_free (use := some (assign (.Name x pos') X.env)) (Q := fun _ s' => SP X pins En .next s') rfl hs (aH7 S I) S.kind S.loc
  (ay1 (RR := fun acc C => compPost (model X.prog X.w) X.A X.xe (some (assign (.Name x pos') X.env)) (fun _ s' => SP X pins En .next s') acc C) S hx hc hsrc hg ht he I h ?_)) (fun _ s' hq => wpAny_pure (wpAny_pure hq)) fun _ _ z => z)
 intro Dd C r s' hr _ ⟨s2, fp, σ', H2, H', eC, I2, f2, I', q⟩
 subst hr eC
 have IX : Inv X pins σ H' s' := am7 (h' := s'.heap) I2 f2 I' (Heap.SameBut.refl ..)
 obtain ⟨mC, hnC, _⟩ := I'.loc
 have hCL : s2.heap.objs.size ≠ X.env.locals := fun z => by
  have := I2.lt
  rw [← z] at this
  exact Nat.lt_irrefl _ this
 show wpAny _ X.A (assign (.Name x pos') X.env (.ref Dd)) _ _ _
 refine wpAny_assign_Name (al3 (v := .ref Dd) IX hN hi (.inl hl) rfl (fun s3 I3 ⟨a, sb, ha⟩ => ?_) (.inr hl))
 have hCa : s2.heap.objs.size ≠ a := fun z => by
  rcases ha with ha | ha
  ·exact hCL (z.trans ha)
  ·obtain ⟨v, q'⟩ := I2.cell x a ha
   have := q'.lt
   rw [← z] at this
   exact Nat.lt_irrefl _ this
 refine ⟨mC, hnC.sameBut sb hCa, fun h' sb' => ?_⟩
 refine ⟨_, H', I3.turned (t' := s3.toks) (it := s2.heap.objs.size) (fun b o hb e => sb'.extBut b o hb e) I'.free hCL (.inr I2.sz) (fun y c e z => ?_) (fun p hp z => ?_), q⟩
 ·obtain ⟨v, q'⟩ := I2.cell y c e
  have := q'.lt
  rw [z] at this
  exact Nat.lt_irrefl _ this
 ·have := Heap.lt_size (I2.pin p hp).1
  rw [z] at this
  exact Nat.lt_irrefl _ this
noncomputable def Q0 (i : Nat) (f : Rho → Option (List D)) : DS := fun ρ => (f ρ).map fun ds => .nx (ρ.set i (some (.val (.list ds))))
theorem bg8 (i : Nat) {N' : List Str} {n : Nat} {caps : List Nat} {scope : Scope} {elt tgt iter : Expr} {ifs : List Expr} {pos pos' spos : Pos} {x : Str} {src : Rho → Option (List D)} {g : D → Rho → Option Rho} {c : Rho → Option Bool} {e : DE} (hN : X.N.Nodup) (S : CompSc X N' n caps scope) (hx : ∀ e s, X.xe e s → False)
  (hi : JI X tgt iter src) (hg : ∀ C s0 H0 ex, JG (D4 X N' scope C s0 H0 ex) tgt g) (ht : ∀ C s0 H0 ex, JTs (D4 X N' scope C s0 H0 ex) ifs c) (he : ∀ C s0 H0 ex, JE (D4 X N' scope C s0 H0 ex) elt e)
  (hi2 : X.N[i]? = some x := by rfl) (hl : X.env.scope.names.lookup x = some .local := by rfl) (hsw : swapsWith (.ListComp elt [⟨tgt, iter, ifs, 0⟩] scope pos) (some (.Name x pos')) spos.line X.env = pure true := by rfl)
  (hc : X.calm = true := by rfl) (hs : ∀ x, foldedSetIterable iter X.env x = pure x := by intro _; rfl) : JS X (.Assign [.Name x pos'] (.ListComp elt [⟨tgt, iter, ifs, 0⟩] scope pos) spos) (Q0 i (L1 n caps src g c e)) := fun ρ fl q H0 Hf0 => by
 obtain ⟨out, e1, e2⟩ := Option.map_eq_some_iff.mp q
 subst e2
 obtain ⟨ds, e3, k⟩ := t7 (K := X.K) e1
 refine O1 (ai3 S hx hc hN hi2 hl (hi ρ ds e3) (g := tgJ X.K g) (tc := al1 X.K c) (te := aE5 X.K e) hg ht (fun C s0 H0 ex pins s σ H Q I ⟨ρ, d, e, t⟩ => he C s0 H0 ex ρ d e pins s σ H Q I t) hsw hs) fun En σ H ⟨Hf, a, ee⟩ => k σ H _ ⟨H0, Hf, a.gr.sub, a.sl, fun v H' Hf' gg ⟨p, vs, z1, z2, z3, z4, z5⟩ => ?_⟩
 subst z1
 have g2 := gg.freeze z3 z4 z2
 exact ee _ H' _ ⟨a.gr.trans g2, (a.sl.grow g2).set ⟨p, vs, rfl, SqL.of A7, z5.mono (B9 z4)⟩⟩ g2.ext
theorem bv7 {i j : Nat} {x y : Str} {a b : Expr} {f : Rho → Option (List D)} {px py pt : Pos} {kt k2 pt2} {pos : Pos} (hN : X.N.Nodup) (ha : JA X [a, b] f) (hw : swappedStores [.Tuple [.Name x px, .Name y py] kt pt] (.Tuple [a, b] k2 pt2) X.env = pure (some [x, y])) (hij : i ≠ j)
  (hi : X.N[i]? = some x := by rfl) (hj : X.N[j]? = some y := by rfl) (hx : X.env.scope.names.lookup x = some .local := by rfl) (hy : X.env.scope.names.lookup y = some .local := by rfl) (hc : X.calm = true := by rfl)
  (hs : swapsWithSole [.Tuple [.Name x px, .Name y py] kt pt] (.Tuple [a, b] k2 pt2) pos.line X.env = pure false := by rfl) : JS X (.Assign [.Tuple [.Name x px, .Name y py] kt pt] (.Tuple [a, b] k2 pt2) pos) (aR2 i j f) := fun ρ fl q H0 Hf0 => by
 obtain ⟨ds, e1, e2⟩ := xbm q
 split at e2
 ·cases e2
  refine O1 (br3 hc hN hi hj hij hx hy (fun pos pins s σ H Q I t => ha.run ρ _ e1 pos pins s σ H Q I t) hw hs) fun En σ H ⟨Hf, at', e⟩ => ⟨H0, Hf, at'.gr.sub, at'.sl, fun vs H' Hf' gg rp => ?_⟩
  obtain ⟨v, r, rfl, r1, w, r', rfl, r2, r3⟩ := rp
  cases r3
  exact ⟨v, w, rfl, e _ H' Hf' ⟨at'.gr.trans gg, ((at'.sl.grow gg).set r1).set r2⟩ gg.ext⟩
 ·cases e2
noncomputable def g8 (f : DE) (g : D → Rho → Option Rho) : DS := fun ρ => (f ρ).bind fun d => (g d ρ).map Fl.nx
theorem aV9 {tg e : Expr} {f : DE} {g : D → Rho → Option Rho} {pos : Pos} (he : JE X e f) (hg : JG X tg g) (hs : swapsWithSole [tg] e pos.line X.env = pure false := by rfl) (hw : swappedStores [tg] e X.env = pure none := by rfl)
  (h1 : (assignEach [tg] X.env).map (·.2) = [assign tg X.env] := by rfl) : JS X (.Assign [tg] e pos) (g8 f g) := fun ρ fl q H0 Hf0 => by
 obtain ⟨d, e1, e2⟩ := xbm q
 obtain ⟨ρ', e3, e4⟩ := Option.map_eq_some_iff.mp e2
 subst e4
 exact O1 (br5 (he ρ d e1) hg hs hw h1) fun En σ H ⟨Hf, a, ee⟩ => ⟨H0, Hf, a.gr.sub, a.sl, fun v H' Hf' gg r => ⟨d, ρ, ρ', H0, Hf', e3, gg.sub, a.sl.grow gg, r, fun σ' sl' => ee σ' H' Hf' ⟨a.gr.trans gg, sl'⟩ gg.ext⟩⟩
noncomputable def aR3 (i : Nat) (f : Rho → Option (List D)) : DS := fun ρ => (f ρ).map fun ds => .nx (ρ.set i (some (.own ds)))
theorem Slots.setOwn {K : PySem.W.Frag} {H0 H H' Hf Hf' : Hp} {ρ : Rho} {σ : L2.St} {i : Nat} {ds : List D} {a : Addr} {vs : List V} (s : Slots K H0 ρ σ H Hf) (g : Grow H Hf H' Hf') (n0 : H0 a = none) (n : H a = none) (h : H' a = some (.lst vs)) (nf : Hf' a = none) (r : Reps K Hf' ds vs) :
  Slots K H0 (ρ.set i (some (.own ds))) (σ.set i (some (.ref a))) H' Hf' := by
 have s' := s.grow g
 have old : ∀ (j : Nat) (es : List D), i ≠ j → ρ[j]? = some (some (.own es)) → σ[j]? ≠ some (some (.ref a)) := fun j es hj e z => by
  obtain ⟨v, h1, b, us, e1, h2, _⟩ := s.is j _ e
  rw [z] at h1; cases h1; cases e1
  rw [n] at h2; cases h2
 refine ⟨by simp [s.len], fun j b e => ?_, fun j k ds1 es b h1 h2 h3 h4 => ?_⟩
 ·by_cases q : i = j
  ·subst q
   have hi : i < ρ.length := by simpa using (List.getElem?_eq_some_iff.mp e).1
   have hi' : i < σ.length := by rw [← s.len]; exact hi
   rw [List.getElem?_set_self hi] at e
   cases e
   exact ⟨_, List.getElem?_set_self hi', a, vs, rfl, h, nf, n0, r⟩
  ·rw [List.getElem?_set_ne q] at e
   obtain ⟨u, h1, h2⟩ := s'.is j b e
   exact ⟨u, by rw [List.getElem?_set_ne q]; exact h1, h2⟩
 ·by_cases qj : i = j
  ·by_cases qk : i = k
   ·rw [← qj, ← qk]
   ·subst qj
    have hi : i < ρ.length := by simpa using (List.getElem?_eq_some_iff.mp h1).1
    rw [List.getElem?_set_self (by rw [← s.len]; exact hi)] at h3
    rw [List.getElem?_set_ne qk] at h2 h4
    cases h3
    exact (old k es qk h2 h4).elim
  ·rw [List.getElem?_set_ne qj] at h1 h3
   by_cases qk : i = k
   ·subst qk
    have hi : i < ρ.length := by simpa using (List.getElem?_eq_some_iff.mp h2).1
    rw [List.getElem?_set_self (by rw [← s.len]; exact hi)] at h4
    cases h4
    exact (old j ds1 qj h1 h3).elim
   ·rw [List.getElem?_set_ne qk] at h2 h4
    exact s.apart j k ds1 es b h1 h2 h3 h4
theorem bv8 (i : Nat) {x : Str} {e : Expr} {f : Rho → Option (List D)} {pos pos' : Pos} (hN : X.N.Nodup) (h : JN X e f) (hi : X.N[i]? = some x := by rfl) (hx : Loc X.env.scope x := by first | exact Or.inl rfl | exact Or.inr rfl)
  (hs : swapsWith e (some (.Name x pos')) pos.line X.env = pure false := by rfl) (hf : X.fn x = true ∨ X.env.scope.names.lookup x = some .local := by first | exact .inl rfl | exact .inr rfl) : JS X (.Assign [.Name x pos'] e pos) (aR3 i f) := fun ρ fl q H0 Hf0 => by
 obtain ⟨ds, e1, e2⟩ := Option.map_eq_some_iff.mp q
 subst e2
 refine O1 (aS1 hN hi hx (h ρ ds e1) hs hf) fun En σ H ⟨Hf, a, e⟩ => ⟨H0, Hf, a.gr.sub, a.sl, fun v H' Hf' g ⟨p, vs, z1, z2, z3, z4, z5⟩ => ?_⟩
 subst z1
 exact e _ H' Hf' ⟨a.gr.trans g, a.sl.setOwn g (a.gr.big.free z2) z2 z3 z4 z5⟩ g.ext
noncomputable def bq8 (i : Nat) (f : DE) : DS := fun ρ => match ρ[i]? with
 | some (some (.own ds)) => if ds.length < 16777216 then (f ρ).map fun d => .nx (ρ.set i (some (.own (ds ++ [d])))) else none
 | _ => none
theorem bw3 (i : Nat) {x : Str} {e : Expr} {f : DE} {p apos cpos pos : Pos} (h : JE X e f) (hN : X.N[i]? = some x := by rfl) (hv : Vis X.env.scope x := by first | exact Or.inl rfl | exact Or.inr (Or.inl rfl) | exact Or.inr (Or.inr rfl)) (hd : (x == ("__debug__" : Str)) = false := by decide)
  (hcd : (x == ("__classdict__" : Str)) = false := by decide) (hbase : attributeBase (.Name x p) "append" X.env (eval (.Name x p) X.env) = eval (.Name x p) X.env := by rfl)
  (hfew : ((backTo cpos (starEach [e] X.env)).all (fun x => !x.1) && (backToKw cpos (keywordEach [] X.env)).all (fun x => x.1.isSome)
   && decide (([e] : List Expr).length + ([] : List Keyword).length + (if ([] : List Keyword).isEmpty then 0 else 1) < 30)) = true := by rfl)
  (hline : (apos.endLine == cpos.line) = true := by rfl) (hs : starEach [e] X.env = [(false, eval e X.env)] := by rfl) (hsw : swapsWith (.Call (.Attribute (.Name x p) "append" apos) [e] [] cpos) none pos.line X.env = pure false := by rfl) :
  JS X (.Expr (.Call (.Attribute (.Name x p) "append" apos) [e] [] cpos) pos) (bq8 i f) := fun ρ fl q H0 Hf0 => by
 unfold bq8 at q
 split at q
 ·rename_i ds eo
  split at q
  ·rename_i hz
   obtain ⟨d, e1, e2⟩ := Option.map_eq_some_iff.mp q
   subst e2
   refine O1 (aq3 (aF8 PySem.F.plainAttrs_list PySem.F.slot_list_append PySem.F.type_list_append al7 (p5 hN hv hd hcd) (C0 (h ρ d e1) K2 hs) hbase hfew hline hs) hsw) fun En σ H ⟨Hf, a, ee⟩ => ?_
   obtain ⟨v, h1, b, vs, rfl, h2, h3, h4, h5⟩ := a.sl.is i _ eo
   refine ⟨_, h1, .inl ⟨rfl, vs, SqL.of h2⟩, H0, Hf, a.gr.sub, a.sl, fun w H' Hf' gg r => ?_⟩
   have hb : H' b = some (.lst vs) := gg.big _ _ h2
   have hfb : Hf' b = none := gg.nofr h2 h3
   have g2 := a.gr.trans gg
   have sl2 := a.sl.grow gg
   refine ⟨b, vs, w, rfl, rfl, hb, by rw [h5.length, sizeLine_eq]; exact hz, ee _ _ Hf' ⟨⟨fun c u z => ?_, fun c u z => ?_, g2.ext, g2.new⟩, ?_⟩ gg.ext⟩
   ·rw [A8 (A9 z h4)]; exact g2.big c u z
   ·rw [A8 (A9 z hfb)]; exact g2.sub c u z
   ·refine ⟨by simpa using sl2.len, fun j bb z => ?_, fun j k ds1 es c q1 q2 q3 q4 => ?_⟩
    ·by_cases qj : i = j
     ·subst qj
      have hi : i < ρ.length := (List.getElem?_eq_some_iff.mp eo).1
      rw [List.getElem?_set_self hi] at z
      cases z
      exact ⟨_, h1, b, vs ++ [w], rfl, A7, hfb, h4, (h5.mono gg.ext).append ⟨w, [], rfl, r, rfl⟩⟩
     ·rw [List.getElem?_set_ne qj] at z
      obtain ⟨u, z1, z2⟩ := sl2.is j bb z
      refine ⟨u, z1, ?_⟩
      cases bb with
      | val d => exact z2
      | own dd =>
       obtain ⟨a', vs', y1, y2, y3, y4, y5⟩ := z2
       have ne : a' ≠ b := fun zz => by
        subst zz y1
        exact qj (a.sl.apart i j ds dd a' eo z h1 z1)
       exact ⟨a', vs', y1, by rw [A8 ne]; exact y2, y3, y4, y5⟩
    ·have q1' : ∃ dd, ρ[j]? = some (some (.own dd)) := by
      by_cases qj : i = j
      ·subst qj; exact ⟨ds, eo⟩
      ·rw [List.getElem?_set_ne qj] at q1; exact ⟨_, q1⟩
     have q2' : ∃ dd, ρ[k]? = some (some (.own dd)) := by
      by_cases qj : i = k
      ·subst qj; exact ⟨ds, eo⟩
      ·rw [List.getElem?_set_ne qj] at q2; exact ⟨_, q2⟩
     obtain ⟨d1, q1'⟩ := q1'
     obtain ⟨d2, q2'⟩ := q2'
     exact a.sl.apart j k d1 d2 c q1' q2' q3 q4
  ·cases q
 ·cases q
noncomputable def frz (i : Nat) (ρ : Rho) : Rho := match ρ[i]? with
 | some (some (.own ds)) => ρ.set i (some (.val (.list ds)))
 | _ => ρ
theorem bz5 {K : PySem.W.Frag} {H0 Hf0 H Hf : Hp} {ρ : Rho} {σ : L2.St} (i : Nat) (a : At K H0 Hf0 ρ σ H Hf) : ∃ Hf', D6 Hf Hf' ∧ At K H0 Hf0 (frz i ρ) σ H Hf' := by
 unfold frz
 split
 ·rename_i ds eo
  obtain ⟨v, h1, b, vs, rfl, h2, h3, h4, h5⟩ := a.sl.is i _ eo
  have g : Grow H0 Hf0 H (upd Hf b (.lst vs)) := a.gr.freeze h2 h3 h4
  refine ⟨upd Hf b (.lst vs), B9 h3, g, ⟨by simpa using a.sl.len, fun j bb z => ?_, fun j k ds1 es c q1 q2 q3 q4 => ?_⟩⟩
  ·have hi : i < ρ.length := (List.getElem?_eq_some_iff.mp eo).1
   by_cases qj : i = j
   ·subst qj
    rw [List.getElem?_set_self hi] at z
    cases z
    exact ⟨_, h1, b, vs, rfl, SqL.of A7, h5.mono (B9 h3)⟩
   ·rw [List.getElem?_set_ne qj] at z
    obtain ⟨u, z1, z2⟩ := a.sl.is j bb z
    refine ⟨u, z1, ?_⟩
    cases bb with
    | val d => exact Rep.mono (B9 h3) z2
    | own dd =>
     obtain ⟨a', vs', y1, y2, y3, y4, y5⟩ := z2
     have ne : a' ≠ b := fun zz => by
      subst zz y1
      exact qj (a.sl.apart i j ds dd a' eo z h1 z1)
     exact ⟨a', vs', y1, y2, by rw [A8 ne]; exact y3, y4, y5.mono (B9 h3)⟩
  ·have hi : i < ρ.length := (List.getElem?_eq_some_iff.mp eo).1
   have qj : i ≠ j := fun z => by subst z; rw [List.getElem?_set_self hi] at q1; cases q1
   have qk : i ≠ k := fun z => by subst z; rw [List.getElem?_set_self hi] at q2; cases q2
   rw [List.getElem?_set_ne qj] at q1
   rw [List.getElem?_set_ne qk] at q2
   exact a.sl.apart j k ds1 es c q1 q2 q3 q4
 ·exact ⟨Hf, D6.refl _, a⟩
noncomputable def bq6 (i : Nat) (f : DS) : DS := fun ρ => f (frz i ρ)
theorem bv9 (i : Nat) {st : Stmt} {f : DS} (h : JS X st f) : JS X st (bq6 i f) := fun ρ fl q H0 Hf0 => O1 (h (frz i ρ) fl q H0 Hf0) fun En σ H ⟨Hf, a, e⟩ => by
 obtain ⟨Hf', s, a'⟩ := bz5 i a
 exact ⟨Hf', a', Fl.ends_mono e s⟩
noncomputable def bC2 (K : PySem.W.Frag) (H0 Hf0 : Hp) (f : DS) : TS := fun En σ H => ∃ ρ fl, f ρ = some fl ∧ tJS K H0 Hf0 ρ fl En σ H
theorem aF5 {sts : List Stmt} {f : DS} {H0 Hf0 : Hp} (h : JSs X sts f) : PSs X sts (bC2 X.K H0 Hf0 f) := fun pins s σ H En I ⟨ρ, fl, e, t⟩ => h ρ fl e H0 Hf0 pins s σ H En I t
theorem br1 {e : Expr} {c : Rho → Option Bool} (h : JT X e c) : PT X e (al1 X.K c) := fun pins s σ H Q I ⟨ρ, b, e, t⟩ => h ρ b e pins s σ H Q I t
noncomputable def U2 (t : Rho → Option Bool) (f : DS) : Nat → DS
 | 0 => fun _ => none
 | n + 1 => fun ρ => (t ρ).bind fun c => if c then (f ρ).bind fun fl => match fl with
   | .nx ρ' => U2 t f n ρ'
   | .ct ρ' => U2 t f n ρ'
   | .bk ρ' => some (.nx ρ')
   | .rt d => some (.rt d)
  else some (.nx ρ)
theorem r6 {t : Rho → Option Bool} {f : DS} : ∀ {n : Nat} {ρ : Rho} {fl : Fl}, U2 t f n ρ = some fl → U2 t f (n + 1) ρ = some fl
 | 0, _, _, h => by cases h
 | n + 1, ρ, fl, h => by
  obtain ⟨c, e1, h⟩ := xbm h
  show (t ρ).bind _ = _
  rw [e1]
  cases c with
  | false => exact h
  | true =>
   obtain ⟨fl1, e2, h⟩ := xbm h
   show (f ρ).bind _ = _
   rw [e2]
   cases fl1 with
   | nx ρ' => exact r6 (n := n) h
   | ct ρ' => exact r6 (n := n) h
   | bk ρ' => exact h
   | rt d => exact h
theorem aw9 {t : Rho → Option Bool} {f : DS} {n m : Nat} {ρ : Rho} {fl : Fl} (h : U2 t f n ρ = some fl) (l : n ≤ m) : U2 t f m ρ = some fl := by
 induction l with
 | refl => exact h
 | step _ ih => exact r6 ih
open Classical in
noncomputable def Z9 (t : Rho → Option Bool) (f : DS) : DS := fun ρ => if h : ∃ fl n, U2 t f n ρ = some fl then some h.choose else none
theorem al5 {t : Rho → Option Bool} {f : DS} {n : Nat} {ρ : Rho} {fl : Fl} (h : U2 t f n ρ = some fl) : Z9 t f ρ = some fl := by
 have hx : ∃ fl n, U2 t f n ρ = some fl := ⟨fl, n, h⟩
 unfold Z9
 rw [dif_pos hx]
 obtain ⟨m, hm⟩ := hx.choose_spec
 have h1 := aw9 h (Nat.le_max_left n m)
 have h2 := aw9 hm (Nat.le_max_right n m)
 rw [h1] at h2
 exact h2.symm
theorem aK7 {t : Rho → Option Bool} {f : DS} {ρ : Rho} {fl : Fl} (h : Z9 t f ρ = some fl) : ∃ n, U2 t f n ρ = some fl := by
 unfold Z9 at h
 split at h
 ·rename_i hx
  cases h
  exact hx.choose_spec
 ·cases h
theorem aV7 {c : Expr} {body : List Stmt} {t : Rho → Option Bool} {f : DS} {pos : Pos} (hc : JT X c t) (hb : JSs X body f) (hp : PassesOwn (model X.prog X.w) X.A X.env X.xe := by exact PassesOwn.never) : JS X (.While c body [] pos) (Z9 t f) := fun ρ fl q H0 Hf0 => by
 obtain ⟨n, hn⟩ := aK7 q
 refine O1 (aS0 hp (br1 hc) (aF5 (H0 := H0) (Hf0 := Hf0) hb)) fun En σ H ⟨Hf, a, e⟩ => ?_
 refine ⟨fun m σ H => ∃ Hf' ρ', At X.K H0 Hf0 ρ' σ H Hf' ∧ D6 Hf Hf' ∧ U2 t f m ρ' = some fl, ⟨n, Hf, ρ, a, D6.refl _, hn⟩, ?_⟩
 rintro m σ' H' ⟨Hf', ρ', a', s', hm⟩
 cases m with
 | zero => cases hm
 | succ m =>
  obtain ⟨b, e1, hm⟩ := xbm hm
  refine ⟨ρ', b, e1, H0, Hf', a'.gr.sub, a'.sl, fun H2 Hf2 g2 => ?_⟩
  have a2 := a'.grow g2
  have s2 := s'.trans g2.ext
  cases b with
  | false =>
   have : fl = .nx ρ' := by simpa using hm.symm
   subst this
   exact ak6 (e σ' H2 Hf2 a2 s2)
  | true =>
   obtain ⟨fl1, e2, hm⟩ := xbm (show (f ρ').bind _ = some fl from hm)
   refine ak5 ⟨fun σ3 H3 => ∃ m', m' < m + 1 ∧ ∃ Hf' ρ', At X.K H0 Hf0 ρ' σ3 H3 Hf' ∧ D6 Hf Hf' ∧ U2 t f m' ρ' = some fl, fun σ3 H3 z => z, ρ', fl1, e2, Hf2, a2, ?_⟩
   cases fl1 with
   | nx ρ3 => exact fun σ3 H3 Hf3 a3 s3 => ⟨m, Nat.lt_succ_self _, Hf3, ρ3, a3, s2.trans s3, hm⟩
   | ct ρ3 => exact fun σ3 H3 Hf3 a3 s3 => ⟨m, Nat.lt_succ_self _, Hf3, ρ3, a3, s2.trans s3, hm⟩
   | bk ρ3 =>
    cases hm
    exact fun σ3 H3 Hf3 a3 s3 => e σ3 H3 Hf3 a3 (s2.trans s3)
   | rt d =>
    cases hm
    exact e
noncomputable def aY2 (g : D → Rho → Option Rho) (f : DS) : List D → DS
 | [] => fun ρ => some (.nx ρ)
 | d :: ds => fun ρ => (g d ρ).bind fun ρ1 => (f ρ1).bind fun fl => match fl with
   | .nx ρ' => aY2 g f ds ρ'
   | .ct ρ' => aY2 g f ds ρ'
   | .bk ρ' => some (.nx ρ')
   | .rt d => some (.rt d)
noncomputable def bD6 (src : Rho → Option (List D)) (g : D → Rho → Option Rho) (f : DS) : DS := fun ρ => (src ρ).bind fun ds => aY2 g f ds ρ
theorem bw0 {tg iter : Expr} {body : List Stmt} {src : Rho → Option (List D)} {g : D → Rho → Option Rho} {f : DS} {pos : Pos} (hi : JI X tg iter src) (hg : JG X tg g) (hb : JSs X body f) (hp : PassesOwn (model X.prog X.w) X.A X.env X.xe := by exact PassesOwn.never) (hc : X.calm = true := by rfl)
  (hs : ∀ x, foldedSetIterable iter X.env x = pure x := by intro _; rfl) : JS X (.For tg iter body [] pos) (bD6 src g f) := fun ρ fl q H0 Hf0 => by
 obtain ⟨ds, e1, e2⟩ := xbm q
 refine O1 (br4 hp hc (hi ρ ds e1) hg (aF5 (H0 := H0) (Hf0 := Hf0) hb) hs) fun En σ H ⟨Hf, a, e⟩ => ⟨H0, Hf, a.gr.sub, a.sl, fun J H1 Hf1 g1 Y => ?_⟩
 refine ⟨fun i m σ H => m = ds.length - i ∧ i ≤ ds.length ∧ ∃ Hf' ρ', At X.K H0 Hf0 ρ' σ H Hf' ∧ D6 Hf1 Hf' ∧ aY2 g f (ds.drop i) ρ' = some fl, ⟨ds.length, by simp, Nat.zero_le _, Hf1, ρ, a.grow g1, D6.refl _, by simpa using e2⟩, ?_⟩
 rintro i m σ' H' ⟨rfl, hi, Hf', ρ', a', s', hm⟩
 obtain ⟨Ys, Yg⟩ := Y i H' Hf' s' a'.gr.sub
 rcases Nat.lt_or_ge i ds.length with hlt | hge
 ·right
  obtain ⟨go, yl⟩ := Yg ds[i] (by simp [hlt])
  rw [List.drop_eq_getElem_cons hlt] at hm
  obtain ⟨ρ1, c1, hm⟩ := xbm hm
  obtain ⟨fl1, c2, hm⟩ := xbm hm
  refine ⟨go, fun σ3 H3 => ∃ m', m' < ds.length - i ∧ m' = ds.length - (i + 1) ∧ i + 1 ≤ ds.length ∧ ∃ Hf' ρ', At X.K H0 Hf0 ρ' σ3 H3 Hf' ∧ D6 Hf1 Hf' ∧ aY2 g f (ds.drop (i + 1)) ρ' = some fl, fun σ3 H3 ⟨m', z1, z2⟩ => ⟨m', z1, z2⟩, fun x H2 hy => ?_⟩
  obtain ⟨Hf2, g2, r2⟩ := yl x H2 hy
  have a2 := a'.grow g2
  refine ⟨ds[i], ρ', ρ1, H0, Hf2, c1, g2.sub, a2.sl, r2, fun σ3 sl3 => ⟨ρ1, fl1, c2, Hf2, ⟨a2.gr, sl3⟩, ?_⟩⟩
  have s2 := s'.trans g2.ext
  cases fl1 with
  | nx ρ3 => exact fun σ3 H3 Hf3 a3 s3 => ⟨_, by omega, rfl, hlt, Hf3, ρ3, a3, s2.trans s3, hm⟩
  | ct ρ3 => exact fun σ3 H3 Hf3 a3 s3 => ⟨_, by omega, rfl, hlt, Hf3, ρ3, a3, s2.trans s3, hm⟩
  | bk ρ3 =>
   cases hm
   exact fun σ3 H3 Hf3 a3 s3 => e σ3 H3 Hf3 a3 (g1.ext.trans (s2.trans s3))
  | rt d =>
   cases hm
   exact e
 ·left
  have : i = ds.length := by omega
  subst this
  rw [List.drop_length] at hm
  cases hm
  exact ⟨Ys (Nat.le_refl _), e σ' H' Hf' a' (g1.ext.trans s')⟩
theorem bg5 {pos : Pos} : JS X (.Pass pos) O5 := fun ρ fl q H0 Hf0 => by
 cases q
 exact O1 bd3 fun En σ H ⟨Hf, a, e⟩ => e σ H Hf a (D6.refl _)
theorem bw2 {pos : Pos} : JS X (.Break pos) (fun ρ => some (.bk ρ)) := fun ρ fl q H0 Hf0 => by
 cases q
 exact O1 aS2 fun En σ H ⟨Hf, a, e⟩ => e σ H Hf a (D6.refl _)
end
noncomputable def ab5 (n : Nat) (ds : List D) : Rho := ds.map (fun d => some (B.val d)) ++ List.replicate (n - ds.length) none
noncomputable def R6 (g : DS) (n : Nat) : List D → Option D := fun ds => (g (ab5 n ds)).bind fun fl => match fl with
 | .rt d => some d
 | .nx _ => some .none
 | _ => none
theorem au5 {K : PySem.W.Frag} {H0 H Hf : Hp} {N : List Str} {ds : List D} {vs : List V} (r : Reps K Hf ds vs) : Slots K H0 (ab5 N.length ds) (L2.d9 N vs) H Hf := by
 have hl := r.length
 have noown : ∀ (i : Nat) (b : B), (ab5 N.length ds)[i]? = some (some b) → ∃ d, ds[i]? = some d ∧ b = .val d := fun i b h => by
  unfold ab5 at h
  rcases Nat.lt_or_ge i ds.length with q | q
  ·rw [List.getElem?_append_left (by simpa using q), List.getElem?_map] at h
   rw [List.getElem?_eq_getElem q] at h ⊢
   simp only [Option.map_some, Option.some.injEq] at h
   exact ⟨ds[i], rfl, h.symm⟩
  ·rw [List.getElem?_append_right (by simpa using q), List.getElem?_replicate] at h
   split at h <;> cases h
 refine ⟨by simp [ab5, L2.d9, hl], fun i b e => ?_, fun i j d1 d2 a e1 _ _ _ => ?_⟩
 ·obtain ⟨d, h1, h2⟩ := noown i b e
  subst h2
  obtain ⟨v, h3, h4⟩ := r.get h1
  refine ⟨v, ?_, h4⟩
  have hi : i < vs.length := (List.getElem?_eq_some_iff.mp h3).1
  unfold L2.d9
  rw [List.getElem?_append_left (by simpa using hi), List.getElem?_map, h3]; rfl
 ·obtain ⟨d, _, h2⟩ := noown i _ e1
  cases h2
theorem bj1 {P : Program} {w : World} {K : PySem.W.Frag} {mg : Str → Option Value} {base : Heap} {x qual : Str} {st : Stmt} {f : Addr} {fd : FuncData} {N ps : List Str} {k : Nat} {g : DS} (F : Fun K x qual st f fd) (S : FnScope N ps (K0 st))
  (hb : ∀ (cdv : Value) (A : Around) (outer : List Env) (s : Shared) (H : Hp) (E : XK), Room k (A.deeper (envOfC qual (K0 st) s.heap.objs.size f cdv)) → JSs (aC6 CX0 P w K mg base N qual (K0 st) f cdv A outer s H E).nox (S2 st) g) :
  FnOk P w K mg base CX0 (k + 1) f fd ps (spF K ps.length (R6 g N.length)) := by
 refine F.ok S (fun vs H Q E h => h.1) fun cdv A outer s H vs Q E hr hsp => ?_
 obtain ⟨hlen, Hf, ds, d, ss, rp, e, kk⟩ := hsp
 obtain ⟨fl, e1, e2⟩ := xbm e
 refine ⟨_, hb cdv A outer s H E hr _ fl e1 H Hf, Hf, ⟨Grow.refl ss, au5 rp⟩, ?_⟩
 cases fl with
 | rt d' => cases e2; exact fun v H' Hf' g r => kk v H' Hf' g r
 | nx ρ => cases e2; exact fun σ' H' Hf' a _ => kk _ H' Hf' a.gr rfl
 | bk ρ => cases e2
 | ct ρ => cases e2
end G
namespace G
open PySem PySem.Spec PyProof.Rows L2
noncomputable def SIt : Bool → Heap → Addr → Addr → Nat → Prop
 | true => Heap.IsTupleIter
 | false => Heap.IsListIter
noncomputable def SSq : Bool → Heap → Addr → Array Value → Prop
 | true => Heap.IsTuple
 | false => Heap.IsList
section
variable {prog : Program} {w : World} {A : Around} {E : Value → Shared → Prop} {s : Shared} {t t1 t2 : Bool}
theorem SIt.ext {h h' : Heap} {it l : Addr} {k : Nat} (x : SIt t h it l k) (e : ∀ o, h.get? it = some o → h'.get? it = some o) : SIt t h' it l k := by
 cases t with
 | true => obtain ⟨o, ho, r⟩ := x; exact ⟨o, e o ho, r⟩
 | false => obtain ⟨o, ho, r⟩ := x; exact ⟨o, e o ho, r⟩
theorem SSq.ext {h h' : Heap} {l : Addr} {xs : Array Value} (x : SSq t h l xs) (e : ∀ o, h.get? l = some o → h'.get? l = some o) : SSq t h' l xs := by
 cases t with
 | true => obtain ⟨o, ho, r⟩ := x; exact ⟨o, e o ho, r⟩
 | false => obtain ⟨o, ho, r⟩ := x; exact ⟨o, e o ho, r⟩
theorem SIt.lt {h : Heap} {it l : Addr} {k : Nat} (x : SIt t h it l k) : it < h.objs.size := by
 cases t with
 | true => obtain ⟨o, ho, _⟩ := x; exact Heap.lt_size ho
 | false => obtain ⟨o, ho, _⟩ := x; exact Heap.lt_size ho
theorem az9 {it l : Addr} {k : Nat} {xs : Array Value} {x : Value} {Q : Value → Shared → Prop} (hit : s.heap.IsTupleIter it l k) (hl : s.heap.IsTuple l xs) (hx : xs[k]? = some x)
  (hQ : ∀ h', h'.IsTupleIter it l (k + 1) → Heap.SameBut it s.heap h' → Q x { s with heap := h' }) : wpAny (model prog w) A (Builtin.SmallTypes.nextOf (.ref it)) Q E s := by
 obtain ⟨o, ho, hc, hd⟩ := id hit; obtain ⟨ol, hol, _, nl, hdl⟩ := hl; unfold Builtin.SmallTypes.nextOf
 refine wpAny_bind (wpAny_callSpecial?_slot (name := Str.ofString "__next__") hit.typeIs F.slot_tuple_iterator_next (wpAny_call_entry F.slot_tuple_iterator_next hit.typeIs F.entry_tuple_iterator_next ?_ (F.args_tuple_iterator_next_1 _)))
 show wpAny _ _ (field (.ref it) 0 >>= _) _ _ s; refine wpAny_bind (wpAny_field ho hd (x := .ref l) rfl ?_); show wpAny _ _ (if (Value.ref l == Value.none) = true then _ else _) _ _ s
 rw [if_neg (show ¬ ((Value.ref l == Value.none) = true) from Bool.false_ne_true)]; show wpAny _ _ (field (.ref it) 1 >>= _) _ _ s
 refine wpAny_bind (wpAny_field ho hd (x := .int k 0) rfl ?_); show wpAny _ _ (seqItems? (.ref l) >>= _) _ _ s; refine wpAny_bind (wpAny_seqItems hol hdl ?_); simp only [Int.toNat_natCast, hx]
 refine wpAny_bind (wpAny_setField ho hd (by simp) (wpAny_pure ⟨x, rfl, wpAny_pure (hQ _ ⟨_, Heap.get?_update_self _ ho (Obj.isFreed_of_fields (Obj.data_mapFields hd _)), (Obj.cls_mapFields ..).trans hc, ?_⟩ (Heap.SameBut.update ..))⟩))
 rw [Obj.data_mapFields hd]; simp [rawInt]
theorem aJ4 {it l : Addr} {k : Nat} {xs : Array Value} {Q : Value → Shared → Prop} (hh : A.handled = none) (hit : s.heap.IsTupleIter it l k) (hl : s.heap.IsTuple l xs) (hx : xs[k]? = none)
  (hE : ∀ h' e, Heap.ExtBut it s.heap h' → (∃ o, h'.get? e = some o ∧ o.cls = .type "StopIteration") → E (.ref e) { s with heap := h' }) : wpAny (model prog w) A (Builtin.SmallTypes.nextOf (.ref it)) Q E s := by
 obtain ⟨o, ho, hc, hd⟩ := id hit; obtain ⟨ol, hol, _, nl, hdl⟩ := hl; unfold Builtin.SmallTypes.nextOf
 refine wpAny_bind (wpAny_callSpecial?_slot (name := Str.ofString "__next__") hit.typeIs F.slot_tuple_iterator_next (wpAny_call_entry F.slot_tuple_iterator_next hit.typeIs F.entry_tuple_iterator_next ?_ (F.args_tuple_iterator_next_1 _)))
 show wpAny _ _ (field (.ref it) 0 >>= _) _ _ s; refine wpAny_bind (wpAny_field ho hd (x := .ref l) rfl ?_); show wpAny _ _ (if (Value.ref l == Value.none) = true then _ else _) _ _ s
 rw [if_neg (show ¬ ((Value.ref l == Value.none) = true) from Bool.false_ne_true)]; show wpAny _ _ (field (.ref it) 1 >>= _) _ _ s
 refine wpAny_bind (wpAny_field ho hd (x := .int k 0) rfl ?_); show wpAny _ _ (seqItems? (.ref l) >>= _) _ _ s; refine wpAny_bind (wpAny_seqItems hol hdl ?_); simp only [Int.toNat_natCast, hx]
 refine wpAny_bind (wpAny_rule (wpAny_bind (wpAny_setField ho hd (by simp) ?_))); show wpAny _ _ (newExc (.type "StopIteration") [] >>= _) _ _ _; refine wpAny_bind ?_; simp only [newExc, newTuple]
 refine wpAny_bind (wpAny_newObj_type ?_ (by size_fits)); refine wpAny_bind (m := firstArgMember _ _) (wpAny_of_eq (a := Value.none) (by first | rfl | (simp only [firstArgMember]; rfl)) ?_); refine wpAny_newObj_type ?_ (by size_fits)
 simp only [raiseNew]; refine wpAny_bind (wpAny_handled ?_); first | rw [show A.in1.handled = none from hh] | rw [hh]
 refine wpAny_bind (wpAny_pure (wpAny_throw ?_)); exact hE _ _ (((Heap.SameBut.update ..).extBut.push _).push _) ⟨_, Heap.get?_push_size _ rfl, rfl⟩
theorem f6 {it l : Addr} {k : Nat} {xs : Array Value} {x : Value} {Q : Value → Shared → Prop} (hit : SIt t s.heap it l k) (hl : SSq t s.heap l xs) (hx : xs[k]? = some x)
  (hQ : ∀ h', SIt t h' it l (k + 1) → Heap.SameBut it s.heap h' → Q x { s with heap := h' }) : wpAny (model prog w) A (Builtin.SmallTypes.nextOf (.ref it)) Q E s := by
 cases t with
 | true => exact az9 hit hl hx hQ
 | false => exact wpAny_nextOf_list_item hit hl hx hQ
theorem u9 {it l : Addr} {k : Nat} {xs : Array Value} {Q : Value → Shared → Prop} (hh : A.handled = none) (hit : SIt t s.heap it l k) (hl : SSq t s.heap l xs) (hx : xs[k]? = none)
  (hE : ∀ h' e, Heap.ExtBut it s.heap h' → (∃ o, h'.get? e = some o ∧ o.cls = .type "StopIteration") → E (.ref e) { s with heap := h' }) : wpAny (model prog w) A (Builtin.SmallTypes.nextOf (.ref it)) Q E s := by
 cases t with
 | true => exact aJ4 hh hit hl hx hE
 | false => exact wpAny_nextOf_list_end hh hit hl hx hE
theorem aJ5 {z TI TO i1 i2 l1 l2 : Addr} {k1 k2 : Nat} {xs ys : Array Value} {x y a b : Value} {Q : Value → Shared → Prop} (Z : ZipApart z TI TO i1 i2 l1 l2)
  (hz : IsZip s.heap z TI TO .none) (hTI : IsPair s.heap TI (.ref i1) (.ref i2)) (hTO : IsPair s.heap TO a b) (h1 : SIt t1 s.heap i1 l1 k1) (h2 : SIt t2 s.heap i2 l2 k2) (hl1 : SSq t1 s.heap l1 xs) (hl2 : SSq t2 s.heap l2 ys) (hx : xs[k1]? = some x) (hy : ys[k2]? = some y)
  (hQ : ∀ h', IsZip h' z TI TO (rawInt s.heap.objs.size) → IsPair h' TO x y → SIt t1 h' i1 l1 (k1 + 1) → SIt t2 h' i2 l2 (k2 + 1) → IsPair h' s.heap.objs.size x y → h'.objs.size = s.heap.objs.size + 1 →
   (∀ c o, c ≠ z → c ≠ TO → c ≠ i1 → c ≠ i2 → s.heap.get? c = some o → h'.get? c = some o) → Q (.ref s.heap.objs.size) { s with heap := h' }) :
  wpAny (model prog w) A (Builtin.«zip.__next__» ⟨[.ref z], []⟩) (fun fin s' => ∃ v, fin = .done (.ret v) ∧ Q v s') E s := by
 show wpAny _ _ (field (.ref z) 2 >>= _) _ _ _; refine wpAny_bind (wpAny_field hz rfl (x := .bool false) rfl ?_); show wpAny _ _ (field (.ref z) 3 >>= _) _ _ _; refine wpAny_bind (wpAny_field hz rfl (x := .ref TI) rfl ?_)
 refine wpAny_bind (wpAny_seqItems hTI rfl ?_); show wpAny _ _ (Builtin.SmallTypes.ownedTupleIsFree (.ref z) >>= _) _ _ _; refine wpAny_bind ?_; unfold Builtin.SmallTypes.ownedTupleIsFree
 refine wpAny_bind (wpAny_field hz rfl (x := .none) rfl (wpAny_pure ?_)); simp only [if_true]; refine wpAny_bind (wpAny_rule ?_); refine wpAny_bind (wpAny_field hz rfl (x := .ref TO) rfl ?_)
 refine wpAny_bind (wpAny_setField_rec hz (by simp) fun ha za sa => ?_); have za' : IsZip ha z TI TO .ellipsis := za
 refine wpAny_bind ?_; simp only [List.zipIdx_cons, List.zipIdx_nil, List.forIn_cons, List.forIn_nil]; refine wpAny_bind (wpAny_bind (wpAny_onRaise ?_)); show wpAny _ _ (Builtin.SmallTypes.nextOf (.ref i1) >>= _) _ _ _
 refine wpAny_bind (f6 (h1.ext fun o e => sa.extBut _ _ Z.i1z e) (hl1.ext fun o e => sa.extBut _ _ Z.l1z e) hx fun hb h1b sb => wpAny_pure ?_)
 have hTOb : IsPair hb TO a b := sb.extBut _ _ Z.TOi1 (sa.extBut _ _ Z.TOz hTO)
 refine wpAny_bind (wpAny_seqItems hTOb rfl ?_); refine wpAny_bind (wpAny_updateSeq_pair hTOb fun hcc TOc sc => ?_); have TOc' : IsPair hcc TO x b := TOc
 refine wpAny_bind (wpAny_letGo (wpAny_pure ?_)); refine wpAny_bind (wpAny_bind (wpAny_onRaise ?_)); show wpAny _ _ (Builtin.SmallTypes.nextOf (.ref i2) >>= _) _ _ _
 refine wpAny_bind (f6 (((h2.ext fun o e => sa.extBut _ _ Z.i2z e).ext fun o e => sb.extBut _ _ Z.i12.symm e).ext fun o e => sc.extBut _ _ Z.TOi2.symm e) (((hl2.ext fun o e => sa.extBut _ _ Z.l2z e).ext fun o e => sb.extBut _ _ Z.l2i1 e).ext fun o e => sc.extBut _ _ Z.l2TO e) hy fun hd h2d sd => wpAny_pure ?_)
 have hTOd : IsPair hd TO x b := sd.extBut _ _ Z.TOi2 TOc'
 refine wpAny_bind (wpAny_seqItems hTOd rfl ?_); refine wpAny_bind (wpAny_updateSeq_pair hTOd fun he TOe se => ?_); have TOe' : IsPair he TO x y := TOe
 refine wpAny_bind (wpAny_letGo (wpAny_pure (wpAny_pure ?_))); refine wpAny_bind (wpAny_seqItems TOe' rfl ?_); refine wpAny_bind (wpAny_newTuple ?_)
 have sz : he.objs.size = s.heap.objs.size := by rw [se.1, sd.1, sc.1, sb.1, sa.1]
 have ze : IsZip he z TI TO .ellipsis := se.extBut _ _ Z.TOz.symm (sd.extBut _ _ Z.i2z.symm (sc.extBut _ _ Z.TOz.symm (sb.extBut _ _ Z.i1z.symm za')))
 have ke : ∀ c o, c ≠ z → c ≠ TO → c ≠ i1 → c ≠ i2 → s.heap.get? c = some o → he.get? c = some o := fun c o c1 c2 c3 c4 e => se.extBut _ _ c2 (sd.extBut _ _ c4 (sc.extBut _ _ c2 (sb.extBut _ _ c3 (sa.extBut _ _ c1 e))))
 have h1e : SIt t1 he i1 l1 (k1 + 1) := ((h1b.ext fun o e => sc.extBut _ _ Z.TOi1.symm e).ext fun o e => sd.extBut _ _ Z.i12 e).ext fun o e => se.extBut _ _ Z.TOi1.symm e
 have h2e : SIt t2 he i2 l2 (k2 + 1) := h2d.ext fun o e => se.extBut _ _ Z.TOi2.symm e
 have zlt : z < he.objs.size := Heap.lt_size ze
 show wpAny _ _ (Builtin.SmallTypes.ownedTupleHandOut (.ref z) (.ref he.objs.size) >>= _) _ _ _; refine wpAny_bind ?_; unfold Builtin.SmallTypes.ownedTupleHandOut
 have zf : IsZip (he.push { cls := .type "tuple", data := .seq #[x, y] }) z TI TO .ellipsis := Heap.get?_push_of_some _ ze
 refine wpAny_bind (wpAny_setField_rec zf (by simp) fun hg zg sg => ?_); have zg' : IsZip hg z TI TO (rawInt he.objs.size) := zg
 refine wpAny_setField_rec zg' (by simp) fun hi zi si => ?_; have zi' : IsZip hi z TI TO (rawInt he.objs.size) := zi
 have up : ∀ c o, c ≠ z → he.get? c = some o → hi.get? c = some o := fun c o c1 e => si.extBut _ _ c1 (sg.extBut _ _ c1 (Heap.get?_push_of_some _ e))
 have hT : IsPair hi he.objs.size x y := si.extBut _ _ (Nat.ne_of_gt zlt) (sg.extBut _ _ (Nat.ne_of_gt zlt) (Heap.get?_push_size _ rfl))
 have szi : hi.objs.size = he.objs.size + 1 := by rw [si.1, sg.1, Heap.size_push]
 rw [sz] at zi' hT szi
 refine wpAny_pure ⟨_, rfl, ?_⟩; show Q (.ref he.objs.size) _; rw [sz]
 exact hQ hi zi' (up _ _ Z.TOz TOe') (h1e.ext fun o e => up _ o Z.i1z e) (h2e.ext fun o e => up _ o Z.i2z e) hT szi fun c o c1 c2 c3 c4 e => up c o c1 (ke c o c1 c2 c3 c4 e)
theorem aQ5 {z TI TO i1 i2 l1 l2 : Addr} {k1 k2 : Nat} {xs ys : Array Value} {a b : Value} {Q : Fin → Shared → Prop} (hh : A.handled = none) (Z : ZipApart z TI TO i1 i2 l1 l2)
  (hz : IsZip s.heap z TI TO .none) (hTI : IsPair s.heap TI (.ref i1) (.ref i2)) (hTO : IsPair s.heap TO a b) (h1 : SIt t1 s.heap i1 l1 k1) (h2 : SIt t2 s.heap i2 l2 k2) (hl1 : SSq t1 s.heap l1 xs) (hl2 : SSq t2 s.heap l2 ys) (hend : xs[k1]? = none ∨ ys[k2]? = none)
  (hE : ∀ h' e, (∀ c o, c ≠ z → c ≠ TO → c ≠ i1 → c ≠ i2 → s.heap.get? c = some o → h'.get? c = some o) → (∃ o, h'.get? e = some o ∧ o.cls = .type "StopIteration") → E (.ref e) { s with heap := h' }) :
  wpAny (model prog w) A (Builtin.«zip.__next__» ⟨[.ref z], []⟩) Q E s := by
 show wpAny _ _ (field (.ref z) 2 >>= _) _ _ _; refine wpAny_bind (wpAny_field hz rfl (x := .bool false) rfl ?_); show wpAny _ _ (field (.ref z) 3 >>= _) _ _ _; refine wpAny_bind (wpAny_field hz rfl (x := .ref TI) rfl ?_)
 refine wpAny_bind (wpAny_seqItems hTI rfl ?_); show wpAny _ _ (Builtin.SmallTypes.ownedTupleIsFree (.ref z) >>= _) _ _ _; refine wpAny_bind ?_; unfold Builtin.SmallTypes.ownedTupleIsFree
 refine wpAny_bind (wpAny_field hz rfl (x := .none) rfl (wpAny_pure ?_)); simp only [if_true]; refine wpAny_bind (wpAny_rule ?_); refine wpAny_bind (wpAny_field hz rfl (x := .ref TO) rfl ?_)
 refine wpAny_bind (wpAny_setField_rec hz (by simp) fun ha za sa => ?_); have za' : IsZip ha z TI TO .ellipsis := za
 refine wpAny_bind ?_; simp only [List.zipIdx_cons, List.zipIdx_nil, List.forIn_cons, List.forIn_nil]; refine wpAny_bind (wpAny_bind (wpAny_onRaise ?_)); show wpAny _ _ (Builtin.SmallTypes.nextOf (.ref i1) >>= _) _ _ _
 cases hx : xs[k1]? with
 | none =>
  refine wpAny_bind (u9 hh (h1.ext fun o e => sa.extBut _ _ Z.i1z e) (hl1.ext fun o e => sa.extBut _ _ Z.l1z e) hx fun hb e sb he => ?_)
  obtain ⟨oe, hoe, hce⟩ := he; have zb : IsZip hb z TI TO .ellipsis := sb _ _ Z.i1z.symm za'; have hez : e ≠ z := fun q => by subst q; rw [zb] at hoe; cases hoe; simp at hce
  exact wpAny_setField_rec zb (by simp) fun hcc _ sc => hE hcc e (fun c o c1 _ c3 _ q => sc.extBut _ _ c1 (sb _ _ c3 (sa.extBut _ _ c1 q))) ⟨oe, sc.extBut _ _ hez hoe, hce⟩
 | some x =>
  have hy : ys[k2]? = none := by rcases hend with h | h; rw [hx] at h; cases h; exact h
  refine wpAny_bind (f6 (h1.ext fun o e => sa.extBut _ _ Z.i1z e) (hl1.ext fun o e => sa.extBut _ _ Z.l1z e) hx fun hb h1b sb => wpAny_pure ?_)
  have hTOb : IsPair hb TO a b := sb.extBut _ _ Z.TOi1 (sa.extBut _ _ Z.TOz hTO)
  refine wpAny_bind (wpAny_seqItems hTOb rfl ?_); refine wpAny_bind (wpAny_updateSeq_pair hTOb fun hcc TOc sc => ?_)
  refine wpAny_bind (wpAny_letGo (wpAny_pure ?_)); refine wpAny_bind (wpAny_bind (wpAny_onRaise ?_)); show wpAny _ _ (Builtin.SmallTypes.nextOf (.ref i2) >>= _) _ _ _
  refine wpAny_bind (u9 hh (((h2.ext fun o e => sa.extBut _ _ Z.i2z e).ext fun o e => sb.extBut _ _ Z.i12.symm e).ext fun o e => sc.extBut _ _ Z.TOi2.symm e) (((hl2.ext fun o e => sa.extBut _ _ Z.l2z e).ext fun o e => sb.extBut _ _ Z.l2i1 e).ext fun o e => sc.extBut _ _ Z.l2TO e) hy fun hd e sd he => ?_)
  obtain ⟨oe, hoe, hce⟩ := he; have zd : IsZip hd z TI TO .ellipsis := sd _ _ Z.i2z.symm (sc.extBut _ _ Z.TOz.symm (sb.extBut _ _ Z.i1z.symm za')); have hez : e ≠ z := fun q => by subst q; rw [zd] at hoe; cases hoe; simp at hce
  exact wpAny_setField_rec zd (by simp) fun hf _ sf => hE hf e (fun c o c1 c2 c3 c4 q => sf.extBut _ _ c1 (sd _ _ c4 (sc.extBut _ _ c2 (sb.extBut _ _ c3 (sa.extBut _ _ c1 q))))) ⟨oe, sf.extBut _ _ hez hoe, hce⟩
theorem aB2 {z TI TO i1 i2 l1 l2 : Addr} {k1 k2 : Nat} {xs ys : Array Value} {x y a b : Value} {Q : Option Value → Shared → Prop} (Z : ZipApart z TI TO i1 i2 l1 l2)
  (hz : IsZip s.heap z TI TO .none) (hTI : IsPair s.heap TI (.ref i1) (.ref i2)) (hTO : IsPair s.heap TO a b) (h1 : SIt t1 s.heap i1 l1 k1) (h2 : SIt t2 s.heap i2 l2 k2) (hl1 : SSq t1 s.heap l1 xs) (hl2 : SSq t2 s.heap l2 ys) (hx : xs[k1]? = some x) (hy : ys[k2]? = some y)
  (hQ : ∀ h', IsZip h' z TI TO (rawInt s.heap.objs.size) → IsPair h' TO x y → SIt t1 h' i1 l1 (k1 + 1) → SIt t2 h' i2 l2 (k2 + 1) → IsPair h' s.heap.objs.size x y → h'.objs.size = s.heap.objs.size + 1 →
   (∀ c o, c ≠ z → c ≠ TO → c ≠ i1 → c ≠ i2 → s.heap.get? c = some o → h'.get? c = some o) → Q (some (.ref s.heap.objs.size)) { s with heap := h' }) : wpAny (model prog w) A (pyNext (.ref z)) Q E s := by
 have hT : s.TypeIs (.ref z) "zip" := ⟨_, hz, rfl⟩
 unfold pyNext
 refine wpAny_bind (wpAny_attempt (wpAny_callSpecial?_slot (name := Str.ofString "__next__") hT F.slot_zip_next (wpAny_call_entry F.slot_zip_next hT F.entry_zip_next (aJ5 Z hz hTI hTO h1 h2 hl1 hl2 hx hy ?_) (F.args_zip_next_1 _))))
 exact fun h' a1 a2 a3 a4 a5 a6 a7 => wpAny_pure (hQ h' a1 a2 a3 a4 a5 a6 a7)
theorem aJ8 {z TI TO i1 i2 l1 l2 : Addr} {k1 k2 : Nat} {xs ys : Array Value} {a b : Value} {Q : Option Value → Shared → Prop} (hh : A.handled = none) (Z : ZipApart z TI TO i1 i2 l1 l2)
  (hz : IsZip s.heap z TI TO .none) (hTI : IsPair s.heap TI (.ref i1) (.ref i2)) (hTO : IsPair s.heap TO a b) (h1 : SIt t1 s.heap i1 l1 k1) (h2 : SIt t2 s.heap i2 l2 k2) (hl1 : SSq t1 s.heap l1 xs) (hl2 : SSq t2 s.heap l2 ys) (hend : xs[k1]? = none ∨ ys[k2]? = none)
  (hQ : ∀ h', (∀ c o, c ≠ z → c ≠ TO → c ≠ i1 → c ≠ i2 → s.heap.get? c = some o → h'.get? c = some o) → Q none { s with heap := h' }) : wpAny (model prog w) A (pyNext (.ref z)) Q E s := by
 have hT : s.TypeIs (.ref z) "zip" := ⟨_, hz, rfl⟩
 unfold pyNext
 refine wpAny_bind (wpAny_attempt (wpAny_callSpecial?_slot (name := Str.ofString "__next__") hT F.slot_zip_next (wpAny_call_entry F.slot_zip_next hT F.entry_zip_next (aQ5 hh Z hz hTI hTO h1 h2 hl1 hl2 hend fun h' e hk he => ?_) (F.args_zip_next_1 _))))
 obtain ⟨o, ho, hc⟩ := he
 exact wpAny_bind (wpAny_isInstance (T := "StopIteration") (b := true) ⟨o, ho, hc⟩ isSubtype_stop (wpAny_pure (hQ _ hk)))
noncomputable def x6 (t : Bool) (l : Addr) : Obj := { cls := .type (if t then "tuple_iterator" else "list_iterator"), data := .fields #[.ref l, .int 0 0] }
theorem ap1 {h : Heap} {l : Addr} (t : Bool) : SIt t (h.push (x6 t l)) h.objs.size l 0 := by
 cases t with
 | true => exact ⟨_, Heap.get?_push_size _ rfl, rfl, rfl⟩
 | false => exact ⟨_, Heap.get?_push_size _ rfl, rfl, rfl⟩
theorem f7 {l : Addr} {xs : Array Value} {Q : Value → Shared → Prop} (hl : SSq t s.heap l xs) (hQ : Q (.ref s.heap.objs.size) { s with heap := s.heap.push (x6 t l) }) : wpAny (model prog w) A (pyIter (.ref l)) Q E s := by
 cases t with
 | true => exact wpAny_pyIter_tuple hl hQ
 | false => exact wpAny_pyIter_list hl hQ
end
end G
namespace G
open PySem PySem.Spec PyProof.Rows L2
noncomputable abbrev zp1 (h : Heap) (t1 : Bool) (l1 : Addr) : Heap := h.push (x6 t1 l1)
noncomputable abbrev zp2 (h : Heap) (t1 t2 : Bool) (l1 l2 : Addr) : Heap := (zp1 h t1 l1).push (x6 t2 l2)
noncomputable abbrev zp3 (h : Heap) (t1 t2 : Bool) (l1 l2 : Addr) : Heap := (zp2 h t1 t2 l1 l2).push { cls := .type "tuple", data := .seq #[.ref h.objs.size, .ref (zp1 h t1 l1).objs.size] }
noncomputable abbrev zp4 (h : Heap) (t1 t2 : Bool) (l1 l2 : Addr) : Heap := (zp3 h t1 t2 l1 l2).push { cls := .type "tuple", data := .seq #[.none, .none] }
noncomputable abbrev zp5 (h : Heap) (t1 t2 : Bool) (l1 l2 : Addr) : Heap := (zp4 h t1 t2 l1 l2).push { cls := .type "zip", data := .fields #[.none, .bool false, .bool false, .ref (zp2 h t1 t2 l1 l2).objs.size, .ref (zp3 h t1 t2 l1 l2).objs.size] }
theorem aQ4 (l1 l2 : Addr) (xs ys : Array Value) (t1 t2 : Bool) :
  Meets (Builtin.«zip.__new__» ⟨[.type "zip", .ref l1, .ref l2], []⟩) (fun _ R s => SSq t1 s.heap l1 xs ∧ SSq t2 s.heap l2 ys ∧ ∀ h', IsZip h' (s.heap.objs.size + 4) (s.heap.objs.size + 2) (s.heap.objs.size + 3) .none → IsPair h' (s.heap.objs.size + 2) (.ref s.heap.objs.size) (.ref (s.heap.objs.size + 1)) →
   IsPair h' (s.heap.objs.size + 3) .none .none → SIt t1 h' s.heap.objs.size l1 0 → SIt t2 h' (s.heap.objs.size + 1) l2 0 → (∀ c o, s.heap.get? c = some o → h'.get? c = some o) → R (.ok (.ret (.ref (s.heap.objs.size + 4)))) { s with heap := h' }) :=
 .of_wp fun prog w A R s h => by
  obtain ⟨hp, g, d, tk, os⟩ := s
  obtain ⟨hl1, hl2, h⟩ := h
  have hsub := sub_zip
  have q1 : SSq t1 (Shared.heap ⟨hp, g, d, tk, os⟩) l1 xs := hl1
  have q2 : SSq t2 (Shared.heap ⟨hp.push (x6 t1 l1), g, d, tk, os⟩) l2 ys := SSq.ext hl2 fun o e => Heap.get?_push_of_some _ e
  wp_walk using f7 q1, f7 q2
  refine ⟨_, rfl, ?_⟩
  have z1 : (zp1 hp t1 l1).objs.size = hp.objs.size + 1 := Heap.size_push ..
  have z2 : (zp2 hp t1 t2 l1 l2).objs.size = hp.objs.size + 2 := by rw [Heap.size_push, z1]
  have z3 : (zp3 hp t1 t2 l1 l2).objs.size = hp.objs.size + 3 := by rw [Heap.size_push, z2]
  have z4 : (zp4 hp t1 t2 l1 l2).objs.size = hp.objs.size + 4 := by rw [Heap.size_push, z3]
  show R (.ok (.ret (.ref (zp4 hp t1 t2 l1 l2).objs.size))) ⟨zp5 hp t1 t2 l1 l2, g, d, tk, os⟩
  rw [z4]
  have g5 : (zp5 hp t1 t2 l1 l2).get? (zp4 hp t1 t2 l1 l2).objs.size = some _ := Heap.get?_push_size _ rfl
  have g4 : (zp5 hp t1 t2 l1 l2).get? (zp3 hp t1 t2 l1 l2).objs.size = some _ := Heap.get?_push_of_some _ (Heap.get?_push_size _ rfl)
  have g3 : (zp5 hp t1 t2 l1 l2).get? (zp2 hp t1 t2 l1 l2).objs.size = some _ := Heap.get?_push_of_some _ (Heap.get?_push_of_some _ (Heap.get?_push_size _ rfl))
  rw [z4, z2, z3] at g5
  rw [z3] at g4
  rw [z2, z1] at g3
  have k1 : ∀ c o, hp.get? c = some o → (zp5 hp t1 t2 l1 l2).get? c = some o := fun c o e => Heap.get?_push_of_some _ (Heap.get?_push_of_some _ (Heap.get?_push_of_some _ (Heap.get?_push_of_some _ (Heap.get?_push_of_some _ e))))
  have s1 : SIt t1 (zp5 hp t1 t2 l1 l2) hp.objs.size l1 0 := (ap1 (h := hp) (l := l1) t1).ext fun o e => Heap.get?_push_of_some _ (Heap.get?_push_of_some _ (Heap.get?_push_of_some _ (Heap.get?_push_of_some _ e)))
  have s2 : SIt t2 (zp5 hp t1 t2 l1 l2) (zp1 hp t1 l1).objs.size l2 0 := (ap1 (h := zp1 hp t1 l1) (l := l2) t2).ext fun o e => Heap.get?_push_of_some _ (Heap.get?_push_of_some _ (Heap.get?_push_of_some _ e))
  rw [z1] at s2
  exact h _ g5 g3 g4 s1 s2 k1
section
variable {prog : Program} {w : World} {A : Around} {E : Value → Shared → Prop} {s : Shared} {t1 t2 : Bool}
theorem aJ6 {l1 l2 : Addr} {xs ys : Array Value} {Q : Value → Shared → Prop} (hl1 : SSq t1 s.heap l1 xs) (hl2 : SSq t2 s.heap l2 ys)
  (h : ∀ h', IsZip h' (s.heap.objs.size + 4) (s.heap.objs.size + 2) (s.heap.objs.size + 3) .none → IsPair h' (s.heap.objs.size + 2) (.ref s.heap.objs.size) (.ref (s.heap.objs.size + 1)) →
   IsPair h' (s.heap.objs.size + 3) .none .none → SIt t1 h' s.heap.objs.size l1 0 → SIt t2 h' (s.heap.objs.size + 1) l2 0 → (∀ c o, s.heap.get? c = some o → h'.get? c = some o) → Q (.ref (s.heap.objs.size + 4)) { s with heap := h' }) :
  wpAny (model prog w) A (call (.type "zip") [.ref l1, .ref l2]) Q E s := by
 refine callType_new F.called_zip (by decide) (F.typeCall_zip_2 _ _) (F.newCall_zip_2 _ _) (fun obj => F.args_object_init_3 obj _ _) F.entry_zip_new (aQ4 l1 l2 xs ys t1 t2) ⟨hl1, hl2, fun h' a1 a2 a3 a4 a5 a6 => ?_⟩
 exact ⟨⟨_, a1, rfl⟩, h h' a1 a2 a3 a4 a5 a6⟩
end
noncomputable def Itz (K : PySem.W.Frag) (t1 t2 : Bool) (a1 a2 : Addr) : It :=
  ⟨fun i H => ∃ xs ys x y, Sq K t1 H a1 xs ∧ Sq K t2 H a2 ys ∧ xs[i]? = some x ∧ ys[i]? = some y,
   fun i H v H' => ∃ T x y, v = .ref T ∧ H T = none ∧ H' = upd H T (.tup [x, y]) ∧ (∀ xs, Sq K t1 H a1 xs → xs[i]? = some x) ∧ ∀ ys, Sq K t2 H a2 ys → ys[i]? = some y,
   fun i H => ∃ xs ys, Sq K t1 H a1 xs ∧ Sq K t2 H a2 ys ∧ (xs.length ≤ i ∨ ys.length ≤ i)⟩
theorem aB1 {X : Cx} {pins : List (Addr × Obj)} {σ : L2.St} {H : Hp} {s : Shared} {t : Bool} {a : Addr} {xs ys : List V} (I : Inv X pins σ H s) (h : Sq X.K t H a xs) (h' : Sq X.K t H a ys) : xs = ys := by
 cases t with
 | true => exact I.tuple_inj h h'
 | false => exact I.list_inj h h'
theorem R1 {X : Cx} {pins : List (Addr × Obj)} {σ : L2.St} {H : Hp} {s : Shared} {t : Bool} {a : Addr} {xs : List V} (I : Inv X pins σ H s) (h : Sq X.K t H a xs) : ∃ its : List Value, B8 xs its ∧ SSq t s.heap a its.toArray ∧ a < s.heap.objs.size := by
 cases t with
 | true =>
  obtain ⟨its, r, p, _⟩ := I.tuple h
  exact ⟨its, r, p, by obtain ⟨o, ho, _⟩ := p; exact Heap.lt_size ho⟩
 | false =>
  obtain ⟨its, r, p, _⟩ := I.list h
  exact ⟨its, r, p.isList, by obtain ⟨o, ho, _⟩ := p.isList; exact Heap.lt_size ho⟩
end G
namespace G
open PySem PySem.Spec PyProof.Rows L2
theorem U8 {X : Cx} {pins : List (Addr × Obj)} {σ : L2.St} {H : Hp} {s : Shared} {h' : Heap} {t' : Nat} {ch : List Addr} {T : Addr} {o : HO} (I : Inv X pins σ H s) (hf : ∀ b ∈ ch, Y3 X pins H b) (hT : s.heap.objs.size ≤ T)
  (k : ∀ b u, b ∉ ch → s.heap.get? b = some u → h'.get? b = some u) (new : V2 X.prog X.w (upd H T o) h' T o) : Inv X pins σ (upd H T o) { s with heap := h', toks := t' } := by
 have hn : H T = none := I.hok.fresh hT
 have neT : ∀ b u, s.heap.get? b = some u → b ≠ T := fun b u e => Nat.ne_of_lt (Nat.lt_of_lt_of_le (Heap.lt_size e) hT)
 have nch : ∀ b u, H b = some u → b ∉ ch := fun b u e z => by rw [(hf b z).1] at e; cases e
 refine I.step (g' := s.gens) (d' := s.drawn) (ch := ch) (fun b hb => ⟨(hf b hb).2.2.2.1, (hf b hb).2.1, (hf b hb).2.2.2.2.1, (hf b hb).2.2.2.2.2⟩) (fun b u _ _ hc e _ => k b u hc e) (fun b u _ _ hc e _ => ⟨u.slots, k b u hc e⟩)
  (fun b u _ e n => by rw [A8 (neT b u e)]; exact n) (fun b u hc e => ⟨u, k b u hc e⟩) (fun b xs e => by rw [A8 (A9 e hn)]; exact e) (fun b ob u e => by rw [A8 (A9 e hn)]; exact e)
  (fun b ps e => ⟨#[], by rw [A8 (A9 e hn), e]; simp⟩) (fun m hm => ?_) (fun b u e => ?_) I.bare
 ·obtain ⟨ob, es, ep, ho, r⟩ := hm
  exact ⟨ob, es, ep, k _ ob (fun z => (hf _ z).2.1 rfl) ho, r⟩
 ·by_cases hb : b = T
  ·subst hb; rw [A7] at e; cases e; exact new
  ·rw [A8 hb] at e
   refine (I.hok b u e).stay (fun c v hc q => k c v ?_ q) (fun c q => by rw [A8 (A9 q hn)]; exact q) fun c xs q => by rw [A8 (A9 q hn)]; exact q
   rcases hc with z | z
   ·rw [z]; exact nch b u e
   ·exact nch c _ z
theorem R8 {X : Cx} {pins : List (Addr × Obj)} {σ : L2.St} {H : Hp} {s : Shared} {h' : Heap} {t' : Nat} {ch : List Addr} (I : Inv X pins σ H s) (hf : ∀ b ∈ ch, Y3 X pins H b)
  (k : ∀ b u, b ∉ ch → s.heap.get? b = some u → h'.get? b = some u) : Inv X pins σ H { s with heap := h', toks := t' } := by
 have nch : ∀ b u, H b = some u → b ∉ ch := fun b u e z => by rw [(hf b z).1] at e; cases e
 refine I.step (g' := s.gens) (d' := s.drawn) (ch := ch) (fun b hb => ⟨(hf b hb).2.2.2.1, (hf b hb).2.1, (hf b hb).2.2.2.2.1, (hf b hb).2.2.2.2.2⟩) (fun b u _ _ hc e _ => k b u hc e) (fun b u _ _ hc e _ => ⟨u.slots, k b u hc e⟩)
  (fun b u _ e n => n) (fun b u hc e => ⟨u, k b u hc e⟩) (fun b xs e => e) (fun b ob u e => e) (fun b ps e => ⟨#[], by rw [e]; simp⟩) (fun m hm => ?_) (fun b u e => ?_) I.bare
 ·obtain ⟨ob, es, ep, ho, r⟩ := hm
  exact ⟨ob, es, ep, k _ ob (fun z => (hf _ z).2.1 rfl) ho, r⟩
 ·refine (I.hok b u e).stay (fun c v hc q => k c v ?_ q) (fun c q => q) fun c xs q => q
  rcases hc with z | z
  ·rw [z]; exact nch b u e
  ·exact nch c _ z
theorem aP8 {P : Program} {w : World} {K : PySem.W.Frag} {elts : List Expr} {k0 : Nat} {pos : Pos} {t1 t2 : Bool} {z TI TO i1 i2 a1 a2 : Addr} (Z : ZipApart z TI TO i1 i2 a1 a2) :
  Turn P w K (.Tuple elts k0 pos) (Itz K t1 t2 a1 a2) [z, TI, TO, i1, i2] z (fun i h => IsZip h z TI TO .none ∧ IsPair h TI (.ref i1) (.ref i2) ∧ (∃ a b, IsPair h TO a b) ∧ SIt t1 h i1 a1 i ∧ SIt t2 h i2 a2 i) where
 mem := by simp
 obj := fun i h ⟨hz, hTI, ⟨a, b, hTO⟩, h1, h2⟩ c hc => by
  simp only [List.mem_cons, List.not_mem_nil, or_false] at hc
  rcases hc with rfl | rfl | rfl | rfl | rfl
  ·exact ⟨_, hz, fun v q => by cases q⟩
  ·exact ⟨_, hTI, fun v q => by cases q⟩
  ·exact ⟨_, hTO, fun v q => by cases q⟩
  ·cases t1 with
   | true => obtain ⟨o, ho, _, hd⟩ := h1; exact ⟨o, ho, fun v q => by rw [hd] at q; cases q⟩
   | false => obtain ⟨o, ho, _, hd⟩ := h1; exact ⟨o, ho, fun v q => by rw [hd] at q; cases q⟩
  ·cases t2 with
   | true => obtain ⟨o, ho, _, hd⟩ := h2; exact ⟨o, ho, fun v q => by rw [hd] at q; cases q⟩
   | false => obtain ⟨o, ho, _, hd⟩ := h2; exact ⟨o, ho, fun v q => by rw [hd] at q; cases q⟩
 keep := fun i h h' ⟨hz, hTI, ⟨a, b, hTO⟩, h1, h2⟩ hk => ⟨hk z (by simp) _ hz, hk TI (by simp) _ hTI, ⟨a, b, hk TO (by simp) _ hTO⟩, h1.ext fun o e => hk i1 (by simp) o e, h2.ext fun o e => hk i2 (by simp) o e⟩
 item := by
  intro X hP hw hK hc i pins s σ H E I hf ⟨hz, hTI, ⟨a, b, hTO⟩, h1, h2⟩ hg
  subst hP hw hK
  obtain ⟨xs, ys, x, y, q1, q2, ex, ey⟩ := hg
  obtain ⟨us, r1, p1, lt1⟩ := R1 I q1
  obtain ⟨ws, r2, p2, lt2⟩ := R1 I q2
  obtain ⟨ux, eux, rx⟩ := r1.get ex
  obtain ⟨uy, euy, ry⟩ := r2.get ey
  refine aB2 Z hz hTI hTO h1 h2 p1 p2 (x := ux) (y := uy) (by simpa using eux) (by simpa using euy) fun h' b1 b2 b3 b4 b5 b6 b7 => ⟨_, rfl, wpAny_letOwnedTupleGo_zip b1 fun h'' c1 c2 => ?_⟩
  have neT : ∀ c o, s.heap.get? c = some o → c ≠ s.heap.objs.size := fun c o e => Nat.ne_of_lt (Heap.lt_size e)
  have up : ∀ c o, c ≠ z → h'.get? c = some o → h''.get? c = some o := fun c o n e => c2.extBut c o n e
  refine ⟨.ref s.heap.objs.size, upd H s.heap.objs.size (.tup [x, y]), U8 (s := s) (h' := h'') (t' := s.toks) (ch := [z, TI, TO, i1, i2]) I hf (Nat.le_refl _) (fun c u hc e => ?_) ?_, rfl, ⟨_, x, y, rfl, I.hok.fresh (Nat.le_refl _), rfl, fun zs hz' => by rw [aB1 I hz' q1]; exact ex, fun zs hz' => by rw [aB1 I hz' q2]; exact ey⟩, ⟨c1, ?_, ⟨_, _, up TO _ Z.TOz b2⟩, b3.ext fun o e => up i1 o Z.i1z e, b4.ext fun o e => up i2 o Z.i2z e⟩, fun c hc => ?_⟩
  ·simp only [List.mem_cons, List.not_mem_nil, or_false, not_or] at hc
   exact up c u hc.1 (b7 c u hc.1 hc.2.2.1 hc.2.2.2.1 hc.2.2.2.2 e)
  ·refine ⟨by show 2 ≤ sizeLine; decide, [ux, uy], .cons rx (.cons ry .nil), _, up _ _ ?_ b5, rfl, _, rfl⟩
   exact fun q => neT z _ hz q.symm
  ·exact up TI _ Z.TIz (b7 TI _ Z.TIz Z.TITO Z.TIi1 Z.TIi2 hTI)
  ·have e : c < s.heap.objs.size := by
    simp only [List.mem_cons, List.not_mem_nil, or_false] at hc
    rcases hc with rfl | rfl | rfl | rfl | rfl
    ·exact Heap.lt_size hz
    ·exact Heap.lt_size hTI
    ·exact Heap.lt_size hTO
    ·exact h1.lt
    ·exact h2.lt
   rw [A8 (Nat.ne_of_lt e)]
   exact (hf c hc).1
 done := by
  intro X hP hw hK hc i pins s σ H E I hf ⟨hz, hTI, ⟨a, b, hTO⟩, h1, h2⟩ hg
  subst hP hw hK
  obtain ⟨xs, ys, q1, q2, hl⟩ := hg
  obtain ⟨us, r1, p1, lt1⟩ := R1 I q1
  obtain ⟨ws, r2, p2, lt2⟩ := R1 I q2
  have l1 := r1.length
  have l2 := r2.length
  refine aJ8 (I.ok.hd hc) Z hz hTI hTO h1 h2 p1 p2 ?_ fun h' hk => ⟨rfl, R8 (t' := s.toks) (ch := [z, TI, TO, i1, i2]) I hf fun c u hc e => ?_⟩
  ·rcases hl with h | h
   ·left; simp; omega
   ·right; simp; omega
  ·simp only [List.mem_cons, List.not_mem_nil, or_false, not_or] at hc
   exact hk c u hc.1 hc.2.2.1 hc.2.2.2.1 hc.2.2.2.2 e
 self := fun _ _ _ _ _ st h => wpAny_pyIter_zip st.1 h
section
variable {X : Cx}
noncomputable def r8 (f g : Rho → Option (Bool × List D)) : Rho → Option (List D) := fun ρ => (f ρ).bind fun p => (g ρ).bind fun q => some ((p.2.zip q.2).map fun (x, y) => PyData.tuple [x, y])
theorem az3 {K : PySem.W.Frag} {t1 t2 : Bool} {a1 a2 : Addr} {vs us : List V} {ds es : List D} {Hf1 : Hp} (h1 : Sq K t1 Hf1 a1 vs) (h2 : Sq K t2 Hf1 a2 us) (r1 : Reps K Hf1 ds vs) (r2 : Reps K Hf1 es us) :
  at6 K (Itz K t1 t2 a1 a2) ((ds.zip es).map fun (x, y) => PyData.tuple [x, y]) Hf1 := by
 have mono : ∀ {t : Bool} {a : Addr} {xs : List V} {H H' : Hp}, D6 H H' → Sq K t H a xs → Sq K t H' a xs := fun {t a xs H H'} e h => by
  cases t with
  | true => exact B5 e h
  | false => exact D3 e h
 intro i H Hf sa sb
 have m1 := mono (sa.trans sb) h1
 have m2 := mono (sa.trans sb) h2
 have l1 := r1.length
 have l2 := r2.length
 refine ⟨fun hi => ⟨vs, us, m1, m2, ?_⟩, fun d hd => ?_⟩
 ·simp at hi; omega
 ·rw [List.getElem?_map] at hd
  obtain ⟨⟨x, y⟩, q1, q2⟩ := Option.map_eq_some_iff.mp hd
  subst q2
  obtain ⟨q1, q2⟩ := List.getElem?_zip_eq_some.mp q1
  obtain ⟨vx, e1, e2⟩ := r1.get q1
  obtain ⟨vy, e3, e4⟩ := r2.get q2
  refine ⟨⟨vs, us, vx, vy, m1, m2, e1, e3⟩, fun v H' ⟨T, x', y', z1, z2, z3, z4, z5⟩ => ?_⟩
  subst z1 z3
  have w1 := z4 vs m1
  have w2 := z5 us m2
  rw [e1] at w1
  rw [e3] at w2
  cases w1
  cases w2
  have nf : Hf T = none := sb.free z2
  refine ⟨upd Hf T (.tup [vx, vy]), Grow.laid sb z2, T, [vx, vy], rfl, SqT.of A7, vx, [vy], rfl, (e2.mono sa).mono (B9 nf), vy, [], rfl, (e4.mono sa).mono (B9 nf), rfl⟩
theorem bw8 {elts : List Expr} {k0 : Nat} {tpos : Pos} {a b : Expr} {f g : DE} {p pos : Pos} (hg : Gl X "zip") (hm : X.mg "zip" = none) (ha : JE X a f) (hb : JE X b g) (hs : starEach [a, b] X.env = [(false, eval a X.env), (false, eval b X.env)] := by rfl) (hs2 : starEach [b] X.env = [(false, eval b X.env)] := by rfl) :
  JI X (.Tuple elts k0 tpos) (.Call (.Name "zip" p) [a, b] [] pos) (r8 (qE f) (qE g)) := fun ρ out q => by
 obtain ⟨⟨t1, ds⟩, e1, q⟩ := xbm q
 obtain ⟨⟨t2, es⟩, e2, q⟩ := xbm q
 cases q
 obtain ⟨d1, e1, e1'⟩ := xbm e1
 obtain ⟨d2, e2, e2'⟩ := xbm e2
 intro pins s σ H R I ⟨H0, Hf, ss, sl, k⟩
 refine Call_ (i9 I hg hm bA4 (PyProof.Rows.callWith_type1 (thn (C0 (ha ρ d1 e1) (C0 (hb ρ d2 e2) K2 hs2) (by rw [hs, hs2]) pos pins s σ H
  (fun vs H' => ∃ v u Hf', vs = [v, u] ∧ Grow H Hf H' Hf' ∧ Rep X.K Hf' d1 v ∧ Rep X.K Hf' d2 u) I ⟨H0, Hf, ss, sl, fun v H1 Hf1 g1 r1 => ⟨H0, Hf1, g1.sub, sl.grow g1, fun u H2 Hf2 g2 r2 => ⟨v, u, Hf2, rfl, g1.trans g2, r1.mono g2.ext, r2⟩⟩⟩) fun us s1 ⟨vs, H1, I1, r1, v, u, Hf1, ev, gr, p1, p2⟩ => ?_) (by rw [hs, hs2]) (by rw [hs2]; rfl)))
 subst ev
 obtain ⟨uv, uu, rfl, rv, ru⟩ := aE3 r1
 obtain ⟨a1, vs1, rfl, w1, w2⟩ := p1.seq (D6.refl Hf1) e1'
 obtain ⟨a2, vs2, rfl, w3, w4⟩ := p2.seq (D6.refl Hf1) e2'
 cases rv
 cases ru
 have mono : ∀ {t : Bool} {a : Addr} {xs : List V} {H H' : Hp}, D6 H H' → Sq X.K t H a xs → Sq X.K t H' a xs := fun {t a xs H H'} e h => by
  cases t with
  | true => exact B5 e h
  | false => exact D3 e h
 obtain ⟨us1, rr1, hp1, lt1⟩ := R1 I1 (mono gr.sub w1)
 obtain ⟨us2, rr2, hp2, lt2⟩ := R1 I1 (mono gr.sub w3)
 refine aJ6 hp1 hp2 fun h' b1 b2 b3 b4 b5 b6 => ?_
 have I2 : Inv X pins σ H1 { s1 with heap := h' } := I1.kept (t' := s1.toks) b6
 refine wpAny_pyIter_zip b1 ⟨_, _, _, _, H1, rfl, I2, aP8 (zipApart_new lt1 lt2), ⟨b1, b2, ⟨_, _, b3⟩, b4, b5⟩, fun b hb => ?_, k _ H1 Hf1 gr (az3 w1 w3 w2 w4)⟩
 have hb' : s1.heap.objs.size ≤ b := by
  simp only [List.mem_cons, List.not_mem_nil, or_false] at hb
  rcases hb with rfl | rfl | rfl | rfl | rfl
  ·exact Nat.le_add_right _ _
  ·exact Nat.le_add_right _ _
  ·exact Nat.le_add_right _ _
  ·exact Nat.le_refl _
  ·exact Nat.le_add_right _ _
 exact I1.fpOk hb' (I1.hok.fresh hb')
end
end G
namespace G
open PySem PySem.Spec PyProof.Rows L2
theorem ae8 : fillsNumberSlot (.type "tuple") "mul" = pure false := PySem.fillsNumberSlot_seq (id := "tuple.__mul__") (r := some (.builtin "tuple.__rmul__")) F.slot_tuple_mul.lookup (by decide +kernel) F.slot_tuple_rmul.lookup (by decide +kernel)
theorem al6 : seqRepeat? (.type "tuple") = pure (some (.builtin "tuple.__mul__")) := by
 unfold seqRepeat?
 rw [PySem.seqSlot_of (T := "tuple") (name := "__mul__") (id := "tuple.__mul__") F.slot_tuple_mul.lookup (by decide +kernel), PySem.seqSlot_of (T := "tuple") (name := "__rmul__") (id := "tuple.__rmul__") F.slot_tuple_rmul.lookup (by decide +kernel)]; rfl
theorem v2 (a : Int) (t : Tok) (l : Addr) (items : Array Value) (n : Nat) (dd : Option Addr) (sl : Array (Option Value)) :
  Meets (Builtin.«int.__rmul__» ⟨[.int a t, .ref l], []⟩) (fun _ R s => s.heap.get? l = some ⟨.type "tuple", dd, .seq items n, sl⟩ ∧ R (.ok (.ret Value.notImplemented)) s) :=
 .of_wp fun prog w A R s h => by obtain ⟨hp, g, d, tk, os⟩ := s; obtain ⟨hl, h⟩ := h; wp_walk; exact ⟨_, rfl, h⟩
theorem aB4 (items : Array Value) (k : Nat) : List.foldl (fun x1 x2 => x1 ++ x2) #[] (List.replicate k items) = (List.replicate k items.toList).flatten.toArray := by
 have := am2 items.toList k []
 rw [List.nil_append] at this
 simpa using this
theorem av9 (l : Addr) (items : Array Value) (n : Nat) (dd : Option Addr) (sl : Array (Option Value)) (x : Int) (u : Tok) (h2 : 2 ≤ x) (h3 : x < 1000000) (he : items.isEmpty = false) (hz : items.size * x.toNat ≤ sizeLine) :
  Meets (Builtin.«tuple.__mul__» ⟨[.ref l, .int x u], []⟩) (fun _ R s => s.heap.get? l = some ⟨.type "tuple", dd, .seq items n, sl⟩ ∧ R (.ok (.ret (Value.ref s.heap.objs.size))) { s with heap := s.heap.push { cls := Value.type "tuple", data := Data.seq (List.foldl (fun x1 x2 => x1 ++ x2) #[] (List.replicate x.toNat items)) } }) :=
 .of_wp fun prog w A R s h => by
  obtain ⟨hp, g, d, tk, os⟩ := s
  obtain ⟨hl, h⟩ := h
  have hm : (items.size : Int) * x ≤ 16777216 := by
   have e : ((items.size * x.toNat : Nat) : Int) = (items.size : Int) * x := by rw [Int.natCast_mul, Int.toNat_of_nonneg (by omega)]
   have : items.size * x.toNat ≤ 16777216 := by rw [← sizeLine_eq]; exact hz
   omega
  wp_walk
  refine wpAny_ite_false (by simp; omega) ?_
  have ht : Heap.IsTuple (Shared.heap ⟨hp, g, d, tk, os⟩) l items := ⟨_, hl, rfl, n, rfl⟩
  refine wpAny_bind (tupleItemsOf_ ht ?_)
  refine wpAny_ite_false (by rw [he]; simp; omega) ?_
  show wpAny _ _ (if (decide (x ≤ 0) || items.isEmpty) = true then _ else _) _ _ _
  refine wpAny_ite_false (by rw [he]; simp; omega) ?_
  show wpAny _ _ (if (items.size : Int) * x > (2 ^ 63 - 1) / 8 then _ else _) _ _ _
  rw [if_neg (by omega)]
  show wpAny _ _ (if Builtin.Tuple.tupleTooMany ((items.size : Int) * x) = true then _ else _) _ _ _
  rw [if_neg (by unfold Builtin.Tuple.tupleTooMany; rw [sizeLine_eq]; simp; omega)]
  refine wpAny_bind (m := Builtin.Tuple.tupleExact _) (wpAny_newObj_type (wpAny_pure ⟨_, rfl, h⟩) ?_)
  show (List.foldl (fun x1 x2 => x1 ++ x2) #[] (List.replicate x.toNat items)).size ≤ sizeLine
  rw [aB4 items x.toNat, List.size_toArray, ar4, Array.length_toList, Nat.mul_comm]
  exact hz
section
variable {X : Cx}
theorem be4 : OpR X (binaryOp .Mult) (fun x y H Q => ∃ l k xs, x = .ref l ∧ y = .int k ∧ SqT X.K H l xs ∧ xs ≠ [] ∧ 2 ≤ k ∧ k < 1000000 ∧ xs.length * k.toNat ≤ sizeLine ∧ ∀ p, H p = none → Q (.ref p) (upd H p (.tup (List.replicate k.toNat xs).flatten))) := by
 intro pins s σ H x y v u Q I rx ry h
 obtain ⟨l, k, xs, rfl, rfl, hq, hx, h2, h3, hz, q⟩ := h
 cases rx
 obtain ⟨t, rfl⟩ := ry
 obtain ⟨its, r, p1, _⟩ := I.tuple hq
 obtain ⟨⟨cls, dd, data, sl⟩, ho, hc, n, hd⟩ := id p1
 simp only at hc hd
 subst hc hd
 have hl := r.length
 have he : its.toArray.isEmpty = false := by
  cases its with
  | nil => exact absurd (r.nil_iff.mp rfl) hx
  | cons a b => rfl
 refine wpAny_binaryOp_repeat_ref (T := "tuple") (U := "int") (by decide) ⟨_, ho, rfl⟩ (fun s' => typeIs_int s' k t) ae8 F.fills_int_mul F.slot_int_rmul al6 F.slot_int_index.lookup
  (call_meets F.slot_int_rmul (typeIs_int s k t) F.entry_int_rmul (F.args_int_rmul_2 _ _) (v2 k t l its.toArray n dd sl) ⟨ho, rfl, ⟨_, ho, rfl⟩,
   call_meets F.slot_tuple_mul ⟨_, ho, rfl⟩ F.entry_tuple_mul (F.args_tuple_mul_2 _ _) (av9 l its.toArray n dd sl k t h2 h3 he (by rw [List.size_toArray, ← hl]; exact hz)) ⟨ho, ?_⟩⟩)
 rw [aB4]
 refine ⟨.ref _, _, I.laid (t' := s.toks) (o := .tup (List.replicate k.toNat xs).flatten) (fun b ob q => Heap.get?_push_of_some _ q) (Nat.le_refl _) ⟨?_, _, r.rep k.toNat, IsTup.new _ _⟩, rfl, q _ (I.hok.fresh (Nat.le_refl _))⟩
 rw [ar4, Nat.mul_comm]; exact hz
noncomputable def U7 (x y : D) : Option D := match x, y with
 | .int i, .int j => if D5 i ∧ D5 j then some (.int (i * j)) else none
 | .tuple xs, .int k => if xs.isEmpty = false ∧ 2 ≤ k ∧ k < 1000000 ∧ xs.length * k.toNat ≤ 16777216 then some (.tuple (List.replicate k.toNat xs).flatten) else none
 | _, _ => none
theorem aq8 : OpD X (binaryOp .Mult) U7 := fun x y z h => by
 unfold U7 at h
 split at h
 ·exact bt5 _ _ z (by unfold bu2; exact h)
 ·split at h
  ·rename_i xs k c
   cases h
   refine OpR.imp be4 fun vx vy H Q ⟨Hf, s, r1, r2, kk⟩ => ?_
   obtain ⟨a, vs, rfl, h2, h3⟩ := r1
   refine ⟨a, k, vs, rfl, r2, B5 s h2, ?_, c.2.1, c.2.2.1, by rw [h3.length, sizeLine_eq]; exact c.2.2.2, fun p hp => ?_⟩
   ·intro e
    subst e
    have := h3.length
    cases xs with
    | nil => exact absurd c.1 (by simp)
    | cons a b => simp at this
   ·exact kk _ _ _ (Grow.laid s hp) ⟨p, _, rfl, SqT.of A7, (h3.flatten k.toNat).mono (B9 (s.free hp))⟩
  ·cases h
 ·cases h
noncomputable def bA1 (f : DE) : DE := fun ρ => (f ρ).bind fun d => match d with
 | .int i => some (.int (-i))
 | _ => none
theorem aW7 {a : Expr} {f : DE} {pos : Pos} (h : JE X a f) : JE X (.UnaryOp .USub a pos) (bA1 f) := fun ρ d q => by
 obtain ⟨x, e1, e2⟩ := xbm q
 cases x with
 | int i =>
  cases e2
  exact A6 (bE2 bn9 (h ρ _ e1)) fun σ H Q ⟨H0, Hf, s, sl, k⟩ => ⟨H0, Hf, s, sl, fun v H1 Hf1 g1 r1 => ⟨_, r1, k _ H1 Hf1 g1 rfl⟩⟩
 | _ => cases e2
noncomputable def isB (x y : D) : Option D := match y with
 | .bool b => (match x with
  | .bool c => some (.bool (c == b))
  | .dict _ => none
  | _ => some (.bool false))
 | .none => isN x .none
 | _ => none
noncomputable def bF9 (x y : D) : Option D := match y with
 | .bool b => (match x with
  | .bool c => some (.bool (!(c == b)))
  | .dict _ => none
  | _ => some (.bool true))
 | .none => bu0 x .none
 | _ => none
theorem bF3 : OpD X (compareOp .Is) isB := fun x y z h => by
 cases y with
 | none => exact bt7 x .none z h
 | bool b =>
  intro pins s σ H vx vy v u Q I rx ry ⟨Hf, ss, r1, r2, k⟩
  cases r2
  cases ry
  have fin : ∀ c, z = .bool c → (v == Value.bool b) = c → EP X pins σ Q (.bool (v == Value.bool b)) s := fun c e1 e2 => by
   rw [e2]; subst e1; exact ⟨.bl c, H, I, rfl, k _ H Hf (Grow.refl ss) rfl⟩
  cases x with
  | none => cases r1; cases rx; cases h; exact wpAny_is_plain rfl (fin _ rfl rfl)
  | bool c => cases r1; cases rx; cases h; exact wpAny_is_plain rfl (fin _ rfl (by cases c <;> cases b <;> rfl))
  | int i => cases r1; obtain ⟨t, rfl⟩ := rx; cases h; exact wpAny_is_plain rfl (fin _ rfl rfl)
  | str i => cases r1; obtain ⟨t, rfl⟩ := rx; cases h; exact wpAny_is_plain rfl (fin _ rfl rfl)
  | tuple ds => obtain ⟨a, vs, rfl, _⟩ := r1; cases rx; cases h; exact wpAny_is_plain rfl (fin _ rfl rfl)
  | list ds => obtain ⟨a, vs, rfl, _⟩ := r1; cases rx; cases h; exact wpAny_is_plain rfl (fin _ rfl rfl)
  | dict ds => cases h
 | _ => cases h
theorem aT4 : OpD X (compareOp .IsNot) bF9 := fun x y z h => by
 cases y with
 | none => exact bf1 x .none z h
 | bool b =>
  intro pins s σ H vx vy v u Q I rx ry ⟨Hf, ss, r1, r2, k⟩
  cases r2
  cases ry
  have fin : ∀ c, z = .bool c → (!(v == Value.bool b)) = c → EP X pins σ Q (.bool (!(v == Value.bool b))) s := fun c e1 e2 => by
   rw [e2]; subst e1; exact ⟨.bl c, H, I, rfl, k _ H Hf (Grow.refl ss) rfl⟩
  cases x with
  | none => cases r1; cases rx; cases h; exact wpAny_isNot_plain rfl (fin _ rfl rfl)
  | bool c => cases r1; cases rx; cases h; exact wpAny_isNot_plain rfl (fin _ rfl (by cases c <;> cases b <;> rfl))
  | int i => cases r1; obtain ⟨t, rfl⟩ := rx; cases h; exact wpAny_isNot_plain rfl (fin _ rfl rfl)
  | str i => cases r1; obtain ⟨t, rfl⟩ := rx; cases h; exact wpAny_isNot_plain rfl (fin _ rfl rfl)
  | tuple ds => obtain ⟨a, vs, rfl, _⟩ := r1; cases rx; cases h; exact wpAny_isNot_plain rfl (fin _ rfl rfl)
  | list ds => obtain ⟨a, vs, rfl, _⟩ := r1; cases rx; cases h; exact wpAny_isNot_plain rfl (fin _ rfl rfl)
  | dict ds => cases h
 | _ => cases h
noncomputable def aE2 (K : PySem.W.Frag) (d : D) (u : Value) : Prop := ∃ v, L0 v u ∧ ∀ H : Hp, Rep K H d v
theorem by4 {x : Str} {d : D} {u : Value} {pos : Pos} (r : aE2 X.K d u) (hg : Gl X x) (hm : X.mg x = some u) (hd : (x == ("__debug__" : Str)) = false := by decide) : JE X (.Name x pos) (dC d) := fun ρ d' q => by
 cases q
 obtain ⟨v, rv, rp⟩ := r
 exact A6 (be0 hg hm rv hd) fun σ H Q ⟨H0, Hf, s, sl, k⟩ => k _ H Hf (Grow.refl s) (rp Hf)
noncomputable def qN (f : Rho → Option (List D)) : Rho → Option (Bool × List D) := fun ρ => (f ρ).map fun ds => (false, ds)
theorem bw5 {e : Expr} {f : Rho → Option (List D)} (h : JN X e f) : JQ X e (qN f) := aW0 h
noncomputable def N7 (f : Rho → Option (Bool × List D)) : DE := fun ρ => (f ρ).bind fun q => if q.1 = true then none else some (.tuple q.2)
theorem bh7 {e : Expr} {f : Rho → Option (Bool × List D)} {p pos : Pos} (hg : Gl X "tuple") (hm : X.mg "tuple" = none) (h : JQ X e f) (he : starEach [e] X.env = [(false, eval e X.env)] := by rfl) : JE X (.Call (.Name "tuple" p) [e] [] pos) (N7 f) := aW4 hg hm h (he := he)
end
end G
namespace G
open PySem PySem.Spec PyProof.Rows L2
theorem aP4 (l b : Addr) (items items2 : Array Value) (n n2 : Nat) (dd dd2 : Option Addr) (sl sl2 : Array (Option Value)) (hz : items.size + items2.size ≤ sizeLine) :
  Meets (Builtin.«list.__add__» ⟨[.ref l, .ref b], []⟩) (fun _ R s => s.heap.get? l = some ⟨.type "list", dd, .seq items n, sl⟩ ∧ s.heap.get? b = some ⟨.type "list", dd2, .seq items2 n2, sl2⟩ ∧ R (.ok (.ret (Value.ref s.heap.objs.size))) { s with heap := s.heap.push { cls := Value.type "list", data := Data.seq (items ++ items2) } }) :=
 .of_wp fun prog w A R s h => by
  obtain ⟨hp, g, d, tk, os⟩ := s
  obtain ⟨hl, hb, h⟩ := h
  have hsub : isSubtype (.type "list") (.type "list") = pure true := by rw [isSubtype_type]; kernel_rfl
  have hsz := hz
  wp_walk
  exact ⟨_, rfl, h⟩
section
variable {X : Cx}
theorem aF9 : OpR X (binaryOp .Add) (fun x y H Q => ∃ a b xs ys, x = .ref a ∧ y = .ref b ∧ SqL X.K H a xs ∧ SqL X.K H b ys ∧ xs.length + ys.length ≤ sizeLine ∧ ∀ p, H p = none → Q (.ref p) (upd H p (.lst (xs ++ ys)))) := by
 intro pins s σ H x y v u Q I rx ry h
 obtain ⟨a, b, xs, ys, rfl, rfl, ha, hb, hz, q⟩ := h
 cases rx
 cases ry
 obtain ⟨its, r1, p1, _⟩ := I.list ha
 obtain ⟨its2, r2, p2, _⟩ := I.list hb
 obtain ⟨⟨cls, dd, data, sl⟩, ho, hc, n, hd⟩ := p1.isList
 obtain ⟨⟨cls2, dd2, data2, sl2⟩, ho2, hc2, n2, hd2⟩ := p2.isList
 simp only at hc hd hc2 hd2
 subst hc hd hc2 hd2
 have l1 := r1.length
 have l2 := r2.length
 refine concat_meets ⟨_, ho, rfl⟩ ⟨_, ho2, rfl⟩ noFill_list_add seq_list_add PySem.F.slot_list_add PySem.F.entry_list_add (PySem.F.args_list_add_2 _ _) (aP4 a b its.toArray its2.toArray n n2 dd dd2 sl sl2 (by simp only [List.size_toArray]; omega)) ⟨ho, ho2, ?_⟩
 have ea : its.toArray ++ its2.toArray = (its ++ its2).toArray := by simp
 rw [ea]
 exact ⟨.ref _, _, I.lnew (t' := s.toks) (r1.append r2) (by rw [List.length_append]; omega), rfl, q _ I.fresh⟩
noncomputable def d6 (x y : D) : Option D := match x, y with
 | .list xs, .list ys => if xs.length + ys.length ≤ 16777216 then some (.list (xs ++ ys)) else none
 | x, y => c6 x y
theorem bf3 : OpD X (binaryOp .Add) d6 := fun x y z h => by
 unfold d6 at h
 split at h
 ·split at h
  ·rename_i c
   cases h
   refine OpR.imp aF9 fun vx vy H Q ⟨Hf, s, r1, r2, k⟩ => ?_
   obtain ⟨a, vs, rfl, h2, h3⟩ := r1
   obtain ⟨b, us, rfl, h5, h6⟩ := r2
   refine ⟨a, b, vs, us, rfl, rfl, D3 s h2, D3 s h5, by rw [h3.length, h6.length, sizeLine_eq]; exact c, fun p hp => ?_⟩
   exact k _ _ _ (Grow.laid s hp) ⟨p, vs ++ us, rfl, SqL.of A7, (h3.append h6).mono (B9 (s.free hp))⟩
  ·cases h
 ·exact aT5 _ _ z h
noncomputable def bm5 (f : DE) : DE := fun ρ => (f ρ).bind fun d => match d with
 | .tuple xs => some (.tuple xs.reverse)
 | _ => none
end
end G
namespace G
theorem xg0 {α : Type} {a : α} {l : List α} : (a :: l)[0]? = some a := rfl
theorem xg1 {α : Type} {a : α} {i : Nat} {l : List α} : (a :: l)[i + 1]? = l[i]? := rfl
theorem xw0 {α : Type} {a b : α} {l : List α} : (a :: l).set 0 b = b :: l := rfl
theorem xw1 {α : Type} {a b : α} {i : Nat} {l : List α} : (a :: l).set (i + 1) b = a :: l.set i b := rfl
theorem xbs {α β : Type} {a : α} {f : α → Option β} : (some a).bind f = f a := rfl
theorem xms {α β : Type} {a : α} {f : α → β} : (some a).map f = some (f a) := rfl
theorem xca {α : Type} {a : α} {l m : List α} : (a :: l) ++ m = a :: (l ++ m) := rfl
theorem xna {α : Type} {l : List α} : [] ++ l = l := rfl
theorem xmc {α β : Type} {f : α → β} {a : α} {l : List α} : (a :: l).map f = f a :: l.map f := rfl
theorem xmn {α β : Type} {f : α → β} : [].map f = [] := rfl
theorem xnf : (!false) = true := rfl
theorem xnt : (!true) = false := rfl
theorem xft : (false = true) = False := by simp
end G
noncomputable section
namespace Sh
open PySem PySem.Spec PyProof.Rows L2 G
def ae6 : DS := (B7 (Z9 (tB2 neD (A1 1) (dC (.int 0))) (B7 (F3 2 (A4 W8 (A1 0) (A1 1))) (B7 (F3 0 (A1 1)) (F3 1 (A1 2))))) (C1 (A1 0)))
def P8 : List D → Option D := R6 ae6 3
def V7 : DS := (B7 (F3 2 (A2 P8 (A0 (A1 0) (A0 (A1 1) A3)))) (C1 (O8 (A0 (A4 t6 (A1 0) (A1 2)) (A0 (A4 t6 (A1 1) (A1 2)) A3)))))
def P7 : List D → Option D := R6 V7 3
def V8 : DS := (C1 (A4 leI (A4 U7 (dIx (B4 0) (dC (.int 0))) (dIx (B4 1) (dC (.int 1)))) (A4 U7 (dIx (B4 1) (dC (.int 0))) (dIx (B4 0) (dC (.int 1))))))
def V9 : List D → Option D := R6 V8 2
def ah0 : DS := (C1 (A2 P7 (A0 (A4 c6 (A4 U7 (dIx (B4 0) (dC (.int 0))) (dIx (B4 1) (dC (.int 1)))) (A4 U7 (dIx (B4 1) (dC (.int 0))) (dIx (B4 0) (dC (.int 1))))) (A0 (A4 U7 (dIx (B4 0) (dC (.int 1))) (dIx (B4 1) (dC (.int 1)))) A3))))
def S3 : List D → Option D := R6 ah0 2
def c8 : DS := (C1 (A2 P7 (A0 (A4 o5 (A4 U7 (dIx (B4 0) (dC (.int 0))) (dIx (B4 1) (dC (.int 1)))) (A4 U7 (dIx (B4 1) (dC (.int 0))) (dIx (B4 0) (dC (.int 1))))) (A0 (A4 U7 (dIx (B4 0) (dC (.int 1))) (dIx (B4 1) (dC (.int 1)))) A3))))
def S9 : List D → Option D := R6 c8 2
def ag9 : DS := (C1 (A2 P7 (A0 (A4 U7 (dIx (B4 0) (dC (.int 0))) (dIx (B4 1) (dC (.int 0)))) (A0 (A4 U7 (dIx (B4 0) (dC (.int 1))) (dIx (B4 1) (dC (.int 1)))) A3))))
def T9 : List D → Option D := R6 ag9 2
def m4 : DS := (C1 (A2 S9 (A0 (dC (.tuple [(.int 1), (.int 1)])) (A0 (A1 0) A3))))
def W3 : List D → Option D := R6 m4 1
def T8 : DS := (C1 (ae0 (Z5 (A2 V9 (A0 (A1 0) (A0 (dC (.tuple [(.int 1), (.int 1)])) A3)))) (A1 0) (dC (.tuple [(.int 1), (.int 1)]))))
def R0 : List D → Option D := R6 T8 1
def K9 : DS := (B7 (sIf (tB2 eqD (A1 0) (dC (.str "plus"))) (C1 (A2 R0 (A0 (A2 S3 (A0 (A1 1) (A0 (A1 2) A3))) A3))) O5) (B7 (sIf (tB2 eqD (A1 0) (dC (.str "atop"))) (C1 (A1 2)) O5) (B7 (sIf (tB2 eqD (A1 0) (dC (.str "cut"))) (C1 (A2 T9 (A0 (A1 2) (A0 (A2 W3 (A0 (A1 1) A3)) A3)))) O5) (C1 (A2 S9 (A0 (A2 S3 (A0 (A1 1) (A0 (A1 2) A3))) (A0 (A2 T9 (A0 (A1 1) (A0 (A1 2) A3))) A3)))))))
def R5 : List D → Option D := R6 K9 3
def J6 : DS := (B7 (sIf (tB2 eqD (A1 0) (dC (.str "plus"))) (C1 (A2 R0 (A0 (A2 S3 (A0 (A1 3) (A0 (A1 4) A3))) A3))) O5) (B7 (sIf (tB2 eqD (A1 0) (dC (.str "screen"))) (C1 (A2 S9 (A0 (A2 S3 (A0 (A1 3) (A0 (A1 4) A3))) (A0 (A2 T9 (A0 (A1 3) (A0 (A1 4) A3))) A3)))) O5) (B7 (F3 5 (A2 T9 (A0 (A1 4) (A0 (A2 W3 (A0 (A1 1) A3)) A3)))) (B7 (sIf (tB2 eqD (A1 0) (dC (.str "over"))) (C1 (A2 S3 (A0 (A1 3) (A0 (A1 5) A3)))) O5) (B7 (sIf (tB2 eqD (A1 0) (dC (.str "multiply"))) (C1 (A2 S3 (A0 (A2 S3 (A0 (A2 T9 (A0 (A1 3) (A0 (A1 4) A3))) (A0 (A2 T9 (A0 (A1 3) (A0 (A2 W3 (A0 (A1 2) A3)) A3))) A3))) (A0 (A1 5) A3)))) O5) (B7 (sIf (tB2 eqD (A1 0) (dC (.str "atop"))) (C1 (A2 S3 (A0 (A2 T9 (A0 (A1 3) (A0 (A1 2) A3))) (A0 (A1 5) A3)))) O5) (C1 (A1 5))))))))
def P9 : List D → Option D := R6 J6 6
def ao0 : DS := (B7 (F3 3 (dIx (B4 1) (dC (.int 0)))) (B7 (F3 4 (dIx (B4 2) (dC (.int 0)))) (B7 (Q0 5 (L1 2 [0, 3, 4] (r8 (qE (aa0 (A1 1) (Q5 (dC (.int 1))) Q6)) (qE (aa0 (A1 2) (Q5 (dC (.int 1))) Q6))) (M5 2 (B6 (L4 0) (B6 (L4 1) N5))) K1 (A2 P9 (A0 (A1 2) (A0 (A1 3) (A0 (A1 4) (A0 (A1 0) (A0 (A1 1) A3)))))))) (C1 (O8 (A0 (A2 R5 (A0 (A1 0) (A0 (A1 3) (A0 (A1 4) A3)))) (A0 (dIx (B4 5) (dC (.int 0))) (A0 (dIx (B4 5) (dC (.int 1))) (A0 (dIx (B4 5) (dC (.int 2))) A3)))))))))
def W4 : List D → Option D := R6 ao0 6
def ak0 : DS := (B7 (sIf (tB2 eqD (A1 0) (Y2 A3)) (C1 (A4 U7 (dC (.int 7)) (A1 1))) O5) (C1 (A4 c6 (dIx (B4 0) (A4 W8 (A1 1) (c5 (B4 0)))) (A4 U7 (dC (.int 6553)) (A4 t6 (A1 1) (c5 (B4 0)))))))
def ab3 : List D → Option D := R6 ak0 2
def an9 : DS := (B7 (F3 3 (A4 W8 (A4 c6 (A4 U7 (A4 W8 (A2 ab3 (A0 (A1 0) (A0 (A1 1) A3))) (dC (.int 2147483563))) (dC (.int 69069))) (A4 U7 (dC (.int 104723)) (A4 c6 (A1 1) (dC (.int 1))))) (dC (.int 2147483563)))) (B7 (F3 3 (A4 W8 (A4 c6 (A4 U7 (A1 3) (A1 3)) (A4 t6 (A1 3) (dC (.int 3)))) (dC (.int 2147483399)))) (C1 (A4 W8 (A4 t6 (A4 W8 (A4 c6 (A4 U7 (A1 3) (A1 3)) (A4 t6 (A1 3) (dC (.int 7)))) (dC (.int 2147483647))) (dC (.int 11))) (A1 2)))))
def C2 : List D → Option D := R6 an9 4
def ab2 : DS := (B7 (F3 2 (A1 0)) (B7 (F3 3 (A1 1)) (B7 (Z9 (tB2 gtI (A1 2) (dC (.int 0))) (aR2 2 3 (A0 (A4 W8 (A1 3) (A1 2)) (A0 (A1 2) A3)))) (C1 (O8 (A0 (A4 t6 (A1 0) (A1 3)) (A0 (A4 t6 (A1 1) (A1 3)) A3)))))))
def j9 : List D → Option D := R6 ab2 4
def an7 : DS := (C1 (A2 j9 (A0 (A4 U7 (dIx (B4 0) (dC (.int 0))) (dIx (B4 1) (dC (.int 0)))) (A0 (A4 U7 (dIx (B4 0) (dC (.int 1))) (dIx (B4 1) (dC (.int 1)))) A3))))
def m5 : List D → Option D := R6 an7 2
def an8 : DS := (B7 (F3 2 (A4 c6 (dC (.int 1)) (A2 C2 (A0 (A1 0) (A0 (A1 1) (A0 (dC (.int 12)) A3)))))) (B7 (F3 3 (A2 j9 (A0 (A2 C2 (A0 (A1 0) (A0 (A4 c6 (A1 1) (dC (.int 1))) (A0 (A4 c6 (A1 2) (dC (.int 1))) A3)))) (A0 (A1 2) A3)))) (C1 (dIx (qN (A0 (A1 3) (A0 (A1 3) (A0 (A1 3) (A0 (O8 (A0 (dC (.int 0)) (A0 (dC (.int 1)) A3))) (A0 (O8 (A0 (dC (.int 1)) (A0 (dC (.int 1)) A3))) A3)))))) (A2 C2 (A0 (A1 0) (A0 (A4 c6 (A1 1) (dC (.int 2))) (A0 (dC (.int 5)) A3))))))))
def Z4 : List D → Option D := R6 an8 4
def az0 : DS := (B7 (F3 2 (A2 Z4 (A0 (A1 0) (A0 (A1 1) A3)))) (C1 (A4 c6 (O8 (A0 (A1 2) A3)) (N7 (qN (L1 1 [2, 0, 1] (U3 (dC (.int 3))) (L4 0) K1 (A2 m5 (A0 (A1 1) (A0 (A2 Z4 (A0 (A1 2) (A0 (A4 c6 (A4 c6 (A1 3) (dC (.int 3))) (A4 U7 (dC (.int 3)) (A1 0))) A3))) A3)))))))))
def W7 : List D → Option D := R6 az0 3
end Sh
namespace Sh
open PySem G
theorem p6 (i j : Int) : neD (.int i) (.int j) = some (.bool (!(i == j))) := rfl
theorem r9 (i j : Int) : eqD (.int i) (.int j) = some (.bool (i == j)) := rfl
theorem aG9 {t : Rho → Option Bool} {f : DS} {n : Nat} {ρ ρ' : Rho} (h1 : t ρ = some true) (h2 : f ρ = some (.nx ρ')) : U2 t f (n + 1) ρ = U2 t f n ρ' := by
 simp only [U2, h1, h2, xbs, if_true]
theorem aX8 : ∀ (b a : Nat) (x : Option B), ∃ n x', U2 (tB2 neD (A1 1) (dC (.int 0))) (B7 (F3 2 (A4 W8 (A1 0) (A1 1))) (B7 (F3 0 (A1 1)) (F3 1 (A1 2)))) n [some (.val (.int a)), some (.val (.int b)), x]
  = some (.nx [some (.val (.int (Nat.gcd a b))), some (.val (.int 0)), x']) := by
 intro b
 induction b using Nat.strongRecOn with
 | _ b ih =>
  intro a x
  by_cases hb : b = 0
  ·subst hb
   refine ⟨1, x, ?_⟩
   rw [Nat.gcd_zero_right]
   rfl
  ·obtain ⟨n, x', h⟩ := ih (a % b) (Nat.mod_lt _ (Nat.pos_of_ne_zero hb)) b (some (.val (.int ((a % b : Nat) : Int))))
   refine ⟨n + 1, x', ?_⟩
   have e1 : tB2 neD (A1 1) (dC (.int 0)) [some (.val (.int a)), some (.val (.int b)), x] = some true := by
    show (neD (.int b) (.int 0)).bind M9 = some true
    rw [p6]
    have : ((b : Int) == 0) = false := by simp; omega
    rw [this]; rfl
   have e2 : W8 (.int a) (.int b) = some (.int ((a % b : Nat) : Int)) := by
    show (if (0 : Int) < (b : Int) then some (PyData.int ((a : Int) % (b : Int))) else none) = _
    rw [if_pos (by omega)]
    simp
   have e3 : B7 (F3 2 (A4 W8 (A1 0) (A1 1))) (B7 (F3 0 (A1 1)) (F3 1 (A1 2))) [some (.val (.int a)), some (.val (.int b)), x] = some (.nx [some (.val (.int b)), some (.val (.int ((a % b : Nat) : Int))), some (.val (.int ((a % b : Nat) : Int)))]) := by
    show ((((W8 (.int a) (.int b))).map fun d => Fl.nx [some (.val (.int a)), some (.val (.int b)), some (.val d)]).bind _) = _
    rw [e2]
    rfl
   rw [aG9 e1 e3, h, Nat.gcd_comm b, Nat.gcd_comm a b, ← Nat.gcd_rec]
theorem bJ1 (a b : Nat) : P8 [.int a, .int b] = some (.int (Nat.gcd a b)) := by
 obtain ⟨n, x', h⟩ := aX8 b a none
 show ((Z9 _ _ [some (.val (.int a)), some (.val (.int b)), none]).bind _).bind _ = _
 rw [al5 h]
 rfl
theorem aL9 : ∀ (a b : Nat) (t u : D), ∃ n, U2 (tB2 gtI (A1 2) (dC (.int 0))) (aR2 2 3 (A0 (A4 W8 (A1 3) (A1 2)) (A0 (A1 2) A3))) n [some (.val t), some (.val u), some (.val (.int a)), some (.val (.int b))]
  = some (.nx [some (.val t), some (.val u), some (.val (.int 0)), some (.val (.int (Nat.gcd a b)))]) := by
 intro a
 induction a using Nat.strongRecOn with
 | _ a ih =>
  intro b t u
  by_cases ha : a = 0
  ·subst ha
   refine ⟨1, ?_⟩
   rw [Nat.gcd_zero_left]
   rfl
  ·obtain ⟨n, h⟩ := ih (b % a) (Nat.mod_lt _ (Nat.pos_of_ne_zero ha)) a t u
   refine ⟨n + 1, ?_⟩
   have e1 : tB2 gtI (A1 2) (dC (.int 0)) [some (.val t), some (.val u), some (.val (.int a)), some (.val (.int b))] = some true := by
    show some (decide ((0 : Int) < (a : Int))) = some true
    rw [decide_eq_true (by omega)]
   have e2 : W8 (.int b) (.int a) = some (.int ((b % a : Nat) : Int)) := by
    show (if (0 : Int) < (a : Int) then some (PyData.int ((b : Int) % (a : Int))) else none) = _
    rw [if_pos (by omega)]
    simp
   have e3 : aR2 2 3 (A0 (A4 W8 (A1 3) (A1 2)) (A0 (A1 2) A3)) [some (.val t), some (.val u), some (.val (.int a)), some (.val (.int b))] = some (.nx [some (.val t), some (.val u), some (.val (.int ((b % a : Nat) : Int))), some (.val (.int a))]) := by
    show ((W8 (.int b) (.int a)).bind fun d => (some [PyData.int (a : Int)]).map fun ds => d :: ds).bind _ = _
    rw [e2]
    rfl
   rw [aG9 e1 e3, h, ← Nat.gcd_rec]
def fr (r : Rat) : D := .tuple [.int r.num, .int r.den]
theorem J8 {i : Int} {k : Nat} (h : i.natAbs < 2 ^ k) (hk : k ≤ 8000) : D5 i := Nat.lt_of_lt_of_le h (Nat.pow_le_pow_right (by decide) hk)
theorem aw1 (a b : Nat) (hb : 0 < b) : fr (mkRat a b) = .tuple [.int ((a / Nat.gcd a b : Nat) : Int), .int ((b / Nat.gcd a b : Nat) : Int)] := by
 unfold fr
 rw [Rat.num_mkRat, Rat.den_mkRat, if_neg (by omega), if_neg (by omega)]
 have e : b.gcd (a : Int).natAbs = Nat.gcd a b := by rw [Int.natAbs_natCast, Nat.gcd_comm]
 rw [e]
 simp
theorem aH2 (a b x k : Nat) (hb : 0 < b) (hk : b < 2 ^ k) (hk8 : k ≤ 8000) : t6 (.int x) (.int (Nat.gcd a b)) = some (.int ((x / Nat.gcd a b : Nat) : Int)) := by
 have g0 : 0 < Nat.gcd a b := Nat.gcd_pos_of_pos_right _ hb
 have gs : D5 (Nat.gcd a b : Nat) := J8 (k := k) (by rw [Int.natAbs_natCast]; exact Nat.lt_of_le_of_lt (Nat.le_of_dvd hb (Nat.gcd_dvd_right a b)) hk) hk8
 show (if (0 : Int) < ((Nat.gcd a b : Nat) : Int) ∧ D5 (Nat.gcd a b : Nat) then some (PyData.int ((x : Int) / ((Nat.gcd a b : Nat) : Int))) else none) = _
 rw [if_pos ⟨by omega, gs⟩]
 simp
theorem at8 (a b k : Nat) (hb : 0 < b) (hk : b < 2 ^ k) (hk8 : k ≤ 8000) : P7 [.int a, .int b] = some (fr (mkRat a b)) := by
 have d := fun x => aH2 a b x k hb hk hk8
 have e : V7 [some (.val (.int a)), some (.val (.int b)), none] = some (.rt (fr (mkRat a b))) := by
  rw [aw1 a b hb]
  simp only [V7, B7, F3, A2, A0, A3, A1, xg0, xg1, xbs, xms, bJ1, xw1, xw0, C1, O8, A4, d]
 show (V7 [some (.val (.int a)), some (.val (.int b)), none]).bind _ = _
 rw [e]; rfl
theorem bb2 (a b k : Nat) (hb : 0 < b) (hk : b < 2 ^ k) (hk8 : k ≤ 8000) : j9 [.int a, .int b] = some (fr (mkRat a b)) := by
 have d := fun x => aH2 a b x k hb hk hk8
 obtain ⟨n, h⟩ := aL9 a b (.int a) (.int b)
 have e : ab2 [some (.val (.int a)), some (.val (.int b)), none, none] = some (.rt (fr (mkRat a b))) := by
  rw [aw1 a b hb]
  simp only [ab2, B7, F3, A2, A0, A3, A1, xg0, xg1, xbs, xms, xw1, xw0, C1, O8, A4, d, al5 h]
 show (ab2 [some (.val (.int a)), some (.val (.int b)), none, none]).bind _ = _
 rw [e]; rfl
structure Bd (k : Nat) (r : Rat) : Prop where
 nn : 0 ≤ r
 num : r.num.natAbs < 2 ^ k
 den : r.den < 2 ^ k
theorem Bd.mono {j k : Nat} {r : Rat} (h : Bd j r) (l : j ≤ k) : Bd k r := ⟨h.nn, Nat.lt_of_lt_of_le h.num (Nat.pow_le_pow_right (by decide) l), Nat.lt_of_lt_of_le h.den (Nat.pow_le_pow_right (by decide) l)⟩
theorem Bd.nat {k : Nat} {r : Rat} (h : Bd k r) : r.num = (r.num.natAbs : Int) := by
 have := Rat.num_nonneg.mpr h.nn
 omega
theorem aU8 (a b : Nat) : 0 ≤ mkRat (a : Int) b := by
 rw [← Rat.num_nonneg, Rat.num_mkRat]
 split
 ·exact Int.le_refl _
 ·exact Int.ediv_nonneg (by omega) (by omega)
theorem Bd.of {a b k : Nat} (hb : 0 < b) (h1 : a < 2 ^ k) (h2 : b < 2 ^ k) : Bd k (mkRat a b) := by
 refine ⟨aU8 a b, ?_, ?_⟩
 ·rw [Rat.num_mkRat, if_neg (by omega)]
  rw [show ((a : Int) / ((b.gcd (a : Int).natAbs : Nat) : Int)) = ((a / b.gcd (a : Int).natAbs : Nat) : Int) by simp, Int.natAbs_natCast]
  exact Nat.lt_of_le_of_lt (Nat.div_le_self _ _) h1
 ·rw [Rat.den_mkRat, if_neg (by omega)]
  exact Nat.lt_of_le_of_lt (Nat.div_le_self _ _) h2
theorem L3 {a b j k : Nat} (h1 : a < 2 ^ j) (h2 : b < 2 ^ k) : a * b < 2 ^ (j + k) := by
 rw [Nat.pow_add]
 exact Nat.mul_lt_mul'' h1 h2
theorem aq0 {j k : Nat} {r s : Rat} (hr : Bd j r) (hs : Bd k s) : r * s = mkRat ((r.num.natAbs * s.num.natAbs : Nat) : Int) (r.den * s.den) := by
 rw [Rat.mul_def, Rat.normalize_eq_mkRat, Int.natCast_mul, ← hr.nat, ← hs.nat]
theorem aF3 {j k : Nat} {r s : Rat} (hr : Bd j r) (hs : Bd k s) : r + s = mkRat ((r.num.natAbs * s.den + s.num.natAbs * r.den : Nat) : Int) (r.den * s.den) := by
 rw [Rat.add_def, Rat.normalize_eq_mkRat, Int.natCast_add, Int.natCast_mul, Int.natCast_mul, ← hr.nat, ← hs.nat]
theorem aQ6 {j k : Nat} {r s : Rat} (hr : Bd j r) (hs : Bd k s) (l : s ≤ r) : s.num.natAbs * r.den ≤ r.num.natAbs * s.den := by
 have := (Rat.le_iff s r).mp l
 rw [hr.nat, hs.nat] at this
 exact_mod_cast this
theorem aF2 {j k : Nat} {r s : Rat} (hr : Bd j r) (hs : Bd k s) (l : s ≤ r) : r - s = mkRat ((r.num.natAbs * s.den - s.num.natAbs * r.den : Nat) : Int) (r.den * s.den) := by
 rw [Rat.sub_def, Rat.normalize_eq_mkRat, Int.ofNat_sub (aQ6 hr hs l), Int.natCast_mul, Int.natCast_mul, ← hr.nat, ← hs.nat]
theorem O2 (r : Rat) : 0 < r.den := Nat.pos_of_ne_zero r.den_nz
theorem Bd.mul {j k : Nat} {r s : Rat} (hr : Bd j r) (hs : Bd k s) : Bd (j + k) (r * s) := by
 rw [aq0 hr hs]
 exact Bd.of (Nat.mul_pos (O2 r) (O2 s)) (L3 hr.num hs.num) (L3 hr.den hs.den)
theorem Bd.add {j k : Nat} {r s : Rat} (hr : Bd j r) (hs : Bd k s) : Bd (j + k + 1) (r + s) := by
 rw [aF3 hr hs]
 have h1 := L3 hr.num hs.den
 have h2 := L3 hs.num hr.den
 have h3 := L3 hr.den hs.den
 rw [Nat.add_comm k j] at h2
 exact Bd.of (Nat.mul_pos (O2 r) (O2 s)) (by rw [Nat.pow_succ]; omega) (by rw [Nat.pow_succ]; omega)
theorem Bd.sub {j k : Nat} {r s : Rat} (hr : Bd j r) (hs : Bd k s) (l : s ≤ r) : Bd (j + k) (r - s) := by
 rw [aF2 hr hs l]
 have h1 := L3 hr.num hs.den
 have h3 := L3 hr.den hs.den
 exact Bd.of (Nat.mul_pos (O2 r) (O2 s)) (by omega) (by omega)
theorem Bd.one : Bd 1 1 := ⟨by decide, by decide, by decide⟩
theorem Bd.zero : Bd 1 0 := ⟨by decide, by decide, by decide⟩
theorem aY0 : fr 1 = .tuple [.int 1, .int 1] := rfl
theorem Bd.sn {k : Nat} {r : Rat} (h : Bd k r) (hk : k ≤ 8000) : D5 r.num := J8 h.num hk
theorem Bd.sd {k : Nat} {r : Rat} (h : Bd k r) (hk : k ≤ 8000) : D5 r.den := J8 (k := k) (by rw [Int.natAbs_natCast]; exact h.den) hk
theorem Q1 {i j : Int} (h1 : D5 i) (h2 : D5 j) : U7 (.int i) (.int j) = some (.int (i * j)) := by
 show (if D5 i ∧ D5 j then some (PyData.int (i * j)) else none) = _
 rw [if_pos ⟨h1, h2⟩]
theorem W6 (i j : Int) : c6 (.int i) (.int j) = some (.int (i + j)) := rfl
theorem W5 (i j : Int) : o5 (.int i) (.int j) = some (.int (i - j)) := rfl
theorem p8 (i j : Int) : leI (.int i) (.int j) = some (.bool (decide (i ≤ j))) := rfl
theorem u4 (a b : D) : L2.atI [a, b] 0 = some a := rfl
theorem u3 (a b : D) : L2.atI [a, b] 1 = some b := rfl
theorem ix0 {ρ : Rho} {i : Nat} {r : Rat} (h : ρ[i]? = some (some (.val (fr r)))) : dIx (B4 i) (dC (.int 0)) ρ = some (.int r.num) := by
 simp only [dIx, B4, h, fr, dC, xbs, u4]
theorem ix1 {ρ : Rho} {i : Nat} {r : Rat} (h : ρ[i]? = some (some (.val (fr r)))) : dIx (B4 i) (dC (.int 1)) ρ = some (.int r.den) := by
 simp only [dIx, B4, h, fr, dC, xbs, u3]
theorem v0 (x : Option B) (l : Rho) : (x :: l)[0]? = some x := rfl
theorem v1 (y x : Option B) (l : Rho) : (y :: x :: l)[1]? = some x := rfl
theorem S8 {j k : Nat} {r s : Rat} (hr : Bd j r) (hs : Bd k s) (l : j + k ≤ 8000) : T9 [fr r, fr s] = some (fr (r * s)) := by
 have e : ag9 [some (.val (fr r)), some (.val (fr s))] = some (.rt (fr (r * s))) := by
  simp only [ag9, C1, A2, A0, A3, A4, ix0 (v0 _ _), ix1 (v0 _ _), ix0 (v1 _ _ _), ix1 (v1 _ _ _), xbs, xms, Q1 (hr.sn (by omega)) (hs.sn (by omega)), Q1 (hr.sd (by omega)) (hs.sd (by omega))]
  have := at8 (r.num.natAbs * s.num.natAbs) (r.den * s.den) (j + k) (Nat.mul_pos (O2 r) (O2 s)) (L3 hr.den hs.den) l
  rw [← aq0 hr hs, Int.natCast_mul, Int.natCast_mul, ← hr.nat, ← hs.nat] at this
  rw [this]; rfl
 show (ag9 [some (.val (fr r)), some (.val (fr s))]).bind _ = _
 rw [e]; rfl
theorem T6 {j k : Nat} {r s : Rat} (hr : Bd j r) (hs : Bd k s) (l : j + k ≤ 8000) : S3 [fr r, fr s] = some (fr (r + s)) := by
 have e : ah0 [some (.val (fr r)), some (.val (fr s))] = some (.rt (fr (r + s))) := by
  simp only [ah0, C1, A2, A0, A3, A4, ix0 (v0 _ _), ix1 (v0 _ _), ix0 (v1 _ _ _), ix1 (v1 _ _ _), xbs, xms, Q1 (hr.sn (by omega)) (hs.sd (by omega)), Q1 (hs.sn (by omega)) (hr.sd (by omega)), Q1 (hr.sd (by omega)) (hs.sd (by omega)), W6]
  have := at8 (r.num.natAbs * s.den + s.num.natAbs * r.den) (r.den * s.den) (j + k) (Nat.mul_pos (O2 r) (O2 s)) (L3 hr.den hs.den) l
  rw [← aF3 hr hs, Int.natCast_add, Int.natCast_mul, Int.natCast_mul, Int.natCast_mul, ← hr.nat, ← hs.nat] at this
  rw [this]; rfl
 show (ah0 [some (.val (fr r)), some (.val (fr s))]).bind _ = _
 rw [e]; rfl
theorem Y4 {j k : Nat} {r s : Rat} (hr : Bd j r) (hs : Bd k s) (l : j + k ≤ 8000) (hl : s ≤ r) : S9 [fr r, fr s] = some (fr (r - s)) := by
 have e : c8 [some (.val (fr r)), some (.val (fr s))] = some (.rt (fr (r - s))) := by
  simp only [c8, C1, A2, A0, A3, A4, ix0 (v0 _ _), ix1 (v0 _ _), ix0 (v1 _ _ _), ix1 (v1 _ _ _), xbs, xms, Q1 (hr.sn (by omega)) (hs.sd (by omega)), Q1 (hs.sn (by omega)) (hr.sd (by omega)), Q1 (hr.sd (by omega)) (hs.sd (by omega)), W5]
  have := at8 (r.num.natAbs * s.den - s.num.natAbs * r.den) (r.den * s.den) (j + k) (Nat.mul_pos (O2 r) (O2 s)) (L3 hr.den hs.den) l
  rw [← aF2 hr hs hl, Int.ofNat_sub (aQ6 hr hs hl), Int.natCast_mul, Int.natCast_mul, Int.natCast_mul, ← hr.nat, ← hs.nat] at this
  rw [this]; rfl
 show (c8 [some (.val (fr r)), some (.val (fr s))]).bind _ = _
 rw [e]; rfl
theorem ae7 {k : Nat} {s : Rat} (hs : Bd k s) (l : k + 1 ≤ 8000) (hl : s ≤ 1) : W3 [fr s] = some (fr (1 - s)) := by
 have e : m4 [some (.val (fr s))] = some (.rt (fr (1 - s))) := by
  simp only [m4, C1, A2, A0, A3, dC, A1, xg0, xbs, xms]
  rw [← aY0, Y4 Bd.one hs (by omega) hl]; rfl
 show (m4 [some (.val (fr s))]).bind _ = _
 rw [e]; rfl
theorem az1 {j k : Nat} {r s : Rat} (hr : Bd j r) (hs : Bd k s) (l : j + k ≤ 8000) : V9 [fr r, fr s] = some (.bool (decide (r ≤ s))) := by
 have e : V8 [some (.val (fr r)), some (.val (fr s))] = some (.rt (.bool (decide (r ≤ s)))) := by
  simp only [V8, C1, A2, A0, A3, A4, ix0 (v0 _ _), ix1 (v0 _ _), ix0 (v1 _ _ _), ix1 (v1 _ _ _), xbs, xms, Q1 (hr.sn (by omega)) (hs.sd (by omega)), Q1 (hs.sn (by omega)) (hr.sd (by omega)), p8]
  simp only [← Rat.le_iff]
 show (V8 [some (.val (fr r)), some (.val (fr s))]).bind _ = _
 rw [e]; rfl
theorem az2 {k : Nat} {r : Rat} (hr : Bd k r) (l : k + 1 ≤ 8000) : R0 [fr r] = some (fr (if r ≤ 1 then r else 1)) := by
 have e : T8 [some (.val (fr r))] = some (.rt (fr (if r ≤ 1 then r else 1))) := by
  simp only [T8, C1, ae0, Z5, A2, A0, A3, dC, A1, xg0, xbs, xms]
  rw [← aY0, az1 hr Bd.one l]
  by_cases h : r ≤ 1
  ·simp [h, c9]
  ·simp [h, c9]
 show (T8 [some (.val (fr r))]).bind _ = _
 rw [e]; rfl
end Sh
set_option exponentiation.threshold 9000
namespace Sh
open PySem G L2
theorem x4 (i j : Int) : ltI (.int i) (.int j) = some (.bool (decide (i < j))) := rfl
theorem x9 (i j : Int) : gtI (.int i) (.int j) = some (.bool (decide (j < i))) := rfl
theorem ap8 {α : Type} (x : α) : List.replicate 0 x = [] := rfl
theorem ap7 {α : Type} (x : α) : List.replicate 1 x = [x] := rfl
theorem ap6 {α : Type} (x : α) : List.replicate 2 x = [x, x] := rfl
theorem aa1 (a b c d : D) : af6 [a, b, c, d] (some 1) none = [b, c, d] := rfl
theorem aa7 (a b c d : D) : L2.atI [a, b, c, d] 0 = some a := rfl
theorem aa6 (a b c d : D) : L2.atI [a, b, c, d] 1 = some b := rfl
theorem aa5 (a b c d : D) : L2.atI [a, b, c, d] 2 = some c := rfl
theorem aa4 (a b c d : D) : L2.atI [a, b, c, d] 3 = some d := rfl
theorem ab0 (a b c : D) : L2.atI [a, b, c] 0 = some a := rfl
theorem aa9 (a b c : D) : L2.atI [a, b, c] 1 = some b := rfl
theorem aa8 (a b c : D) : L2.atI [a, b, c] 2 = some c := rfl
theorem Y6 {n k : Nat} (h : n < 2 ^ k) (hk : k ≤ 8000) : D5 (n : Int) := J8 (k := k) (by rw [Int.natAbs_natCast]; exact h) hk
theorem al8 {i j : Int} (h : 0 < j) : W8 (.int i) (.int j) = some (.int (i % j)) := by
 show (if (0 : Int) < j then some (PyData.int (i % j)) else none) = _
 rw [if_pos h]
theorem ax7 {i j : Int} (h : 0 < j) (s : D5 j) : t6 (.int i) (.int j) = some (.int (i / j)) := by
 show (if (0 : Int) < j ∧ D5 j then some (PyData.int (i / j)) else none) = _
 rw [if_pos ⟨h, s⟩]
theorem E9 {g : DS} {n : Nat} {ds : List D} {ρ : Rho} {d : D} (h : ab5 n ds = ρ) (e : g ρ = some (.rt d)) : R6 g n ds = some d := by
 unfold R6
 rw [h, e]; rfl
theorem u5 {j k : Nat} {r s : Rat} (hr : Bd j r) (hs : Bd k s) (l : j + k ≤ 8000) : m5 [fr r, fr s] = some (fr (r * s)) := by
 refine E9 (ρ := [some (.val (fr r)), some (.val (fr s))]) rfl ?_
 simp only [an7, C1, A2, A0, A3, A4, ix0 (v0 _ _), ix1 (v0 _ _), ix0 (v1 _ _ _), ix1 (v1 _ _ _), xbs, xms, Q1 (hr.sn (by omega)) (hs.sn (by omega)), Q1 (hr.sd (by omega)) (hs.sd (by omega))]
 have := bb2 (r.num.natAbs * s.num.natAbs) (r.den * s.den) (j + k) (Nat.mul_pos (O2 r) (O2 s)) (L3 hr.den hs.den) l
 rw [← aq0 hr hs, Int.natCast_mul, Int.natCast_mul, ← hr.nat, ← hs.nat] at this
 rw [this]; rfl
def am8 (ns : List Int) (k : Nat) : Int := if ns.length = 0 then 7 * (k : Int) else ns.getD (k % ns.length) 0 + 6553 * ((k / ns.length : Nat) : Int)
theorem aY7 (ns : List Int) : eqD (.list (ns.map PyData.int)) (.list []) = some (.bool (decide (ns.length = 0))) := by
 have h1 : SeqAt.shaped (.list (ns.map PyData.int)) = true := by
  have c : ∀ l : List Int, PyData.canLayAll0 (l.map PyData.int) = true := fun l => by
   induction l with
   | nil => rfl
   | cons a r ih => simp only [xmc, PyData.canLayAll0, PyData.canLay0, ih]; rfl
  have d : ∀ l : List Int, PyData.depthAll (l.map PyData.int) = 0 := fun l => by
   induction l with
   | nil => rfl
   | cons a r ih => simp only [xmc, PyData.depthAll, PyData.depth, ih]; rfl
  unfold SeqAt.shaped
  simp only [PyData.canLay0, c, PyData.depth, d]
  rfl
 unfold eqD
 rw [if_pos ⟨h1, rfl⟩]
 cases ns with
 | nil => rfl
 | cons a r => simp [PyData.eqv, PyData.eqvAll]
theorem bB3 (ns : List Int) (k : Nat) (hn : ns.length ≤ 63) (hk : k < 2 ^ 60) : ab3 [.list (ns.map PyData.int), .int k] = some (.int (am8 ns k)) := by
 refine E9 (ρ := [some (.val (.list (ns.map PyData.int))), some (.val (.int k))]) rfl ?_
 have sk : D5 (k : Int) := Y6 hk (by decide)
 by_cases h : ns.length = 0
 ·have e : am8 ns k = 7 * (k : Int) := by unfold am8; rw [if_pos h]
  simp only [ak0, B7, F3, C1, sIf, O5, Q0, g8, A1, dC, O8, Y2, A4, A2, ae0, j8, dOr, m9, N6, dIx, aa0, c5, N7, n6, n5, n4, B4, qE, qN, f9, Q6, Q5, V0, A3, A0, Z5, tB2, U9, Z6, U0, c9, M9, L1, U4, d7, K1, L4, M5, B6, N5, V4, U3, r8, d5, xg0, xg1, xw0, xw1, xbs, xms, xmc, xmn, xna, xca, W6, W5, p8, p6, r9, x4, x9, ap8, ap7, ap6, aa1, aa7, aa6, aa5, aa4, ab0, aa9, aa8, u4, u3, xnt, xnf, xft, if_true, if_false, ite_true, ite_false, aY7, h, decide_true, Q1 (i := 7) (J8 (k := 3) (by decide) (by decide)) sk, e]
 ·have e : am8 ns k = ns.getD (k % ns.length) 0 + 6553 * ((k / ns.length : Nat) : Int) := by unfold am8; rw [if_neg h]
  have hl : (List.map PyData.int ns).length = ns.length := List.length_map ..
  have hp : 0 < ns.length := Nat.pos_of_ne_zero h
  have m1 : W8 (.int k) (.int ns.length) = some (.int ((k % ns.length : Nat) : Int)) := by rw [al8 (by omega)]; simp
  have m2 : t6 (.int k) (.int ns.length) = some (.int ((k / ns.length : Nat) : Int)) := by rw [ax7 (by omega) (Y6 (k := 6) (by omega) (by decide))]; simp
  have m3 : L2.atI (List.map PyData.int ns) ((k % ns.length : Nat) : Int) = some (.int (ns.getD (k % ns.length) 0)) := by
   refine L2.bk1 ?_
   have hlt : k % ns.length < ns.length := Nat.mod_lt _ hp
   rw [List.getElem?_map, List.getElem?_eq_getElem hlt]
   simp [List.getD, hlt]
  have sq : D5 ((k / ns.length : Nat) : Int) := Y6 (k := 60) (Nat.lt_of_le_of_lt (Nat.div_le_self _ _) hk) (by decide)
  simp only [ak0, B7, F3, C1, sIf, O5, Q0, g8, A1, dC, O8, Y2, A4, A2, ae0, j8, dOr, m9, N6, dIx, aa0, c5, N7, n6, n5, n4, B4, qE, qN, f9, Q6, Q5, V0, A3, A0, Z5, tB2, U9, Z6, U0, c9, M9, L1, U4, d7, K1, L4, M5, B6, N5, V4, U3, r8, d5, xg0, xg1, xw0, xw1, xbs, xms, xmc, xmn, xna, xca, W6, W5, p8, p6, r9, x4, x9, ap8, ap7, ap6, aa1, aa7, aa6, aa5, aa4, ab0, aa9, aa8, u4, u3, xnt, xnf, xft, if_true, if_false, ite_true, ite_false, aY7, h, decide_false, hl, m1, m2, m3, Q1 (i := 6553) (J8 (k := 13) (by decide) (by decide)) sq, e]
def y9 (ns : List Int) (k : Nat) (m : Int) : Int :=
 let c := (am8 ns k % 2147483563 * 69069 + 104723 * ((k : Int) + 1)) % 2147483563
 let c := (c * c + c / 3) % 2147483399
 (c * c + c / 7) % 2147483647 / 11 % m
theorem ah3 {i : Int} (h0 : 0 ≤ i) (h : i < 4294967296) : D5 i := J8 (k := 32) (by omega) (by decide)
theorem ah2 (ns : List Int) (k : Nat) (m : Int) (hn : ns.length ≤ 63) (hk : k < 2 ^ 60) (hm : 0 < m) : C2 [.list (ns.map PyData.int), .int k, .int m] = some (.int (y9 ns k m)) := by
 refine E9 (ρ := [some (.val (.list (ns.map PyData.int))), some (.val (.int k)), some (.val (.int m)), none]) rfl ?_
 have c0 : ∀ x : Int, D5 (x % 2147483563) := fun x => ah3 (by omega) (by omega)
 have c1 : ∀ x : Int, D5 (x % 2147483399) := fun x => ah3 (by omega) (by omega)
 have sk : D5 ((k : Int) + 1) := J8 (k := 61) (by omega) (by decide)
 have s1 : D5 69069 := J8 (k := 17) (by decide) (by decide)
 have s2 : D5 104723 := J8 (k := 17) (by decide) (by decide)
 have s3 : D5 3 := J8 (k := 2) (by decide) (by decide)
 have s7 : D5 7 := J8 (k := 3) (by decide) (by decide)
 have s11 : D5 11 := J8 (k := 4) (by decide) (by decide)
 simp only [an9, B7, F3, C1, sIf, O5, Q0, g8, A1, dC, O8, Y2, A4, A2, ae0, j8, dOr, m9, N6, dIx, aa0, c5, N7, n6, n5, n4, B4, qE, qN, f9, Q6, Q5, V0, A3, A0, Z5, tB2, U9, Z6, U0, c9, M9, L1, U4, d7, K1, L4, M5, B6, N5, V4, U3, r8, d5, xg0, xg1, xw0, xw1, xbs, xms, xmc, xmn, xna, xca, W6, W5, p8, p6, r9, x4, x9, ap8, ap7, ap6, aa1, aa7, aa6, aa5, aa4, ab0, aa9, aa8, u4, u3, xnt, xnf, xft, if_true, if_false, ite_true, ite_false, bB3 ns k hn hk, al8 (show (0 : Int) < 2147483563 by decide), al8 (show (0 : Int) < 2147483399 by decide), al8 (show (0 : Int) < 2147483647 by decide), al8 hm, Q1 (c0 _) s1, Q1 s2 sk, Q1 (c0 _) (c0 _), Q1 (c1 _) (c1 _), ax7 (show (0 : Int) < 3 by decide) s3, ax7 (show (0 : Int) < 7 by decide) s7, ax7 (show (0 : Int) < 11 by decide) s11]
 rfl
theorem ag2 (ns : List Int) (k : Nat) (m : Int) (hm : 0 < m) : 0 ≤ y9 ns k m ∧ y9 ns k m < m := by
 unfold y9
 exact ⟨Int.emod_nonneg _ (by omega), Int.emod_lt_of_pos _ hm⟩
structure IsSh (k : Nat) (r : Rat) : Prop where
 bd : Bd k r
 le : r ≤ 1
theorem aM1 {a b : Nat} (hb : 0 < b) (h : a ≤ b) : mkRat (a : Int) b ≤ 1 := by
 rw [Rat.le_iff, Rat.num_mkRat, Rat.den_mkRat, if_neg (by omega), if_neg (by omega)]
 have e0 : (1 : Rat).num = 1 := rfl
 have e1 : (1 : Rat).den = 1 := rfl
 rw [e0, e1]
 have : a / b.gcd a ≤ b / b.gcd a := Nat.div_le_div_right h
 simp
 exact_mod_cast this
theorem ah1 (ns : List Int) (at' : Nat) (hn : ns.length ≤ 63) (hk : at' < 2 ^ 40) : ∃ r, Z4 [.list (ns.map PyData.int), .int at'] = some (fr r) ∧ IsSh 4 r := by
 obtain ⟨u0, u1⟩ := ag2 ns at' 12 (by decide)
 obtain ⟨u, hu⟩ : ∃ u : Nat, (1 : Int) + y9 ns at' 12 = u ∧ 0 < u ∧ u ≤ 12 := ⟨(1 + y9 ns at' 12).toNat, by omega, by omega, by omega⟩
 obtain ⟨t0, t1⟩ := ag2 ns (at' + 1) ((u : Int) + 1) (by omega)
 obtain ⟨t, ht⟩ : ∃ t : Nat, y9 ns (at' + 1) ((u : Int) + 1) = t ∧ t ≤ u := ⟨(y9 ns (at' + 1) ((u : Int) + 1)).toNat, by omega, by omega⟩
 obtain ⟨p0, p1⟩ := ag2 ns (at' + 2) 5 (by decide)
 have hs : IsSh 4 (mkRat (t : Int) u) := ⟨Bd.of (by omega) (by omega) (by omega), aM1 (by omega) (by omega)⟩
 have e1 := ah2 ns at' 12 hn (by omega) (by decide)
 have e2 := ah2 ns (at' + 1) ((u : Int) + 1) hn (by omega) (by omega)
 have e3 := ah2 ns (at' + 2) 5 hn (by omega) (by decide)
 have e4 := bb2 t u 4 (by omega) (by omega) (by decide)
 have c1 : ((at' : Int) + 1) = ((at' + 1 : Nat) : Int) := by omega
 have c2 : ((at' : Int) + 2) = ((at' + 2 : Nat) : Int) := by omega
 rw [ht.1] at e2
 have pick : ∀ (j : Int), 0 ≤ j → j < 5 → ∃ r, L2.atI [fr (mkRat (t : Int) u), fr (mkRat (t : Int) u), fr (mkRat (t : Int) u), .tuple [.int 0, .int 1], .tuple [.int 1, .int 1]] j = some (fr r) ∧ IsSh 4 r := fun j h0 h5 => by
  have : j = 0 ∨ j = 1 ∨ j = 2 ∨ j = 3 ∨ j = 4 := by omega
  rcases this with rfl | rfl | rfl | rfl | rfl
  ·exact ⟨_, rfl, hs⟩
  ·exact ⟨_, rfl, hs⟩
  ·exact ⟨_, rfl, hs⟩
  ·exact ⟨0, rfl, Bd.zero.mono (by decide), by decide⟩
  ·exact ⟨1, rfl, Bd.one.mono (by decide), by decide⟩
 obtain ⟨r, hr1, hr2⟩ := pick _ p0 p1
 refine ⟨r, E9 (ρ := [some (.val (.list (ns.map PyData.int))), some (.val (.int at')), none, none]) rfl ?_, hr2⟩
 simp only [an8, B7, F3, C1, sIf, O5, Q0, g8, A1, dC, O8, Y2, A4, A2, ae0, j8, dOr, m9, N6, dIx, aa0, c5, N7, n6, n5, n4, B4, qE, qN, f9, Q6, Q5, V0, A3, A0, Z5, tB2, U9, Z6, U0, c9, M9, L1, U4, d7, K1, L4, M5, B6, N5, V4, U3, r8, d5, xg0, xg1, xw0, xw1, xbs, xms, xmc, xmn, xna, xca, W6, W5, p8, p6, r9, x4, x9, ap8, ap7, ap6, aa1, aa7, aa6, aa5, aa4, ab0, aa9, aa8, u4, u3, xnt, xnf, xft, if_true, if_false, ite_true, ite_false, e1, hu.1, c1, c2, e2, e3, e4, hr1]
end Sh
namespace Sh
open PySem G L2
def sp (c x y z : Rat) : D := .tuple [fr c, fr x, fr y, fr z]
structure Spot (k : Nat) (c x y z : Rat) : Prop where
 hc : IsSh k c
 hx : Bd k x
 hy : Bd k y
 hz : Bd k z
 xc : x ≤ c
 yc : y ≤ c
 zc : z ≤ c
theorem IsSh.mono {j k : Nat} {r : Rat} (h : IsSh j r) (l : j ≤ k) : IsSh k r := ⟨h.bd.mono l, h.le⟩
theorem h9 {c r : Rat} (hc : 0 ≤ c) (hr : r ≤ 1) : c * r ≤ c := by
 have := Rat.mul_le_mul_of_nonneg_right hr hc
 grind
theorem bK5 : X9 0 3 = [.int 0, .int 1, .int 2] := rfl
theorem bB2 (ns : List Int) (k : Nat) (hn : ns.length ≤ 63) (hk : k < 2 ^ 30) : ∃ c x y z, W7 [.list (ns.map PyData.int), .int k] = some (sp c x y z) ∧ Spot 8 c x y z := by
 obtain ⟨c, ec, hc⟩ := ah1 ns k hn (by omega)
 obtain ⟨a0, e0, h0⟩ := ah1 ns (k + 3) hn (by omega)
 obtain ⟨a1, e1, h1⟩ := ah1 ns (k + 6) hn (by omega)
 obtain ⟨a2, e2, h2⟩ := ah1 ns (k + 9) hn (by omega)
 refine ⟨c, c * a0, c * a1, c * a2, ?_, ⟨hc.mono (by decide), hc.bd.mul h0.bd, hc.bd.mul h1.bd, hc.bd.mul h2.bd, h9 hc.bd.nn h0.le, h9 hc.bd.nn h1.le, h9 hc.bd.nn h2.le⟩⟩
 refine E9 (ρ := [some (.val (.list (ns.map PyData.int))), some (.val (.int k)), none]) rfl ?_
 have i0 : (k : Int) + 3 + 3 * 0 = ((k + 3 : Nat) : Int) := by omega
 have i1 : (k : Int) + 3 + 3 * 1 = ((k + 6 : Nat) : Int) := by omega
 have i2 : (k : Int) + 3 + 3 * 2 = ((k + 9 : Nat) : Int) := by omega
 have s0 : D5 0 := J8 (k := 2) (by decide) (by decide)
 have s1 : D5 1 := J8 (k := 2) (by decide) (by decide)
 have s2 : D5 2 := J8 (k := 2) (by decide) (by decide)
 have s3 : D5 3 := J8 (k := 2) (by decide) (by decide)
 have m0 := Q1 s3 s0
 have m1 := Q1 s3 s1
 have m2 := Q1 s3 s2
 have r3 : ((-(2 ^ 62) : Int) ≤ 3 ∧ (3 : Int) < 2 ^ 62) := by decide
 have l3 : ([PyData.int 0, .int 1, .int 2] : List D).length ≤ 16777216 := by decide
 have ct : ∀ a b c d : D, c6 (.tuple [a]) (.tuple [b, c, d]) = some (.tuple [a, b, c, d]) := fun a b c d => rfl
 simp only [az0, B7, F3, C1, sIf, O5, Q0, g8, A1, dC, O8, Y2, A4, A2, ae0, j8, dOr, m9, N6, dIx, aa0, c5, N7, n6, n5, n4, B4, qE, qN, f9, Q6, Q5, V0, A3, A0, Z5, tB2, U9, Z6, U0, c9, M9, L1, U4, d7, K1, L4, M5, B6, N5, V4, U3, r8, d5, xg0, xg1, xw0, xw1, xbs, xms, xmc, xmn, xna, xca, W6, W5, p8, p6, r9, x4, x9, ap8, ap7, ap6, aa1, aa7, aa6, aa5, aa4, ab0, aa9, aa8, u4, u3, xnt, xnf, xft, if_true, if_false, ite_true, ite_false, ec, r3, and_self, bK5, l3, m0, m1, m2, i0, i1, i2, e0, e1, e2, u5 hc.bd h0.bd (by decide), u5 hc.bd h1.bd (by decide), u5 hc.bd h2.bd (by decide), ct, sp]
end Sh
local macro_rules
  | `(tactic| wp_walk using evA) => `(tactic| simp only [G.B7, G.F3, G.C1, G.sIf, G.O5, G.Q0, G.g8, G.A1, G.dC, G.O8, G.Y2, G.A4, G.A2, G.ae0, G.j8, G.dOr, G.m9, G.N6, G.dIx, G.aa0, G.c5, G.N7, G.n6, G.n5, G.n4, G.B4, G.qE, G.qN, G.f9, G.Q6, G.Q5, G.V0, G.A3, G.A0, G.Z5, G.tB2, G.U9, G.Z6, G.U0, G.c9, G.M9, G.L1, G.U4, G.d7, G.K1, G.L4, G.M5, G.B6, G.N5, G.V4, G.U3, G.r8, G.d5, G.xg0, G.xg1, G.xw0, G.xw1, G.xbs, G.xms, G.xmc, G.xmn, G.xna, G.xca, Sh.W6, Sh.W5, Sh.p8, Sh.p6, Sh.r9, Sh.x4, Sh.x9, Sh.ap8, Sh.ap7, Sh.ap6, Sh.aa1, Sh.aa7, Sh.aa6, Sh.aa5, Sh.aa4, Sh.ab0, Sh.aa9, Sh.aa8, Sh.u4, Sh.u3, G.xnt, G.xnf, G.xft, if_true, if_false, ite_true, ite_false])
  | `(tactic| wp_walk using evA, $ts,*) => `(tactic| simp only [G.B7, G.F3, G.C1, G.sIf, G.O5, G.Q0, G.g8, G.A1, G.dC, G.O8, G.Y2, G.A4, G.A2, G.ae0, G.j8, G.dOr, G.m9, G.N6, G.dIx, G.aa0, G.c5, G.N7, G.n6, G.n5, G.n4, G.B4, G.qE, G.qN, G.f9, G.Q6, G.Q5, G.V0, G.A3, G.A0, G.Z5, G.tB2, G.U9, G.Z6, G.U0, G.c9, G.M9, G.L1, G.U4, G.d7, G.K1, G.L4, G.M5, G.B6, G.N5, G.V4, G.U3, G.r8, G.d5, G.xg0, G.xg1, G.xw0, G.xw1, G.xbs, G.xms, G.xmc, G.xmn, G.xna, G.xca, Sh.W6, Sh.W5, Sh.p8, Sh.p6, Sh.r9, Sh.x4, Sh.x9, Sh.ap8, Sh.ap7, Sh.ap6, Sh.aa1, Sh.aa7, Sh.aa6, Sh.aa5, Sh.aa4, Sh.ab0, Sh.aa9, Sh.aa8, Sh.u4, Sh.u3, G.xnt, G.xnf, G.xft, if_true, if_false, ite_true, ite_false, $[$ts:term],*])
local macro_rules
  | `(tactic| wp_walk using evB) => `(tactic| simp only [G.B7, G.F3, G.C1, G.sIf, G.O5, G.Q0, G.g8, G.A1, G.dC, G.O8, G.Y2, G.A4, G.A2, G.j8, G.dOr, G.m9, G.N6, G.dIx, G.c5, G.N7, G.n6, G.n5, G.n4, G.B4, G.qE, G.qN, G.f9, G.Q6, G.Q5, G.V0, G.A3, G.A0, G.Z5, G.tB2, G.U9, G.Z6, G.U0, G.c9, G.M9, G.K1, G.L4, G.M5, G.B6, G.N5, G.V4, G.d5, G.xg0, G.xg1, G.xw0, G.xw1, G.xbs, G.xms, G.xmc, G.xmn, G.xna, G.xca, Sh.W6, Sh.W5, Sh.p8, Sh.p6, Sh.r9, Sh.x4, Sh.x9, Sh.aa7, Sh.aa6, Sh.aa5, Sh.aa4, Sh.ab0, Sh.aa9, Sh.aa8, Sh.u4, Sh.u3, G.xnt, G.xnf, G.xft, if_true, if_false])
  | `(tactic| wp_walk using evB, $ts,*) => `(tactic| simp only [G.B7, G.F3, G.C1, G.sIf, G.O5, G.Q0, G.g8, G.A1, G.dC, G.O8, G.Y2, G.A4, G.A2, G.j8, G.dOr, G.m9, G.N6, G.dIx, G.c5, G.N7, G.n6, G.n5, G.n4, G.B4, G.qE, G.qN, G.f9, G.Q6, G.Q5, G.V0, G.A3, G.A0, G.Z5, G.tB2, G.U9, G.Z6, G.U0, G.c9, G.M9, G.K1, G.L4, G.M5, G.B6, G.N5, G.V4, G.d5, G.xg0, G.xg1, G.xw0, G.xw1, G.xbs, G.xms, G.xmc, G.xmn, G.xna, G.xca, Sh.W6, Sh.W5, Sh.p8, Sh.p6, Sh.r9, Sh.x4, Sh.x9, Sh.aa7, Sh.aa6, Sh.aa5, Sh.aa4, Sh.ab0, Sh.aa9, Sh.aa8, Sh.u4, Sh.u3, G.xnt, G.xnf, G.xft, if_true, if_false, $[$ts:term],*])
namespace Sh
open PySem G L2
theorem A5 {x y : Str} {b : Bool} (hx : PyData.canLay0 (.str x) = true) (hy : PyData.canLay0 (.str y) = true) (e : (x == y) = b) : eqD (.str x) (.str y) = some (.bool b) := by
 unfold eqD
 have s : ∀ z : Str, PyData.canLay0 (.str z) = true → SeqAt.shaped (.str z) = true := fun z h => by unfold SeqAt.shaped; rw [h]; rfl
 rw [if_pos ⟨s x hx, s y hy⟩]
 show some (PyData.bool (x == y)) = _
 rw [e]
theorem V3 {x y : Str} {b : Bool} (hx : PyData.canLay0 (.str x) = true) (hy : PyData.canLay0 (.str y) = true) (e : (!(x == y)) = b) : neD (.str x) (.str y) = some (.bool b) := by
 unfold neD
 have s : ∀ z : Str, PyData.canLay0 (.str z) = true → SeqAt.shaped (.str z) = true := fun z h => by unfold SeqAt.shaped; rw [h]; rfl
 rw [if_pos ⟨s x hx, s y hy⟩]
 show some (PyData.bool (!(x == y))) = _
 rw [e]
theorem G8 : eqD (.str "over") (.str "over") = some (.bool true) := A5 (by decide +kernel) (by decide +kernel) (by decide +kernel)
theorem L6 : eqD (.str "over") (.str "multiply") = some (.bool false) := A5 (by decide +kernel) (by decide +kernel) (by decide +kernel)
theorem C9 : eqD (.str "over") (.str "screen") = some (.bool false) := A5 (by decide +kernel) (by decide +kernel) (by decide +kernel)
theorem G7 : eqD (.str "over") (.str "plus") = some (.bool false) := A5 (by decide +kernel) (by decide +kernel) (by decide +kernel)
theorem G9 : eqD (.str "over") (.str "atop") = some (.bool false) := A5 (by decide +kernel) (by decide +kernel) (by decide +kernel)
theorem K4 : eqD (.str "over") (.str "cut") = some (.bool false) := A5 (by decide +kernel) (by decide +kernel) (by decide +kernel)
theorem L8 : eqD (.str "multiply") (.str "over") = some (.bool false) := A5 (by decide +kernel) (by decide +kernel) (by decide +kernel)
theorem R3 : eqD (.str "multiply") (.str "multiply") = some (.bool true) := A5 (by decide +kernel) (by decide +kernel) (by decide +kernel)
theorem J0 : eqD (.str "multiply") (.str "screen") = some (.bool false) := A5 (by decide +kernel) (by decide +kernel) (by decide +kernel)
theorem L7 : eqD (.str "multiply") (.str "plus") = some (.bool false) := A5 (by decide +kernel) (by decide +kernel) (by decide +kernel)
theorem L9 : eqD (.str "multiply") (.str "atop") = some (.bool false) := A5 (by decide +kernel) (by decide +kernel) (by decide +kernel)
theorem N9 : eqD (.str "multiply") (.str "cut") = some (.bool false) := A5 (by decide +kernel) (by decide +kernel) (by decide +kernel)
theorem C5 : eqD (.str "screen") (.str "over") = some (.bool false) := A5 (by decide +kernel) (by decide +kernel) (by decide +kernel)
theorem G0 : eqD (.str "screen") (.str "multiply") = some (.bool false) := A5 (by decide +kernel) (by decide +kernel) (by decide +kernel)
theorem B0 : eqD (.str "screen") (.str "screen") = some (.bool true) := A5 (by decide +kernel) (by decide +kernel) (by decide +kernel)
theorem C4 : eqD (.str "screen") (.str "plus") = some (.bool false) := A5 (by decide +kernel) (by decide +kernel) (by decide +kernel)
theorem C6 : eqD (.str "screen") (.str "atop") = some (.bool false) := A5 (by decide +kernel) (by decide +kernel) (by decide +kernel)
theorem E3 : eqD (.str "screen") (.str "cut") = some (.bool false) := A5 (by decide +kernel) (by decide +kernel) (by decide +kernel)
theorem G5 : eqD (.str "plus") (.str "over") = some (.bool false) := A5 (by decide +kernel) (by decide +kernel) (by decide +kernel)
theorem L5 : eqD (.str "plus") (.str "multiply") = some (.bool false) := A5 (by decide +kernel) (by decide +kernel) (by decide +kernel)
theorem C8 : eqD (.str "plus") (.str "screen") = some (.bool false) := A5 (by decide +kernel) (by decide +kernel) (by decide +kernel)
theorem G4 : eqD (.str "plus") (.str "plus") = some (.bool true) := A5 (by decide +kernel) (by decide +kernel) (by decide +kernel)
theorem G6 : eqD (.str "plus") (.str "atop") = some (.bool false) := A5 (by decide +kernel) (by decide +kernel) (by decide +kernel)
theorem K3 : eqD (.str "plus") (.str "cut") = some (.bool false) := A5 (by decide +kernel) (by decide +kernel) (by decide +kernel)
theorem J4 : eqD (.str "atop") (.str "over") = some (.bool false) := A5 (by decide +kernel) (by decide +kernel) (by decide +kernel)
theorem M3 : eqD (.str "atop") (.str "multiply") = some (.bool false) := A5 (by decide +kernel) (by decide +kernel) (by decide +kernel)
theorem D0 : eqD (.str "atop") (.str "screen") = some (.bool false) := A5 (by decide +kernel) (by decide +kernel) (by decide +kernel)
theorem J3 : eqD (.str "atop") (.str "plus") = some (.bool false) := A5 (by decide +kernel) (by decide +kernel) (by decide +kernel)
theorem J5 : eqD (.str "atop") (.str "atop") = some (.bool true) := A5 (by decide +kernel) (by decide +kernel) (by decide +kernel)
theorem K8 : eqD (.str "atop") (.str "cut") = some (.bool false) := A5 (by decide +kernel) (by decide +kernel) (by decide +kernel)
theorem K6 : eqD (.str "cut") (.str "over") = some (.bool false) := A5 (by decide +kernel) (by decide +kernel) (by decide +kernel)
theorem O0 : eqD (.str "cut") (.str "multiply") = some (.bool false) := A5 (by decide +kernel) (by decide +kernel) (by decide +kernel)
theorem E7 : eqD (.str "cut") (.str "screen") = some (.bool false) := A5 (by decide +kernel) (by decide +kernel) (by decide +kernel)
theorem K5 : eqD (.str "cut") (.str "plus") = some (.bool false) := A5 (by decide +kernel) (by decide +kernel) (by decide +kernel)
theorem K7 : eqD (.str "cut") (.str "atop") = some (.bool false) := A5 (by decide +kernel) (by decide +kernel) (by decide +kernel)
theorem M0 : eqD (.str "cut") (.str "cut") = some (.bool true) := A5 (by decide +kernel) (by decide +kernel) (by decide +kernel)
theorem F8 : eqD (.str "turn") (.str "turn") = some (.bool true) := A5 (by decide +kernel) (by decide +kernel) (by decide +kernel)
theorem F9 : eqD (.str "turn") (.str "grey") = some (.bool false) := A5 (by decide +kernel) (by decide +kernel) (by decide +kernel)
theorem E2 : eqD (.str "turn") (.str "round") = some (.bool false) := A5 (by decide +kernel) (by decide +kernel) (by decide +kernel)
theorem J1 : eqD (.str "grey") (.str "turn") = some (.bool false) := A5 (by decide +kernel) (by decide +kernel) (by decide +kernel)
theorem J2 : eqD (.str "grey") (.str "grey") = some (.bool true) := A5 (by decide +kernel) (by decide +kernel) (by decide +kernel)
theorem E6 : eqD (.str "grey") (.str "round") = some (.bool false) := A5 (by decide +kernel) (by decide +kernel) (by decide +kernel)
theorem E4 : eqD (.str "round") (.str "turn") = some (.bool false) := A5 (by decide +kernel) (by decide +kernel) (by decide +kernel)
theorem E5 : eqD (.str "round") (.str "grey") = some (.bool false) := A5 (by decide +kernel) (by decide +kernel) (by decide +kernel)
theorem C7 : eqD (.str "round") (.str "round") = some (.bool true) := A5 (by decide +kernel) (by decide +kernel) (by decide +kernel)
theorem F4 : neD (.str "turn") (.str "turn") = some (.bool false) := V3 (by decide +kernel) (by decide +kernel) (by decide +kernel)
theorem F5 : neD (.str "turn") (.str "grey") = some (.bool true) := V3 (by decide +kernel) (by decide +kernel) (by decide +kernel)
theorem D7 : neD (.str "turn") (.str "round") = some (.bool true) := V3 (by decide +kernel) (by decide +kernel) (by decide +kernel)
theorem F6 : neD (.str "grey") (.str "turn") = some (.bool true) := V3 (by decide +kernel) (by decide +kernel) (by decide +kernel)
theorem F7 : neD (.str "grey") (.str "grey") = some (.bool false) := V3 (by decide +kernel) (by decide +kernel) (by decide +kernel)
theorem E1 : neD (.str "grey") (.str "round") = some (.bool true) := V3 (by decide +kernel) (by decide +kernel) (by decide +kernel)
theorem D8 : neD (.str "round") (.str "turn") = some (.bool true) := V3 (by decide +kernel) (by decide +kernel) (by decide +kernel)
theorem D9 : neD (.str "round") (.str "grey") = some (.bool true) := V3 (by decide +kernel) (by decide +kernel) (by decide +kernel)
theorem C3 : neD (.str "round") (.str "round") = some (.bool false) := V3 (by decide +kernel) (by decide +kernel) (by decide +kernel)
inductive Man where
 | over | mult | screen | plus | atop | cut
def Man.s : Man → Str
 | .over => "over"
 | .mult => "multiply"
 | .screen => "screen"
 | .plus => "plus"
 | .atop => "atop"
 | .cut => "cut"
def ay4 (r : Rat) : Rat := if r ≤ 1 then r else 1
def Man.cov : Man → Rat → Rat → Rat
 | .plus, c, d => ay4 (c + d)
 | .atop, c, d => d
 | .cut, c, d => d * (1 - c)
 | _, c, d => c + d - c * d
def Man.col : Man → Rat → Rat → Rat → Rat → Rat
 | .over, c, d, x, y => x + y * (1 - c)
 | .mult, c, d, x, y => x * y + x * (1 - d) + y * (1 - c)
 | .screen, c, d, x, y => x + y - x * y
 | .plus, c, d, x, y => ay4 (x + y)
 | .atop, c, d, x, y => x * d + y * (1 - c)
 | .cut, c, d, x, y => y * (1 - c)
theorem aq7 {k : Nat} {c : Rat} (h : IsSh k c) : IsSh (k + 1) (1 - c) := by
 have b := Bd.one.sub h.bd h.le
 rw [Nat.add_comm] at b
 exact ⟨b, by have := h.bd.nn; grind⟩
theorem ai8 {a b : Rat} (ha : 0 ≤ a) (hb : 0 ≤ b) (ha1 : a ≤ 1) (hb1 : b ≤ 1) : a * b ≤ a + b := by
 have := Rat.mul_le_mul_of_nonneg_right ha1 hb
 grind
theorem aZ7 {k : Nat} {r : Rat} (h : Bd k r) (hk : 1 ≤ k) : IsSh k (ay4 r) := by
 unfold ay4
 split
 ·rename_i l; exact ⟨h, l⟩
 ·exact ⟨Bd.one.mono hk, Rat.le_refl⟩
theorem bb3 (m : Man) {k : Nat} {c d : Rat} (hc : IsSh k c) (hd : IsSh k d) (l : 6 * k + 4 ≤ 8000) : R5 [.str m.s, fr c, fr d] = some (fr (m.cov c d)) ∧ Bd (6 * k + 4) (m.cov c d) := by
 have r1 := ae7 hc.bd (by omega) hc.le
 have h1 := (aq7 hc)
 have ml := ai8 hc.bd.nn hd.bd.nn hc.le hd.le
 have e1 := T6 hc.bd hd.bd (by omega)
 have e2 := S8 hc.bd hd.bd (by omega)
 have b1 := hc.bd.add hd.bd
 have b2 := hc.bd.mul hd.bd
 have e3 := Y4 b1 b2 (by omega) ml
 have e4 := az2 b1 (by omega)
 have e5 := S8 hd.bd h1.bd (by omega)
 cases m with
 | plus => exact ⟨E9 (ρ := [some (.val (.str "plus")), some (.val (fr c)), some (.val (fr d))]) rfl (by wp_walk using evA, K9, G8, L6, C9, G7, G9, K4, L8, R3, J0, L7, L9, N9, C5, G0, B0, C4, C6, E3, G5, L5, C8, G4, G6, K3, J4, M3, D0, J3, J5, K8, K6, O0, E7, K5, K7, M0, F8, F9, E2, J1, J2, E6, E4, E5, C7, F4, F5, D7, F6, F7, E1, D8, D9, C3, e1, e4; rfl), (aZ7 b1 (by omega)).bd.mono (by omega)⟩
 | atop => exact ⟨E9 (ρ := [some (.val (.str "atop")), some (.val (fr c)), some (.val (fr d))]) rfl (by wp_walk using evA, K9, G8, L6, C9, G7, G9, K4, L8, R3, J0, L7, L9, N9, C5, G0, B0, C4, C6, E3, G5, L5, C8, G4, G6, K3, J4, M3, D0, J3, J5, K8, K6, O0, E7, K5, K7, M0, F8, F9, E2, J1, J2, E6, E4, E5, C7, F4, F5, D7, F6, F7, E1, D8, D9, C3; rfl), hd.bd.mono (by omega)⟩
 | cut => exact ⟨E9 (ρ := [some (.val (.str "cut")), some (.val (fr c)), some (.val (fr d))]) rfl (by wp_walk using evA, K9, G8, L6, C9, G7, G9, K4, L8, R3, J0, L7, L9, N9, C5, G0, B0, C4, C6, E3, G5, L5, C8, G4, G6, K3, J4, M3, D0, J3, J5, K8, K6, O0, E7, K5, K7, M0, F8, F9, E2, J1, J2, E6, E4, E5, C7, F4, F5, D7, F6, F7, E1, D8, D9, C3, r1, e5; rfl), (hd.bd.mul h1.bd).mono (by omega)⟩
 | over => exact ⟨E9 (ρ := [some (.val (.str "over")), some (.val (fr c)), some (.val (fr d))]) rfl (by wp_walk using evA, K9, G8, L6, C9, G7, G9, K4, L8, R3, J0, L7, L9, N9, C5, G0, B0, C4, C6, E3, G5, L5, C8, G4, G6, K3, J4, M3, D0, J3, J5, K8, K6, O0, E7, K5, K7, M0, F8, F9, E2, J1, J2, E6, E4, E5, C7, F4, F5, D7, F6, F7, E1, D8, D9, C3, e1, e2, e3; rfl), (b1.sub b2 ml).mono (by omega)⟩
 | mult => exact ⟨E9 (ρ := [some (.val (.str "multiply")), some (.val (fr c)), some (.val (fr d))]) rfl (by wp_walk using evA, K9, G8, L6, C9, G7, G9, K4, L8, R3, J0, L7, L9, N9, C5, G0, B0, C4, C6, E3, G5, L5, C8, G4, G6, K3, J4, M3, D0, J3, J5, K8, K6, O0, E7, K5, K7, M0, F8, F9, E2, J1, J2, E6, E4, E5, C7, F4, F5, D7, F6, F7, E1, D8, D9, C3, e1, e2, e3; rfl), (b1.sub b2 ml).mono (by omega)⟩
 | screen => exact ⟨E9 (ρ := [some (.val (.str "screen")), some (.val (fr c)), some (.val (fr d))]) rfl (by wp_walk using evA, K9, G8, L6, C9, G7, G9, K4, L8, R3, J0, L7, L9, N9, C5, G0, B0, C4, C6, E3, G5, L5, C8, G4, G6, K3, J4, M3, D0, J3, J5, K8, K6, O0, E7, K5, K7, M0, F8, F9, E2, J1, J2, E6, E4, E5, C7, F4, F5, D7, F6, F7, E1, D8, D9, C3, e1, e2, e3; rfl), (b1.sub b2 ml).mono (by omega)⟩
theorem ak1 (m : Man) {k : Nat} {c d x y : Rat} (hc : IsSh k c) (hd : IsSh k d) (hx : IsSh k x) (hy : IsSh k y) (l : 6 * k + 4 ≤ 8000) : P9 [.str m.s, fr c, fr d, fr x, fr y] = some (fr (m.col c d x y)) ∧ Bd (6 * k + 4) (m.col c d x y) := by
 have r1 := ae7 hc.bd (by omega) hc.le
 have r2 := ae7 hd.bd (by omega) hd.le
 have h1 := aq7 hc
 have h2 := aq7 hd
 have ml := ai8 hx.bd.nn hy.bd.nn hx.le hy.le
 have e1 := T6 hx.bd hy.bd (by omega)
 have e2 := S8 hx.bd hy.bd (by omega)
 have b1 := hx.bd.add hy.bd
 have b2 := hx.bd.mul hy.bd
 have e3 := Y4 b1 b2 (by omega) ml
 have e4 := az2 b1 (by omega)
 have bt := hy.bd.mul h1.bd
 have et := S8 hy.bd h1.bd (by omega)
 have e6 := T6 hx.bd bt (by omega)
 have bd := hx.bd.mul h2.bd
 have e7 := S8 hx.bd h2.bd (by omega)
 have b8 := b2.add bd
 have e8 := T6 b2 bd (by omega)
 have e9 := T6 b8 bt (by omega)
 have b10 := hx.bd.mul hd.bd
 have e10 := S8 hx.bd hd.bd (by omega)
 have e11 := T6 b10 bt (by omega)
 cases m with
 | plus => exact ⟨E9 (ρ := [some (.val (.str "plus")), some (.val (fr c)), some (.val (fr d)), some (.val (fr x)), some (.val (fr y)), none]) rfl (by wp_walk using evA, J6, G8, L6, C9, G7, G9, K4, L8, R3, J0, L7, L9, N9, C5, G0, B0, C4, C6, E3, G5, L5, C8, G4, G6, K3, J4, M3, D0, J3, J5, K8, K6, O0, E7, K5, K7, M0, F8, F9, E2, J1, J2, E6, E4, E5, C7, F4, F5, D7, F6, F7, E1, D8, D9, C3, e1, e4; rfl), (aZ7 b1 (by omega)).bd.mono (by omega)⟩
 | screen => exact ⟨E9 (ρ := [some (.val (.str "screen")), some (.val (fr c)), some (.val (fr d)), some (.val (fr x)), some (.val (fr y)), none]) rfl (by wp_walk using evA, J6, G8, L6, C9, G7, G9, K4, L8, R3, J0, L7, L9, N9, C5, G0, B0, C4, C6, E3, G5, L5, C8, G4, G6, K3, J4, M3, D0, J3, J5, K8, K6, O0, E7, K5, K7, M0, F8, F9, E2, J1, J2, E6, E4, E5, C7, F4, F5, D7, F6, F7, E1, D8, D9, C3, e1, e2, e3; rfl), (b1.sub b2 ml).mono (by omega)⟩
 | over => exact ⟨E9 (ρ := [some (.val (.str "over")), some (.val (fr c)), some (.val (fr d)), some (.val (fr x)), some (.val (fr y)), none]) rfl (by wp_walk using evA, J6, G8, L6, C9, G7, G9, K4, L8, R3, J0, L7, L9, N9, C5, G0, B0, C4, C6, E3, G5, L5, C8, G4, G6, K3, J4, M3, D0, J3, J5, K8, K6, O0, E7, K5, K7, M0, F8, F9, E2, J1, J2, E6, E4, E5, C7, F4, F5, D7, F6, F7, E1, D8, D9, C3, r1, et, e6; rfl), (hx.bd.add bt).mono (by omega)⟩
 | mult => exact ⟨E9 (ρ := [some (.val (.str "multiply")), some (.val (fr c)), some (.val (fr d)), some (.val (fr x)), some (.val (fr y)), none]) rfl (by wp_walk using evA, J6, G8, L6, C9, G7, G9, K4, L8, R3, J0, L7, L9, N9, C5, G0, B0, C4, C6, E3, G5, L5, C8, G4, G6, K3, J4, M3, D0, J3, J5, K8, K6, O0, E7, K5, K7, M0, F8, F9, E2, J1, J2, E6, E4, E5, C7, F4, F5, D7, F6, F7, E1, D8, D9, C3, r1, r2, et, e2, e7, e8, e9; rfl), (b8.add bt).mono (by omega)⟩
 | atop => exact ⟨E9 (ρ := [some (.val (.str "atop")), some (.val (fr c)), some (.val (fr d)), some (.val (fr x)), some (.val (fr y)), none]) rfl (by wp_walk using evA, J6, G8, L6, C9, G7, G9, K4, L8, R3, J0, L7, L9, N9, C5, G0, B0, C4, C6, E3, G5, L5, C8, G4, G6, K3, J4, M3, D0, J3, J5, K8, K6, O0, E7, K5, K7, M0, F8, F9, E2, J1, J2, E6, E4, E5, C7, F4, F5, D7, F6, F7, E1, D8, D9, C3, r1, et, e10, e11; rfl), (b10.add bt).mono (by omega)⟩
 | cut => exact ⟨E9 (ρ := [some (.val (.str "cut")), some (.val (fr c)), some (.val (fr d)), some (.val (fr x)), some (.val (fr y)), none]) rfl (by wp_walk using evA, J6, G8, L6, C9, G7, G9, K4, L8, R3, J0, L7, L9, N9, C5, G0, B0, C4, C6, E3, G5, L5, C8, G4, G6, K3, J4, M3, D0, J3, J5, K8, K6, O0, E7, K5, K7, M0, F8, F9, E2, J1, J2, E6, E4, E5, C7, F4, F5, D7, F6, F7, E1, D8, D9, C3, r1, et; rfl), bt.mono (by omega)⟩
theorem bA2 (m : Man) {c d : Rat} (hc : 0 ≤ c) (hd : 0 ≤ d) (hc1 : c ≤ 1) (hd1 : d ≤ 1) : m.cov c d ≤ 1 := by
 have p : 0 ≤ (1 - c) * (1 - d) := Rat.mul_nonneg (by grind) (by grind)
 have q : d * (1 - c) ≤ 1 * (1 - c) := Rat.mul_le_mul_of_nonneg_right hd1 (by grind)
 cases m <;> simp only [Man.cov, ay4] <;> grind
theorem aC8 (m : Man) {c d x y : Rat} (hc : 0 ≤ c) (hd : 0 ≤ d) (hc1 : c ≤ 1) (hd1 : d ≤ 1) (hx : 0 ≤ x) (hy : 0 ≤ y) (xc : x ≤ c) (yd : y ≤ d) : m.col c d x y ≤ m.cov c d := by
 have q1 : y * (1 - c) ≤ d * (1 - c) := Rat.mul_le_mul_of_nonneg_right yd (by grind)
 have q2 : x * (y + 1 - d) ≤ c * (y + 1 - d) := Rat.mul_le_mul_of_nonneg_right xc (by grind)
 have q3 : x * d ≤ c * d := Rat.mul_le_mul_of_nonneg_right xc hd
 have q4 : (1 - c) * (1 - d) ≤ (1 - x) * (1 - d) := Rat.mul_le_mul_of_nonneg_right (by grind) (by grind)
 have q5 : (1 - d) * (1 - x) ≤ (1 - y) * (1 - x) := Rat.mul_le_mul_of_nonneg_right (by grind) (by grind)
 cases m <;> simp only [Man.cov, Man.col, ay4] <;> grind
theorem bJ2 (a b c d e f : D) : (List.zip [a, b, c] [d, e, f]) = [(a, d), (b, e), (c, f)] := rfl
theorem ln2 (a b : D) : ([a, b] : List D).length = 2 := rfl
theorem aD1 (m : Man) {k : Nat} {c x1 x2 x3 d y1 y2 y3 : Rat} (S : Spot k c x1 x2 x3) (T : Spot k d y1 y2 y3) (l : 6 * k + 4 ≤ 8000) :
  W4 [.str m.s, sp c x1 x2 x3, sp d y1 y2 y3] = some (sp (m.cov c d) (m.col c d x1 y1) (m.col c d x2 y2) (m.col c d x3 y3)) ∧ Spot (6 * k + 4) (m.cov c d) (m.col c d x1 y1) (m.col c d x2 y2) (m.col c d x3 y3) := by
 have s1 : IsSh k x1 := ⟨S.hx, Rat.le_trans S.xc S.hc.le⟩
 have s2 : IsSh k x2 := ⟨S.hy, Rat.le_trans S.yc S.hc.le⟩
 have s3 : IsSh k x3 := ⟨S.hz, Rat.le_trans S.zc S.hc.le⟩
 have t1 : IsSh k y1 := ⟨T.hx, Rat.le_trans T.xc T.hc.le⟩
 have t2 : IsSh k y2 := ⟨T.hy, Rat.le_trans T.yc T.hc.le⟩
 have t3 : IsSh k y3 := ⟨T.hz, Rat.le_trans T.zc T.hc.le⟩
 have a0 := bb3 m S.hc T.hc l
 have a1 := ak1 m S.hc T.hc s1 t1 l
 have a2 := ak1 m S.hc T.hc s2 t2 l
 have a3 := ak1 m S.hc T.hc s3 t3 l
 refine ⟨?_, ⟨⟨a0.2, bA2 m S.hc.bd.nn T.hc.bd.nn S.hc.le T.hc.le⟩, a1.2, a2.2, a3.2, aC8 m S.hc.bd.nn T.hc.bd.nn S.hc.le T.hc.le S.hx.nn T.hx.nn S.xc T.xc, aC8 m S.hc.bd.nn T.hc.bd.nn S.hc.le T.hc.le S.hy.nn T.hy.nn S.yc T.yc, aC8 m S.hc.bd.nn T.hc.bd.nn S.hc.le T.hc.le S.hz.nn T.hz.nn S.zc T.zc⟩⟩
 refine E9 (ρ := [some (.val (.str m.s)), some (.val (sp c x1 x2 x3)), some (.val (sp d y1 y2 y3)), none, none, none]) rfl ?_
 have f3 : ∀ a b c : D, ([a, b, c] : List D).length ≤ 16777216 := fun a b c => by show 3 ≤ 16777216; decide
 wp_walk using evA, ao0, sp, bJ2, f3, ln2, a0.1, a1.1, a2.1, a3.1
end Sh
namespace Sh
open PySem G L2
end Sh
namespace G
open PySem PySem.Spec PyProof.Rows L2
section
variable {prog : Program} {w : World} {A : Around} {E : Value → Shared → Prop} {s : Shared}
theorem aD9 (n : Nat) : Builtin.Slice.sliceAdjust none none (-1) (n : Int) = ((n : Int) - 1, -1) := by
 unfold Builtin.Slice.sliceAdjust
 have h1 : (-1 : Int) < 0 := by omega
 simp only [h1, if_true]
theorem aB5 (n : Nat) : Builtin.Slice.slicePlaces ((n : Int) - 1) (-1) (-1) = n := by
 unfold Builtin.Slice.slicePlaces
 have h1 : ¬ (-1 : Int) > 0 := by omega
 have h2 : -(-1 : Int) = 1 := by omega
 simp only [h1, if_false, h2, Int.ediv_one]
 split <;> omega
theorem ab7 {sl : Addr} {t : Tok} {n : Nat} {Q : Int × Int × Nat → Shared → Prop} (hs : s.heap.IsSliceOf sl .none .none (.int (-1) t))
  (h : Q ((n : Int) - 1, -1, n) s) : wpAny (model prog w) A (Builtin.Slice.sliceApplied (.ref sl) (pure (n : Int))) Q E s := by
 obtain ⟨os, hos, hcs, hds⟩ := id hs
 unfold Builtin.Slice.sliceApplied Builtin.Slice.sliceFields
 refine wpAny_bind (wpAny_bind (wpAny_field hos hds (x := .none) rfl (wpAny_bind (wpAny_field hos hds (x := .none) rfl (wpAny_bind (wpAny_field hos hds (x := .int (-1) t) rfl (wpAny_pure ?_)))))))
 refine wpAny_bind (slicePart_int ?_)
 show wpAny _ _ (if ((-1 : Int) == 0) = true then _ else _) _ _ s
 rw [if_neg (by decide)]
 refine wpAny_bind (slicePart_none (wpAny_bind (slicePart_none (wpAny_bind (wpAny_pure ?_)))))
 show wpAny _ _ (match Builtin.Slice.sliceAdjust none none (-1) (n : Int) with | (lo, hi) => pure (lo, (-1 : Int), Builtin.Slice.slicePlaces lo hi (-1))) _ _ s
 rw [aD9 n]
 show wpAny _ _ (pure ((n : Int) - 1, (-1 : Int), Builtin.Slice.slicePlaces ((n : Int) - 1) (-1) (-1))) _ _ s
 rw [aB5]
 exact wpAny_pure h
theorem av1 {α : Type} : ∀ l : List α, (List.range l.length).filterMap (fun k => l[k]?) = l
 | [] => rfl
 | a :: l => by
  rw [List.length_cons, List.range_succ_eq_map, List.filterMap_cons, List.filterMap_map]
  simp only [xg0]
  congr 1
  exact av1 l
theorem ax2 {α β : Type} {f g : α → Option β} : ∀ {l : List α}, (∀ x ∈ l, f x = g x) → l.filterMap f = l.filterMap g
 | [], _ => rfl
 | a :: l, h => by rw [List.filterMap_cons, List.filterMap_cons, h a (List.mem_cons_self ..), ax2 fun x hx => h x (List.mem_cons_of_mem _ hx)]
theorem aS4 (xs : Array Value) : ((List.range xs.size).filterMap fun (k : Nat) => xs[(((xs.size : Int) - 1) + (k : Int) * -1).toNat]?).toArray = xs.toList.reverse.toArray := by
 congr 1
 have e : ∀ k ∈ List.range xs.size, xs[(((xs.size : Int) - 1) + (k : Int) * -1).toNat]? = xs.toList.reverse[k]? := by
  intro k hk
  have hk := List.mem_range.mp hk
  have : (((xs.size : Int) - 1) + (k : Int) * -1).toNat = xs.size - 1 - k := by omega
  rw [this, List.getElem?_reverse (by rw [Array.length_toList]; exact hk), Array.length_toList, Array.getElem?_toList]
 rw [ax2 e]
 have := av1 xs.toList.reverse
 rw [List.length_reverse, Array.length_toList] at this
 exact this
theorem y6 {t sl : Addr} {items : Array Value} {k : Tok} {Q : Value → Shared → Prop} (ht : IsTup s.heap t items) (hs : s.heap.IsSliceOf sl .none .none (.int (-1) k))
  (h : Q (.ref s.heap.objs.size) { s with heap := s.heap.push { cls := .type "tuple", data := .seq items.toList.reverse.toArray } })
  (hsz : items.size ≤ sizeLine) : wpAny (model prog w) A (getItem (.ref t) (.ref sl)) Q E s := by
 have htake : sizeOk (.seq items.toList.reverse.toArray) := by
  show items.toList.reverse.toArray.size ≤ sizeLine
  rw [List.size_toArray, List.length_reverse, Array.length_toList]
  omega
 obtain ⟨os, hos, hcs, hds⟩ := id hs
 have hTs : s.TypeIs (.ref sl) "slice" := ⟨os, hos, hcs⟩
 unfold getItem
 try with_reducible refine wpAny_holding ?_
 first | refine wpAny_bind (wpAny_pure ?_) | skip
 refine wpAny_bind (wpAny_sequenceKey ht.typeIs (by decide) ?_)
 refine wpAny_bind (wpAny_callSpecial?_slot (name := Str.ofString "__getitem__") ht.typeIs PyProof.Rows.slot_tuple_getitem
  (wpAny_call_entry PyProof.Rows.slot_tuple_getitem ht.typeIs entry_tuple_getitem ?_ (args_tuple_getitem _ _)))
 show wpAny _ _ (Builtin.Tuple.tupleItemsOf (.ref t) >>= _) _ _ s
 refine wpAny_bind (tupleItemsOf_ ht ?_)
 refine wpAny_bind (wpAny_typeOf hTs ?_)
 rw [if_pos (by decide)]
 refine wpAny_bind (ab7 hs ?_)
 have hno : ¬ ((((items.size : Int) - 1) == 0 && (-1 : Int) == 1 && items.size == items.size) = true) := by
  have : ((-1 : Int) == 1) = false := rfl
  rw [this]; simp
 show wpAny _ _ (if (((items.size : Int) - 1) == 0 && (-1 : Int) == 1 && items.size == items.size) = true then _ else _) _ _ s
 rw [if_neg hno, aS4]
 first
  | exact wpAny_bind (m := Builtin.Tuple.tupleExact _) (wpAny_newObj_type (wpAny_pure ⟨_, rfl, wpAny_pure h⟩) htake)
  | exact wpAny_bind (m := Builtin.Tuple.tupleExact _) (wpAny_newObj_type (wpAny_bind (wpAny_pure (wpAny_pure ⟨_, rfl, wpAny_pure h⟩))) htake)
  | exact wpAny_bind (wpAny_bind (m := Builtin.Tuple.tupleExact _) (wpAny_newObj_type (wpAny_pure (wpAny_pure ⟨_, rfl, wpAny_pure h⟩)) htake))
  | exact wpAny_bind (wpAny_bind (m := Builtin.Tuple.tupleExact _) (wpAny_newObj_type (wpAny_pure ⟨_, rfl, wpAny_pure h⟩) htake))
end
section
variable {X : Cx} {e st : Expr} {te ts : TE} {p2 pos : Pos}
theorem au2 : ∀ {xs : List V} {us : List Value}, B8 xs us → B8 xs.reverse us.reverse
 | [], [], h => h
 | x :: xs, u :: us, h => by
  cases h with
  | cons a b => rw [List.reverse_cons, List.reverse_cons]; exact (au2 b).append (.cons a .nil)
theorem bs3 (he : PE X e te) (hs : PE X st ts) : PE X (.Subscript e (.Slice none none (some st) p2) pos)
  (fun σ H Q => te σ H fun x H1 => ts σ H1 fun y H2 => ∃ a xs, x = .ref a ∧ y = .int (-1) ∧ SqT X.K H2 a xs ∧ ∀ p, H2 p = none → Q (.ref p) (upd H2 p (.tup xs.reverse))) := by
 intro pins s σ H Q I h
 refine Subscript_ (thn (he pins s σ H _ I h) fun v s1 ⟨x, H1, I1, r1, q1⟩ => ?_)
 refine wpAny_Slice ?_
 rw [evalPart_none]
 refine wpAny_pure (wpAny_pure ?_)
 rw [evalPart_some]
 refine thn (hs pins s1 σ H1 _ I1 q1) fun vs s3 ⟨y, H3, I3, r3, a, xs, e1, e2, hx, q⟩ => ?_
 subst e1 e2
 cases r1
 obtain ⟨tk, rfl⟩ := r3
 have I4 : Inv X pins σ H3 { s3 with heap := s3.heap.push { cls := .type "slice", data := .fields #[.none, .none, .int (-1) tk] } } := I3.kept (t' := s3.toks) fun b ob q => Heap.get?_push_of_some _ q
 obtain ⟨its, r, ht, hz⟩ := I4.tuple hx
 have hlen : its.toArray.size = xs.length := by rw [List.size_toArray]; exact r.length.symm
 show wpAny (model X.prog X.w) X.A (subscriptTail e (.Slice none none (some st) p2) (.ref a) (.ref s3.heap.objs.size)) (EP X pins σ Q) X.xe { s3 with heap := s3.heap.push { cls := .type "slice", data := .fields #[.none, .none, .int (-1) tk] } }
 refine tail_any (ops := [.ref a, .ref s3.heap.objs.size]) ht.typeIs PyProof.Rows.slot_tuple_getitem.lookup ?_ (by with_unfolding_all rfl)
 refine y6 ht (Heap.IsSliceOf.new ..) ?_ (by rw [hlen]; exact hz)
 refine ⟨.ref _, _, I4.laid (t' := s3.toks) (o := .tup xs.reverse) (fun b ob q => Heap.get?_push_of_some _ q) (Nat.le_refl _) ?_, rfl, q _ (I4.hok.fresh (Nat.le_refl _))⟩
 exact ⟨by rw [List.length_reverse]; exact hz, _, au2 r, IsTup.new _ _⟩
theorem aR7 {K : PySem.W.Frag} {H : Hp} {ds : List D} {vs : List V} (h : Reps K H ds vs) : Reps K H ds.reverse vs.reverse := by
 induction ds generalizing vs with
 | nil => cases vs with
  | nil => exact h
  | cons _ _ => exact absurd h.length (by simp)
 | cons d ds ih => cases vs with
  | nil => exact absurd h.length (by simp)
  | cons v vs =>
   obtain ⟨v', r', e, h1, h2⟩ := h
   cases e
   rw [List.reverse_cons, List.reverse_cons]
   exact (ih h2).append ⟨_, _, rfl, h1, rfl⟩
theorem bh8 {a st : Expr} {f : DE} {pos p2 : Pos} (ha : JE X a f) (hs : JE X st (bA1 (dC (.int 1)))) : JE X (.Subscript a (.Slice none none (some st) p2) pos) (bm5 f) := fun ρ d q => by
 obtain ⟨x, e1, q⟩ := Option.bind_eq_some_iff.mp q
 cases x with
 | tuple xs =>
  cases q
  refine A6 (bs3 (ha ρ _ e1) (hs ρ (.int (-1)) rfl)) fun σ H Q ⟨H0, Hf, s, sl, k⟩ => ?_
  refine ⟨H0, Hf, s, sl, fun v H1 Hf1 g1 ⟨p, vs, q1, q2, q3⟩ => ⟨H0, Hf1, g1.sub, sl.grow g1, fun u H2 Hf2 g2 r2 => ?_⟩⟩
  subst q1
  cases r2
  have q2' := B5 g2.ext q2
  have q3' := q3.mono g2.ext
  refine ⟨p, vs, rfl, rfl, B5 g2.sub q2', fun p' hp => ?_⟩
  exact k _ _ _ ((g1.trans g2).trans (Grow.laid g2.sub hp)) ⟨p', _, rfl, SqT.of A7, (aR7 q3').mono (B9 (g2.sub.free hp))⟩
 | _ => cases q
end
end G
namespace Sh
open PySem PySem.Spec PyProof.Rows L2 G
end Sh
namespace Sh
open PySem G L2
end Sh
namespace Sh
open PySem G L2
theorem z3 (a b c d e f : D) : (List.zip [a, b, c] [d, e, f]).map (fun (x, y) => PyData.tuple [x, y]) = [.tuple [a, d], .tuple [b, e], .tuple [c, f]] := rfl
end Sh
namespace G
open PySem PySem.Spec PyProof.Rows L2
section
variable {X : Cx}
def atS (x : Str) (i : Int) : Option D := if x.length ≤ 16777216 then (atI x.cps.toList i).map fun c => .str ⟨#[c]⟩ else none
def bI4 (f g : DE) : DE := fun ρ => (f ρ).bind fun x => (g ρ).bind fun i => match x, i with
 | .str x, .int i => atS x i
 | _, _ => none
theorem by1 {a b : Expr} {f g : DE} {pos : Pos} (ha : JE X a f) (hb : JE X b g) (hs : ag8 b := by intro _ _; rfl) : JE X (.Subscript a b pos) (bI4 f g) := fun ρ d q => by
 obtain ⟨x, h1, q⟩ := Option.bind_eq_some_iff.mp q
 obtain ⟨y, h2, h3⟩ := Option.bind_eq_some_iff.mp q
 split at h3
 ·rename_i x i
  unfold atS at h3
  split at h3
  ·rename_i hz
   obtain ⟨c, e1, e2⟩ := Option.map_eq_some_iff.mp h3
   subst e2
   refine A6 (bl4 aX3 (ha ρ _ h1) (hb ρ _ h2) hs) fun σ H Q ⟨H0, Hf, s, sl, k⟩ => ?_
   refine ⟨H0, Hf, s, sl, fun v H1 Hf1 g1 r1 => ⟨H0, Hf1, g1.sub, sl.grow g1, fun u H2 Hf2 g2 r2 => ?_⟩⟩
   exact .inr (.inr ⟨x, i, c, r1, r2, by rw [sizeLine_eq]; exact hz, e1, k _ H2 Hf2 (g1.trans g2) rfl⟩)
  ·cases h3
 ·cases h3
def aZ4 (f : DE) (lo hi : Rho → Option (Option Int)) : DE := fun ρ => (f ρ).bind fun d => (lo ρ).bind fun l => (hi ρ).bind fun h => match d with
 | .tuple xs => some (.tuple (af6 xs l h))
 | .list xs => some (.list (af6 xs l h))
 | _ => none
theorem bx7 {a : Expr} {lo hi : Option Expr} {f : DE} {l h : Rho → Option (Option Int)} {pos p2 : Pos} (ha : JE X a f) (hl : JO X lo l) (hh : JO X hi h) : JE X (.Subscript a (.Slice lo hi none p2) pos) (aZ4 f l h) := fun ρ d q => by
 obtain ⟨x, e1, q⟩ := Option.bind_eq_some_iff.mp q
 obtain ⟨y, e2, q⟩ := Option.bind_eq_some_iff.mp q
 obtain ⟨z, e3, q⟩ := Option.bind_eq_some_iff.mp q
 cases x with
 | tuple xs =>
  cases q
  refine aW6 ha hl hh ρ _ ?_
  unfold aa0
  rw [e1, xbs, e2, xbs, e3, xbs]
 | list xs =>
  cases q
  refine A6 (v7 aE8 (ha ρ _ e1) (hl ρ y e2) (hh ρ z e3)) fun σ H Q ⟨H0, Hf, s, sl, k⟩ => ?_
  refine ⟨H0, Hf, s, sl, fun v H1 Hf1 g1 ⟨p, vs, q1, q2, q3⟩ => ⟨H0, Hf1, g1.sub, sl.grow g1, fun H2 Hf2 g2 => ⟨H0, Hf2, g2.sub, sl.grow (g1.trans g2), fun H3 Hf3 g3 => ?_⟩⟩⟩
  subst q1
  have q2' := D3 (g2.trans g3).ext q2
  have q3' := q3.mono (g2.trans g3).ext
  refine ⟨p, vs, rfl, D3 g3.sub q2', fun p' hp => ?_⟩
  exact k _ _ _ (((g1.trans g2).trans g3).trans (Grow.laid g3.sub hp)) ⟨p', _, rfl, SqL.of A7, (ai1 q3' y z).mono (B9 (g3.sub.free hp))⟩
 | _ => cases q
end
end G
namespace G
open PySem PySem.Spec PyProof.Rows L2
section
variable {X : Cx}
theorem aE6 : ∀ {ys : List Str} {us : List Value}, B8 (ys.map V.str) us → ∃ l : List (Str × Tok), us = strValues l ∧ l.map (·.1) = ys
 | [], [], _ => ⟨[], rfl, rfl⟩
 | y :: ys, u :: us, h => by
  cases h with
  | cons a b =>
   obtain ⟨t, rfl⟩ := a
   obtain ⟨l, rfl, rfl⟩ := aE6 b
   exact ⟨(y, t) :: l, rfl, rfl⟩
def ar8 (sep : Str) (ys : List Str) : Nat := ys.toArray.foldl (fun n y => n + y.length + sep.length) 0
def bD7 (K : PySem.W.Frag) : V → List V → Hp → VK → Prop := fun x vs H Q => ∃ sep p ys, x = .str sep ∧ vs = [.ref p] ∧ SqL K H p (ys.map V.str) ∧ ar8 sep ys ≤ sizeLine ∧ (Builtin.Str.glued sep ys).length ≤ sizeLine ∧ Q (.str (Builtin.Str.glued sep ys)) H
theorem bf6 : MtR X "str.join" (bD7 X.K) := by
 intro pins s σ H x vs v us Q I rx rv h
 obtain ⟨sep, p, ys, rfl, rfl, hq, hz, hg, q⟩ := h
 obtain ⟨t, rfl⟩ := rx
 obtain ⟨u, rfl, ru⟩ := rv.one
 cases ru
 obtain ⟨its, r, pl, _⟩ := I.list hq
 obtain ⟨l, rfl, rfl⟩ := aE6 r
 refine call_meets F.slot_str_join (typeIs_str s sep t) F.entry_str_join (F.args_str_join_2 _ _) (meets_str_join_list sep t p l ?_) ⟨pl.isList, ?_⟩
 ·show decide (ar8 sep (l.map (·.1)) > sizeLine) = false
  exact decide_eq_false (by omega)
 ·match l, q, hg with
  | [], q, hg => exact ⟨hg, .str _, H, I.tok _, ⟨_, rfl⟩, q⟩
  | [a], q, _ => exact ⟨.str _, H, I, ⟨_, rfl⟩, q⟩
  | a :: b :: r, q, hg => exact ⟨hg, .str _, H, I.tok _, ⟨_, rfl⟩, q⟩
def aE7 : List D → Option (List Str)
 | [] => some []
 | .str x :: r => (aE7 r).map fun ys => x :: ys
 | _ :: _ => none
theorem ac6 {K : PySem.W.Frag} {H : Hp} : ∀ {ds : List D} {ys : List Str} {vs : List V}, aE7 ds = some ys → Reps K H ds vs → vs = ys.map V.str
 | [], ys, vs, h, r => by cases h; exact r
 | .str x :: ds, ys, vs, h, r => by
  obtain ⟨zs, e1, e2⟩ := Option.map_eq_some_iff.mp h
  subst e2
  obtain ⟨v, r', e, h1, h2⟩ := r
  subst e
  rw [ac6 e1 h2]
  cases h1
  rfl
def bn1 (f : DE) (g : Rho → Option (Bool × List D)) : DE := fun ρ => (f ρ).bind fun s => (g ρ).bind fun q => match s with
 | .str sep => if q.1 = true then none else (aE7 q.2).bind fun ys => if ar8 sep ys ≤ 16777216 ∧ (Builtin.Str.glued sep ys).length ≤ 16777216 then some (.str (Builtin.Str.glued sep ys)) else none
 | _ => none
theorem bi4 {o e : Expr} {f : DE} {g : Rho → Option (Bool × List D)} {apos cpos : Pos} (ho : JE X o f) (h : JQ X e g)
  (hbase : attributeBase o "join" X.env (eval o X.env) = eval o X.env := by rfl)
  (hfew : ((backTo cpos (starEach [e] X.env)).all (fun x => !x.1) && (backToKw cpos (keywordEach [] X.env)).all (fun x => x.1.isSome)
   && decide (([e] : List Expr).length + ([] : List Keyword).length + (if ([] : List Keyword).isEmpty then 0 else 1) < 30)) = true := by rfl)
  (hline : (apos.endLine == cpos.line) = true := by rfl) (hs : starEach [e] X.env = [(false, eval e X.env)] := by rfl) :
  JE X (.Call (.Attribute o "join" apos) [e] [] cpos) (bn1 f g) := fun ρ d q => by
 obtain ⟨s, e1, q⟩ := Option.bind_eq_some_iff.mp q
 obtain ⟨⟨t, ds⟩, e2, q⟩ := Option.bind_eq_some_iff.mp q
 cases s with
 | str sep =>
  cases t with
  | true => simp at q
  | false =>
   simp only [xft, if_false] at q
   obtain ⟨ys, e3, q⟩ := Option.bind_eq_some_iff.mp q
   split at q
   ·rename_i hz
    cases q
    refine A6 (aF8 F.plainAttrs_str F.slot_str_join F.type_str_join bf6 (ho ρ _ e1) (C0 (h ρ false ds e2) K2 hs) hbase hfew hline hs) fun σ H Q ⟨H0, Hf, s, sl, k⟩ => ?_
    refine ⟨H0, Hf, s, sl, fun v H1 Hf1 g1 r1 => ?_⟩
    cases r1
    refine ⟨rfl, H0, Hf1, g1.sub, sl.grow g1, fun w H2 Hf2 g2 ⟨p, vs, z1, z2, z3⟩ => ?_⟩
    subst z1
    rw [ac6 e3 z3] at z2
    exact ⟨sep, p, ys, rfl, rfl, z2, by rw [sizeLine_eq]; exact hz.1, by rw [sizeLine_eq]; exact hz.2, k _ H2 Hf2 (g1.trans g2) rfl⟩
   ·cases q
 | _ => cases q
end
end G
namespace G
open PySem PySem.Spec PyProof.Rows L2
section
variable {X : Cx}
def am3 : D → Bool
 | .none => true
 | .bool _ => true
 | .int _ => true
 | .str _ => true
 | _ => false
def toV : D → V
 | .none => .non
 | .bool b => .bl b
 | .int i => .int i
 | .str x => .str x
 | _ => .non
theorem Y7 {K : PySem.W.Frag} {H : Hp} {d : D} {v : V} (f : am3 d = true) (r : Rep K H d v) : v = toV d ∧ n9 v = true := by
 cases d with
 | none => cases r; exact ⟨rfl, rfl⟩
 | bool b => cases r; exact ⟨rfl, rfl⟩
 | int i => cases r; exact ⟨rfl, rfl⟩
 | str x => cases r; exact ⟨rfl, rfl⟩
 | tuple _ => cases f
 | list _ => cases f
 | dict _ => cases f
theorem ac8 {K : PySem.W.Frag} {H : Hp} : ∀ {ds : List D} {vs : List V}, ds.all am3 = true → Reps K H ds vs → vs = ds.map toV ∧ vs.all n9 = true
 | [], vs, _, r => by cases (show vs = [] from r); exact ⟨rfl, rfl⟩
 | d :: ds, vs, f, r => by
  rw [List.all_cons, Bool.and_eq_true] at f
  obtain ⟨v, r', e, h1, h2⟩ := r
  subst e
  obtain ⟨e1, e2⟩ := Y7 f.1 h1
  obtain ⟨e3, e4⟩ := ac8 f.2 h2
  subst e1 e3
  exact ⟨rfl, by rw [List.all_cons, e2, e4]; rfl⟩
def inD (neg : Bool) (x y : D) : Option D := match y with
 | .list ds => if am3 x = true ∧ ds.all am3 = true then some (.bool (if neg then !inV (toV x) (ds.map toV) else inV (toV x) (ds.map toV))) else none
 | .tuple ds => if am3 x = true ∧ ds.all am3 = true then some (.bool (if neg then !inV (toV x) (ds.map toV) else inV (toV x) (ds.map toV))) else none
 | _ => none
theorem aX4 {op : CmpOp} {neg : Bool} (o : OpR X (compareOp op) (rIn X.K neg)) : OpD X (compareOp op) (inD neg) := fun x y z h => by
 unfold inD at h
 split at h
 ·split at h
  ·rename_i c
   cases h
   refine OpR.imp o fun vx vy H Q ⟨Hf, s, r1, r2, k⟩ => ?_
   obtain ⟨p, vs, rfl, h2, h3⟩ := r2
   obtain ⟨e1, e2⟩ := Y7 c.1 r1
   obtain ⟨e3, e4⟩ := ac8 c.2 h3
   subst e1 e3
   exact ⟨p, _, rfl, .inl (D3 s h2), e2, e4, k _ H Hf (Grow.refl s) rfl⟩
  ·cases h
 ·split at h
  ·rename_i c
   cases h
   refine OpR.imp o fun vx vy H Q ⟨Hf, s, r1, r2, k⟩ => ?_
   obtain ⟨p, vs, rfl, h2, h3⟩ := r2
   obtain ⟨e1, e2⟩ := Y7 c.1 r1
   obtain ⟨e3, e4⟩ := ac8 c.2 h3
   subst e1 e3
   exact ⟨p, _, rfl, .inr (B5 s h2), e2, e4, k _ H Hf (Grow.refl s) rfl⟩
  ·cases h
 ·cases h
theorem bF4 : OpD X (compareOp .In) (inD false) := aX4 aK5
theorem aT3 : OpD X (compareOp .NotIn) (inD true) := aX4 aq6
end
end G
namespace G
open PySem PySem.Spec PyProof.Rows L2
section
variable {X : Cx}
theorem ba5 : bootBuiltins "min" = some (.builtin "min") := by decide +kernel
theorem ba6 : bootBuiltins "max" = some (.builtin "max") := by decide +kernel
theorem bA8 : bootBuiltins "abs" = some (.builtin "abs") := by decide +kernel
def bm7 (f g : DE) : DE := fun ρ => (f ρ).bind fun x => (g ρ).bind fun y => match x, y with
 | .int i, .int j => some (.int (if j < i then j else i))
 | _, _ => none
def bm9 (f g : DE) : DE := fun ρ => (f ρ).bind fun x => (g ρ).bind fun y => match x, y with
 | .int i, .int j => some (.int (if j > i then j else i))
 | _, _ => none
def bI5 (f : DE) : DE := fun ρ => (f ρ).bind fun x => match x with
 | .int i => some (.int (if i < 0 then -i else i))
 | _ => none
theorem by8 {e : Expr} {f : DE} {p pos : Pos} (hg : Gl X "abs") (hm : X.mg "abs" = none) (h : JE X e f) (he : starEach [e] X.env = [(false, eval e X.env)] := by rfl) : JE X (.Call (.Name "abs" p) [e] [] pos) (bI5 f) := fun ρ d q => by
 obtain ⟨x, h1, h2⟩ := Option.bind_eq_some_iff.mp q
 split at h2
 ·cases h2
  exact A6 (O7 aZ9 hg hm bA8 (C0 (h ρ _ h1) K2 he) (he := he)) fun σ H Q ⟨H0, Hf, s, sl, k⟩ =>
   ⟨H0, Hf, s, sl, fun v H1 Hf1 g1 r => ⟨_, by rw [show v = _ from r], k _ H1 Hf1 g1 rfl⟩⟩
 ·cases h2
theorem bi0 {e e' : Expr} {f g : DE} {p pos : Pos} (hg : Gl X "min") (hm : X.mg "min" = none) (h : JE X e f) (h' : JE X e' g) (hc : X.calm = true := by rfl) (he : starEach [e, e'] X.env = (false, eval e X.env) :: starEach [e'] X.env := by rfl) (he' : starEach [e'] X.env = [(false, eval e' X.env)] := by rfl)
  (hpl : (backTo pos (starEach [e'] X.env)).any (·.1) = false := by rfl) : JE X (.Call (.Name "min" p) [e, e'] [] pos) (bm7 f g) := fun ρ d q => by
 obtain ⟨x, h1, q⟩ := Option.bind_eq_some_iff.mp q
 obtain ⟨y, h2, h3⟩ := Option.bind_eq_some_iff.mp q
 split at h3
 ·cases h3
  exact A6 (O7 (aO1 hc) hg hm ba5 (C0 (h ρ _ h1) (C0 (h' ρ _ h2) K2 he') he) (he := he) (hpl := hpl)) fun σ H Q ⟨H0, Hf, s, sl, k⟩ =>
   ⟨H0, Hf, s, sl, fun v H1 Hf1 g1 r => ⟨H0, Hf1, g1.sub, sl.grow g1, fun w H2 Hf2 g2 r2 => ⟨_, _, by rw [show v = _ from r, show w = _ from r2], k _ H2 Hf2 (g1.trans g2) rfl⟩⟩⟩
 ·cases h3
theorem bi2 {e e' : Expr} {f g : DE} {p pos : Pos} (hg : Gl X "max") (hm : X.mg "max" = none) (h : JE X e f) (h' : JE X e' g) (hc : X.calm = true := by rfl) (he : starEach [e, e'] X.env = (false, eval e X.env) :: starEach [e'] X.env := by rfl) (he' : starEach [e'] X.env = [(false, eval e' X.env)] := by rfl)
  (hpl : (backTo pos (starEach [e'] X.env)).any (·.1) = false := by rfl) : JE X (.Call (.Name "max" p) [e, e'] [] pos) (bm9 f g) := fun ρ d q => by
 obtain ⟨x, h1, q⟩ := Option.bind_eq_some_iff.mp q
 obtain ⟨y, h2, h3⟩ := Option.bind_eq_some_iff.mp q
 split at h3
 ·cases h3
  exact A6 (O7 (aO3 hc) hg hm ba6 (C0 (h ρ _ h1) (C0 (h' ρ _ h2) K2 he') he) (he := he) (hpl := hpl)) fun σ H Q ⟨H0, Hf, s, sl, k⟩ =>
   ⟨H0, Hf, s, sl, fun v H1 Hf1 g1 r => ⟨H0, Hf1, g1.sub, sl.grow g1, fun w H2 Hf2 g2 r2 => ⟨_, _, by rw [show v = _ from r, show w = _ from r2], k _ H2 Hf2 (g1.trans g2) rfl⟩⟩⟩
 ·cases h3
theorem aX2 {k : Nat} {f : Addr} {fd : FuncData} {ps : List Str} {F : List D → Option D} {x : Str} {p pos : Pos} (Fk : FnOk X.prog X.w X.K X.mg X.base CX0 k f fd ps (spF X.K 0 F)) (hr : Room k X.A) (hg : Gl X x) (hm : X.mg x = some (.ref f)) (hk : PySem.W.keepIn X.K (.ref f) = true) (hb : o0 X.K fd ps [])
  (hdb : (x == ("__debug__" : Str)) = false := by decide) : JE X (.Call (.Name x p) [] [] pos) (A2 F A3) := fun ρ d q => by
 have h2 : F [] = some d := q
 refine A6 (aS7 Fk hr hg hm hk hb .nil bl5 hdb) fun σ H Q ⟨H0, Hf, s, sl, kk⟩ => ?_
 exact ⟨rfl, Hf, [], d, s, rfl, h2, fun v H2 Hf2 g2 r2 => kk v H2 Hf2 g2 r2⟩
end
end G
namespace G
open PySem PySem.Spec PyProof.Rows L2
def an5 (K : PySem.W.Frag) : List D → List Value → Prop
 | [], us => us = []
 | d :: ds, us => ∃ u r, us = u :: r ∧ aE2 K d u ∧ an5 K ds r
section
variable {K : PySem.W.Frag}
theorem W2 : an5 K [] [] := rfl
theorem F0 {d : D} {ds : List D} {u : Value} {us : List Value} (h : aE2 K d u) (t : an5 K ds us) : an5 K (d :: ds) (u :: us) := ⟨u, us, rfl, h, t⟩
theorem al9 : ∀ {ds : List D} {us : List Value}, an5 K ds us → ∃ vs, B8 vs us ∧ ∀ H : Hp, Reps K H ds vs
 | [], _, h => by cases h; exact ⟨[], .nil, fun _ => rfl⟩
 | d :: ds, _, ⟨u, r, e, ⟨v, h1, h2⟩, h3⟩ => by
  subst e
  obtain ⟨vs, q1, q2⟩ := al9 h3
  exact ⟨v :: vs, .cons h1 q1, fun H => ⟨v, vs, rfl, h2 H, q2 H⟩⟩
theorem Q8 (i : Int) (t : Tok) : aE2 K (.int i) (.int i t) := ⟨.int i, ⟨t, rfl⟩, fun _ => rfl⟩
theorem Y9 {a : Addr} {o : Obj} {its : Array Value} {n : Nat} {ds : List D} (h : K.lookup a = some o) (hc : o.cls = .type "tuple") (hd : o.data = .seq its n) (hz : its.size ≤ 1000) (hi : an5 K ds its.toList) : aE2 K (.tuple ds) (.ref a) := by
 obtain ⟨vs, q1, q2⟩ := al9 hi
 exact ⟨.ref a, rfl, fun H => ⟨a, vs, rfl, .inr ⟨o, its, n, h, hc, hd, Nat.le_of_lt (ab6 hz), q1⟩, q2 H⟩⟩
end
end G
namespace G
open PySem PySem.Spec PyProof.Rows L2
theorem av8 (l : Addr) (items : Array Value) (n : Nat) (dd : Option Addr) (sl : Array (Option Value)) (u : Tok) :
  Meets (Builtin.«tuple.__mul__» ⟨[.ref l, .int 1 u], []⟩) (fun _ R s => s.heap.get? l = some ⟨.type "tuple", dd, .seq items n, sl⟩ ∧ R (.ok (.ret (Value.ref l))) s) :=
 .of_wp fun prog w A R s h => by
  obtain ⟨hp, g, d, tk, os⟩ := s
  obtain ⟨hl, h⟩ := h
  wp_walk
  exact ⟨_, rfl, h⟩
section
variable {X : Cx}
theorem aS9 : OpR X (binaryOp .Mult) (fun x y H Q => ∃ l xs, x = .ref l ∧ y = .int 1 ∧ SqT X.K H l xs ∧ Q (.ref l) H) := by
 intro pins s σ H x y v u Q I rx ry h
 obtain ⟨l, xs, rfl, rfl, hq, q⟩ := h
 cases rx
 obtain ⟨t, rfl⟩ := ry
 obtain ⟨its, r, p1, _⟩ := I.tuple hq
 obtain ⟨⟨cls, dd, data, sl⟩, ho, hc, n, hd⟩ := id p1
 simp only at hc hd
 subst hc hd
 exact wpAny_binaryOp_repeat_ref (T := "tuple") (U := "int") (by decide) ⟨_, ho, rfl⟩ (fun s' => typeIs_int s' 1 t) ae8 F.fills_int_mul F.slot_int_rmul al6 F.slot_int_index.lookup
  (call_meets F.slot_int_rmul (typeIs_int s 1 t) F.entry_int_rmul (F.args_int_rmul_2 _ _) (v2 1 t l its.toArray n dd sl) ⟨ho, rfl, ⟨_, ho, rfl⟩,
   call_meets F.slot_tuple_mul ⟨_, ho, rfl⟩ F.entry_tuple_mul (F.args_tuple_mul_2 _ _) (av8 l its.toArray n dd sl t) ⟨ho, ⟨.ref l, H, I, rfl, q⟩⟩⟩)
theorem ap5 (a : Int) (t : Tok) (l : Addr) (items : Array Value) (n : Nat) (dd : Option Addr) (sl : Array (Option Value)) :
  Meets (Builtin.«int.__rmul__» ⟨[.int a t, .ref l], []⟩) (fun _ R s => s.heap.get? l = some ⟨.type "list", dd, .seq items n, sl⟩ ∧ R (.ok (.ret Value.notImplemented)) s) := Meets.of_wp fun prog w A R s h => by
 obtain ⟨hp, g, d, tk, os⟩ := s
 obtain ⟨hl, h⟩ := h
 wp_walk
 exact ⟨_, rfl, h⟩
theorem aw0 (l : Addr) (items : Array Value) (n : Nat) (dd : Option Addr) (sl : Array (Option Value)) (x : Int) (u : Tok) (c0 : ¬(!Builtin.List.listFitsIndex x) = true) (c1 : ¬items.size * x.toNat > (2 ^ 63 - 1) / 8) (c2 : ¬Builtin.List.listTooLong (items.size * x.toNat) = true) :
  Meets (Builtin.«list.__mul__» ⟨[.ref l, .int x u], []⟩) (fun _ R s => s.heap.get? l = some ⟨.type "list", dd, .seq items n, sl⟩ ∧ R (.ok (.ret (Value.ref s.heap.objs.size))) { s with heap := s.heap.push { cls := Value.type "list", data := Data.seq (List.foldl (fun x1 x2 => x1 ++ x2) #[] (List.replicate (if items.isEmpty = true then 0 else x.toNat) items)) } }) := Meets.of_wp fun prog w A R s h => by
 obtain ⟨hp, g, d, tk, os⟩ := s
 obtain ⟨hl, h⟩ := h
 have hsz := AutoListH.joined_fits c2
 wp_walk
 refine wpAny_ite_false (decide_eq_false (Nat.not_lt.mpr hsz)) ?_
 wp_walk
 exact ⟨_, rfl, h⟩
theorem be5 : OpR X (binaryOp .Mult) (fun x y H Q => ∃ l k xs, x = .ref l ∧ y = .int k ∧ SqL X.K H l xs ∧ 0 ≤ k ∧ k < 1000000 ∧ xs.length * k.toNat ≤ sizeLine ∧ ∀ p, H p = none → Q (.ref p) (upd H p (.lst (List.replicate k.toNat xs).flatten))) := by
 intro pins s σ H x y v u Q I rx ry h
 obtain ⟨l, k, xs, rfl, rfl, hq, h1, h2, hz, q⟩ := h
 cases rx
 obtain ⟨t, rfl⟩ := ry
 obtain ⟨its, r, p1, _⟩ := I.list hq
 obtain ⟨⟨cls, dd, data, sl⟩, ho, hc, n, hd⟩ := p1.isList
 simp only at hc hd
 subst hc hd
 have hl := r.length
 have hlen : its.toArray.size * k.toNat ≤ sizeLine := by rw [List.size_toArray, ← hl]; exact hz
 have hcap : ¬ its.toArray.size * k.toNat > (2 ^ 63 - 1) / 8 := by
  have : (sizeLine : Nat) ≤ (2 ^ 63 - 1) / 8 := by decide
  omega
 have hfit : ¬ (!Builtin.List.listFitsIndex k) = true := by
  rw [fitsIndex_both (by omega) (by omega)]; exact Bool.false_ne_true
 have hlong : ¬ Builtin.List.listTooLong (its.toArray.size * k.toNat) = true := by
  rw [g9 hlen]; exact Bool.false_ne_true
 have hnew : List.foldl (fun x1 x2 => x1 ++ x2) #[] (List.replicate (if its.toArray.isEmpty = true then 0 else k.toNat) its.toArray) = (List.replicate k.toNat its).flatten.toArray := by
  rw [aB4]
  cases its with
  | nil => simp
  | cons a r' => rw [if_neg (by simp)]
 refine wpAny_binaryOp_repeat_ref (T := "list") (U := "int") (by decide) ⟨_, ho, rfl⟩ (fun s' => typeIs_int s' k t) noFill_list_mul F.fills_int_mul F.slot_int_rmul repeat_list F.slot_int_index.lookup
  (call_meets F.slot_int_rmul (typeIs_int s k t) F.entry_int_rmul (F.args_int_rmul_2 _ _) (ap5 k t l its.toArray n dd sl) ⟨ho, rfl, ⟨_, ho, rfl⟩,
   call_meets F.slot_list_mul ⟨_, ho, rfl⟩ F.entry_list_mul (F.args_list_mul_2 _ _) (aw0 l its.toArray n dd sl k t hfit hcap hlong) ⟨ho, ?_⟩⟩)
 rw [hnew]
 exact ⟨.ref _, _, I.lnew (t' := s.toks) (r.rep k.toNat) (by rw [ar4, Nat.mul_comm]; exact hz), rfl, q _ I.fresh⟩
def Y0 (x y : D) : Option D := match x, y with
 | .tuple xs, .int k => if k = 1 then some (.tuple xs) else U7 (.tuple xs) (.int k)
 | .list xs, .int k => if 0 ≤ k ∧ k < 1000000 ∧ xs.length * k.toNat ≤ 16777216 then some (.list (List.replicate k.toNat xs).flatten) else none
 | x, y => U7 x y
theorem aG0 : OpD X (binaryOp .Mult) Y0 := fun x y z h => by
 unfold Y0 at h
 split at h
 ·split at h
  ·rename_i xs k c
   subst c
   cases h
   refine OpR.imp aS9 fun vx vy H Q ⟨Hf, s, r1, r2, kk⟩ => ?_
   obtain ⟨a, vs, rfl, h2, h3⟩ := r1
   exact ⟨a, vs, rfl, r2, B5 s h2, kk _ _ _ (Grow.refl s) ⟨a, vs, rfl, h2, h3⟩⟩
  ·exact aq8 _ _ z h
 ·split at h
  ·rename_i xs k c
   cases h
   refine OpR.imp be5 fun vx vy H Q ⟨Hf, s, r1, r2, kk⟩ => ?_
   obtain ⟨a, vs, rfl, h2, h3⟩ := r1
   refine ⟨a, k, vs, rfl, r2, D3 s h2, c.1, c.2.1, by rw [h3.length, sizeLine_eq]; exact c.2.2, fun p hp => ?_⟩
   exact kk _ _ _ (Grow.laid s hp) ⟨p, _, rfl, SqL.of A7, (h3.flatten k.toNat).mono (B9 (s.free hp))⟩
  ·cases h
 ·exact aq8 _ _ z h
theorem t8 (i j : Int) : d6 (.int i) (.int j) = some (.int (i + j)) := rfl
def bI3 (f : Rho → Option (Bool × List D)) (lo hi : Rho → Option (Option Int)) : DE := fun ρ => (f ρ).bind fun q => (lo ρ).bind fun l => (hi ρ).bind fun h => if q.1 = true then none else some (.list (af6 q.2 l h))
theorem bx6 {a : Expr} {lo hi : Option Expr} {f : Rho → Option (Bool × List D)} {l h : Rho → Option (Option Int)} {pos p2 : Pos} (ha : JQ X a f) (hl : JO X lo l) (hh : JO X hi h) : JE X (.Subscript a (.Slice lo hi none p2) pos) (bI3 f l h) := fun ρ d q => by
 obtain ⟨⟨t, xs⟩, e1, q⟩ := Option.bind_eq_some_iff.mp q
 obtain ⟨y, e2, q⟩ := Option.bind_eq_some_iff.mp q
 obtain ⟨z, e3, q⟩ := Option.bind_eq_some_iff.mp q
 cases t with
 | true => simp at q
 | false =>
  simp only [xft, if_false] at q
  cases q
  refine A6 (v7 aE8 (ha ρ _ _ e1) (hl ρ y e2) (hh ρ z e3)) fun σ H Q ⟨H0, Hf, s, sl, k⟩ => ?_
  refine ⟨H0, Hf, s, sl, fun v H1 Hf1 g1 ⟨p, vs, q1, q2, q3⟩ => ⟨H0, Hf1, g1.sub, sl.grow g1, fun H2 Hf2 g2 => ⟨H0, Hf2, g2.sub, sl.grow (g1.trans g2), fun H3 Hf3 g3 => ?_⟩⟩⟩
  subst q1
  have q3' := q3.mono (g2.trans g3).ext
  refine ⟨p, vs, rfl, D3 (g2.trans g3).big q2, fun p' hp => ?_⟩
  exact k _ _ _ (((g1.trans g2).trans g3).trans (Grow.laid g3.sub hp)) ⟨p', _, rfl, SqL.of A7, (ai1 q3' y z).mono (B9 (g3.sub.free hp))⟩
def N8 : DS := fun _ => none
theorem J9 {st : Stmt} : JS X st N8 := fun ρ fl q => by cases q
def aA0 (f : DE) : Rho → Option Bool := fun ρ => (f ρ).bind M9
theorem aV5 {op op' : CmpOp} {h1 h2 : D → D → Option D} {a b c : Expr} {f g k : DE} {pos : Pos} (o1 : OpD X (compareOp op) h1) (o2 : OpD X (compareOp op') h2) (ha : JE X a f) (hb : JE X b g) (hc : JE X c k)
  (hm : lastMarks [op, op'] [b, c] = false := by with_unfolding_all rfl) : JT X (.Compare a [op, op'] [b, c] pos) (aA0 (N6 h1 h2 f g k)) := fun ρ d q => by
 obtain ⟨dd, q, ed⟩ := Option.bind_eq_some_iff.mp q
 have ed := aI0 ed
 subst ed
 obtain ⟨x, e1, q⟩ := Option.bind_eq_some_iff.mp q
 obtain ⟨y, e2, q⟩ := Option.bind_eq_some_iff.mp q
 obtain ⟨z, e3, q⟩ := Option.bind_eq_some_iff.mp q
 split at q
 ·obtain ⟨w, e4, e5⟩ := Option.bind_eq_some_iff.mp q
  refine aq2 (au9 (o1 x y _ e3) (o2 y w _ e5) (ha ρ x e1) (hb ρ y e2) (hc ρ w e4) hm) fun σ H Q ⟨H0, Hf, s, sl, kk⟩ => ?_
  refine ⟨H0, Hf, s, sl, fun v H1 Hf1 g1 r1 => ⟨H0, Hf1, g1.sub, sl.grow g1, fun u H2 Hf2 g2 r2 => ⟨Hf2, g2.sub, r1.mono g2.ext, r2, fun z' H3 Hf3 g3 r3 => ?_⟩⟩⟩
  refine ⟨true, r3, ak5 ⟨H0, Hf3, g3.sub, sl.grow ((g1.trans g2).trans g3), fun w' H4 Hf4 g4 r4 => ⟨Hf4, g4.sub, r2.mono (g3.trans g4).ext, r4, fun z2 H5 Hf5 g5 r5 => ?_⟩⟩⟩
  exact ⟨d, r5, kk H5 Hf5 ((((g1.trans g2).trans g3).trans g4).trans g5)⟩
 ·cases q
  intro pins s σ H Q I ⟨H0, Hf, ss, sl, kk⟩
  refine au9 (tc := fun _ _ _ => False) (r' := fun _ _ _ _ => False) (o1 x y _ e3) (fun _ _ _ _ _ _ _ _ _ _ _ _ h => h.elim) (ha ρ x e1) (hb ρ y e2) (fun _ _ _ _ _ _ h => h.elim) hm pins s σ H Q I ?_
  refine ⟨H0, Hf, ss, sl, fun v H1 Hf1 g1 r1 => ⟨H0, Hf1, g1.sub, sl.grow g1, fun u H2 Hf2 g2 r2 => ⟨Hf2, g2.sub, r1.mono g2.ext, r2, fun z' H3 Hf3 g3 r3 => ?_⟩⟩⟩
  exact ⟨false, r3, ak6 ⟨false, rfl, kk H3 Hf3 ((g1.trans g2).trans g3)⟩⟩
 ·cases q
end
end G
local macro_rules
  | `(tactic| wp_walk using evC) => `(tactic| simp only [G.B7, G.F3, G.C1, G.sIf, G.O5, G.Q0, G.g8, G.A1, G.dC, G.O8, G.Y2, G.A4, G.A2, G.ae0, G.j8, G.dOr, G.m9, G.N6, G.dIx, G.aa0, G.c5, G.N7, G.n6, G.n5, G.n4, G.B4, G.qE, G.qN, G.f9, G.Q6, G.Q5, G.V0, G.A3, G.A0, G.Z5, G.tB2, G.U9, G.Z6, G.U0, G.c9, G.M9, G.L1, G.U4, G.d7, G.K1, G.L4, G.M5, G.B6, G.N5, G.V4, G.U3, G.r8, G.d5, G.xg0, G.xg1, G.xw0, G.xw1, G.xbs, G.xms, G.xmc, G.xmn, G.xna, G.xca, Sh.W6, Sh.W5, Sh.p8, Sh.p6, Sh.r9, Sh.x4, Sh.x9, Sh.ap8, Sh.ap7, Sh.ap6, Sh.aa1, Sh.aa7, Sh.aa6, Sh.aa5, Sh.aa4, Sh.ab0, Sh.aa9, Sh.aa8, Sh.u4, Sh.u3, G.xnt, G.xnf, G.xft, if_true, if_false, ite_true, ite_false, G.t8, G.aA0])
  | `(tactic| wp_walk using evC, $ts,*) => `(tactic| simp only [G.B7, G.F3, G.C1, G.sIf, G.O5, G.Q0, G.g8, G.A1, G.dC, G.O8, G.Y2, G.A4, G.A2, G.ae0, G.j8, G.dOr, G.m9, G.N6, G.dIx, G.aa0, G.c5, G.N7, G.n6, G.n5, G.n4, G.B4, G.qE, G.qN, G.f9, G.Q6, G.Q5, G.V0, G.A3, G.A0, G.Z5, G.tB2, G.U9, G.Z6, G.U0, G.c9, G.M9, G.L1, G.U4, G.d7, G.K1, G.L4, G.M5, G.B6, G.N5, G.V4, G.U3, G.r8, G.d5, G.xg0, G.xg1, G.xw0, G.xw1, G.xbs, G.xms, G.xmc, G.xmn, G.xna, G.xca, Sh.W6, Sh.W5, Sh.p8, Sh.p6, Sh.r9, Sh.x4, Sh.x9, Sh.ap8, Sh.ap7, Sh.ap6, Sh.aa1, Sh.aa7, Sh.aa6, Sh.aa5, Sh.aa4, Sh.ab0, Sh.aa9, Sh.aa8, Sh.u4, Sh.u3, G.xnt, G.xnf, G.xft, if_true, if_false, ite_true, ite_false, G.t8, G.aA0, $[$ts:term],*])
local macro_rules
  | `(tactic| wp_walk using evD) => `(tactic| simp only [G.B7, G.F3, G.C1, G.sIf, G.O5, G.Q0, G.g8, G.A1, G.dC, G.O8, G.Y2, G.A4, G.A2, G.j8, G.dOr, G.m9, G.N6, G.dIx, G.c5, G.N7, G.n6, G.n5, G.n4, G.B4, G.qE, G.qN, G.f9, G.Q6, G.Q5, G.V0, G.A3, G.A0, G.Z5, G.tB2, G.U9, G.Z6, G.U0, G.c9, G.M9, G.K1, G.L4, G.M5, G.B6, G.N5, G.V4, G.d5, G.xg0, G.xg1, G.xw0, G.xw1, G.xbs, G.xms, G.xmc, G.xmn, G.xna, G.xca, Sh.W6, Sh.W5, Sh.p8, Sh.p6, Sh.r9, Sh.x4, Sh.x9, Sh.aa7, Sh.aa6, Sh.aa5, Sh.aa4, Sh.ab0, Sh.aa9, Sh.aa8, Sh.u4, Sh.u3, G.xnt, G.xnf, G.xft, if_true, if_false, G.t8, G.aA0])
  | `(tactic| wp_walk using evD, $ts,*) => `(tactic| simp only [G.B7, G.F3, G.C1, G.sIf, G.O5, G.Q0, G.g8, G.A1, G.dC, G.O8, G.Y2, G.A4, G.A2, G.j8, G.dOr, G.m9, G.N6, G.dIx, G.c5, G.N7, G.n6, G.n5, G.n4, G.B4, G.qE, G.qN, G.f9, G.Q6, G.Q5, G.V0, G.A3, G.A0, G.Z5, G.tB2, G.U9, G.Z6, G.U0, G.c9, G.M9, G.K1, G.L4, G.M5, G.B6, G.N5, G.V4, G.d5, G.xg0, G.xg1, G.xw0, G.xw1, G.xbs, G.xms, G.xmc, G.xmn, G.xna, G.xca, Sh.W6, Sh.W5, Sh.p8, Sh.p6, Sh.r9, Sh.x4, Sh.x9, Sh.aa7, Sh.aa6, Sh.aa5, Sh.aa4, Sh.ab0, Sh.aa9, Sh.aa8, Sh.u4, Sh.u3, G.xnt, G.xnf, G.xft, if_true, if_false, G.t8, G.aA0, $[$ts:term],*])
namespace Sh
open PySem PySem.Spec PyProof.Rows L2 G
def af1 : DS := (C1 (Y2 (L1 1 [0] (U3 (A4 Y0 (A1 0) (A1 1))) (L4 0) K1 (O8 (A0 (A4 W8 (A1 0) (A1 1)) (A0 (A4 t6 (A1 0) (A1 1)) A3))))))
def M8 : List D → Option D := R6 af1 2
def af2 : DS := (C1 (j8 (N6 leI ltI (dC (.int 0)) (A1 1) (dIx (B4 0) (dC (.int 0)))) (N6 leI ltI (dC (.int 0)) (A1 2) (dIx (B4 0) (dC (.int 1))))))
def X7 : List D → Option D := R6 af2 3
def X6 : DS := (C1 (A4 d6 (A4 Y0 (A1 2) (dIx (B4 0) (dC (.int 0)))) (A1 1)))
def O4 : List D → Option D := R6 X6 3
def ae4 : DS := (B7 (sIf (U0 (Z5 (A2 X7 (A0 (A1 0) (A0 (A1 1) (A0 (A1 2) A3)))))) (C1 (dC (.tuple [(.tuple [(.int 0), (.int 1)]), (.tuple [(.int 0), (.int 1)]), (.tuple [(.int 0), (.int 1)]), (.tuple [(.int 0), (.int 1)])]))) O5) (C1 (dIx (qE (dIx (B4 0) (dC (.int 2)))) (A2 O4 (A0 (A1 0) (A0 (A1 1) (A0 (A1 2) A3)))))))
def P6 : List D → Option D := R6 ae4 3
def an6 : DS := (C1 (O8 (A0 (A1 3) (A0 (A1 4) (A0 (N7 (qN (L1 2 [0, 1, 2] (V4 (A2 M8 (A0 (A1 3) (A0 (A1 4) A3)))) (M5 2 (B6 (L4 0) (B6 (L4 1) N5))) K1 (A2 P6 (A0 (A1 2) (A0 (A4 d6 (A1 3) (A1 0)) (A0 (A4 d6 (A1 4) (A1 1)) A3))))))) A3)))))
def D2 : List D → Option D := R6 an6 5
def aj9 : DS := (B7 (F3 1 (dIx (B4 0) (dC (.int 0)))) (B7 (F3 2 (dIx (B4 0) (dC (.int 1)))) (C1 (O8 (A0 (A1 1) (A0 (A1 2) (A0 (N7 (qN (L1 2 [0, 1] (V4 (A2 M8 (A0 (A1 1) (A0 (A1 2) A3)))) (M5 2 (B6 (L4 0) (B6 (L4 1) N5))) K1 (A2 P6 (A0 (A1 2) (A0 (A4 o5 (A4 o5 (A1 3) (dC (.int 1))) (A1 0)) (A0 (A1 1) A3))))))) A3)))))))
def N4 : List D → Option D := R6 aj9 3
def ay9 : DS := (B7 (F3 1 (dIx (B4 0) (dC (.int 0)))) (B7 (F3 2 (dIx (B4 0) (dC (.int 1)))) (C1 (O8 (A0 (A1 2) (A0 (A1 1) (A0 (N7 (qN (L1 2 [0, 2] (V4 (A2 M8 (A0 (A1 2) (A0 (A1 1) A3)))) (M5 2 (B6 (L4 0) (B6 (L4 1) N5))) K1 (A2 P6 (A0 (A1 2) (A0 (A1 1) (A0 (A4 o5 (A4 o5 (A1 3) (dC (.int 1))) (A1 0)) A3))))))) A3)))))))
def M7 : List D → Option D := R6 ay9 3
def Z3 : DS := (B7 (Q0 3 (L1 2 [0] (r8 (qE (dIx (B4 1) (dC (.int 2)))) (qE (dIx (B4 2) (dC (.int 2))))) (M5 2 (B6 (L4 0) (B6 (L4 1) N5))) K1 (A2 W4 (A0 (A1 2) (A0 (A1 0) (A0 (A1 1) A3)))))) (C1 (O8 (A0 (dIx (B4 1) (dC (.int 0))) (A0 (dIx (B4 1) (dC (.int 1))) (A0 (N7 (B4 3)) A3))))))
def J7 : List D → Option D := R6 Z3 4
def ae5 : DS := (B7 (Q0 4 (L1 1 [0, 1] (U3 (A4 Y0 (A1 2) (A1 3))) (L4 0) K1 (A2 W7 (A0 (A1 1) (A0 (A4 d6 (A1 2) (A4 Y0 (dC (.int 12)) (A1 0))) A3))))) (B7 (sIf (tB2 eqD (A2 C2 (A0 (A1 0) (A0 (A4 d6 (A1 1) (dC (.int 7))) (A0 (dC (.int 3)) A3)))) (dC (.int 0))) (F3 4 (A4 Y0 (aZ4 (A1 4) Q6 (Q5 (dC (.int 1)))) (A4 Y0 (A1 2) (A1 3)))) O5) (C1 (O8 (A0 (A1 2) (A0 (A1 3) (A0 (N7 (B4 4)) A3)))))))
def T0 : List D → Option D := R6 ae5 5
end Sh
namespace Sh
open PySem G L2
structure Q4 where
 c : Rat
 x : Rat
 y : Rat
 z : Rat
def Q4.d (q : Q4) : D := sp q.c q.x q.y q.z
def Q4.ok (k : Nat) (q : Q4) : Prop := Spot k q.c q.x q.y q.z
def q0 : Q4 := ⟨0, 0, 0, 0⟩
theorem bk8 {k : Nat} (hk : 1 ≤ k) : q0.ok k := by
 have z : IsSh k 0 := ⟨Bd.zero.mono hk, by decide⟩
 exact ⟨z, z.bd, z.bd, z.bd, Rat.le_refl, Rat.le_refl, Rat.le_refl⟩
def Ly (n : Nat) (d : D) : Prop := PyData.canLay0 d = true ∧ PyData.depth d ≤ n
theorem aj8 {n : Nat} : ∀ xs : List D, (∀ x ∈ xs, Ly n x) → PyData.canLayAll0 xs = true ∧ PyData.depthAll xs ≤ n
 | [], _ => ⟨rfl, Nat.zero_le _⟩
 | x :: xs, g => by
  have a := g x (List.mem_cons_self ..)
  have b := aj8 xs fun y hy => g y (List.mem_cons_of_mem _ hy)
  refine ⟨?_, ?_⟩
  ·show (PyData.canLay0 x && PyData.canLayAll0 xs) = true
   rw [a.1, b.1]; rfl
  ·show max (PyData.depth x) (PyData.depthAll xs) ≤ n
   have := a.2; have := b.2; omega
theorem Ly.tup {n : Nat} {xs : List D} (h : ∀ x ∈ xs, Ly n x) : Ly (n + 1) (.tuple xs) := ⟨(aj8 xs h).1, Nat.succ_le_succ (aj8 xs h).2⟩
theorem Ly.lst {n : Nat} {xs : List D} (h : ∀ x ∈ xs, Ly n x) : Ly (n + 1) (.list xs) := ⟨(aj8 xs h).1, Nat.succ_le_succ (aj8 xs h).2⟩
theorem Ly.int (n : Nat) (i : Int) : Ly n (.int i) := ⟨rfl, Nat.zero_le _⟩
theorem Ly.shaped {n : Nat} {d : D} (g : Ly n d) (hn : n ≤ 64) : SeqAt.shaped d = true := by
 unfold SeqAt.shaped
 rw [g.1, Bool.true_and]
 exact decide_eq_true (by have := g.2; omega)
theorem Ly.q4 (q : Q4) (n : Nat) : Ly (n + 2) q.d := ⟨rfl, by show 2 ≤ n + 2; omega⟩
theorem Ly.spots (l : List Q4) (n : Nat) : Ly (n + 3) (.tuple (l.map Q4.d)) := Ly.tup fun x hx => by
 obtain ⟨q, _, rfl⟩ := List.mem_map.mp hx
 exact Ly.q4 q n
theorem v9 {n : Nat} {d : D} (g : Ly n d) (hn : n ≤ 64) : neD d d = some (.bool false) := by
 unfold neD
 rw [if_pos ⟨g.shaped hn, g.shaped hn⟩, SeqAt.eqv_refl d g.1]; rfl
theorem bj4 {n : Nat} {d : D} (g : Ly n d) (hn : n ≤ 64) : eqD d d = some (.bool true) := by
 unfold eqD
 rw [if_pos ⟨g.shaped hn, g.shaped hn⟩, SeqAt.eqv_refl d g.1]
def shD (w h : Nat) (l : List Q4) : D := .tuple [.int w, .int h, .tuple (l.map Q4.d)]
theorem Ly.sheet (w h : Nat) (l : List Q4) : Ly 4 (shD w h l) := Ly.tup fun x hx => by
 simp only [List.mem_cons, List.not_mem_nil, or_false] at hx
 rcases hx with rfl | rfl | rfl
 ·exact Ly.int _ _
 ·exact Ly.int _ _
 ·exact Ly.spots l 0
def atQ (w h : Nat) (l : List Q4) (x y : Int) : Q4 := if 0 ≤ x ∧ x < w ∧ 0 ≤ y ∧ y < h then l.getD (y * w + x).toNat q0 else q0
structure ShOk (k : Nat) (w h : Nat) (l : List Q4) : Prop where
 w1 : 1 ≤ w
 w8 : w ≤ 8
 h1 : 1 ≤ h
 h8 : h ≤ 8
 len : l.length = w * h
 ok : ∀ q ∈ l, q.ok k
theorem bj0 {k : Nat} {l : List Q4} (h : ∀ q ∈ l, q.ok k) (hk : 1 ≤ k) (i : Nat) : (l.getD i q0).ok k := by
 rw [List.getD_eq_getElem?_getD]
 cases e : l[i]? with
 | none => exact bk8 hk
 | some q => exact h q (List.mem_of_getElem? e)
theorem aD6 {k w h : Nat} {l : List Q4} (S : ShOk k w h l) (hk : 1 ≤ k) (x y : Int) : (atQ w h l x y).ok k := by
 unfold atQ
 split
 ·exact bj0 S.ok hk _
 ·exact bk8 hk
theorem bn3 {α : Type} {e : DE} {r : Rho} {h f : α → D} : ∀ (l : List α) (x : Option B), (∀ a ∈ l, e (some (.val (h a)) :: r) = some (f a)) → U4 (L4 0) K1 e (l.map h) (x :: r) = some (l.map f)
 | [], _, _ => rfl
 | a :: l, x, H => by
  simp only [xmc, U4, L4, xw0, xbs, K1, if_true, H a (List.mem_cons_self ..), bn3 l _ (fun b hb => H b (List.mem_cons_of_mem _ hb)), xms]
theorem bn2 {α : Type} {e : DE} {r : Rho} {h1 h2 f : α → D} : ∀ (l : List α) (x y : Option B), (∀ a ∈ l, e (some (.val (h1 a)) :: some (.val (h2 a)) :: r) = some (f a)) → U4 (M5 2 (B6 (L4 0) (B6 (L4 1) N5))) K1 e (l.map fun a => .tuple [h1 a, h2 a]) (x :: y :: r) = some (l.map f)
 | [], _, _, _ => rfl
 | a :: l, x, y, H => by
  have hl : ([h1 a, h2 a] : List D).length = 2 := rfl
  simp only [xmc, U4, M5, B6, N5, L4, hl, if_true, xw0, xw1, xbs, K1, if_true, H a (List.mem_cons_self ..), bn2 l _ _ (fun b hb => H b (List.mem_cons_of_mem _ hb)), xms]
theorem aU2 {α : Type} {caps : List Nat} {src : Rho → Option (List D)} {e : DE} {ρ r : Rho} {l : List α} {h f : α → D} (hr : d7 1 caps ρ = none :: r) (hs : src ρ = some (l.map h)) (hl : l.length ≤ 1000) (H : ∀ a ∈ l, e (some (.val (h a)) :: r) = some (f a)) :
  L1 1 caps src (L4 0) K1 e ρ = some (l.map f) := by
 unfold L1
 rw [hs, xbs, if_pos (by rw [List.length_map]; omega), hr, bn3 l _ H]
theorem ar1 {α : Type} {caps : List Nat} {src : Rho → Option (List D)} {e : DE} {ρ r : Rho} {l : List α} {h1 h2 f : α → D} (hr : d7 2 caps ρ = none :: none :: r) (hs : src ρ = some (l.map fun a => .tuple [h1 a, h2 a])) (hl : l.length ≤ 1000) (H : ∀ a ∈ l, e (some (.val (h1 a)) :: some (.val (h2 a)) :: r) = some (f a)) :
  L1 2 caps src (M5 2 (B6 (L4 0) (B6 (L4 1) N5))) K1 e ρ = some (l.map f) := by
 unfold L1
 rw [hs, xbs, if_pos (by rw [List.length_map]; omega), hr, bn2 l _ _ H]
theorem aF4 {f : DE} {ρ : Rho} {n : Nat} (h : f ρ = some (.int n)) (hn : n ≤ 1000) : U3 f ρ = some ((List.range n).map fun k : Nat => PyData.int k) := by
 unfold U3
 rw [h, xbs]
 show (if -(2 ^ 62) ≤ (n : Int) ∧ (n : Int) < 2 ^ 62 then some (X9 0 n) else none) = _
 rw [if_pos ⟨by omega, by omega⟩]
 unfold X9
 congr 1
 have e : ((n : Int) - 0).toNat = n := by omega
 rw [e]
 apply List.map_congr_left
 intro k _
 congr 1
 omega
theorem aU4 {i j : Int} (h1 : D5 i) (h2 : D5 j) : Y0 (.int i) (.int j) = some (.int (i * j)) := Q1 h1 h2
theorem w6 {i j : Nat} (h1 : i ≤ 1000) (h2 : j ≤ 1000) : Y0 (.int i) (.int j) = some (.int ((i * j : Nat) : Int)) := by
 rw [aU4 (Y6 (k := 10) (by omega) (by decide)) (Y6 (k := 10) (by omega) (by decide)), Int.natCast_mul]
theorem sm8 {i : Int} (h0 : 0 ≤ i) (h : i ≤ 1000) : D5 i := ah3 h0 (by omega)
def plc (w n : Nat) : List (Int × Int) := (List.range n).map fun k => (((k % w : Nat) : Int), ((k / w : Nat) : Int))
theorem ac9 {w h : Nat} (w1 : 1 ≤ w) (w8 : w ≤ 8) (h8 : h ≤ 8) : M8 [.int w, .int h] = some (.list ((plc w (w * h)).map fun p => .tuple [.int p.1, .int p.2])) := by
 refine E9 (ρ := [some (.val (.int w)), some (.val (.int h))]) rfl ?_
 have hm : (A4 Y0 (A1 0) (A1 1)) [some (.val (.int w)), some (.val (.int h))] = some (.int ((w * h : Nat) : Int)) := w6 (by omega) (by omega)
 have wh : w * h ≤ 64 := Nat.mul_le_mul w8 h8
 unfold af1 C1 Y2
 rw [aU2 (l := List.range (w * h)) (h := fun k : Nat => PyData.int k) (f := fun k => .tuple [.int ((k % w : Nat) : Int), .int ((k / w : Nat) : Int)]) (r := [some (.val (.int w))]) rfl (aF4 hm (by omega)) (by rw [List.length_range]; omega) ?_]
 ·unfold plc
  rw [List.map_map]; rfl
 ·intro k _
  have wp : (0 : Int) < (w : Int) := by omega
  simp only [O8, A0, A3, A4, A1, xg0, xg1, xbs, xms, al8 wp, ax7 wp (sm8 (by omega) (by omega))]
  rfl
theorem bd6 {w h : Nat} {p : Int × Int} (hp : p ∈ plc w (w * h)) (w1 : 1 ≤ w) : 0 ≤ p.1 ∧ p.1 < w ∧ 0 ≤ p.2 ∧ p.2 < h := by
 obtain ⟨k, hk, rfl⟩ := List.mem_map.mp hp
 have hk := List.mem_range.mp hk
 have a := Nat.mod_lt k (show w > 0 by omega)
 have b := Nat.div_lt_of_lt_mul hk
 exact ⟨Int.natCast_nonneg _, Int.ofNat_lt.mpr a, Int.natCast_nonneg _, Int.ofNat_lt.mpr b⟩
theorem a8 (w n : Nat) : (plc w n).length = n := by unfold plc; rw [List.length_map, List.length_range]
theorem as1 (w h : Int) (s : D) (x y : Int) : X7 [.tuple [.int w, .int h, s], .int x, .int y] = some (.bool (decide (0 ≤ x ∧ x < w ∧ 0 ≤ y ∧ y < h))) := by
 refine E9 (ρ := [some (.val (.tuple [.int w, .int h, s])), some (.val (.int x)), some (.val (.int y))]) rfl ?_
 by_cases a : 0 ≤ x <;> by_cases b : x < w <;> by_cases c : 0 ≤ y <;> by_cases e : y < h <;> simp [af2, B7, F3, C1, sIf, O5, Q0, g8, A1, dC, O8, Y2, A4, A2, j8, dOr, m9, N6, dIx, c5, N7, n6, n5, n4, B4, qE, qN, f9, Q6, Q5, V0, A3, A0, Z5, tB2, U9, Z6, U0, c9, M9, K1, L4, M5, B6, N5, V4, d5, xg0, xg1, xw0, xw1, xbs, xms, xmc, xmn, xna, xca, W6, W5, p8, p6, r9, x4, x9, aa7, aa6, aa5, aa4, ab0, aa9, aa8, u4, u3, xnt, xnf, xft, if_true, if_false, t8, aA0, a, b, c, e]
theorem bz2 {n : Nat} {i : Int} (h0 : 0 ≤ i) (h1 : i < n) : ixN n i = some i.toNat := by unfold ixN; rw [if_pos h0, if_pos h1]
theorem atD (l : List Q4) {i : Int} (h0 : 0 ≤ i) (h1 : i < l.length) : L2.atI (l.map Q4.d) i = some (l.getD i.toNat q0).d := by
 unfold L2.atI
 rw [List.length_map, bz2 h0 h1, xbs, List.getElem?_map, List.getD_eq_getElem?_getD]
 have : i.toNat < l.length := by omega
 rw [List.getElem?_eq_getElem this]; rfl
theorem ad0 {w h : Nat} {x y : Int} (b : 0 ≤ x ∧ x < w ∧ 0 ≤ y ∧ y < h) : 0 ≤ y * w + x ∧ y * w + x < ((w * h : Nat) : Int) := by
 obtain ⟨a, b, c, e⟩ := b
 have p : 0 ≤ y * (w : Int) := Int.mul_nonneg c (by omega)
 refine ⟨by omega, ?_⟩
 have : (y + 1) * (w : Int) ≤ h * (w : Int) := Int.mul_le_mul_of_nonneg_right (by omega) (by omega)
 have e2 : (y + 1) * (w : Int) = y * w + w := by rw [Int.add_mul, Int.one_mul]
 have e3 : ((w * h : Nat) : Int) = h * w := by rw [Int.natCast_mul, Int.mul_comm]
 omega
theorem aL8 {w h : Nat} {x y : Int} (s : D) (w8 : w ≤ 8) (h8 : h ≤ 8) (b : 0 ≤ x ∧ x < w ∧ 0 ≤ y ∧ y < h) : O4 [.tuple [.int w, .int h, s], .int x, .int y] = some (.int (y * w + x)) := by
 refine E9 (ρ := [some (.val (.tuple [.int w, .int h, s])), some (.val (.int x)), some (.val (.int y))]) rfl ?_
 wp_walk using evD, X6, aU4 (sm8 b.2.2.1 (by omega)) (sm8 (show (0 : Int) ≤ w by omega) (by omega))
theorem o6 {k w h : Nat} {l : List Q4} (S : ShOk k w h l) (x y : Int) : P6 [shD w h l, .int x, .int y] = some (atQ w h l x y).d := by
 refine E9 (ρ := [some (.val (shD w h l)), some (.val (.int x)), some (.val (.int y))]) rfl ?_
 have hp := as1 w h (.tuple (l.map Q4.d)) x y
 unfold atQ
 by_cases b : 0 ≤ x ∧ x < w ∧ 0 ≤ y ∧ y < h
 ·rw [if_pos b]
  rw [decide_eq_true b] at hp
  have nm := aL8 (.tuple (l.map Q4.d)) S.w8 S.h8 b
  have pn := ad0 b
  have e := atD l pn.1 (by rw [S.len]; exact pn.2)
  wp_walk using evD, ae4, shD, hp, nm, e
 ·rw [if_neg b]
  rw [decide_eq_false b] at hp
  wp_walk using evD, ae4, shD, hp
  rfl
def D1 (w h : Nat) (l : List Q4) (left top : Int) (wide high : Nat) : List Q4 := (plc wide (wide * high)).map fun p => atQ w h l (left + p.1) (top + p.2)
theorem X1 {k w h : Nat} {l : List Q4} (S : ShOk k w h l) (hk : 1 ≤ k) (left top : Int) {wide high : Nat} (w1 : 1 ≤ wide) (w8 : wide ≤ 8) (h1 : 1 ≤ high) (h8 : high ≤ 8) :
  D2 [shD w h l, .int left, .int top, .int wide, .int high] = some (shD wide high (D1 w h l left top wide high)) ∧ ShOk k wide high (D1 w h l left top wide high) := by
 have wh : wide * high ≤ 64 := Nat.mul_le_mul w8 h8
 refine ⟨?_, w1, w8, h1, h8, by unfold D1; rw [List.length_map, a8], fun q hq => ?_⟩
 ·refine E9 (ρ := [some (.val (shD w h l)), some (.val (.int left)), some (.val (.int top)), some (.val (.int wide)), some (.val (.int high))]) rfl ?_
  have c : L1 2 [0, 1, 2] (V4 (A2 M8 (A0 (A1 3) (A0 (A1 4) A3)))) (M5 2 (B6 (L4 0) (B6 (L4 1) N5))) K1 (A2 P6 (A0 (A1 2) (A0 (A4 d6 (A1 3) (A1 0)) (A0 (A4 d6 (A1 4) (A1 1)) A3)))) [some (.val (shD w h l)), some (.val (.int left)), some (.val (.int top)), some (.val (.int wide)), some (.val (.int high))] = some ((D1 w h l left top wide high).map Q4.d) := by
   rw [ar1 (l := plc wide (wide * high)) (h1 := fun p => .int p.1) (h2 := fun p => .int p.2) (f := fun p => (atQ w h l (left + p.1) (top + p.2)).d) (r := [some (.val (shD w h l)), some (.val (.int left)), some (.val (.int top))]) rfl ?_ (by rw [a8]; omega) ?_]
   ·unfold D1; rw [List.map_map]; rfl
   ·wp_walk using evD, ac9 w1 w8 h8
   ·intro p _
    wp_walk using evD, o6 S
  wp_walk using evD, an6, c
  rfl
 ·obtain ⟨p, _, rfl⟩ := List.mem_map.mp hq
  exact aD6 S hk _ _
def m7 (w h : Nat) (l : List Q4) : List Q4 := (plc w (w * h)).map fun p => atQ w h l ((w : Int) - 1 - p.1) p.2
theorem ai9 {k w h : Nat} {l : List Q4} (S : ShOk k w h l) (hk : 1 ≤ k) : N4 [shD w h l] = some (shD w h (m7 w h l)) ∧ ShOk k w h (m7 w h l) := by
 have wh : w * h ≤ 64 := Nat.mul_le_mul S.w8 S.h8
 refine ⟨?_, S.w1, S.w8, S.h1, S.h8, by unfold m7; rw [List.length_map, a8], fun q hq => ?_⟩
 ·refine E9 (ρ := [some (.val (shD w h l)), none, none]) rfl ?_
  have c : L1 2 [0, 1] (V4 (A2 M8 (A0 (A1 1) (A0 (A1 2) A3)))) (M5 2 (B6 (L4 0) (B6 (L4 1) N5))) K1 (A2 P6 (A0 (A1 2) (A0 (A4 o5 (A4 o5 (A1 3) (dC (.int 1))) (A1 0)) (A0 (A1 1) A3)))) [some (.val (shD w h l)), some (.val (.int w)), some (.val (.int h))] = some ((m7 w h l).map Q4.d) := by
   rw [ar1 (l := plc w (w * h)) (h1 := fun p => .int p.1) (h2 := fun p => .int p.2) (f := fun p => (atQ w h l ((w : Int) - 1 - p.1) p.2).d) (r := [some (.val (shD w h l)), some (.val (.int w))]) rfl ?_ (by rw [a8]; omega) ?_]
   ·unfold m7; rw [List.map_map]; rfl
   ·wp_walk using evD, ac9 S.w1 S.w8 S.h8
   ·intro p _
    wp_walk using evD, o6 S
  have g0 : dIx (B4 0) (dC (.int 0)) [some (.val (shD w h l)), none, none] = some (.int w) := rfl
  have g1 : dIx (B4 0) (dC (.int 1)) [some (.val (shD w h l)), some (.val (.int w)), none] = some (.int h) := rfl
  simp only [aj9, B7, F3, g0, g1, C1, O8, A0, A3, A1, N7, qN, c, xw0, xw1, xms, xbs, xg0, xg1]
  rfl
 ·obtain ⟨p, _, rfl⟩ := List.mem_map.mp hq
  exact aD6 S hk _ _
def Y5 (w h : Nat) (l : List Q4) : List Q4 := (plc h (h * w)).map fun p => atQ w h l p.2 ((h : Int) - 1 - p.1)
theorem d8 {k w h : Nat} {l : List Q4} (S : ShOk k w h l) (hk : 1 ≤ k) : M7 [shD w h l] = some (shD h w (Y5 w h l)) ∧ ShOk k h w (Y5 w h l) := by
 have wh : h * w ≤ 64 := Nat.mul_le_mul S.h8 S.w8
 refine ⟨?_, S.h1, S.h8, S.w1, S.w8, by unfold Y5; rw [List.length_map, a8], fun q hq => ?_⟩
 ·refine E9 (ρ := [some (.val (shD w h l)), none, none]) rfl ?_
  have c : L1 2 [0, 2] (V4 (A2 M8 (A0 (A1 2) (A0 (A1 1) A3)))) (M5 2 (B6 (L4 0) (B6 (L4 1) N5))) K1 (A2 P6 (A0 (A1 2) (A0 (A1 1) (A0 (A4 o5 (A4 o5 (A1 3) (dC (.int 1))) (A1 0)) A3)))) [some (.val (shD w h l)), some (.val (.int w)), some (.val (.int h))] = some ((Y5 w h l).map Q4.d) := by
   rw [ar1 (l := plc h (h * w)) (h1 := fun p => .int p.1) (h2 := fun p => .int p.2) (f := fun p => (atQ w h l p.2 ((h : Int) - 1 - p.1)).d) (r := [some (.val (shD w h l)), some (.val (.int h))]) rfl ?_ (by rw [a8]; omega) ?_]
   ·unfold Y5; rw [List.map_map]; rfl
   ·wp_walk using evD, ac9 S.h1 S.h8 S.w8
   ·intro p _
    wp_walk using evD, o6 S
  have g0 : dIx (B4 0) (dC (.int 0)) [some (.val (shD w h l)), none, none] = some (.int w) := rfl
  have g1 : dIx (B4 0) (dC (.int 1)) [some (.val (shD w h l)), some (.val (.int w)), none] = some (.int h) := rfl
  simp only [ay9, B7, F3, g0, g1, C1, O8, A0, A3, A1, N7, qN, c, xw0, xw1, xms, xbs, xg0, xg1]
  rfl
 ·obtain ⟨p, _, rfl⟩ := List.mem_map.mp hq
  exact aD6 S hk _ _
def Man.bl (m : Man) (a b : Q4) : Q4 := ⟨m.cov a.c b.c, m.col a.c b.c a.x b.x, m.col a.c b.c a.y b.y, m.col a.c b.c a.z b.z⟩
theorem bn4 (m : Man) {k : Nat} {a b : Q4} (S : a.ok k) (T : b.ok k) (l : 6 * k + 4 ≤ 8000) : W4 [.str m.s, a.d, b.d] = some (m.bl a b).d ∧ (m.bl a b).ok (6 * k + 4) := aD1 m S T l
def blL (m : Man) (a b : List Q4) : List Q4 := (a.zip b).map fun p => m.bl p.1 p.2
theorem bB5 (a b : List Q4) : ((a.map Q4.d).zip (b.map Q4.d)).map (fun (x, y) => PyData.tuple [x, y]) = (a.zip b).map fun p => .tuple [p.1.d, p.2.d] := by
 rw [List.zip_map, List.map_map]; rfl
theorem at1 (m : Man) {k w h : Nat} {a b : List Q4} (S : ShOk k w h a) (T : ShOk k w h b) (l : 6 * k + 4 ≤ 8000) : J7 [.str m.s, shD w h a, shD w h b] = some (shD w h (blL m a b)) ∧ ShOk (6 * k + 4) w h (blL m a b) := by
 have wh : w * h ≤ 64 := Nat.mul_le_mul S.w8 S.h8
 have hz : (a.zip b).length = w * h := by rw [List.length_zip, S.len, T.len, Nat.min_self]
 refine ⟨?_, S.w1, S.w8, S.h1, S.h8, by unfold blL; rw [List.length_map, hz], fun q hq => ?_⟩
 ·refine E9 (ρ := [some (.val (.str m.s)), some (.val (shD w h a)), some (.val (shD w h b)), none]) rfl ?_
  have g : r8 (qE (dIx (B4 1) (dC (.int 2)))) (qE (dIx (B4 2) (dC (.int 2)))) [some (.val (.str m.s)), some (.val (shD w h a)), some (.val (shD w h b)), none] = some (((a.map Q4.d).zip (b.map Q4.d)).map (fun (x, y) => PyData.tuple [x, y])) := rfl
  have c : L1 2 [0] (r8 (qE (dIx (B4 1) (dC (.int 2)))) (qE (dIx (B4 2) (dC (.int 2))))) (M5 2 (B6 (L4 0) (B6 (L4 1) N5))) K1 (A2 W4 (A0 (A1 2) (A0 (A1 0) (A0 (A1 1) A3)))) [some (.val (.str m.s)), some (.val (shD w h a)), some (.val (shD w h b)), none] = some ((blL m a b).map Q4.d) := by
   rw [ar1 (l := a.zip b) (h1 := fun p => p.1.d) (h2 := fun p => p.2.d) (f := fun p => (m.bl p.1 p.2).d) (r := [some (.val (.str m.s))]) rfl (by rw [g, bB5]) (by omega) ?_]
   ·unfold blL; rw [List.map_map]; rfl
   ·intro p hp
    have pa := S.ok p.1 (List.of_mem_zip hp).1
    have pb := T.ok p.2 (List.of_mem_zip hp).2
    wp_walk using evD, (bn4 m pa pb l).1
  have g0 : ∀ v : Option B, dIx (B4 1) (dC (.int 0)) [some (.val (.str m.s)), some (.val (shD w h a)), some (.val (shD w h b)), v] = some (.int w) := fun _ => rfl
  have g1 : ∀ v : Option B, dIx (B4 1) (dC (.int 1)) [some (.val (.str m.s)), some (.val (shD w h a)), some (.val (shD w h b)), v] = some (.int h) := fun _ => rfl
  simp only [Z3, B7, Q0, c, g0, g1, C1, O8, A0, A3, N7, B4, xw0, xw1, xms, xbs, xg0, xg1]
  rfl
 ·obtain ⟨p, hp, rfl⟩ := List.mem_map.mp hq
  exact (bn4 m (S.ok p.1 (List.of_mem_zip hp).1) (T.ok p.2 (List.of_mem_zip hp).2) l).2
end Sh
namespace G
open PySem PySem.Spec PyProof.Rows L2
theorem am5 {prog : Program} {w : World} {A : Around} (hh : A.handled = none) (t : Bool) (it l : Addr) (hne : l ≠ it) (xs : Array Value) : Draws prog w A it [it, l] xs.size (fun i x => xs[i]? = some x) (fun i h => SIt t h it l i ∧ SSq t h l xs) := by
 refine ⟨fun i h ⟨a, _⟩ => ?_, fun i h h' ⟨a, b⟩ k => ⟨a.ext fun o e => k it (by simp) o e, b.ext fun o e => k l (by simp) o e⟩, fun i s Q E hi ⟨a, b⟩ hQ => ?_, fun s Q E ⟨a, b⟩ hE => u9 hh a b (by simp) hE⟩
 ·cases t with
  | true => obtain ⟨o, ho, _⟩ := a; exact ⟨o, ho⟩
  | false => obtain ⟨o, ho, _⟩ := a; exact ⟨o, ho⟩
 ·have hx : xs[i]? = some xs[i] := by simp [hi]
  exact f6 a b hx fun h' c sb => hQ _ h' s.toks hx ⟨c, b.ext fun o e => sb.extBut l o hne e⟩ sb
theorem aJ9 (l : Addr) (items : Array Value) (n : Nat) (dd : Option Addr) (sl : Array (Option Value)) :
  Meets (Builtin.«enumerate.__new__» ⟨[.type "enumerate", .ref l], []⟩) (fun _ R s => s.heap.get? l = some ⟨.type "tuple", dd, .seq items n, sl⟩ ∧
   R (.ok (.ret (.ref (s.heap.push (x6 true l)).objs.size))) { s with heap := (s.heap.push (x6 true l)).push { cls := .type "enumerate", data := .fields #[.none, .bool false, .ref s.heap.objs.size, rawInt 0, .none, .none] } }) := Meets.of_wp fun prog w A R s h => by
 obtain ⟨hp, g, d, tk, os⟩ := s
 obtain ⟨hl, h⟩ := h
 have hsub := sub_enumerate
 have q1 : SSq true (Shared.heap ⟨hp, g, d, tk, os⟩) l items := ⟨_, hl, rfl, n, rfl⟩
 wp_walk using AutoSeq1.wpAny_loadPart' hl
 refine wpAny_stack_any fun st => wpAny_pure ?_
 split
 ·rename_i c _ _ _ _ _
  cases (c == Value.type "enumerate")
  ·wp_walk using AutoSeq1.wpAny_loadPart' hl, f7 q1
   exact ⟨_, rfl, h⟩
  ·wp_walk using AutoSeq1.wpAny_loadPart' hl, f7 q1
   exact ⟨_, rfl, h⟩
 ·wp_walk using AutoSeq1.wpAny_loadPart' hl, f7 q1
  exact ⟨_, rfl, h⟩
section
variable {prog : Program} {w : World} {A : Around} {E : Value → Shared → Prop} {s : Shared} {t : Bool}
theorem ah6 {l : Addr} {xs : Array Value} {Q : Value → Shared → Prop} (hl : SSq t s.heap l xs)
  (h : ∀ h', IsEnum h' (s.heap.objs.size + 1) s.heap.objs.size 0 .none → SIt t h' s.heap.objs.size l 0 → (∀ c o, s.heap.get? c = some o → h'.get? c = some o) → Q (.ref (s.heap.objs.size + 1)) { s with heap := h' }) :
  wpAny (model prog w) A (call (.type "enumerate") [.ref l]) Q E s := by
 cases t with
 | false => exact call_enumerate_list hl fun h' a b _ d => h h' a b d
 | true =>
  obtain ⟨⟨cls, dd, data, sl⟩, ho, hc, n, hd⟩ := hl
  simp only at hc hd
  subst hc hd
  refine callType_new F.called_enumerate (by decide) (F.typeCall_enumerate_1 _) (F.newCall_enumerate_1 _) (fun obj => F.args_object_init_2 obj _) F.entry_enumerate_new (aJ9 l xs n dd sl) ⟨ho, ?_⟩
  have z1 : (s.heap.push (x6 true l)).objs.size = s.heap.objs.size + 1 := Heap.size_push ..
  show _ ∧ _
  rw [z1]
  have he := Heap.get?_push_size (s.heap.push (x6 true l)) (o := { cls := .type "enumerate", data := .fields #[.none, .bool false, .ref s.heap.objs.size, rawInt 0, .none, .none] }) rfl
  rw [z1] at he
  exact ⟨⟨_, he, rfl⟩, h _ he ((ap1 (h := s.heap) (l := l) true).ext fun o e => Heap.get?_push_of_some _ e) fun c o e => Heap.get?_push_of_some _ (Heap.get?_push_of_some _ e)⟩
theorem am4 {e it l : Addr} {i : Int} {k : Nat} {xs : Array Value} {old : Value} {Q : Option Value → Shared → Prop} (hh : A.handled = none) (he : IsEnum s.heap e it i old) (hit : SIt t s.heap it l k) (hl : SSq t s.heap l xs) (hx : xs[k]? = none)
  (hQ : ∀ h', Heap.ExtBut it s.heap h' → Q none { s with heap := h' }) : wpAny (model prog w) A (pyNext (.ref e)) Q E s := by
 have hT : s.TypeIs (.ref e) "enumerate" := ⟨_, he, rfl⟩
 unfold pyNext
 refine wpAny_bind (wpAny_attempt (wpAny_callSpecial?_slot (name := Str.ofString "__next__") hT F.slot_enumerate_next (wpAny_call_entry F.slot_enumerate_next hT F.entry_enumerate_next ?_ (F.args_enumerate_next_1 _))))
 show wpAny _ _ (field (.ref e) 2 >>= _) _ _ _
 refine wpAny_bind (wpAny_field he rfl (x := .ref it) rfl (wpAny_bind (u9 hh hit hl hx fun h' x he' hx' => ?_)))
 obtain ⟨o, ho, hc⟩ := hx'
 exact wpAny_bind (wpAny_isInstance (T := "StopIteration") (b := true) ⟨o, ho, hc⟩ isSubtype_stop (wpAny_pure (hQ _ he')))
end
def Ite (K : PySem.W.Frag) (t : Bool) (a : Addr) : It :=
  ⟨fun i H => ∃ xs x, Sq K t H a xs ∧ xs[i]? = some x,
   fun i H v H' => ∃ T x, v = .ref T ∧ H T = none ∧ H' = upd H T (.tup [.int i, x]) ∧ ∀ xs, Sq K t H a xs → xs[i]? = some x,
   fun i H => ∃ xs, Sq K t H a xs ∧ xs.length ≤ i⟩
theorem aJ3 {P : Program} {w : World} {K : PySem.W.Frag} {elts : List Expr} {k0 : Nat} {pos : Pos} {t : Bool} {e it a : Addr} (h1 : e ≠ it) (h2 : a ≠ e) (h3 : a ≠ it) :
  Turn P w K (.Tuple elts k0 pos) (Ite K t a) [e, it] e (fun i h => (∃ old, IsEnum h e it i old) ∧ SIt t h it a i) where
 mem := by simp
 obj := fun i h ⟨⟨old, he⟩, hi⟩ c hc => by
  simp only [List.mem_cons, List.not_mem_nil, or_false] at hc
  rcases hc with rfl | rfl
  ·exact ⟨_, he, fun v q => by cases q⟩
  ·cases t with
   | true => obtain ⟨o, ho, _, hd⟩ := hi; exact ⟨o, ho, fun v q => by rw [hd] at q; cases q⟩
   | false => obtain ⟨o, ho, _, hd⟩ := hi; exact ⟨o, ho, fun v q => by rw [hd] at q; cases q⟩
 keep := fun i h h' ⟨⟨old, he⟩, hi⟩ hk => ⟨⟨old, hk e (by simp) _ he⟩, hi.ext fun o q => hk it (by simp) o q⟩
 item := by
  intro X hP hw hK hc i pins s σ H E I hf ⟨⟨old, he⟩, hi⟩ hg
  subst hP hw hK
  obtain ⟨xs, x, q1, ex⟩ := hg
  obtain ⟨us, r1, p1, lt1⟩ := R1 I q1
  obtain ⟨ux, eux, rx⟩ := r1.get ex
  have hlt : i < us.toArray.size := by rw [List.size_toArray]; exact (List.getElem?_eq_some_iff.mp eux).1
  refine wpAny_pyNext_enum_itemD (am5 (A := X.A.in1) (I.ok.hd hc) t it a h3 us.toArray) he ⟨hi, p1⟩ hlt h1 (by simp only [List.mem_cons, List.not_mem_nil, or_false, not_or]; exact ⟨h1, fun z => h2 z.symm⟩) fun y h' tk hy ho hst hT hsz hk => ⟨_, rfl, wpAny_letOwnedTupleGo_enum ho fun h'' c1 c2 => ?_⟩
  have ey : y = ux := by
   have : us[i]? = some y := by simpa using hy
   rw [eux] at this
   exact (Option.some.inj this).symm
  subst ey
  have neT : ∀ c o, s.heap.get? c = some o → c ≠ s.heap.objs.size := fun c o q => Nat.ne_of_lt (Heap.lt_size q)
  have up : ∀ c o, c ≠ e → h'.get? c = some o → h''.get? c = some o := fun c o n q => c2.extBut c o n q
  refine ⟨.ref s.heap.objs.size, upd H s.heap.objs.size (.tup [.int i, x]), U8 (s := s) (h' := h'') (t' := tk + 1) (ch := [e, it]) I hf (Nat.le_refl _) (fun c u hc q => ?_) ?_, rfl, ⟨_, x, rfl, I.hok.fresh (Nat.le_refl _), rfl, fun zs hz' => by rw [aB1 I hz' q1]; exact ex⟩, ⟨⟨_, by simpa using c1⟩, hst.1.ext fun o q => up it o h1.symm q⟩, fun c hc => ?_⟩
  ·simp only [List.mem_cons, List.not_mem_nil, or_false, not_or] at hc
   exact up c u hc.1 (hk c u hc.1 hc.2 q)
  ·refine ⟨by show 2 ≤ sizeLine; decide, [.int i tk, y], .cons ⟨tk, rfl⟩ (.cons rx .nil), _, up _ _ ?_ hT, rfl, _, rfl⟩
   exact fun q => neT e _ he q.symm
  ·have lt : c < s.heap.objs.size := by
    simp only [List.mem_cons, List.not_mem_nil, or_false] at hc
    rcases hc with rfl | rfl
    ·exact Heap.lt_size he
    ·exact hi.lt
   rw [A8 (Nat.ne_of_lt lt)]
   exact (hf c hc).1
 done := by
  intro X hP hw hK hc i pins s σ H E I hf ⟨⟨old, he⟩, hi⟩ hg
  subst hP hw hK
  obtain ⟨xs, q1, hl⟩ := hg
  obtain ⟨us, r1, p1, lt1⟩ := R1 I q1
  have l1 := r1.length
  refine am4 (I.ok.hd hc) he hi p1 (by simp; omega) fun h' hk => ⟨rfl, R8 (t' := s.toks) (ch := [e, it]) I hf fun c u hc q => ?_⟩
  simp only [List.mem_cons, List.not_mem_nil, or_false, not_or] at hc
  exact hk c u hc.2 q
 self := fun _ _ _ _ _ st h => by
  obtain ⟨⟨old, he⟩, _⟩ := st
  exact wpAny_pyIter_enum he h
section
variable {X : Cx}
def aj3 (ds : List D) : List D := (List.range ds.length).zip ds |>.map fun (k, d) => PyData.tuple [.int (k : Nat), d]
def bm1 (f : Rho → Option (Bool × List D)) : Rho → Option (List D) := fun ρ => (f ρ).map fun q => aj3 q.2
theorem ax4 (ds : List D) (i : Nat) : (aj3 ds)[i]? = (ds[i]?).map fun d => .tuple [.int i, d] := by
 unfold aj3
 rw [List.getElem?_map]
 cases e : ds[i]? with
 | none =>
  have : ds.length ≤ i := by simpa using e
  have z : ((List.range ds.length).zip ds)[i]? = none := by simp; omega
  rw [z]; rfl
 | some d =>
  have hi := (List.getElem?_eq_some_iff.mp e).1
  have z : ((List.range ds.length).zip ds)[i]? = some (i, d) := List.getElem?_zip_eq_some.mpr ⟨by simp [hi], e⟩
  rw [z]; rfl
theorem j0 (ds : List D) : (aj3 ds).length = ds.length := by unfold aj3; simp
theorem at9 {K : PySem.W.Frag} {t : Bool} {a : Addr} {vs : List V} {ds : List D} {Hf1 : Hp} (h1 : Sq K t Hf1 a vs) (r1 : Reps K Hf1 ds vs) : at6 K (Ite K t a) (aj3 ds) Hf1 := by
 have mono : ∀ {t : Bool} {a : Addr} {xs : List V} {H H' : Hp}, D6 H H' → Sq K t H a xs → Sq K t H' a xs := fun {t a xs H H'} e h => by
  cases t with
  | true => exact B5 e h
  | false => exact D3 e h
 intro i H Hf sa sb
 have m1 := mono (sa.trans sb) h1
 have l1 := r1.length
 refine ⟨fun hi => ⟨vs, m1, by rw [j0] at hi; omega⟩, fun d hd => ?_⟩
 rw [ax4] at hd
 obtain ⟨x, q1, q2⟩ := Option.map_eq_some_iff.mp hd
 subst q2
 obtain ⟨vx, e1, e2⟩ := r1.get q1
 refine ⟨⟨vs, vx, m1, e1⟩, fun v H' ⟨T, x', z1, z2, z3, z4⟩ => ?_⟩
 subst z1 z3
 have w1 := z4 vs m1
 rw [e1] at w1
 cases w1
 have nf : Hf T = none := sb.free z2
 exact ⟨upd Hf T (.tup [.int i, vx]), Grow.laid sb z2, T, [.int i, vx], rfl, SqT.of A7, .int i, [vx], rfl, rfl, vx, [], rfl, (e2.mono sa).mono (B9 nf), rfl⟩
theorem bh4 {elts : List Expr} {k0 : Nat} {tpos : Pos} {a : Expr} {f : DE} {p pos : Pos} (hg : Gl X "enumerate") (hm : X.mg "enumerate" = none) (ha : JE X a f) (hs : starEach [a] X.env = [(false, eval a X.env)] := by rfl) :
  JI X (.Tuple elts k0 tpos) (.Call (.Name "enumerate" p) [a] [] pos) (bm1 (qE f)) := fun ρ out q => by
 obtain ⟨⟨t1, ds⟩, e1, q⟩ := Option.map_eq_some_iff.mp q
 subst q
 obtain ⟨d1, e1, e1'⟩ := Option.bind_eq_some_iff.mp e1
 intro pins s σ H R I ⟨H0, Hf, ss, sl, k⟩
 refine Call_ (i9 I hg hm rfl (PyProof.Rows.callWith_type1 (thn (C0 (ha ρ d1 e1) K2 (by rw [hs]; rfl) pos pins s σ H
  (fun vs H' => ∃ v Hf', vs = [v] ∧ Grow H Hf H' Hf' ∧ Rep X.K Hf' d1 v) I ⟨H0, Hf, ss, sl, fun v H1 Hf1 g1 r1 => ⟨v, Hf1, rfl, g1, r1⟩⟩) fun us s1 ⟨vs, H1, I1, r1, v, Hf1, ev, gr, p1⟩ => ?_) (by rw [hs]; rfl) (by rfl)))
 subst ev
 obtain ⟨uv, rfl, rv⟩ := r1.one
 obtain ⟨a1, vs1, rfl, w1, w2⟩ := p1.seq (D6.refl Hf1) e1'
 cases rv
 have mono : ∀ {t : Bool} {a : Addr} {xs : List V} {H H' : Hp}, D6 H H' → Sq X.K t H a xs → Sq X.K t H' a xs := fun {t a xs H H'} e h => by
  cases t with
  | true => exact B5 e h
  | false => exact D3 e h
 obtain ⟨us1, rr1, hp1, lt1⟩ := R1 I1 (mono gr.sub w1)
 refine ah6 hp1 fun h' b1 b2 b3 => ?_
 have I2 : Inv X pins σ H1 { s1 with heap := h' } := I1.kept (t' := s1.toks) b3
 refine wpAny_pyIter_enum b1 ⟨_, _, _, _, H1, rfl, I2, aJ3 (e := s1.heap.objs.size + 1) (it := s1.heap.objs.size) (a := a1) (Nat.succ_ne_self _) (Nat.ne_of_lt (Nat.lt_succ_of_lt lt1)) (Nat.ne_of_lt lt1), ⟨⟨_, b1⟩, b2⟩, fun b hb => ?_, k _ H1 Hf1 gr (at9 w1 w2)⟩
 have hb' : s1.heap.objs.size ≤ b := by
  simp only [List.mem_cons, List.not_mem_nil, or_false] at hb
  rcases hb with rfl | rfl
  ·exact Nat.le_add_right _ _
  ·exact Nat.le_refl _
 exact I1.fpOk hb' (I1.hok.fresh hb')
end
end G
namespace G
open PySem PySem.Spec PyProof.Rows L2
section
variable {prog : Program} {w : World} {A : Around} {E : Value → Shared → Prop} {s : Shared}
theorem ah5 {l b sl : Addr} {items new : Array Value} {n n2 : Nat} {vl vu : Value} {lo hi : Option Int} {Q : Unit → Shared → Prop}
    (e : s.heap.get? l = some { cls := .type "list", data := .seq items n }) (e2 : s.heap.get? b = some { cls := .type "list", data := .seq new n2 }) (hne : l ≠ b)
    (hs : s.heap.IsSliceOf sl vl vu .none) (pl : IsPart vl lo) (pu : IsPart vu hi) (hsz : items.size + new.size ≤ sizeLine)
    (h : Q () { s with heap := s.heap.update l (Obj.mapSeq fun xs => xs.extract 0 (HT.sIx items.size 0 lo) ++ new ++ xs.extract (max (HT.sIx items.size 0 lo) (HT.sIx items.size items.size hi)) xs.size) }) :
    wpAny (model prog w) A (setItem (.ref l) (.ref sl) (.ref b)) Q E s := by
  have hl : s.heap.IsList l items := PySem.IsL.isList e
  have hb : s.heap.IsList b new := PySem.IsL.isList e2
  obtain ⟨os, hos, hcs, hds⟩ := id hs
  have hTs : s.TypeIs (.ref sl) "slice" := ⟨os, hos, hcs⟩
  have hstep : ¬ ((rawPart none == rawInt 0) = true) := Bool.false_ne_true
  have hsame : Builtin.List.listSameRef (.ref l) (.ref b) = false := by
    unfold Builtin.List.listSameRef
    exact beq_eq_false_iff_ne.mpr hne
  have hbd : sliceBounds lo hi none items.size = (((HT.sIx items.size 0 lo : Nat) : Int), ((HT.sIx items.size items.size hi : Nat) : Int), 1) := by
    obtain ⟨h1, h2, h3⟩ := u8 lo hi items.size
    exact Prod.ext h1 (Prod.ext h2 h3)
  have hmax : (max ((HT.sIx items.size 0 lo : Nat) : Int) ((HT.sIx items.size items.size hi : Nat) : Int)).toNat = max (HT.sIx items.size 0 lo) (HT.sIx items.size items.size hi) := by omega
  have hz' : ((fun xs : Array Value => xs.extract 0 (HT.sIx items.size 0 lo) ++ new ++ xs.extract (max (HT.sIx items.size 0 lo) (HT.sIx items.size items.size hi)) xs.size) items).size ≤ sizeLine + 1 := by
    simp only [Array.size_append, Array.size_extract]
    omega
  unfold setItem
  try with_reducible refine wpAny_holding ?_
  first | refine wpAny_bind (wpAny_pure ?_) | skip
  refine wpAny_bind (wpAny_sequenceKey hl.typeIs (by decide) ?_)
  refine wpAny_bind (wpAny_callSpecial?_slot (name := Str.ofString "__setitem__") hl.typeIs slot_list_setitem (wpAny_call_entry slot_list_setitem hl.typeIs entry_list_setitem ?_ (args_list_setitem _ _ _)))
  show wpAny _ _ (Builtin.List.listSubscript? (.ref sl) >>= _) _ _ s
  refine wpAny_bind ?_
  unfold Builtin.List.listSubscript?
  refine wpAny_bind (wpAny_specialOf hTs slice_no_index ?_)
  simp only [Option.isNone_none, if_true]
  refine wpAny_pure ?_
  show wpAny _ _ (typeOf (.ref sl) >>= _) _ _ s
  refine wpAny_bind (wpAny_typeOf hTs ?_)
  first
    | rw [if_neg (by decide)]
    | refine PySem.W.KFB.if_not (by decide) ?_
  rw [listSliceParts_eq]
  refine wpAny_bind (wpAny_bind (wpAny_field hos hds (x := .none) rfl (wpAny_bind (wpAny_listPart .none ?_))))
  rw [if_neg hstep]
  refine wpAny_bind (wpAny_field hos hds (x := vl) rfl (wpAny_bind (wpAny_listPart pl ?_)))
  refine wpAny_bind (wpAny_field hos hds (x := vu) rfl (wpAny_bind (wpAny_listPart pu (wpAny_pure ?_))))
  first
    | simp only [hsame, xft, if_false]
    | refine PySem.W.KFB.if_not hsame ?_
    | (dsimp only
       rw [if_neg (by rw [hsame]; exact Bool.false_ne_true)])
  refine wpAny_bind (m := Builtin.List.listAllItems (.ref b) "must assign iterable to extended slice") ?_
  unfold Builtin.List.listAllItems
  refine wpAny_bind (wpAny_typeOf hb.typeIs ?_)
  first
    | refine PySem.W.KFB.if_so (by decide) ?_
    | rw [if_pos (by decide)]
    | simp only [beq_self_eq_true, Bool.true_or, if_true]
  unfold Builtin.List.listItems
  refine wpAny_bind (wpAny_seqItems e2 rfl (wpAny_pure ?_))
  refine wpAny_bind (wpAny_bind (wpAny_seqItems e rfl (wpAny_pure ?_)))
  refine wpAny_bind (wpAny_of_eq ((sliceIndices_raw lo hi none items.size (by simp)).trans (congrArg (pure : Int × Int × Int → Sem (Int × Int × Int)) hbd)) ?_)
  show wpAny _ _ (if ((1 : Int) == 1) = true then _ else _) _ _ s
  rw [if_pos (by decide)]
  refine wpAny_bind (wpAny_rule ?_)
  first
    | simp only [g9 hsz, xft, if_false]
    | refine PySem.W.KFB.if_not (g9 hsz) ?_
  first | refine wpAny_bind (wpAny_pure ?_) | skip
  show wpAny _ _ (updateSeq l (fun xs => xs.extract 0 (((HT.sIx items.size 0 lo : Nat) : Int)).toNat ++ new ++ xs.extract (max ((HT.sIx items.size 0 lo : Nat) : Int) ((HT.sIx items.size items.size hi : Nat) : Int)).toNat xs.size) >>= _) _ _ s
  rw [hmax, Int.toNat_natCast]
  refine wpAny_bind (wpAny_updateSeq (hz := Nat.le_trans (Nat.le_add_right _ _) hsz) (_hz' := hz') e rfl ?_)
  refine wpAny_bind (wpAny_letGo ?_)
  first
    | exact wpAny_bind (wpAny_pure (wpAny_pure ⟨.none, rfl, wpAny_pure h⟩))
    | exact wpAny_pure ⟨.none, rfl, wpAny_pure h⟩
end
section
variable {X : Cx}
def au6 {α : Type} (xs : List α) (lo hi : Option Int) (ys : List α) : List α := xs.take (HT.sIx xs.length 0 lo) ++ ys ++ xs.drop (max (HT.sIx xs.length 0 lo) (HT.sIx xs.length xs.length hi))
theorem aB3 {pins : List (Addr × Obj)} {s : Shared} {σ : L2.St} {H : Hp} {l b sl : Addr} {xs ys : List V} {lo hi : Option Int} {vl vu : Value} {Q : Unit → Shared → Prop} (I : Inv X pins σ H s)
  (hH : H l = some (.lst xs)) (hB : H b = some (.lst ys)) (hne : l ≠ b) (hs : s.heap.IsSliceOf sl vl vu .none) (pl : IsPart vl lo) (pu : IsPart vu hi)
  (hz : xs.length + ys.length ≤ sizeLine) (h : ∀ s', Inv X pins σ (upd H l (.lst (au6 xs lo hi ys))) s' → Q () s') :
  wpAny (model X.prog X.w) X.A (setItem (.ref l) (.ref sl) (.ref b)) Q X.xe s := by
 obtain ⟨z, its, n, r, hl, e⟩ := I.lstM hH
 obtain ⟨z2, its2, n2, r2, hl2, e2⟩ := I.lstM hB
 refine ah5 e e2 hne hs pl pu (by rw [List.size_toArray, List.size_toArray]; omega) (h _ ?_)
 have hz0 : its.toArray.size = xs.length := by rw [List.size_toArray]; exact hl.symm
 refine I.lset (its' := its.take (HT.sIx xs.length 0 lo) ++ its2 ++ its.drop (max (HT.sIx xs.length 0 lo) (HT.sIx xs.length xs.length hi))) (t' := s.toks) hH e ?_ (B8.append (B8.append (r.take _) r2) (r.drop _)) ?_
 ·have e0 := aJ7 its its2 (HT.sIx xs.length 0 lo) (max (HT.sIx xs.length 0 lo) (HT.sIx xs.length xs.length hi))
  rw [hz0] at e0 ⊢
  exact e0
 ·unfold au6
  rw [List.length_append, List.length_append, List.length_take, List.length_drop]
  omega
theorem aR6 {K : PySem.W.Frag} {H : Hp} {ds es : List D} {vs us : List V} (h : Reps K H ds vs) (g : Reps K H es us) (lo hi : Option Int) : Reps K H (au6 ds lo hi es) (au6 vs lo hi us) := by
 unfold au6
 rw [h.length]
 exact ((h.take _).append g).append (h.drop _)
theorem Slots.reOwn {K : PySem.W.Frag} {H0 H Hf : Hp} {ρ : Rho} {σ : L2.St} {i : Nat} {ds ds' : List D} {b : Addr} {vs' : List V} (sl : Slots K H0 ρ σ H Hf) (eo : ρ[i]? = some (some (.own ds))) (h1 : σ[i]? = some (some (.ref b))) (hf : Hf b = none) (h0 : H0 b = none) (r : Reps K Hf ds' vs') :
  Slots K H0 (ρ.set i (some (.own ds'))) σ (upd H b (.lst vs')) Hf := by
 refine ⟨by simpa using sl.len, fun j bb z => ?_, fun j k ds1 es c q1 q2 q3 q4 => ?_⟩
 ·by_cases qj : i = j
  ·subst qj
   have hi : i < ρ.length := (List.getElem?_eq_some_iff.mp eo).1
   rw [List.getElem?_set_self hi] at z
   cases z
   exact ⟨_, h1, b, vs', rfl, A7, hf, h0, r⟩
  ·rw [List.getElem?_set_ne qj] at z
   obtain ⟨u, z1, z2⟩ := sl.is j bb z
   refine ⟨u, z1, ?_⟩
   cases bb with
   | val d => exact z2
   | own dd =>
    obtain ⟨a', us', y1, y2, y3, y4, y5⟩ := z2
    have ne : a' ≠ b := fun zz => by
     subst zz y1
     exact qj (sl.apart i j ds dd a' eo z h1 z1)
    exact ⟨a', us', y1, by rw [A8 ne]; exact y2, y3, y4, y5⟩
 ·have f : ∀ (j : Nat) (es : List D), (ρ.set i (some (B.own ds')))[j]? = some (some (B.own es)) → ∃ dd : List D, ρ[j]? = some (some (B.own dd)) := fun j es q => by
   by_cases qj : i = j
   ·subst qj; exact ⟨ds, eo⟩
   ·rw [List.getElem?_set_ne qj] at q; exact ⟨_, q⟩
  obtain ⟨d1, q1'⟩ := f j _ q1
  obtain ⟨d2, q2'⟩ := f k _ q2
  exact sl.apart j k d1 d2 c q1' q2' q3 q4
def bD5 (i : Nat) (lo hi : Rho → Option (Option Int)) (f : Rho → Option (List D)) : DS := fun ρ => (f ρ).bind fun es => (lo ρ).bind fun l => (hi ρ).bind fun h => match ρ[i]? with
 | some (some (.own ds)) => if ds.length + es.length ≤ 16777216 then some (.nx (ρ.set i (some (.own (au6 ds l h es))))) else none
 | _ => none
theorem bv5 (i : Nat) {x : Str} {e : Expr} {lo hi : Option Expr} {f : Rho → Option (List D)} {l h : Rho → Option (Option Int)} {p p2 pos' pos : Pos} (he : JN X e f) (hl : JO X lo l) (hh : JO X hi h) (hN : X.N[i]? = some x := by rfl)
  (hv : Vis X.env.scope x := by first | exact Or.inl rfl | exact Or.inr (Or.inl rfl) | exact Or.inr (Or.inr rfl)) (hd : (x == ("__debug__" : Str)) = false := by decide) (hcd : (x == ("__classdict__" : Str)) = false := by decide)
  (hsw : swapsWith e (some (.Subscript (.Name x p) (.Slice lo hi none p2) pos')) pos.line X.env = pure false := by rfl) : JS X (.Assign [.Subscript (.Name x p) (.Slice lo hi none p2) pos'] e pos) (bD5 i l h f) := fun ρ fl q H0 Hf0 => by
 obtain ⟨es, e1, q⟩ := Option.bind_eq_some_iff.mp q
 obtain ⟨y, e2, q⟩ := Option.bind_eq_some_iff.mp q
 obtain ⟨z, e3, q⟩ := Option.bind_eq_some_iff.mp q
 split at q
 ·rename_i ds eo
  split at q
  ·rename_i hz
   cases q
   intro pins s σ H En I ⟨Hf, a, ee⟩
   refine wpAny_Assign_Subscript (thn (he ρ es e1 pins s σ H (fun v H' => ∃ Hf', Grow H Hf H' Hf' ∧ ∃ b us, v = .ref b ∧ H b = none ∧ H' b = some (.lst us) ∧ Hf' b = none ∧ Reps X.K Hf' es us) I ⟨H0, Hf, a.gr.sub, a.sl, fun v H' Hf' g r => ⟨Hf', g, r⟩⟩) fun v s1 ⟨x1, H1, I1, r1, Hf1, g1, b, us, ev, b1, b2, b3, b4⟩ => ?_) hsw
   subst ev
   cases r1
   obtain ⟨vl0, h1, c, vs, ev, h2, h3, h4, h5⟩ := a.sl.is i _ eo
   subst ev
   refine thn (p5 hN hv hd hcd pins s1 σ H1 (fun v H' => v = .ref c ∧ H' = H1) I1 ⟨_, h1, rfl, rfl⟩) fun ov s2 ⟨x2, H2, I2, r2, ex, eH⟩ => ?_
   subst ex eH
   cases r2
   have sl1 := a.sl.grow g1
   refine wpAny_Slice (thn (hl ρ y e2 pins s2 σ H2 (fun o H' => o = y ∧ ∃ Hf', Grow H2 Hf1 H' Hf') I2 ⟨H0, Hf1, g1.sub, sl1, fun H' Hf' g => ⟨rfl, Hf', g⟩⟩) fun wl s3 ⟨o3, H3, I3, pl, eo3, Hf3, g3⟩ => ?_)
   subst eo3
   have sl3 := sl1.grow g3
   refine thn (hh ρ z e3 pins s3 σ H3 (fun o H' => o = z ∧ ∃ Hf', Grow H3 Hf3 H' Hf') I3 ⟨H0, Hf3, g3.sub, sl3, fun H' Hf' g => ⟨rfl, Hf', g⟩⟩) fun wu s4 ⟨o4, H4, I4, pu, eo4, Hf4, g4⟩ => ?_
   subst eo4
   have sl4 := sl3.grow g4
   have gg : Grow H Hf H4 Hf4 := (g1.trans g3).trans g4
   rw [evalPart_none]
   refine wpAny_pure ?_
   have I5 : Inv X pins σ H4 { s4 with heap := s4.heap.push { cls := .type "slice", data := .fields #[wl, wu, .none] } } := I4.kept (t' := s4.toks) fun b ob q => Heap.get?_push_of_some _ q
   have hc : H4 c = some (.lst vs) := gg.big _ _ h2
   have hb : H4 b = some (.lst us) := (g3.trans g4).big _ _ b2
   have hcb : c ≠ b := fun zz => by subst zz; rw [h2] at b1; cases b1
   have hfc : Hf4 c = none := gg.nofr h2 h3
   have rd : Reps X.K Hf4 (au6 ds o3 o4 es) (au6 vs o3 o4 us) := aR6 (h5.mono gg.ext) (b4.mono (g3.trans g4).ext) _ _
   refine aB3 I5 hc hb hcb (Heap.IsSliceOf.new ..) pl pu (by rw [h5.length, b4.length, sizeLine_eq]; exact hz) fun s' I' => ?_
   have ga := a.gr.trans gg
   refine ⟨σ, _, I', ee σ _ Hf4 ⟨⟨fun d u zz => ?_, fun d u zz => ?_, ga.ext, ga.new⟩, sl4.reOwn eo h1 hfc h4 rd⟩ gg.ext⟩
   ·rw [A8 (A9 zz h4)]; exact ga.big d u zz
   ·rw [A8 (A9 zz hfc)]; exact ga.sub d u zz
  ·cases q
 ·cases q
theorem bg6 (i : Nat) {N' : List Str} {n : Nat} {caps : List Nat} {scope : Scope} {elt tgt iter : Expr} {ifs : List Expr} {pos pos' spos : Pos} {x : Str} {src : Rho → Option (List D)} {g : D → Rho → Option Rho} {c : Rho → Option Bool} {e : DE} (hN : X.N.Nodup) (S : CompSc X N' n caps scope) (hx : ∀ e s, X.xe e s → False)
  (hi : JI X tgt iter src) (hg : ∀ C s0 H0 ex, JG (D4 X N' scope C s0 H0 ex) tgt g) (ht : ∀ C s0 H0 ex, JTs (D4 X N' scope C s0 H0 ex) ifs c) (he : ∀ C s0 H0 ex, JE (D4 X N' scope C s0 H0 ex) elt e)
  (hi2 : X.N[i]? = some x := by rfl) (hl : X.env.scope.names.lookup x = some .local := by rfl) (hsw : swapsWith (.ListComp elt [⟨tgt, iter, ifs, 0⟩] scope pos) (some (.Name x pos')) spos.line X.env = pure true := by rfl)
  (hc : X.calm = true := by rfl) (hs : ∀ x, foldedSetIterable iter X.env x = pure x := by intro _; rfl) : JS X (.Assign [.Name x pos'] (.ListComp elt [⟨tgt, iter, ifs, 0⟩] scope pos) spos) (aR3 i (L1 n caps src g c e)) := fun ρ fl q H0 Hf0 => by
 obtain ⟨out, e1, e2⟩ := Option.map_eq_some_iff.mp q
 subst e2
 obtain ⟨ds, e3, k⟩ := t7 (K := X.K) e1
 refine O1 (ai3 S hx hc hN hi2 hl (hi ρ ds e3) (g := tgJ X.K g) (tc := al1 X.K c) (te := aE5 X.K e) hg ht (fun C s0 H0 ex pins s σ H Q I ⟨ρ, d, e, t⟩ => he C s0 H0 ex ρ d e pins s σ H Q I t) hsw hs) fun En σ H ⟨Hf, a, ee⟩ => k σ H _ ⟨H0, Hf, a.gr.sub, a.sl, fun v H' Hf' gg ⟨p, vs, z1, z2, z3, z4, z5⟩ => ?_⟩
 subst z1
 exact ee _ H' Hf' ⟨a.gr.trans gg, a.sl.setOwn gg (a.gr.big.free z2) z2 z3 z4 z5⟩ gg.ext
def bk7 : DS := fun ρ => some (.ct ρ)
theorem bg7 {pos : Pos} : JS X (.Continue pos) bk7 := fun ρ fl q H0 Hf0 => by
 cases q
 exact O1 av0 fun En σ H ⟨Hf, a, e⟩ => e σ H Hf a (D6.refl _)
end
end G
namespace G
open PySem PySem.Spec PyProof.Rows L2
section
variable {X : Cx}
def bc5 (x : Str) (k : Int) : Str := if (k == 1 || x.length == 0) = true then x else ⟨(List.replicate k.toNat x.cps).foldl (· ++ ·) #[]⟩
def bu1 (x y : D) : Option D := match x, y with
 | .str x, .int k => if 1 ≤ k ∧ k ≤ 2 ∧ x.length ≤ 1000 ∧ (bc5 x k).length ≤ 16777216 then some (.str (bc5 x k)) else none
 | _, _ => none
theorem bf2 : OpD X (binaryOp .Mult) bu1 := fun x y z h => by
 unfold bu1 at h
 split at h
 ·split at h
  ·rename_i x k c
   cases h
   intro pins s σ H vx vy v u Q I rx ry ⟨Hf, ss, r1, r2, kk⟩
   cases r1
   cases r2
   obtain ⟨t, rfl⟩ := rx
   obtain ⟨t2, rfl⟩ := ry
   have w := kk (.str (bc5 x k)) H Hf (Grow.refl ss) rfl
   have k12 : k = 1 ∨ k = 2 := by omega
   refine P.mul_str (by rw [decide_eq_false (by omega), decide_eq_false (by omega)]; rfl) (fun _ _ => by rcases k12 with rfl | rfl <;> omega) (fun _ _ => ?_) ?_
   ·unfold Builtin.Str.tooLong
    rw [sizeLine_eq]
    refine decide_eq_false ?_
    rcases k12 with rfl | rfl <;> simp <;> omega
   ·rw [if_neg (by omega)]
    unfold bc5 at w c
    split
    ·rename_i e
     rw [if_pos e] at w
     exact ⟨.str x, H, I, ⟨_, rfl⟩, w⟩
    ·rename_i e
     rw [if_neg e] at w c
     exact ⟨by rw [sizeLine_eq]; exact c.2.2.2, .str _, H, I.tok _, ⟨_, rfl⟩, w⟩
  ·cases h
 ·cases h
def slS (x : Str) (lo hi : Option Int) : Str := if ((1 : Int) == 1 && (Builtin.Str.strSliceIndices lo hi 1 x.length).length == x.length) = true then x else ⟨((Builtin.Str.strSliceIndices lo hi 1 x.length).filterMap (x.cps[·]?)).toArray⟩
def bI2 (f : DE) (lo hi : Rho → Option (Option Int)) : DE := fun ρ => (f ρ).bind fun d => (lo ρ).bind fun l => (hi ρ).bind fun h => match d with
 | .str x => if x.length ≤ 1000 ∧ (slS x l h).length ≤ 16777216 then some (.str (slS x l h)) else none
 | _ => none
theorem part_of {u : Value} {o : Option Int} (h : IsPart u o) : ∃ p : Option (Int × Tok), u = partValue p ∧ p.map (·.1) = o := by
 cases h with
 | none => exact ⟨none, rfl, rfl⟩
 | int i t => exact ⟨some (i, t), rfl, rfl⟩
theorem bc3 : SlR X (fun x lo hi H Q => ∃ z, x = .str z ∧ (slS z lo hi).length ≤ 16777216 ∧ Q (.str (slS z lo hi)) H) := by
 intro pins s σ H x v vl vu lo hi sl Q I rx hs pl pu h
 obtain ⟨z, rfl, hz, q⟩ := h
 obtain ⟨t, rfl⟩ := rx
 obtain ⟨pl', rfl, rfl⟩ := part_of pl
 obtain ⟨pu', rfl, rfl⟩ := part_of pu
 refine ⟨"str", _, F.slot_str_getitem.lookup, typeIs_str s z t, wpAny_getItem_str_slice (l := pl') (u := pu') (st := none) hs rfl ?_⟩
 show (if ((1 : Int) == 1 && (Builtin.Str.strSliceIndices (pl'.map (·.1)) (pu'.map (·.1)) 1 z.length).length == z.length) = true then Made.val (.str z t) else Made.str ⟨((Builtin.Str.strSliceIndices (pl'.map (·.1)) (pu'.map (·.1)) 1 z.length).filterMap (z.cps[·]?)).toArray⟩).post _ _
 unfold slS at q hz
 by_cases e : ((1 : Int) == 1 && (Builtin.Str.strSliceIndices (pl'.map (·.1)) (pu'.map (·.1)) 1 z.length).length == z.length) = true
 ·rw [if_pos e] at q ⊢
  exact ⟨.str z, H, I, ⟨_, rfl⟩, q⟩
 ·rw [if_neg e] at q hz ⊢
  exact ⟨by rw [sizeLine_eq]; exact hz, .str _, H, I.tok _, ⟨_, rfl⟩, q⟩
theorem bx5 {a : Expr} {lo hi : Option Expr} {f : DE} {l h : Rho → Option (Option Int)} {pos p2 : Pos} (ha : JE X a f) (hl : JO X lo l) (hh : JO X hi h) : JE X (.Subscript a (.Slice lo hi none p2) pos) (bI2 f l h) := fun ρ d q => by
 obtain ⟨x, e1, q⟩ := Option.bind_eq_some_iff.mp q
 obtain ⟨y, e2, q⟩ := Option.bind_eq_some_iff.mp q
 obtain ⟨z, e3, q⟩ := Option.bind_eq_some_iff.mp q
 cases x with
 | str x =>
  simp only at q
  split at q
  ·rename_i c
   cases q
   refine A6 (v7 bc3 (ha ρ _ e1) (hl ρ y e2) (hh ρ z e3)) fun σ H Q ⟨H0, Hf, s, sl, k⟩ => ?_
   refine ⟨H0, Hf, s, sl, fun v H1 Hf1 g1 r1 => ⟨H0, Hf1, g1.sub, sl.grow g1, fun H2 Hf2 g2 => ⟨H0, Hf2, g2.sub, sl.grow (g1.trans g2), fun H3 Hf3 g3 => ?_⟩⟩⟩
   exact ⟨x, r1, c.2, k _ H3 Hf3 ((g1.trans g2).trans g3) rfl⟩
  ·cases q
 | _ => cases q
def bq7 (i : Nat) (f : DE) : DS := fun ρ => match ρ[i]? with
 | some (some (.own ds)) => (f ρ).bind fun d => match d with
  | .list es => if ds.length + es.length ≤ 16777216 then some (.nx (ρ.set i (some (.own (ds ++ es))))) else none
  | .tuple es => if ds.length + es.length ≤ 16777216 then some (.nx (ρ.set i (some (.own (ds ++ es))))) else none
  | _ => none
 | _ => none
end
end G
namespace G
open PySem PySem.Spec PyProof.Rows L2
section
variable {X : Cx}
def bG0 (f g : Rho → Option (Bool × List D)) : Rho → Option (List D) := fun ρ => (f ρ).bind fun p => (g ρ).bind fun q => if p.1 = false ∧ q.1 = false ∧ p.2.length + q.2.length ≤ 16777216 then some (p.2 ++ q.2) else none
theorem bw7 {a b : Expr} {f g : Rho → Option (Bool × List D)} {pos : Pos} (ha : JQ X a f) (hb : JQ X b g) : JN X (.BinOp a .Add b pos) (bG0 f g) := fun ρ out q => by
 obtain ⟨⟨t1, xs⟩, e1, q⟩ := Option.bind_eq_some_iff.mp q
 obtain ⟨⟨t2, ys⟩, e2, q⟩ := Option.bind_eq_some_iff.mp q
 split at q
 ·rename_i c
  obtain ⟨c1, c2, c3⟩ := c
  simp only at c1 c2 c3
  subst c1 c2
  cases q
  refine A6 (bl3 aF9 (ha ρ _ _ e1) (hb ρ _ _ e2)) fun σ H Q ⟨H0, Hf, s, sl, k⟩ => ?_
  refine ⟨H0, Hf, s, sl, fun v H1 Hf1 g1 ⟨p, vs, z1, z2, z3⟩ => ⟨H0, Hf1, g1.sub, sl.grow g1, fun u H2 Hf2 g2 ⟨p', us, z1', z2', z3'⟩ => ?_⟩⟩
  subst z1 z1'
  refine ⟨p, p', vs, us, rfl, rfl, D3 g2.big z2, z2', by rw [z3.length, z3'.length, sizeLine_eq]; exact c3, fun n hn => ?_⟩
  exact k _ _ _ ((g1.trans g2).trans (Grow.made g2.sub hn)) ⟨n, vs ++ us, rfl, (g1.trans g2).big.free hn, A7, g2.sub.free hn, (z3.mono g2.ext).append z3'⟩
 ·cases q
end
end G
namespace G
open PySem PySem.Spec PyProof.Rows L2
section
variable {X : Cx}
theorem bj3 (l b : Addr) (xs ys : Array Value) (n m : Nat) (dd : Option Addr) (sl : Array (Option Value)) (h0 : ¬(!xs.isEmpty && Builtin.List.listTooLong (xs.size + ys.size)) = true) (h1 : xs.size ≤ sizeLine) (h2 : xs.size + ys.size ≤ sizeLine + 1) :
  Meets (Builtin.«list.extend» ⟨[.ref l, .ref b], []⟩) (fun _ R s => s.heap.get? l = some { cls := .type "list", data := .seq xs n } ∧ s.heap.get? b = some ⟨.type "list", dd, .seq ys m, sl⟩ ∧
   R (.ok (.ret Value.none)) { s with heap := s.heap.update l (Obj.mapSeq fun x => x ++ ys), toks := s.toks }) :=
 .of_wp fun prog w A R s h => by
  obtain ⟨hp, g, d, tk, os⟩ := s
  obtain ⟨hl, hb, h⟩ := h
  have f1 := AutoSeq1.idx_int
  have f2 := AutoSeq1.sub_tuple_tuple
  have f3 := AutoSeq1.sub_list_list
  have f4 := AutoSeq1.sub_tuple_list
  have f5 := AutoSeq1.sub_list_tuple
  have hz' : (xs ++ ys).size ≤ sizeLine + 1 := by rw [Array.size_append]; exact h2
  wp_walk using (wpAny_updateSeq hl rfl (hz := h1) (_hz' := hz')), AutoSeq1.wpAny_loadPart' hl, AutoSeq1.wpAny_loadPart' hb
  exact ⟨_, rfl, h⟩
theorem bj2 (l b : Addr) (xs ys : Array Value) (n m : Nat) (dd : Option Addr) (sl : Array (Option Value)) (h0 : ¬(!xs.isEmpty && Builtin.List.listTooLong (xs.size + ys.size)) = true) (h1 : xs.size ≤ sizeLine) (h2 : xs.size + ys.size ≤ sizeLine + 1) :
  Meets (Builtin.«list.extend» ⟨[.ref l, .ref b], []⟩) (fun _ R s => s.heap.get? l = some { cls := .type "list", data := .seq xs n } ∧ s.heap.get? b = some ⟨.type "tuple", dd, .seq ys m, sl⟩ ∧
   R (.ok (.ret Value.none)) { s with heap := s.heap.update l (Obj.mapSeq fun x => x ++ ys), toks := s.toks }) :=
 .of_wp fun prog w A R s h => by
  obtain ⟨hp, g, d, tk, os⟩ := s
  obtain ⟨hl, hb, h⟩ := h
  have f1 := AutoSeq1.idx_int
  have f2 := AutoSeq1.sub_tuple_tuple
  have f3 := AutoSeq1.sub_list_list
  have f4 := AutoSeq1.sub_tuple_list
  have f5 := AutoSeq1.sub_list_tuple
  have hz' : (xs ++ ys).size ≤ sizeLine + 1 := by rw [Array.size_append]; exact h2
  wp_walk using (wpAny_updateSeq hl rfl (hz := h1) (_hz' := hz')), AutoSeq1.wpAny_loadPart' hl, AutoSeq1.wpAny_loadPart' hb
  exact ⟨_, rfl, h⟩
def bK8 (K : PySem.W.Frag) : V → List V → Hp → VK → Prop := fun x vs H Q => ∃ l b xs zs, x = .ref l ∧ vs = [.ref b] ∧ H l = some (.lst xs) ∧ (SqL K H b zs ∨ SqT K H b zs) ∧ xs.length + zs.length ≤ sizeLine ∧ Q .non (upd H l (.lst (xs ++ zs)))
theorem aU6 : MtM X "list.extend" (bK8 X.K) := by
 intro pins s σ H x vs v us Q I rx rv h
 obtain ⟨l, b, xs, zs, rfl, rfl, hH, hB, hz, q⟩ := h
 cases rx
 obtain ⟨u, rfl, ru⟩ := rv.one
 cases ru
 obtain ⟨z, its, n, r, hl, e⟩ := I.lstM hH
 rcases hB with hB | hB
 ·obtain ⟨its2, r2, pl, _⟩ := I.list hB
  obtain ⟨⟨cls, dd, data, sl⟩, ho, hc, m, hd⟩ := pl.isList
  simp only at hc hd
  subst hc hd
  have hl2 := r2.length
  have hsz : its.toArray.size + its2.toArray.size ≤ sizeLine := by rw [List.size_toArray, List.size_toArray]; omega
  have hlong : ¬ (!its.toArray.isEmpty && Builtin.List.listTooLong (its.toArray.size + its2.toArray.size)) = true := by
   rw [g9 hsz, Bool.and_false]; exact Bool.false_ne_true
  refine call_meets F.slot_list_extend ⟨_, e, rfl⟩ F.entry_list_extend (F.args_list_extend_2 _ _) (bj3 l b its.toArray its2.toArray n m dd sl hlong (by rw [List.size_toArray]; omega) (by omega)) ⟨e, ho, ?_⟩
  refine ⟨.non, _, I.lset (its' := its ++ its2) hH e (by simp) (r.append r2) ?_, rfl, q⟩
  rw [List.length_append]; omega
 ·obtain ⟨its2, r2, pl, _⟩ := I.tuple hB
  obtain ⟨⟨cls, dd, data, sl⟩, ho, hc, m, hd⟩ := pl
  simp only at hc hd
  subst hc hd
  have hl2 := r2.length
  have hsz : its.toArray.size + its2.toArray.size ≤ sizeLine := by rw [List.size_toArray, List.size_toArray]; omega
  have hlong : ¬ (!its.toArray.isEmpty && Builtin.List.listTooLong (its.toArray.size + its2.toArray.size)) = true := by
   rw [g9 hsz, Bool.and_false]; exact Bool.false_ne_true
  refine call_meets F.slot_list_extend ⟨_, e, rfl⟩ F.entry_list_extend (F.args_list_extend_2 _ _) (bj2 l b its.toArray its2.toArray n m dd sl hlong (by rw [List.size_toArray]; omega) (by omega)) ⟨e, ho, ?_⟩
  refine ⟨.non, _, I.lset (its' := its ++ its2) hH e (by simp) (r.append r2) ?_, rfl, q⟩
  rw [List.length_append]; omega
theorem bw1 (i : Nat) {x : Str} {e : Expr} {f : DE} {p apos cpos pos : Pos} (h : JE X e f) (hN : X.N[i]? = some x) (hv : Vis X.env.scope x) (hd : (x == ("__debug__" : Str)) = false)
  (hcd : (x == ("__classdict__" : Str)) = false) (hline : (apos.endLine == cpos.line) = true) (hs : starEach [e] X.env = [(false, eval e X.env)]) :
  JS X (.Expr (.Call (.Attribute (.Name x p) "extend" apos) [e] [] cpos) pos) (bq7 i f) := fun ρ fl q H0 Hf0 => by
 unfold bq7 at q
 split at q
 ·rename_i ds eo
  obtain ⟨d, e1, q⟩ := Option.bind_eq_some_iff.mp q
  split at q
  ·rename_i es
   split at q
   ·rename_i hz
    cases q
    refine O1 (aq3 (aF8 PySem.F.plainAttrs_list PySem.F.slot_list_extend PySem.F.type_list_extend aU6 (p5 hN hv hd hcd) (C0 (h ρ _ e1) K2 hs) rfl (by rw [hs]; rfl) hline hs) rfl) fun En σ H ⟨Hf, a, ee⟩ => ?_
    obtain ⟨v, h1, b, vs, rfl, h2, h3, h4, h5⟩ := a.sl.is i _ eo
    refine ⟨_, h1, .inl ⟨rfl, vs, SqL.of h2⟩, H0, Hf, a.gr.sub, a.sl, fun w H' Hf' gg r => ?_⟩
    obtain ⟨b2, us, rfl, r1, r2⟩ := r
    have hb : H' b = some (.lst vs) := gg.big _ _ h2
    have hfb : Hf' b = none := gg.nofr h2 h3
    have g2 := a.gr.trans gg
    have sl2 := a.sl.grow gg
    refine ⟨b, b2, vs, us, rfl, rfl, hb, .inl (D3 gg.sub r1), by rw [h5.length, r2.length, sizeLine_eq]; exact hz, ee _ _ Hf' ⟨⟨fun c u z => ?_, fun c u z => ?_, g2.ext, g2.new⟩, ?_⟩ gg.ext⟩
    ·rw [A8 (A9 z h4)]; exact g2.big c u z
    ·rw [A8 (A9 z hfb)]; exact g2.sub c u z
    ·exact sl2.reOwn eo h1 hfb h4 ((h5.mono gg.ext).append r2)
   ·cases q
  ·rename_i es
   split at q
   ·rename_i hz
    cases q
    refine O1 (aq3 (aF8 PySem.F.plainAttrs_list PySem.F.slot_list_extend PySem.F.type_list_extend aU6 (p5 hN hv hd hcd) (C0 (h ρ _ e1) K2 hs) rfl (by rw [hs]; rfl) hline hs) rfl) fun En σ H ⟨Hf, a, ee⟩ => ?_
    obtain ⟨v, h1, b, vs, rfl, h2, h3, h4, h5⟩ := a.sl.is i _ eo
    refine ⟨_, h1, .inl ⟨rfl, vs, SqL.of h2⟩, H0, Hf, a.gr.sub, a.sl, fun w H' Hf' gg r => ?_⟩
    obtain ⟨b2, us, rfl, r1, r2⟩ := r
    have hb : H' b = some (.lst vs) := gg.big _ _ h2
    have hfb : Hf' b = none := gg.nofr h2 h3
    have g2 := a.gr.trans gg
    have sl2 := a.sl.grow gg
    refine ⟨b, b2, vs, us, rfl, rfl, hb, .inr (B5 gg.sub r1), by rw [h5.length, r2.length, sizeLine_eq]; exact hz, ee _ _ Hf' ⟨⟨fun c u z => ?_, fun c u z => ?_, g2.ext, g2.new⟩, ?_⟩ gg.ext⟩
    ·rw [A8 (A9 z h4)]; exact g2.big c u z
    ·rw [A8 (A9 z hfb)]; exact g2.sub c u z
    ·exact sl2.reOwn eo h1 hfb h4 ((h5.mono gg.ext).append r2)
   ·cases q
  ·cases q
 ·cases q
end
end G
namespace G
open PySem PySem.Spec PyProof.Rows L2
def ax9 (a : List Str) (x : Str) : List Str := if a.any (· == x) then a else a ++ [x]
def ddN (v : Nat → Str) (i : Nat) : List Str := ((List.range i).map v).foldl ax9 []
def ddS (l : List Str) : List Str := l.foldl ax9 []
theorem aj4 (v : Nat → Str) (i : Nat) : ddN v (i + 1) = ax9 (ddN v i) (v i) := by
 unfold ddN
 rw [List.range_succ, List.map_append, List.foldl_append]
 rfl
theorem aZ3 (v : Nat → Str) : ∀ i, (ddN v i).length ≤ i
 | 0 => Nat.le_refl 0
 | i + 1 => by
  have ih := aZ3 v i
  rw [aj4]
  unfold ax9
  split
  ·omega
  ·rw [List.length_append, List.length_singleton]
   omega
theorem bz9 (a : List Str) (x y : Str) : (ax9 a x).any (· == y) = (a.any (· == y) || decide (y = x)) := by
 unfold ax9
 by_cases q : a.any (· == x) = true
 ·rw [if_pos q]
  by_cases e : y = x
  ·subst e; rw [q]; simp
  ·simp [e]
 ·rw [if_neg q, List.any_append]
  by_cases e : y = x
  ·subst e; simp
  ·have : (x == y) = false := by simpa [beq_iff_eq] using fun z : x = y => e z.symm
   simp [this, e]
theorem bz8 (a : List Str) (x : Str) : (ax9 a x).length = if a.any (· == x) then a.length else a.length + 1 := by
 unfold ax9
 split <;> simp
theorem bA0 (l : List Str) (d : Str) : ddN (fun i => l.getD i d) l.length = ddS l := by
 unfold ddN ddS
 congr 1
 refine List.ext_getElem? fun i => ?_
 rw [List.getElem?_map]
 by_cases hi : i < l.length
 ·rw [List.getElem?_range hi, List.getElem?_eq_getElem hi]
  simp [List.getD, List.getElem?_eq_getElem hi]
 ·rw [List.getElem?_eq_none (by simpa using hi), List.getElem?_eq_none (by simpa using hi)]
  rfl
section
variable {prog : Program} {w : World} {A : Around} {R : Result → Shared → Prop} {J : Addr} {fp wr : List Addr} {Gn : Array GenState → Array GenState → Prop} {n : Nat} {P : Nat → Value → Prop} {St : Nat → Shared → Prop}
theorem aR1 (W : WalksS prog w A.in1 J fp wr Gn n P St) (S : Addr) (hS1 : S ∉ fp) (v : Nat → Str) (hv : ∀ i u, P i u → ∃ t, u = .str (v i) t) (hb : n + 1 < scanBound) :
  ∀ (k i : Nat) (s : Shared), n - i = k → i ≤ n → St i s → s.heap.SetOf (strKind prog w) S (fun y => (ddN v i).any (· == y)) (ddN v i).length →
   (∀ s', Moved (S :: wr) Gn s s' → s'.heap.SetOf (strKind prog w) S (fun y => (ddN v n).any (· == y)) (ddN v n).length → R (.ok (.ret .none)) s') →
   codeAny (model prog w) A (.builtin "set.update.loop" ⟨[.ref S, .ref J], []⟩) R s := by
 have hS2 : S ∉ wr := fun z => hS1 (W.sub _ z)
 have more : ∀ b ∈ wr, b ∈ S :: wr := fun b z => List.mem_cons_of_mem _ z
 intro k
 induction k with
 | zero =>
  intro i s e1 e2 q1 q2 q3
  obtain rfl : i = n := by omega
  refine codeAny_builtin PyProof.Rows.F.entry_set_update_loop ?_
  rw [Around.under_plainId PyProof.Rows.F.plain_set_update_loop _]
  show wpAny _ _ (pyNext (.ref J) >>= _) _ _ _
  refine wpAny_bind (W.done s _ _ q1 fun s' mv => ?_)
  show wpAny _ _ (ret Value.none) _ _ _
  refine wpAny_pure (q3 s' (mv.mono more) ?_)
  obtain ⟨o, es, ep, tb, ho, more'⟩ := q2
  exact ⟨o, es, ep, tb, mv.heap S _ hS2 ho, more'⟩
 | succ k ih =>
  intro i s e1 e2 q1 q2 q3
  have lt : i < n := by omega
  refine codeAny_builtin PyProof.Rows.F.entry_set_update_loop ?_
  rw [Around.under_plainId PyProof.Rows.F.plain_set_update_loop _]
  show wpAny _ _ (pyNext (.ref J) >>= _) _ _ _
  refine wpAny_bind (W.item i s _ _ lt q1 fun u s' hP q1' mv => ?_)
  obtain ⟨t, rfl⟩ := hv i u hP
  have q2' : s'.heap.SetOf (strKind prog w) S (fun y => (ddN v i).any (· == y)) (ddN v i).length := by
   obtain ⟨o, es, ep, tb, ho, more'⟩ := q2
   exact ⟨o, es, ep, tb, mv.heap S _ hS2 ho, more'⟩
  show wpAny _ _ (holding [Value.str (v i) t] (setAdd S (.str (v i) t)) >>= _) _ _ _
  refine wpAny_bind (wpAny_holding ?_)
  unfold setAdd
  refine wpAny_holding (wpAny_bind ((strKind prog w).pyHash (k := v i) (strKind_is _ _ _ _) ?_))
  have room : (ddN v i).length + 1 < scanBound := by have := aZ3 v i; omega
  refine wpAny_setAddHashed_of (knd := strKind prog w) (s := { s' with toks := s'.toks + 1 }) (strKind_is _ _ _ _) rfl q2' room fun h' sb q4 => ?_
  have q5 : h'.SetOf (strKind prog w) S (fun y => (ddN v (i + 1)).any (· == y)) (ddN v (i + 1)).length := SetOf_congr q4 (fun y => by rw [aj4, bz9]) (by rw [aj4, bz8])
  refine wpAny_pure ⟨plainId_quiet PyProof.Rows.F.plain_set_update_loop _, ih (i + 1) _ (by omega) lt (W.frame _ s' _ _ q1' (Nat.le_succ _) fun b z o e => ?_) q5 fun s2 mv2 q6 => ?_⟩
  ·rw [sb.2 b (fun y : b = S => hS1 (by rw [← y]; exact z))]; exact e
  ·refine q3 s2 (Moved.trans W.gtrans ((mv.mono more).then_heap (Nat.le_succ _) fun b o z e => ?_) mv2) q6
   rw [sb.2 b (fun y : b = S => z (by rw [y]; exact List.mem_cons_self))]; exact e
end
section
variable {prog : Program} {w : World} {A : Around} {E : Value → Shared → Prop} {s : Shared}
abbrev S1 (b : Bool) : Obj := { cls := .type "set", dict := none, data := .set #[] 0 (.fresh 0 0 b) }
theorem au7 {l : Addr} {its : Array Value} {xs : List Str} {Q : Value → Shared → Prop} (hh : A.handled = none) (hl : s.heap.IsList l its) (hi : ∀ (i : Nat) (u : Value), its[i]? = some u → ∃ t, u = .str (xs.getD i "") t) (hb : its.size + 1 < scanBound)
  (h : ∀ (h' : Heap) (tk : Nat), h'.SetOf (strKind prog w) s.heap.objs.size (fun y => (ddN (fun i => xs.getD i "") its.size).any (· == y)) (ddN (fun i => xs.getD i "") its.size).length →
   (∀ b o, b < s.heap.objs.size → s.heap.get? b = some o → h'.get? b = some o) → Q (.ref s.heap.objs.size) { s with heap := h', toks := tk }) :
  wpAny (model prog w) A (call (.type "set") [.ref l]) Q E s := by
 obtain ⟨c, tl, hmro⟩ := F.called_set.mro
 have hmade := F.called_set.made
 have hsub := F.called_set.sub
 refine wpAny_call (codeAny_of_tree ?_)
 show wpAny _ _ (callAny (.type "set") _) _ _ _
 refine wpAny_pure ⟨Code.quiet_builtin _ (by decide +kernel), codeAny_builtin F.entry_type_call ?_⟩
 rw [Around.under_plain (weight_type_call_type "set" [.ref l] []) rfl]
 have n1 := F.called_set.notType
 have n2 := F.called_set.canCreate
 have n3 := F.typeCall_set_1 (.ref l)
 repeat (any_goals (first | assumption | wp_step))
 refine codeAny_mono (code_set_new_1 (.ref l) (E := E) (Q₁ := fun ob s1 => ∃ b : Bool, ob = .ref s.heap.objs.size ∧ s1 = { s with heap := s.heap.push (S1 b) }) fun b => ⟨b, rfl, rfl⟩) fun r s1 hr => ?_
 cases r with
 | error e => exact hr
 | ok fl =>
  cases fl with
  | ret ob =>
   obtain ⟨b, rfl, rfl⟩ := hr
   have g0 : (s.heap.push (S1 b)).get? s.heap.objs.size = some (S1 b) := Heap.get?_push_size _ rfl
   have hT : Shared.TypeIs { s with heap := s.heap.push (S1 b) } (.ref s.heap.objs.size) "set" := ⟨_, g0, rfl⟩
   have li := F.called_set.init.lookup
   have bi := F.called_set.init.bind (.ref s.heap.objs.size)
   repeat (any_goals (first | assumption | wp_step))
   refine codeAny_mono (codeAny_call_builtin (R := wants (fun r s2 => r = .none ∧ ∃ h' tk, s2 = { s with heap := h', toks := tk } ∧ h'.SetOf (strKind prog w) s.heap.objs.size (fun y => (ddN (fun i => xs.getD i "") its.size).any (· == y)) (ddN (fun i => xs.getD i "") its.size).length ∧
     (∀ b o, b < s.heap.objs.size → s.heap.get? b = some o → h'.get? b = some o)) E) F.called_set.init.plain F.entry_set_init (check_set_init_1 hT ?_)) fun r2 s2 hr2 => ?_
   ·obtain ⟨⟨c0, d0, dt0, sl0⟩, hol, hcl, nl, hdl⟩ := hl
    simp only at hcl hdl
    subst hcl hdl
    have hol' : (s.heap.push (S1 b)).get? l = some { cls := .type "list", dict := d0, data := .seq its nl, slots := sl0 } := Heap.get?_push_of_some _ hol
    have f1 := F.sub_list_set
    have f2 := F.sub_list_frozenset
    have f3 : (Value.type "list" == Value.type "dict") = false := by decide
    have hl1 : (s.heap.push (S1 b)).IsList l its := ⟨_, hol', rfl, nl, rfl⟩
    unfold Builtin.«set.__init__» noKeywords Builtin.Frozenset.updateFrom
    generalize hPI : pyIter = PI
    wp_walk
    subst hPI
    refine wpAny_pyIter_list hl1 (wpAny_bind (wpAny_runValue ?_))
    have lS : l < s.heap.objs.size := Heap.lt_size hol
    have h3 : A.in1.in1.in1.handled = none := by simp [hh]
    have nI : l ≠ (s.heap.push (S1 b)).objs.size := by
     rw [Heap.size_push]
     exact Nat.ne_of_lt (Nat.lt_succ_of_lt lS)
    have nf : s.heap.objs.size ∉ [(s.heap.push (S1 b)).objs.size, l] := by
     rw [Heap.size_push]
     simp only [List.mem_cons, List.mem_singleton, List.not_mem_nil, or_false, not_or]
     exact ⟨Nat.ne_of_lt (Nat.lt_succ_self _), Nat.ne_of_gt lS⟩
    refine aR1 ((Walks.list h3 _ l nI its).toS) s.heap.objs.size nf (fun i => xs.getD i "") hi hb (its.size - 0) 0 _ (by omega) (Nat.zero_le _) ⟨⟨_, Heap.get?_push_size _ rfl, rfl, rfl⟩, (hl1.push _)⟩ ?hS0 ?hR
    case hS0 =>
     have gt : ((s.heap.push (S1 b)).push { cls := .type "list_iterator", data := .fields #[.ref l, .int 0 0] }).get? s.heap.objs.size = some (S1 b) := Heap.get?_push_of_some _ g0
     exact SetOf_congr ((setObjOf_fresh (knd := strKind prog w) b).setOf gt (by unfold scanBound; omega)) (fun _ => rfl) rfl
    case hR =>
     intro s' mv q
     obtain ⟨h', g', d', tk', os'⟩ := s'
     have eg : g' = s.gens := mv.gens
     have ed : d' = s.drawn := mv.drawn
     have eo : os' = s.os := mv.os
     subst eg ed eo
     show wpAny _ _ _ _ _ _
     refine wpAny_pure ?_
     show wpAny _ _ (ret Value.none) _ _ _
     refine wpAny_pure ⟨rfl, h', tk', rfl, q, fun c o hc e => ?_⟩
     have c1 : c ≠ s.heap.objs.size := Nat.ne_of_lt hc
     have c2 : c ≠ (s.heap.push (S1 b)).objs.size := by
      rw [Heap.size_push]
      exact Nat.ne_of_lt (Nat.lt_succ_of_lt hc)
     exact mv.heap c o (by simp only [List.mem_cons, List.mem_singleton, List.not_mem_nil, or_false, not_or]; exact ⟨c1, c2⟩) (Heap.get?_push_of_some _ (Heap.get?_push_of_some _ e))
   ·cases r2 with
    | error e => exact hr2
    | ok fl2 =>
     cases fl2 with
     | ret r =>
      obtain ⟨rfl, h', tk, rfl, q1, q2⟩ := hr2
      repeat (any_goals (first | assumption | wp_step))
      exact h _ _ q1 q2
     | _ => exact hr2.elim
  | _ => exact hr.elim
end
end G
namespace G
open PySem PySem.Spec PyProof.Rows L2
section
variable {X : Cx}
def SetO (X : Cx) (a : Addr) (n : Nat) : HO := .ext fun h => ∃ S, h.SetOf (strKind X.prog X.w) a S n
theorem bA5 : bootBuiltins "set" = some (.type "set") := by decide +kernel
theorem au1 : ∀ {ys : List Str} {us : List Value}, B8 (ys.map V.str) us → ∀ (i : Nat) (u : Value), us[i]? = some u → ∃ t, u = .str (ys.getD i "") t
 | [], [], _, i, u, h => by simp at h
 | y :: ys, u :: us, h, i, v, e => by
  cases h with
  | cons a b =>
   cases i with
   | zero =>
    simp only [xg0, Option.some.injEq] at e
    subst e
    obtain ⟨t, e⟩ := a
    exact ⟨t, e⟩
   | succ i =>
    simp only [xg1] at e
    obtain ⟨t, e'⟩ := au1 b i v e
    exact ⟨t, e'⟩
theorem aN9 (hc : X.calm = true) : S4 X (.type "set") (fun xs H Q => ∃ p ys, xs = [.ref p] ∧ SqL X.K H p (ys.map V.str) ∧ ys.length ≤ 4000 ∧ ∀ l, H l = none → Q (.ref l) (upd H l (SetO X l (ddS ys).length))) := by
 intro pins s σ H xs us Q I r h
 obtain ⟨p, ys, rfl, hq, hz, q⟩ := h
 obtain ⟨u, rfl, rx⟩ := W9 r
 cases rx
 obtain ⟨its, rv, pl, _⟩ := I.list hq
 have hl : its.length = ys.length := by have := rv.length; rw [List.length_map] at this; exact this.symm
 have hs : its.toArray.size = ys.length := by rw [List.size_toArray]; exact hl
 refine au7 (xs := ys) (I.ok.hd hc) pl.isList (fun i u e => au1 rv i u (by rw [List.getElem?_toArray] at e; exact e)) (by rw [hs]; unfold scanBound; omega) fun h' tk q1 q2 => ?_
 rw [hs, bA0] at q1
 refine ⟨.ref _, _, I.laid (a := s.heap.objs.size) (o := SetO X s.heap.objs.size (ddS ys).length) (h' := h') (t' := tk) (fun b o e => q2 b o (Heap.lt_size e) e) (Nat.le_refl _) ⟨⟨_, q1⟩, ?_, ?_⟩, rfl, q _ I.fresh⟩
 ·obtain ⟨o, es, ep, t, ho, _⟩ := q1
  exact ⟨o, ho⟩
 ·intro h1 h2 ⟨S, o, es, ep, t, ho, Q2⟩ k
  exact ⟨S, o, es, ep, t, k o ho, Q2⟩
theorem aO4 : S4 X (.builtin "len") (fun xs H Q => ∃ p n, xs = [.ref p] ∧ H p = some (SetO X p n) ∧ Q (.int n) H) := by
 intro pins s σ H xs us Q I r h
 obtain ⟨p, n, rfl, hp, q⟩ := h
 obtain ⟨u, rfl, rx⟩ := W9 r
 cases rx
 obtain ⟨⟨S, o, es, ep, t, ho, hex, hd, _, _, hb, hf, hn⟩, _, _⟩ := I.hok p _ hp
 have : es.size < 4096 := hb
 exact call_len_set ho hex hd hf (by omega) ⟨.int n, H, I.tok _, ⟨_, by rw [hn]⟩, q⟩
def aH4 (f : Rho → Option (Bool × List D)) : DE := fun ρ => (f ρ).bind fun q => if q.1 = true then none else (aE7 q.2).bind fun ys => if ys.length ≤ 4000 then some (.int (ddS ys).length) else none
theorem aM4 {e : Expr} {f : Rho → Option (Bool × List D)} {p p2 pos pos2 : Pos} (hg : Gl X "len") (hm : X.mg "len" = none) (hg2 : Gl X "set") (hm2 : X.mg "set" = none) (h : JQ X e f) (hc : X.calm = true) (he : starEach [e] X.env = [(false, eval e X.env)]) :
  JE X (.Call (.Name "len" p) [.Call (.Name "set" p2) [e] [] pos2] [] pos) (aH4 f) := fun ρ d q => by
 obtain ⟨⟨t, ds⟩, h1, q⟩ := Option.bind_eq_some_iff.mp q
 split at q
 ·cases q
 ·rename_i ht
  have ht : t = false := by simpa using ht
  subst ht
  obtain ⟨ys, h2, q⟩ := Option.bind_eq_some_iff.mp q
  split at q
  ·rename_i hz
   cases q
   refine A6 (O7 aO4 hg hm aD2 (C0 (W1 (aN9 hc) hg2 hm2 bA5 (C0 (h ρ false ds h1) K2 he) (he := he)) K2 rfl)) fun σ H Q ⟨H0, Hf, s, sl, k⟩ => ?_
   refine ⟨H0, Hf, s, sl, fun v H1 Hf1 g1 ⟨a, vs, e1, e2, e3⟩ => ⟨a, ys, by rw [e1], ?_, hz, fun l hl => ⟨l, _, rfl, A7, ?_⟩⟩⟩
   ·rw [← ac6 h2 e3]; exact e2
   ·exact k _ _ _ (g1.trans (Grow.made g1.sub hl)) rfl
  ·cases q
end
end G
namespace G
open PySem PySem.Spec PyProof.Rows L2
section
variable {X : Cx}
def bH7 (x y : Str) : Bool := !(Builtin.Str.occurrences y x 0 y.length 1).isEmpty
def inS (neg : Bool) (x y : D) : Option D := match x, y with
 | .str i, .str j => some (.bool (if neg then !bH7 i j else bH7 i j))
 | _, _ => none
theorem bt8 : OpD X (compareOp .In) (inS false) := fun x y z h => by
 cases x <;> cases y <;> first | (cases h; done) | skip
 rename_i i j
 cases h
 refine OpR.imp aK4 fun vx vy H Q ⟨Hf, s, rx, ry, k⟩ => ?_
 cases rx
 cases ry
 exact ⟨i, j, rfl, rfl, k _ H Hf (Grow.refl s) rfl⟩
theorem aK9 : OpD X (compareOp .NotIn) (inS true) := fun x y z h => by
 cases x <;> cases y <;> first | (cases h; done) | skip
 rename_i i j
 cases h
 refine OpR.imp aq5 fun vx vy H Q ⟨Hf, s, rx, ry, k⟩ => ?_
 cases rx
 cases ry
 exact ⟨i, j, rfl, rfl, k _ H Hf (Grow.refl s) rfl⟩
def bn0 (f : DE) : DE := fun ρ => (f ρ).bind fun d => match d with
 | .str x => if x.length ≤ 16777216 then some (.int x.length) else none
 | _ => none
theorem bi3 {e : Expr} {f : DE} {p pos : Pos} (hg : Gl X "len") (hm : X.mg "len" = none) (h : JE X e f) (he : starEach [e] X.env = [(false, eval e X.env)]) : JE X (.Call (.Name "len" p) [e] [] pos) (bn0 f) := fun ρ d q => by
 obtain ⟨y, h1, h2⟩ := Option.bind_eq_some_iff.mp q
 obtain ⟨x, rfl⟩ : ∃ x, y = .str x := by
  cases y with
  | str x => exact ⟨x, rfl⟩
  | _ => cases h2
 have h2 : (if x.length ≤ 16777216 then some (PyData.int x.length) else none) = some d := h2
 split at h2
 ·rename_i hz
  cases h2
  refine A6 (O7 as9 hg hm aD2 (C0 (h ρ _ h1) K2 he) (he := he)) fun σ H Q ⟨H0, Hf, s, sl, k⟩ => ?_
  refine ⟨H0, Hf, s, sl, fun v H1 Hf1 g1 r => ⟨x, ?_, by rw [sizeLine_eq]; exact hz, k _ H1 Hf1 g1 rfl⟩⟩
  cases r; rfl
 ·cases h2
def Its (x : Str) : It := ⟨fun i _ => i < x.cps.size, fun i H v H' => H' = H ∧ ∃ c, x.cps[i]? = some c ∧ v = .str ⟨#[c]⟩, fun i _ => x.cps.size ≤ i⟩
theorem aP9 {P : Program} {w : World} {K : PySem.W.Frag} {tg : Expr} (x : Str) (t : Tok) (it : Addr) : Turn P w K tg (Its x) [it] it (fun i h => h.IsStrIter it "str_ascii_iterator" x t i) where
 mem := by simp
 obj := fun i h st b hb => by
  have e : b = it := by simpa using hb
  subst e
  obtain ⟨o, e, c, d⟩ := st
  exact ⟨o, e, fun v z => by rw [d] at z; cases z⟩
 keep := fun i h h' st k => by
  obtain ⟨o, e, r⟩ := st
  exact ⟨o, k it (by simp) o e, r⟩
 item := by
  intro X hP hw hK hc i pins s σ H E I hf st hg
  subst hP hw hK
  obtain ⟨f0, f1, f2, f3, f4, f5⟩ := hf it (by simp)
  have hi : i < x.cps.size := hg
  refine wpAny_pyNext_ascii_item st (c := x.cps[i]) (by simp [hi]) fun h' st' sb => ?_
  have I1 : Inv X pins σ H { s with heap := h', toks := s.toks + 1 } := I.turned (t' := s.toks + 1) (fun b o hb e => (sb.2 b hb).trans e) f0 f1 f3 f4 f5
  obtain ⟨o, e, c, d⟩ := id st'
  exact ⟨_, rfl, ax1 (s := { s with heap := h', toks := s.toks + 1 }) e c d (by decide) ⟨.str ⟨#[x.cps[i]]⟩, H, I1, ⟨_, rfl⟩, ⟨rfl, _, by simp [hi], rfl⟩, st', fun b hb => (hf b hb).1⟩⟩
 done := by
  intro X hP hw hK hc i pins s σ H E I hf st hg
  subst hP hw hK
  obtain ⟨f0, f1, f2, f3, f4, f5⟩ := hf it (by simp)
  have hi : x.cps.size ≤ i := hg
  exact wpAny_pyNext_ascii_end (I.ok.hd hc) st (by simp [hi]) fun h' eb => ⟨rfl, I.turned (t' := s.toks) (fun b o hb e => eb b o hb e) f0 f1 f3 f4 f5⟩
 self := fun _ _ _ _ _ st h => wpAny_pyIter_striter_ascii st h
def aE9 (x : Str) : List D := x.cps.toList.map fun c => .str ⟨#[c]⟩
def bH2 (f : DE) : Rho → Option (List D) := fun ρ => (f ρ).bind fun d => match d with
 | .str x => if x.cps.all (· < 128) = true then some (aE9 x) else none
 | _ => none
theorem bw9 {tg e : Expr} {f : DE} (h : JE X e f) : JI X tg e (bH2 f) := fun ρ ds q => by
 obtain ⟨d, e1, e2⟩ := Option.bind_eq_some_iff.mp q
 obtain ⟨x, rfl⟩ : ∃ x, d = .str x := by
  cases d with
  | str x => exact ⟨x, rfl⟩
  | _ => cases e2
 have e2 : (if x.cps.all (· < 128) = true then some (aE9 x) else none) = some ds := e2
 split at e2
 ·rename_i ha
  cases e2
  intro pins s σ H R I ⟨H0, Hf, ss, sl, k⟩
  refine thn (h ρ _ e1 pins s σ H (fun v H' => ∃ Hf', Grow H Hf H' Hf' ∧ v = .str x) I ⟨H0, Hf, ss, sl, fun v H' Hf' g r => ⟨Hf', g, r⟩⟩) fun v s1 ⟨y, H1, I1, r1, Hf1, g1, ey⟩ => ?_
  subst ey
  obtain ⟨t, rfl⟩ := r1
  refine wpAny_pyIter_ascii ha ?_
  have I2 : Inv X pins σ H1 { s1 with heap := s1.heap.push { cls := .type "str_ascii_iterator", data := .fields #[.str x t, .int 0 0] } } := I1.kept (t' := s1.toks) fun b u e => Heap.get?_push_of_some _ e
  refine ⟨_, _, _, Its x, H1, rfl, I2, aP9 x t s1.heap.objs.size, ⟨_, Heap.get?_push_size _ rfl, rfl, rfl⟩, fun b hb => ?_, k _ H1 Hf1 g1 fun i H' Hf' sa sb => ⟨fun hi => ?_, fun d hd => ?_⟩⟩
  ·have hb' : s1.heap.objs.size ≤ b := by rw [List.mem_singleton] at hb; rw [hb]; exact Nat.le_refl _
   exact I1.fpOk hb' (I1.hok.fresh hb')
  ·show x.cps.size ≤ i
   simpa [aE9] using hi
  ·unfold aE9 at hd
   rw [List.getElem?_map] at hd
   obtain ⟨c, c1, c2⟩ := Option.map_eq_some_iff.mp hd
   have c1' : x.cps[i]? = some c := by rw [← Array.getElem?_toList]; exact c1
   refine ⟨(Array.getElem?_eq_some_iff.mp c1').1, fun v H'' ⟨h1, c', h2, h3⟩ => ?_⟩
   subst h1 h3 c2
   rw [c1'] at h2
   cases h2
   exact ⟨Hf', Grow.refl sb, rfl⟩
 ·cases e2
end
end G
namespace G
open PySem PySem.Spec PyProof PyProof.Rows L2
section
variable {X : Cx}
def mnF (m x : Int) : Int := if x < m then x else m
def mxF (m x : Int) : Int := if x > m then x else m
def mnL : List Int → Int
 | [] => 0
 | a :: r => r.foldl mnF a
def mxL : List Int → Int
 | [] => 0
 | a :: r => r.foldl mxF a
theorem aG2 : ∀ (l : List Int) (z : Int), (l.foldl mnF z = z ∨ l.foldl mnF z ∈ l) ∧ l.foldl mnF z ≤ z ∧ ∀ a ∈ l, l.foldl mnF z ≤ a
 | [], z => ⟨.inl rfl, Int.le_refl _, fun a h => by simp at h⟩
 | x :: l, z => by
  obtain ⟨h1, h2, h3⟩ := aG2 l (mnF z x)
  rw [List.foldl_cons]
  have k : (mnF z x = z ∨ mnF z x = x) ∧ mnF z x ≤ z ∧ mnF z x ≤ x := by unfold mnF; split <;> omega
  refine ⟨?_, by omega, fun a ha => ?_⟩
  ·rcases h1 with h | h
   ·rcases k.1 with q | q
    ·left; rw [h, q]
    ·right; rw [h, q]; exact List.mem_cons_self ..
   ·right; exact List.mem_cons_of_mem _ h
  ·rcases List.mem_cons.mp ha with rfl | ha
   ·omega
   ·exact h3 a ha
theorem aG1 : ∀ (l : List Int) (z : Int), (l.foldl mxF z = z ∨ l.foldl mxF z ∈ l) ∧ z ≤ l.foldl mxF z ∧ ∀ a ∈ l, a ≤ l.foldl mxF z
 | [], z => ⟨.inl rfl, Int.le_refl _, fun a h => by simp at h⟩
 | x :: l, z => by
  obtain ⟨h1, h2, h3⟩ := aG1 l (mxF z x)
  rw [List.foldl_cons]
  have k : (mxF z x = z ∨ mxF z x = x) ∧ z ≤ mxF z x ∧ x ≤ mxF z x := by unfold mxF; split <;> omega
  refine ⟨?_, by omega, fun a ha => ?_⟩
  ·rcases h1 with h | h
   ·rcases k.1 with q | q
    ·left; rw [h, q]
    ·right; rw [h, q]; exact List.mem_cons_self ..
   ·right; exact List.mem_cons_of_mem _ h
  ·rcases List.mem_cons.mp ha with rfl | ha
   ·omega
   ·exact h3 a ha
theorem aU7 {l : List Int} (h : l ≠ []) : mnL l ∈ l ∧ ∀ a ∈ l, mnL l ≤ a := by
 cases l with
 | nil => exact absurd rfl h
 | cons x l =>
  obtain ⟨h1, h2, h3⟩ := aG2 l x
  refine ⟨?_, fun a ha => ?_⟩
  ·rcases h1 with h | h
   ·show l.foldl mnF x ∈ _; rw [h]; exact List.mem_cons_self ..
   ·exact List.mem_cons_of_mem _ h
  ·rcases List.mem_cons.mp ha with rfl | ha
   ·exact h2
   ·exact h3 a ha
theorem aU3 {l : List Int} (h : l ≠ []) : mxL l ∈ l ∧ ∀ a ∈ l, a ≤ mxL l := by
 cases l with
 | nil => exact absurd rfl h
 | cons x l =>
  obtain ⟨h1, h2, h3⟩ := aG1 l x
  refine ⟨?_, fun a ha => ?_⟩
  ·rcases h1 with h | h
   ·show l.foldl mxF x ∈ _; rw [h]; exact List.mem_cons_self ..
   ·exact List.mem_cons_of_mem _ h
  ·rcases List.mem_cons.mp ha with rfl | ha
   ·exact h2
   ·exact h3 a ha
def aH0 : List D → Option (List Int)
 | [] => some []
 | .int i :: r => (aH0 r).map fun ys => i :: ys
 | _ :: _ => none
theorem ac7 {K : PySem.W.Frag} {H : Hp} : ∀ {ds : List D} {ys : List Int} {vs : List V}, aH0 ds = some ys → Reps K H ds vs → vs = ys.map V.int
 | [], ys, vs, h, r => by cases h; exact r
 | .int x :: ds, ys, vs, h, r => by
  obtain ⟨zs, h1, h2⟩ := Option.map_eq_some_iff.mp h
  subst h2
  obtain ⟨v, t, e1, e2, e3⟩ := r
  subst e1
  rw [show v = _ from e2, ac7 h1 e3]; rfl
theorem W0 : ∀ {ys : List Int} {us : List Value}, B8 (ys.map V.int) us → ∃ xs : List (Int × Tok), us = xs.map (fun p => .int p.1 p.2) ∧ xs.map (·.1) = ys
 | [], [], _ => ⟨[], rfl, rfl⟩
 | y :: ys, u :: us, h => by
  cases h with
  | cons a b =>
   obtain ⟨xs, e1, e2⟩ := W0 b
   obtain ⟨t, rfl⟩ := a
   exact ⟨(y, t) :: xs, by rw [e1]; rfl, by rw [xmc, e2]⟩
theorem aO0 (hc : X.calm = true) : S4 X (.builtin "min") (fun xs H Q => ∃ p ns, xs = [.ref p] ∧ SqL X.K H p (ns.map V.int) ∧ ns ≠ [] ∧ Q (.int (mnL ns)) H) := by
 intro pins s σ H xs us Q I r h
 obtain ⟨p, ns, rfl, hq, hz, q⟩ := h
 obtain ⟨u, rfl, rx⟩ := W9 r
 cases rx
 obtain ⟨its, rv, pl, _⟩ := I.list hq
 obtain ⟨zs, e1, e2⟩ := W0 rv
 have hl : s.heap.IsList p (intItems zs.toArray) := by
  have := pl.isList
  rw [e1] at this
  simpa [intItems] using this
 have hzs : zs.toArray.toList.map (·.1) = ns := by simpa using e2
 have hn : 0 < zs.toArray.size := by
  cases zs with
  | nil => exact absurd e2.symm hz
  | cons => simp
 refine min_intList (I.ok.hd hc) hl hn fun v h' tk hv hk => ?_
 obtain ⟨t, rfl⟩ := intItems_at hv
 obtain ⟨b1, b2⟩ := argBest_lt (numAt zs.toArray) (zs.toArray.size - 1)
 have key : numAt zs.toArray (argBest (fun i j => decide (numAt zs.toArray i < numAt zs.toArray j)) (zs.toArray.size - 1)) = mnL ns := by
  obtain ⟨m1, m2⟩ := aU7 hz
  have g : ∀ j, j < zs.toArray.size → numAt zs.toArray j ∈ ns := fun j hj => by
   rw [numAt_eq, hzs]; exact getD_mem (by rw [← hzs, List.length_map, Array.length_toList]; omega)
  refine Int.le_antisymm ?_ (m2 _ (g _ (by omega)))
  rw [← hzs] at m1
  obtain ⟨j, hj, e⟩ := mem_getD m1
  rw [List.length_map, Array.length_toList] at hj
  have := b2 j (by omega)
  rw [numAt_eq zs.toArray j, e, hzs] at this
  exact this
 rw [key]
 exact ⟨.int _, H, I.kept (t' := tk) hk, ⟨_, rfl⟩, q⟩
theorem aO2 (hc : X.calm = true) : S4 X (.builtin "max") (fun xs H Q => ∃ p ns, xs = [.ref p] ∧ SqL X.K H p (ns.map V.int) ∧ ns ≠ [] ∧ Q (.int (mxL ns)) H) := by
 intro pins s σ H xs us Q I r h
 obtain ⟨p, ns, rfl, hq, hz, q⟩ := h
 obtain ⟨u, rfl, rx⟩ := W9 r
 cases rx
 obtain ⟨its, rv, pl, _⟩ := I.list hq
 obtain ⟨zs, e1, e2⟩ := W0 rv
 have hl : s.heap.IsList p (intItems zs.toArray) := by
  have := pl.isList
  rw [e1] at this
  simpa [intItems] using this
 have hzs : zs.toArray.toList.map (·.1) = ns := by simpa using e2
 have hn : 0 < zs.toArray.size := by
  cases zs with
  | nil => exact absurd e2.symm hz
  | cons => simp
 refine max_intList (I.ok.hd hc) hl hn fun v h' tk hv hk => ?_
 obtain ⟨t, rfl⟩ := intItems_at hv
 obtain ⟨b1, b2⟩ := argBest_gt (numAt zs.toArray) (zs.toArray.size - 1)
 have key : numAt zs.toArray (argBest (fun i j => decide (numAt zs.toArray i > numAt zs.toArray j)) (zs.toArray.size - 1)) = mxL ns := by
  obtain ⟨m1, m2⟩ := aU3 hz
  have g : ∀ j, j < zs.toArray.size → numAt zs.toArray j ∈ ns := fun j hj => by
   rw [numAt_eq, hzs]; exact getD_mem (by rw [← hzs, List.length_map, Array.length_toList]; omega)
  refine Int.le_antisymm (m2 _ (g _ (by omega))) ?_
  rw [← hzs] at m1
  obtain ⟨j, hj, e⟩ := mem_getD m1
  rw [List.length_map, Array.length_toList] at hj
  have := b2 j (by omega)
  rw [numAt_eq zs.toArray j, e, hzs] at this
  exact this
 rw [key]
 exact ⟨.int _, H, I.kept (t' := tk) hk, ⟨_, rfl⟩, q⟩
def bm6 (f : Rho → Option (Bool × List D)) : DE := fun ρ => (f ρ).bind fun q => if q.1 = true then none else (aH0 q.2).bind fun ns => if ns = [] then none else some (.int (mnL ns))
def bm8 (f : Rho → Option (Bool × List D)) : DE := fun ρ => (f ρ).bind fun q => if q.1 = true then none else (aH0 q.2).bind fun ns => if ns = [] then none else some (.int (mxL ns))
theorem bh9 {e : Expr} {f : Rho → Option (Bool × List D)} {p pos : Pos} (hg : Gl X "min") (hm : X.mg "min" = none) (h : JQ X e f) (hc : X.calm = true) (he : starEach [e] X.env = [(false, eval e X.env)]) : JE X (.Call (.Name "min" p) [e] [] pos) (bm6 f) := fun ρ d q => by
 obtain ⟨⟨t, ds⟩, h1, q⟩ := Option.bind_eq_some_iff.mp q
 split at q
 ·cases q
 ·rename_i ht
  have ht : t = false := by simpa using ht
  subst ht
  obtain ⟨ys, h2, q⟩ := Option.bind_eq_some_iff.mp q
  split at q
  ·cases q
  ·rename_i hz
   cases q
   refine A6 (O7 (aO0 hc) hg hm ba5 (C0 (h ρ false ds h1) K2 he) (he := he)) fun σ H Q ⟨H0, Hf, s, sl, k⟩ => ?_
   refine ⟨H0, Hf, s, sl, fun v H1 Hf1 g1 ⟨a, vs, e1, e2, e3⟩ => ⟨a, ys, by rw [e1], ?_, hz, ?_⟩⟩
   ·rw [← ac7 h2 e3]; exact e2
   ·exact k _ _ _ g1 rfl
theorem bi1 {e : Expr} {f : Rho → Option (Bool × List D)} {p pos : Pos} (hg : Gl X "max") (hm : X.mg "max" = none) (h : JQ X e f) (hc : X.calm = true) (he : starEach [e] X.env = [(false, eval e X.env)]) : JE X (.Call (.Name "max" p) [e] [] pos) (bm8 f) := fun ρ d q => by
 obtain ⟨⟨t, ds⟩, h1, q⟩ := Option.bind_eq_some_iff.mp q
 split at q
 ·cases q
 ·rename_i ht
  have ht : t = false := by simpa using ht
  subst ht
  obtain ⟨ys, h2, q⟩ := Option.bind_eq_some_iff.mp q
  split at q
  ·cases q
  ·rename_i hz
   cases q
   refine A6 (O7 (aO2 hc) hg hm ba6 (C0 (h ρ false ds h1) K2 he) (he := he)) fun σ H Q ⟨H0, Hf, s, sl, k⟩ => ?_
   refine ⟨H0, Hf, s, sl, fun v H1 Hf1 g1 ⟨a, vs, e1, e2, e3⟩ => ⟨a, ys, by rw [e1], ?_, hz, ?_⟩⟩
   ·rw [← ac7 h2 e3]; exact e2
   ·exact k _ _ _ g1 rfl
end
end G
namespace G
open PySem PySem.Spec PyProof.Rows L2
section
variable {prog : Program} {w : World} {A : Around} {E : Value → Shared → Prop} {s : Shared} {t : Bool}
theorem au0 {M : Model} {a : Addr} {Q : Option Obj → Shared → Prop} (h : Q (s.heap.get? a) s) : wpAny M A (loadIfAlive a) Q E s := fun Γ p _ => by
 show Sem.wp M Γ (.loadIfAlive a .pure) _ _ p s
 rw [Sem.wp_loadIfAlive]
 exact (Sem.wp_pure ..).mpr h
def aI7 (h : Heap) (e it : Addr) (i : Int) : Prop := ∃ (a : Addr) (b : Bool) (x : Value) (u : Obj),
 h.get? e = some { cls := .type "enumerate", dict := none, data := .fields #[rawInt a, .bool b, .ref it, rawInt i, .none, x], slots := #[] } ∧ a ≠ e ∧ a ≠ it ∧ h.get? a = some u
theorem aM7 {e it l : Addr} {i : Nat} {xs : Array Value} {x : Value} {Q : Option Value → Shared → Prop} (he : aI7 s.heap e it i) (hit : SIt t s.heap it l i) (hl : SSq t s.heap l xs) (hx : xs[i]? = some x) (hne : e ≠ it)
  (hQ : ∀ h' tk, aI7 h' e it ((i : Int) + 1) → SIt t h' it l (i + 1) → h'.get? s.heap.objs.size = some { cls := .type "tuple", data := .seq #[.int i tk, x] } → h'.objs.size = s.heap.objs.size + 1 →
   (∀ b o, b ≠ e → b ≠ it → s.heap.get? b = some o → h'.get? b = some o) → Q (some (.ref s.heap.objs.size)) { s with heap := h', toks := tk + 1 }) :
  wpAny (model prog w) A (pyNext (.ref e)) Q E s := by
 obtain ⟨a, b, x0, u, he, ae, ai, ha⟩ := he
 have hT : s.TypeIs (.ref e) "enumerate" := ⟨_, he, rfl⟩
 unfold pyNext
 refine wpAny_bind (wpAny_attempt (wpAny_callSpecial?_slot (name := Str.ofString "__next__") hT F.slot_enumerate_next (wpAny_call_entry F.slot_enumerate_next hT F.entry_enumerate_next ?_ (F.args_enumerate_next_1 _))))
 obtain ⟨hp, g, d, tk, os⟩ := s
 show wpAny _ _ (field (.ref e) 2 >>= _) _ _ _
 refine wpAny_bind (wpAny_field he rfl (x := .ref it) rfl ?_)
 refine wpAny_bind (f6 hit hl hx fun h₁ hit₁ hs₁ => ?_)
 replace hs₁ : Heap.SameBut it hp h₁ := hs₁
 have he₁ := (hs₁.2 e hne).trans he
 show wpAny _ _ (field (.ref e) 3 >>= _) _ _ ⟨h₁, g, d, tk, os⟩
 refine wpAny_bind (wpAny_field he₁ rfl (x := rawInt i) rfl ?_)
 show wpAny _ _ (field (.ref e) 4 >>= _) _ _ ⟨h₁, g, d, tk, os⟩
 refine wpAny_bind (wpAny_field he₁ rfl (x := .none) rfl ?_)
 show wpAny _ _ (mkInt i >>= _) _ _ ⟨h₁, g, d, tk, os⟩
 refine wpAny_bind (wpAny_mkInt ?_)
 show wpAny _ _ (setField (.ref e) 3 (rawInt ((i : Int) + 1)) >>= _) _ _ ⟨h₁, g, d, tk + 1, os⟩
 refine wpAny_bind (wpAny_setField_rec he₁ (by simp) fun h₂ he₂ hs₂ => ?_)
 replace hs₂ : Heap.SameBut e h₁ h₂ := hs₂
 replace he₂ : h₂.get? e = some { cls := .type "enumerate", dict := none, data := .fields #[rawInt a, .bool b, .ref it, rawInt ((i : Int) + 1), .none, x0], slots := #[] } := he₂
 show wpAny _ _ (setField (.ref e) 4 .none >>= _) _ _ ⟨h₂, g, d, tk + 1, os⟩
 refine wpAny_bind (wpAny_setField_rec he₂ (by simp) fun h₃ he₃ hs₃ => ?_)
 replace hs₃ : Heap.SameBut e h₂ h₃ := hs₃
 replace he₃ : h₃.get? e = some { cls := .type "enumerate", dict := none, data := .fields #[rawInt a, .bool b, .ref it, rawInt ((i : Int) + 1), .none, x0], slots := #[] } := he₃
 show wpAny _ _ (newTuple [.int i tk, x] >>= _) _ _ ⟨h₃, g, d, tk + 1, os⟩
 refine wpAny_bind (wpAny_newTuple ?_)
 have he₄ := Heap.get?_push_of_some { cls := .type "tuple", data := .seq #[.int i tk, x] } he₃
 generalize hh₄ : h₃.push { cls := .type "tuple", data := .seq #[.int i tk, x] } = h₄ at he₄
 have hsz : h₃.objs.size = hp.objs.size := by rw [hs₃.1, hs₂.1, hs₁.1]
 have hel : e < hp.objs.size := Heap.lt_size he
 have ht₄ : h₄.get? hp.objs.size = some { cls := .type "tuple", data := .seq #[.int i tk, x] } := by rw [← hh₄, ← hsz]; exact Heap.get?_push_size _ rfl
 have hz₄ : h₄.objs.size = hp.objs.size + 1 := by rw [← hh₄, Heap.size_push, hsz]
 have hk₄ : ∀ b o, b ≠ e → b ≠ it → hp.get? b = some o → h₄.get? b = some o := fun b o hbe hbi hb => by
  rw [← hh₄]; exact Heap.get?_push_of_some _ (hs₃.extBut b o hbe (hs₂.extBut b o hbe (hs₁.extBut b o hbi hb)))
 have hit₄ : SIt t h₄ it l (i + 1) := hit₁.ext fun o y => by
  rw [← hh₄]; exact Heap.get?_push_of_some _ (hs₃.extBut it o hne.symm (hs₂.extBut it o hne.symm y))
 have ha₄ := hk₄ a u ae ai ha
 show wpAny _ _ (Builtin.SmallTypes.ownedTupleIsFree (.ref e) >>= _) _ _ ⟨h₄, g, d, tk + 1, os⟩
 rw [hsz]
 clear hh₄ he₃ hs₃ he₂ hs₂ he₁ hs₁ hit₁ hsz h₃ h₂ h₁
 refine wpAny_bind ?_
 unfold Builtin.SmallTypes.ownedTupleIsFree
 refine wpAny_bind (wpAny_field he₄ rfl (x := rawInt a) rfl ?_)
 show wpAny _ _ (loadIfAlive ((a : Int)).toNat >>= _) _ _ _
 refine wpAny_bind (au0 ?_)
 rw [Int.toNat_natCast]
 rw [show (Shared.heap ⟨h₄, g, d, tk + 1, os⟩).get? a = some u from ha₄]
 show wpAny _ _ (field (.ref e) 1 >>= _) _ _ ⟨h₄, g, d, tk + 1, os⟩
 refine wpAny_bind (wpAny_field he₄ rfl (x := .bool b) rfl ?_)
 cases b with
 | false =>
  show wpAny _ _ (setField (.ref e) 1 (.bool true) >>= _) _ _ ⟨h₄, g, d, tk + 1, os⟩
  refine wpAny_bind (wpAny_setField_rec he₄ (by simp) fun h₅ he₅ hs₅ => ?_)
  replace hs₅ : Heap.SameBut e h₄ h₅ := hs₅
  refine wpAny_pure (wpAny_pure ⟨_, rfl, wpAny_pure (hQ h₅ tk ⟨a, true, x0, u, he₅, ae, ai, hs₅.extBut a u ae ha₄⟩ (hit₄.ext fun o y => hs₅.extBut it o hne.symm y) (hs₅.extBut _ _ (Nat.ne_of_gt hel) ht₄) (by rw [hs₅.1, hz₄]) fun b o hbe hbi hb => hs₅.extBut b o hbe (hk₄ b o hbe hbi hb))⟩)
 | true =>
  exact wpAny_pure (wpAny_pure ⟨_, rfl, wpAny_pure (hQ h₄ tk ⟨a, true, x0, u, he₄, ae, ai, ha₄⟩ hit₄ ht₄ hz₄ hk₄)⟩)
theorem aC2 {e it l : Addr} {i : Int} {k : Nat} {xs : Array Value} {Q : Option Value → Shared → Prop} (hh : A.handled = none) (he : aI7 s.heap e it i) (hit : SIt t s.heap it l k) (hl : SSq t s.heap l xs) (hx : xs[k]? = none)
  (hQ : ∀ h', Heap.ExtBut it s.heap h' → Q none { s with heap := h' }) : wpAny (model prog w) A (pyNext (.ref e)) Q E s := by
 obtain ⟨a, b, x0, u, he, _⟩ := he
 have hT : s.TypeIs (.ref e) "enumerate" := ⟨_, he, rfl⟩
 unfold pyNext
 refine wpAny_bind (wpAny_attempt (wpAny_callSpecial?_slot (name := Str.ofString "__next__") hT F.slot_enumerate_next (wpAny_call_entry F.slot_enumerate_next hT F.entry_enumerate_next ?_ (F.args_enumerate_next_1 _))))
 show wpAny _ _ (field (.ref e) 2 >>= _) _ _ _
 refine wpAny_bind (wpAny_field he rfl (x := .ref it) rfl (wpAny_bind (u9 hh hit hl hx fun h' x he' hx' => ?_)))
 obtain ⟨o, ho, hc⟩ := hx'
 exact wpAny_bind (wpAny_isInstance (T := "StopIteration") (b := true) ⟨o, ho, hc⟩ isSubtype_stop (wpAny_pure (hQ _ he')))
def ab4 (h : Heap) (e it : Addr) (i : Int) : Prop := (∃ old, IsEnum h e it i old) ∨ aI7 h e it i
theorem ab4.obj {h : Heap} {e it : Addr} {i : Int} (x : ab4 h e it i) : ∃ fs, h.get? e = some { cls := .type "enumerate", dict := none, data := .fields fs, slots := #[] } := by
 rcases x with ⟨old, x⟩ | ⟨a, b, x0, u, x, _⟩
 ·exact ⟨_, x⟩
 ·exact ⟨_, x⟩
theorem ab4.ext {h h' : Heap} {e it : Addr} {i : Int} (x : ab4 h e it i) {S : Addr} {o : Obj} (hS : h.get? S = some o) (hS' : ∃ o', h'.get? S = some o') (hne : S ≠ e) (k : ∀ b o, b ≠ S → h.get? b = some o → h'.get? b = some o) : ab4 h' e it i := by
 rcases x with ⟨old, x⟩ | ⟨a, b, x0, u, x, ae, ai, ha⟩
 ·exact .inl ⟨old, k _ _ hne.symm x⟩
 ·by_cases q : a = S
  ·subst q
   obtain ⟨o', hS'⟩ := hS'
   exact .inr ⟨a, b, x0, o', k _ _ hne.symm x, ae, ai, hS'⟩
  ·exact .inr ⟨a, b, x0, u, k _ _ hne.symm x, ae, ai, k _ _ q ha⟩
theorem aM8 {e it l : Addr} {i : Nat} {xs : Array Value} {x : Value} {Q : Option Value → Shared → Prop} (hh : A.handled = none) (he : ab4 s.heap e it i) (hit : SIt t s.heap it l i) (hl : SSq t s.heap l xs) (hx : xs[i]? = some x) (hne : e ≠ it) (hle : l ≠ e) (hli : l ≠ it)
  (hQ : ∀ h' tk, ab4 h' e it ((i + 1 : Nat) : Int) → SIt t h' it l (i + 1) → h'.get? s.heap.objs.size = some { cls := .type "tuple", data := .seq #[.int i tk, x] } → h'.objs.size = s.heap.objs.size + 1 →
   (∀ b o, b ≠ e → b ≠ it → s.heap.get? b = some o → h'.get? b = some o) → Q (some (.ref s.heap.objs.size)) { s with heap := h', toks := tk + 1 }) :
  wpAny (model prog w) A (pyNext (.ref e)) Q E s := by
 have ei : (((i + 1 : Nat)) : Int) = (i : Int) + 1 := by omega
 rcases he with ⟨old, he⟩ | he
 ·have hlt : i < xs.size := by
   rcases Nat.lt_or_ge i xs.size with h | h
   ·exact h
   ·rw [Array.getElem?_eq_none h] at hx; cases hx
  have el := Heap.lt_size he
  have il := hit.lt
  refine wpAny_pyNext_enum_itemD (am5 (A := A.in1) hh t it l hli xs) he ⟨hit, hl⟩ hlt hne (by simp only [List.mem_cons, List.not_mem_nil, or_false, not_or]; exact ⟨hne, hle.symm⟩) fun y h' tk hy ho hst hT hsz hk => ?_
  rw [hx] at hy
  cases hy
  exact hQ h' tk (.inr ⟨_, false, x, _, by rw [ei]; exact ho, Nat.ne_of_gt el, Nat.ne_of_gt il, hT⟩) hst.1 hT hsz hk
 ·exact aM7 he hit hl hx hne fun h' tk a b c d k => hQ h' tk (.inr (by rw [ei]; exact a)) b c d k
theorem aC3 {e it l : Addr} {i : Int} {k : Nat} {xs : Array Value} {Q : Option Value → Shared → Prop} (hh : A.handled = none) (he : ab4 s.heap e it i) (hit : SIt t s.heap it l k) (hl : SSq t s.heap l xs) (hx : xs[k]? = none)
  (hQ : ∀ h', Heap.ExtBut it s.heap h' → Q none { s with heap := h' }) : wpAny (model prog w) A (pyNext (.ref e)) Q E s := by
 rcases he with ⟨old, he⟩ | he
 ·exact am4 hh he hit hl hx hQ
 ·exact aC2 hh he hit hl hx hQ
theorem ax3 : typeLookup (.type "enumerate") "__len__" = pure none := by rw [typeLookup_type, builtinLookup_eq_fast]; kernel_rfl
theorem as4 : typeLookup (.type "enumerate") "__length_hint__" = pure none := by rw [typeLookup_type, builtinLookup_eq_fast]; kernel_rfl
end
def bB0 (Hf : Hp) (ws : List V) (Ts : List Addr) (i : Nat) : Prop := Ts.length = i ∧ ∀ (j : Nat) (T : Addr), Ts[j]? = some T → ∃ x, ws[j]? = some x ∧ Hf T = some (.tup [.int j, x])
abbrev aw2 (Ts : List Addr) (c : Nat) : Obj := { cls := .type "list", dict := none, data := .seq (Ts.map Value.ref).toArray c, slots := #[] }
section
variable {X : Cx} {pins : List (Addr × Obj)} {σ : L2.St} {A : Around} {t : Bool} {S e it a : Addr} {ws : List V}
theorem af9 {K : PySem.W.Frag} {t : Bool} {a : Addr} {xs : List V} {H H' : Hp} (e : D6 H H') (h : Sq K t H a xs) : Sq K t H' a xs := by
 cases t with
 | true => exact B5 e h
 | false => exact D3 e h
theorem aY1 {H : Hp} {T : Addr} {o : HO} {b : Addr} (h : Y3 X pins H b) (n : b ≠ T) : Y3 X pins (upd H T o) b := ⟨by rw [A8 n]; exact h.1, h.2⟩
theorem aM0 {R : Result → Shared → Prop} {res : Value} (hc : A.handled = none) (h1 : e ≠ it) (h2 : a ≠ e) (h3 : a ≠ it) (h4 : S ≠ e) (h5 : S ≠ it) (hz : ws.length ≤ 1000) {H0 Hf0 : Hp} :
    ∀ (k i : Nat) (s : Shared) (H Hf : Hp) (Ts : List Addr) (c : Nat), ws.length - i = k → i ≤ ws.length → Inv X pins σ H s → (∀ b ∈ [e, it, S], Y3 X pins H b) → ab4 s.heap e it i → SIt t s.heap it a i → Sq X.K t Hf a ws → Grow H0 Hf0 H Hf → s.heap.get? S = some (aw2 Ts c) → bB0 Hf ws Ts i →
    (∀ s' H' Hf' Ts' c', Inv X pins σ H' s' → (∀ b ∈ [e, it, S], Y3 X pins H' b) → Grow H0 Hf0 H' Hf' → s'.heap.get? S = some (aw2 Ts' c') → bB0 Hf' ws Ts' ws.length → R (.ok (.ret res)) s') →
    codeAny (model X.prog X.w) A (.builtin "list.extend.loop" ⟨[.ref S, .ref e, res], []⟩) R s := by
  intro k
  induction k with
  | zero =>
    intro i s H Hf Ts c hk hi I hf he hit sq g hS ht hR
    have hin : i = ws.length := by omega
    obtain ⟨us, r1, p1, lt1⟩ := R1 I (af9 g.sub sq)
    have l1 := r1.length
    refine codeAny_builtin F.entry_extend_loop ?_
    rw [Around.under_plainId F.plain_extend_loop _]
    show wpAny _ A.in1 (pyNext (.ref e) >>= _) _ _ s
    refine wpAny_bind (aC3 hc he hit p1 (by simp; omega) fun h' hk' => ?_)
    have I' : Inv X pins σ H { s with heap := h', toks := s.toks } := R8 (ch := [e, it]) I (fun b hb => hf b (by simp at hb; rcases hb with rfl | rfl <;> simp)) fun b u hb q => hk' b u (fun z => hb (by simp [z])) q
    exact wpAny_pure (hR _ H Hf Ts c I' hf g (hk' S _ h5 hS) (by rw [← hin]; exact ht))
  | succ k ih =>
    intro i s H Hf Ts c hk hi I hf he hit sq g hS ht hR
    have hlt : i < ws.length := by omega
    obtain ⟨us, r1, p1, lt1⟩ := R1 I (af9 g.sub sq)
    obtain ⟨ux, eux, rx⟩ := r1.get (List.getElem?_eq_getElem hlt)
    refine codeAny_builtin F.entry_extend_loop ?_
    rw [Around.under_plainId F.plain_extend_loop _]
    show wpAny _ A.in1 (pyNext (.ref e) >>= _) _ _ s
    refine wpAny_bind (aM8 hc he hit p1 (by simpa using eux) h1 h2 h3 fun h' tk he' hit' hT hsz hkp => ?_)
    have hn : H s.heap.objs.size = none := I.hok.fresh (Nat.le_refl _)
    have neT : ∀ c o, s.heap.get? c = some o → c ≠ s.heap.objs.size := fun c o q => Nat.ne_of_lt (Heap.lt_size q)
    obtain ⟨fs, eo⟩ := he.obj
    have I1 : Inv X pins σ (upd H s.heap.objs.size (.tup [.int i, ws[i]])) { s with heap := h', toks := tk + 1 } := U8 (s := s) (h' := h') (t' := tk + 1) (ch := [e, it]) I (fun b hb => hf b (by simp at hb; rcases hb with rfl | rfl <;> simp)) (Nat.le_refl _) (fun b u hb q => hkp b u (fun z => hb (by simp [z])) (fun z => hb (by simp [z])) q)
      ⟨by show 2 ≤ sizeLine; decide, [.int i tk, ux], .cons ⟨tk, rfl⟩ (.cons rx .nil), _, hT, rfl, _, rfl⟩
    have hS' := hkp S _ h4 h5 hS
    show wpAny _ A.in1 (updateSeq S (·.push (.ref s.heap.objs.size)) >>= _) _ _ _
    refine wpAny_bind (wpAny_updateSeq hS' rfl ?_ (by simp [ht.1]; have : (1000 : Nat) < sizeLine := by decide
                                                      omega) (by simp [ht.1]; have : (1000 : Nat) < sizeLine := by decide
                                                                 omega))
    have hf1 : ∀ b ∈ [e, it, S], Y3 X pins (upd H s.heap.objs.size (.tup [.int i, ws[i]])) b := fun b hb => aY1 (hf b hb) (by
      simp at hb
      rcases hb with rfl | rfl | rfl
      · exact neT _ _ eo
      · exact Nat.ne_of_lt hit.lt
      · exact neT _ _ hS)
    have oth : ∀ b o, b ≠ S → h'.get? b = some o → (h'.update S (Obj.mapSeq (·.push (.ref s.heap.objs.size)))).get? b = some o := fun b o hb q => (Heap.get?_update_other _ _ (Ne.symm hb)).trans q
    have hSn := Heap.get?_update_self (Obj.mapSeq (·.push (Value.ref s.heap.objs.size))) hS' rfl
    have I2 := R8 (t' := tk + 1) (h' := h'.update S (Obj.mapSeq (·.push (.ref s.heap.objs.size)))) (ch := [S]) I1 (fun b hb => hf1 b (by simp at hb; simp [hb])) fun b u hb q => oth b u (fun z => hb (by simp [z])) q
    have hnf : Hf s.heap.objs.size = none := g.sub.free hn
    refine wpAny_pure ⟨plainId_quiet F.plain_extend_loop _, ih (i + 1) _ _ (upd Hf s.heap.objs.size (.tup [.int i, ws[i]])) (Ts ++ [s.heap.objs.size]) (c + 1) (by omega) (by omega) I2 hf1 (he'.ext hS' ⟨_, hSn⟩ h4 oth) (hit'.ext fun o q => oth it o h5.symm q) (af9 (B9 hnf) sq) (g.trans (Grow.laid g.sub hn)) ?_ ?_ hR⟩
    · simpa [aw2, Obj.mapSeq] using hSn
    · refine ⟨by rw [List.length_append, ht.1]; rfl, fun j T hj => ?_⟩
      rcases Nat.lt_or_ge j Ts.length with q | q
      · rw [List.getElem?_append_left q] at hj
        obtain ⟨x, ex, hx⟩ := ht.2 j T hj
        exact ⟨x, ex, by rw [A8 (A9 hx hnf)]; exact hx⟩
      · rw [List.getElem?_append_right q] at hj
        have hj0 : j - Ts.length = 0 := by
          rcases Nat.eq_zero_or_pos (j - Ts.length) with z | z
          · exact z
          · rw [List.getElem?_eq_none (by simp; omega)] at hj; cases hj
        rw [hj0] at hj
        cases hj
        have : j = i := by have := ht.1; omega
        subst this
        exact ⟨_, List.getElem?_eq_getElem hlt, A7⟩
theorem aj6 {H Hf : Hp} {s : Shared} {E : Value → Shared → Prop} {Q : Value → Shared → Prop} (hc : A.handled = none) (h1 : e ≠ it) (h2 : a ≠ e) (h3 : a ≠ it) (hz : ws.length ≤ 1000) (I : Inv X pins σ H s) (hf : ∀ b ∈ [e, it], Y3 X pins H b) (he : IsEnum s.heap e it 0 .none) (hit : SIt t s.heap it a 0) (sq : Sq X.K t Hf a ws) (g : D6 Hf H)
  (hQ : ∀ s' H' Hf' Ts c, Inv X pins σ H' s' → (∀ b ∈ [e, it, s.heap.objs.size], Y3 X pins H' b) → Grow H Hf H' Hf' → s'.heap.get? s.heap.objs.size = some (aw2 Ts c) → bB0 Hf' ws Ts ws.length → Q (.ref s.heap.objs.size) s') :
  wpAny (model X.prog X.w) A (call (.type "list") [.ref e]) Q E s := by
 have el := Heap.lt_size he
 have il := hit.lt
 obtain ⟨S, eS⟩ : ∃ S, S = s.heap.objs.size := ⟨_, rfl⟩
 have fS : Y3 X pins H S := I.fpOk (by omega) (I.hok.fresh (by omega))
 have h4 : S ≠ e := by rw [eS]; exact Nat.ne_of_gt el
 have h5 : S ≠ it := by rw [eS]; exact Nat.ne_of_gt il
 rw [← eS] at hQ
 refine callType_codes (Q₁ := fun obj s₁ => obj = .ref S ∧ s₁ = { s with heap := s.heap.push { cls := .type "list", data := .seq #[] } }) F.called_list (F.typeCall_list_1 _) F.entry_list_init (code_list_new _ ⟨by rw [eS], rfl⟩) fun obj s₁ hh => ?_
 obtain ⟨rfl, rfl⟩ := hh
 have hS : (s.heap.push { cls := .type "list", data := .seq #[] }).get? S = some { cls := .type "list", data := .seq #[] } := by rw [eS]; exact Heap.get?_push_size _ rfl
 refine ⟨⟨_, hS, rfl⟩, F.args_list_init_2 _ _, ?_⟩
 show wpAny _ _ (do let old ← Builtin.List.listItems (.ref S); Builtin.List.listUpdate (.ref S) (fun _ => #[]); letGo old.toList.reverse; Builtin.List.listExtendWith (.ref S) (.ref e) .none) _ _ _
 refine wpAny_bind ?_
 unfold Builtin.List.listItems
 refine wpAny_bind (wpAny_seqItems hS rfl (wpAny_pure ?_))
 show wpAny _ _ (updateSeq S (fun _ => #[]) >>= fun _ => letGo (#[] : Array Value).toList.reverse >>= fun _ => Builtin.List.listExtendWith (.ref S) (.ref e) .none) _ _ _
 refine wpAny_bind (wpAny_updateSeq hS rfl ?_)
 have hS₂ := Heap.get?_update_self (Obj.mapSeq (fun _ => (#[] : Array Value))) hS rfl
 refine wpAny_bind (wpAny_letGo ?_)
 have k2 : ∀ b o, b ≠ S → s.heap.get? b = some o → ((s.heap.push { cls := .type "list", data := .seq #[] }).update S (Obj.mapSeq (fun _ => (#[] : Array Value)))).get? b = some o := fun b o hb q => (Heap.get?_update_other _ _ (Ne.symm hb)).trans (Heap.get?_push_of_some _ q)
 generalize (s.heap.push { cls := .type "list", data := .seq #[] }).update S (Obj.mapSeq (fun _ => (#[] : Array Value))) = h₂ at hS₂ k2
 have he₂ : IsEnum h₂ e it 0 .none := k2 e _ h4.symm he
 unfold Builtin.List.listExtendWith
 refine wpAny_bind (wpAny_typeOf ⟨_, he₂, rfl⟩ ?_)
 have q1 : Builtin.List.listSameRef (.ref S) (.ref e) = false := by simp [Builtin.List.listSameRef, h4]
 have q2 : (Value.type "enumerate" == Value.type "list") = false := by decide
 have q3 : (Value.type "enumerate" == Value.type "tuple") = false := by decide
 simp only [q1, q2, q3, Bool.or_false, xft, if_false]
 refine wpAny_bind (wpAny_pyIter_enum he₂ ?_)
 refine wpAny_bind (wpAny_holding ?_)
 unfold Builtin.List.listLengthHint
 refine wpAny_bind (wpAny_specialOf ⟨_, he₂, rfl⟩ ax3 ?_)
 show wpAny _ _ (specialOf (Value.ref e) (Str.ofString "__length_hint__") >>= _) _ _ _
 refine wpAny_bind (wpAny_specialOf ⟨_, he₂, rfl⟩ as4 ?_)
 refine wpAny_pure ?_
 show wpAny _ _ (rule "list.extend.makes-room" >>= fun _ => Builtin.List.listTouch (.ref S) >>= fun _ => again (.builtin "list.extend.loop" ⟨[.ref S, .ref e, .none], []⟩)) _ _ _
 refine wpAny_bind (wpAny_rule ?_)
 refine wpAny_bind ?_
 show wpAny _ _ (updateSeq S (·.push .none) >>= fun _ => updateSeq S (·.pop)) _ _ _
 refine wpAny_bind (wpAny_updateSeq hS₂ rfl ?_)
 have hS₃ := Heap.get?_update_self (Obj.mapSeq (·.push Value.none)) hS₂ rfl
 refine wpAny_updateSeq (hz := by seq_fits) hS₃ rfl ?_
 have hS₄ := Heap.get?_update_self (Obj.mapSeq (·.pop)) hS₃ rfl
 have k4 : ∀ b o, b ≠ S → s.heap.get? b = some o → ((h₂.update S (Obj.mapSeq (·.push Value.none))).update S (Obj.mapSeq (·.pop))).get? b = some o :=
  fun b o hb q => (Heap.get?_update_other _ _ (Ne.symm hb)).trans ((Heap.get?_update_other _ _ (Ne.symm hb)).trans (k2 b o hb q))
 generalize (h₂.update S (Obj.mapSeq (·.push Value.none))).update S (Obj.mapSeq (·.pop)) = h₄ at hS₄ k4
 have I4 : Inv X pins σ H { s with heap := h₄, toks := s.toks } := R8 (ch := [S]) I (fun b hb => by simp at hb; rw [hb]; exact fS) fun b u hb q => k4 b u (fun z => hb (by simp [z])) q
 refine wpAny_pure ⟨plainId_quiet F.plain_extend_loop _, aM0 (S := S) (A := A.in1) hc h1 h2 h3 h4 h5 hz ws.length 0 _ H Hf [] _ (by omega) (by omega) I4 (fun b hb => by
  simp at hb
  rcases hb with rfl | rfl | rfl
  ·exact hf _ (by simp)
  ·exact hf _ (by simp)
  ·exact fS) (.inl ⟨_, k4 e _ h4.symm he⟩) (hit.ext fun o q => k4 it o h5.symm q) sq (Grow.refl g) hS₄ ⟨rfl, fun j T hj => by simp at hj⟩ fun s' H' Hf' Ts c I' f' g' hS' t' => ?_⟩
 exact ⟨rfl, hQ s' H' Hf' Ts c I' f' g' hS' t'⟩
def bL8 (vs : List V) : It := ⟨fun i _ => i < vs.length, fun i H x H' => H' = H ∧ vs[vs.length - 1 - i]? = some x, fun i _ => vs.length ≤ i⟩
theorem aQ0 {P : Program} {w : World} {K : PySem.W.Frag} {tg : Expr} (R S : Addr) (hne : S ≠ R) (Ts : List Addr) (c : Nat) :
  Turn P w K tg (bL8 (Ts.map V.ref)) [R, S] R (fun i h => i ≤ Ts.length ∧ h.IsRevIter R S ((Ts.length : Int) - 1 - (i : Int)) ∧ h.get? S = some (aw2 Ts c)) where
 mem := by simp
 obj := fun i h ⟨_, hr, hl⟩ b hb => by
  simp only [List.mem_cons, List.not_mem_nil, or_false] at hb
  rcases hb with rfl | rfl
  ·obtain ⟨o, ho, _, hd⟩ := hr; exact ⟨o, ho, fun v q => by rw [hd] at q; cases q⟩
  ·exact ⟨_, hl, fun v q => by cases q⟩
 keep := fun i h h' ⟨hi, hr, hl⟩ k => ⟨hi, hr.at fun o q => k R (by simp) o q, k S (by simp) _ hl⟩
 item := by
  intro X hP hw hK hc i pins s σ H E I hf ⟨hi, hr, hl⟩ hg
  subst hP hw hK
  have hg : i < Ts.length := by
   have : i < (Ts.map V.ref).length := hg
   rwa [List.length_map] at this
  have e : (Ts.length : Int) - 1 - (i : Int) = ((Ts.length - 1 - i : Nat) : Int) := by omega
  rw [e] at hr
  have hx : (Ts.map Value.ref).toArray[Ts.length - 1 - i]? = some (.ref (Ts[Ts.length - 1 - i]'(by omega))) := by
   simp
  refine wpAny_pyNext_rev_item hr (items := (Ts.map Value.ref).toArray) ⟨_, hl, rfl, _, rfl⟩ hx fun h' hr' sb => ?_
  have I1 : Inv X pins σ H { s with heap := h', toks := s.toks } := R8 (ch := [R, S]) I hf fun b u hb q => sb.extBut b u (fun z => hb (by simp [z])) q
  obtain ⟨o, ho, hc', hd⟩ := id hr'
  refine ⟨_, rfl, ax1 (s := { s with heap := h' }) ho hc' hd (by decide) ⟨.ref (Ts[Ts.length - 1 - i]'(by omega)), H, I1, rfl, ⟨rfl, ?_⟩, ⟨by omega, ?_, sb.extBut S _ hne hl⟩, fun b hb => (hf b hb).1⟩⟩
  ·rw [List.length_map, List.getElem?_map, List.getElem?_eq_getElem (by omega)]; rfl
  ·have e2 : ((Ts.length - 1 - i : Nat) : Int) - 1 = (Ts.length : Int) - 1 - ((i + 1 : Nat) : Int) := by omega
   rw [← e2]; exact hr'
 done := by
  intro X hP hw hK hc i pins s σ H E I hf ⟨hi, hr, hl⟩ hg
  subst hP hw hK
  have hg : Ts.length ≤ i := by
   have : (Ts.map V.ref).length ≤ i := hg
   rwa [List.length_map] at this
  have e : (Ts.length : Int) - 1 - (i : Int) = -1 := by omega
  rw [e] at hr
  exact wpAny_pyNext_rev_end (I.ok.hd hc) hr fun h' eb => ⟨rfl, R8 (t' := s.toks) (ch := [R, S]) I hf fun b u hb q => eb b u (fun z => hb (by simp [z])) q⟩
 self := fun _ _ _ _ _ ⟨_, hr, _⟩ h => wpAny_pyIter_revIter hr h
end
section
variable {X : Cx}
theorem ty1 {pins : List (Addr × Obj)} {s : Shared} {σ : L2.St} {H : Hp} {T : String} {x : Str} {a : Expr} {p pos : Pos} {Q : Value → Shared → Prop} {E : Value → Shared → Prop} (I : Inv X pins σ H s) (hg : Gl X x) (hm : X.mg x = none) (hv : bootBuiltins x = some (.type T)) (hn : x ≠ "__name__") (hd : (x == ("__debug__" : Str)) = false)
  (hs : starEach [a] X.env = [(false, eval a X.env)]) (h : wpAny (model X.prog X.w) X.A (eval a X.env) (fun v s1 => wpAny (model X.prog X.w) X.A (call (.type T) [v]) Q E s1) E s) : wpAny (model X.prog X.w) X.A (eval (.Call (.Name x p) [a] [] pos) X.env) Q E s := by
 refine Call_ (i9 I hg hm hv (PyProof.Rows.callWith_type1 ?_ (by rw [hs]; rfl) (by rfl)) hn hd)
 rw [hs]
 exact Calls.spliced_cons (thn h fun v s1 q => Calls.spliced_nil q)
def bH3 (f : Rho → Option (Bool × List D)) : Rho → Option (List D) := fun ρ => (f ρ).bind fun q => if q.2.length ≤ 1000 then some (aj3 q.2).reverse else none
theorem bh3 {elts : List Expr} {k0 : Nat} {tpos : Pos} {a : Expr} {f : DE} {p1 p2 p3 q1 q2 q3 : Pos} (ge : Gl X "enumerate") (me : X.mg "enumerate" = none) (gl : Gl X "list") (ml : X.mg "list" = none) (gr : Gl X "reversed") (mr : X.mg "reversed" = none) (hc : X.calm = true) (ha : JE X a f) (hs : starEach [a] X.env = [(false, eval a X.env)] := by rfl) :
  JI X (.Tuple elts k0 tpos) (.Call (.Name "reversed" p1) [.Call (.Name "list" p2) [.Call (.Name "enumerate" p3) [a] [] q3] [] q2] [] q1) (bH3 (qE f)) := fun ρ out q => by
 obtain ⟨⟨t1, ds⟩, e1, q⟩ := Option.bind_eq_some_iff.mp q
 simp only at q
 split at q
 ·rename_i hz
  cases q
  obtain ⟨d1, e1, e1'⟩ := Option.bind_eq_some_iff.mp e1
  intro pins s σ H R I ⟨H0, Hf, ss, sl, k⟩
  refine ty1 I gr mr rfl (by decide) (by decide) rfl (ty1 I gl ml rfl (by decide) (by decide) rfl (ty1 I ge me rfl (by decide) (by decide) hs ?_))
  refine thn (ha ρ d1 e1 pins s σ H (fun v H' => ∃ Hf', Grow H Hf H' Hf' ∧ Rep X.K Hf' d1 v) I ⟨H0, Hf, ss, sl, fun v H1 Hf1 g1 r1 => ⟨Hf1, g1, r1⟩⟩) fun u s1 ⟨v, H1, I1, rv, Hf1, gr1, p1⟩ => ?_
  obtain ⟨a1, vs1, rfl, w1, w2⟩ := p1.seq (D6.refl Hf1) e1'
  cases rv
  obtain ⟨us1, rr1, hp1, lt1⟩ := R1 I1 (af9 gr1.sub w1)
  have hz' : vs1.length ≤ 1000 := by have := w2.length; omega
  refine ah6 hp1 fun h' b1 b2 b3 => ?_
  have I2 : Inv X pins σ H1 { s1 with heap := h' } := I1.kept (t' := s1.toks) b3
  refine aj6 (e := s1.heap.objs.size + 1) (it := s1.heap.objs.size) (a := a1) (I.ok.hd hc) (Nat.succ_ne_self _) (Nat.ne_of_lt (Nat.lt_succ_of_lt lt1)) (Nat.ne_of_lt lt1) hz' I2 (fun b hb => ?_) b1 b2 w1 gr1.sub fun s3 H3 Hf3 Ts c I3 f3 g3 hS3 t3 => ?_
  ·have hb' : s1.heap.objs.size ≤ b := by
    simp only [List.mem_cons, List.not_mem_nil, or_false] at hb
    rcases hb with rfl | rfl
    ·exact Nat.le_add_right _ _
    ·exact Nat.le_refl _
   exact I1.fpOk hb' (I1.hok.fresh hb')
  obtain ⟨S, eS⟩ : ∃ S, S = h'.objs.size := ⟨_, rfl⟩
  rw [show (Shared.heap { s1 with heap := h' }).objs.size = S from eS.symm] at hS3 f3 ⊢
  refine call_reversed_list (items := (Ts.map Value.ref).toArray) ⟨_, hS3, rfl, _, rfl⟩ ?_
  have kp : ∀ b o, s3.heap.get? b = some o → (s3.heap.push (revObj S (((Ts.map Value.ref).toArray.size : Int) - 1))).get? b = some o := fun b o q => Heap.get?_push_of_some _ q
  have I4 : Inv X pins σ H3 { s3 with heap := s3.heap.push (revObj S (((Ts.map Value.ref).toArray.size : Int) - 1)), toks := s3.toks } := I3.kept kp
  have lS := Heap.lt_size hS3
  have rv : (s3.heap.push (revObj S (((Ts.map Value.ref).toArray.size : Int) - 1))).IsRevIter s3.heap.objs.size S ((Ts.length : Int) - 1 - ((0 : Nat) : Int)) := ⟨_, Heap.get?_push_size _ rfl, rfl, by simp [revObj]⟩
  refine wpAny_pyIter_revIter rv ⟨_, _, _, _, H3, rfl, I4, aQ0 s3.heap.objs.size S (Nat.ne_of_lt lS) Ts c, ⟨Nat.zero_le _, rv, kp _ _ hS3⟩, fun b hb => ?_, k _ H3 Hf3 (gr1.trans g3) ?_⟩
  ·simp only [List.mem_cons, List.not_mem_nil, or_false] at hb
   rcases hb with rfl | rfl
   ·exact I3.fpOk (Nat.le_refl _) (I3.hok.fresh (Nat.le_refl _))
   ·exact f3 _ (by simp)
  ·intro i H4 Hf4 sa sb
   have l1 := w2.length
   have tl := t3.1
   have el : (Ts.map V.ref).length = ds.length := by rw [List.length_map, tl, l1]
   refine ⟨fun hi => ?_, fun d hd => ?_⟩
   ·rw [List.length_reverse, j0] at hi
    show (Ts.map V.ref).length ≤ i
    omega
   ·have hlt : i < ds.length := by
     have := (List.getElem?_eq_some_iff.mp hd).1
     rwa [List.length_reverse, j0] at this
    refine ⟨show i < (Ts.map V.ref).length by omega, fun x H' ⟨z1, z2⟩ => ?_⟩
    subst z1
    rw [List.getElem?_reverse (by rw [j0]; exact hlt), j0, ax4] at hd
    obtain ⟨d0, ed, rfl⟩ := Option.map_eq_some_iff.mp hd
    rw [el, List.getElem?_map] at z2
    obtain ⟨T, eT, rfl⟩ := Option.map_eq_some_iff.mp z2
    obtain ⟨x0, ex0, hT⟩ := t3.2 _ T eT
    obtain ⟨v0, ev0, rv0⟩ := w2.get ed
    rw [ev0] at ex0
    obtain rfl := Option.some.inj ex0
    exact ⟨Hf4, Grow.refl sb, T, _, rfl, SqT.of (sa _ _ hT), .int _, [v0], rfl, rfl, v0, [], rfl, (rv0.mono g3.ext).mono sa, rfl⟩
 ·cases q
end
end G
namespace G
open PySem PySem.Spec PyProof.Rows L2 PySem.SeqAt PySem.MeetsSeq PySem.MeetsSeq2 PySem.MeetsSeq3 PySem.SeqRoads2
open PySem.AutoSeq1 (wpAny_loadPart')
def aE1 (A : Around) (s : Shared) (y x : Value) (b : Bool) : Prop :=
 ∀ (prog : Program) (w : World) (E : Value → Shared → Prop) (Q : Value → Shared → Prop), Q (.bool b) s → wpAny (model prog w) A (richCompare .Lt y x) Q E s
def Lx (e : Nat → Bool) (P : Nat → Prop) (m : Nat) (fin : Prop) : Prop := (∃ j, j < m ∧ (∀ i, i < j → e i = true) ∧ e j = false ∧ P j) ∨ ((∀ i, i < m → e i = true) ∧ fin)
theorem az8 (l b : Addr) (items items2 : Array Value) (n n2 : Nat) (dd dd2 : Option Addr) (sl sl2 : Array (Option Value)) (e : Nat → Bool) (c : Bool) :
  Meets (Builtin.«tuple.__lt__» ⟨[.ref l, .ref b], []⟩)
   (fun A R s => s.heap.get? l = some { cls := .type "tuple", dict := dd, data := .seq items n, slots := sl } ∧ s.heap.get? b = some { cls := .type "tuple", dict := dd2, data := .seq items2 n2, slots := sl2 } ∧
    (∀ j (h1 : j < items.size) (h2 : j < items2.size), EqAt A.in1 s items[j] items2[j] (e j)) ∧
    Lx e (fun j => ∀ (h1 : j < items.size) (h2 : j < items2.size), aE1 A.in1 s items[j] items2[j] c) (min items.size items2.size) (c = decide (items.size < items2.size)) ∧
    R (.ok (.ret (.bool c))) s) :=
 .of_wp fun prog w A R s h => by
  obtain ⟨hp, g, d, tk, os⟩ := s; obtain ⟨hl, hb, he, hx, h⟩ := h
  have f2 := AutoSeq1.sub_tuple_tuple
  have hZ : (items.toList.zip items2.toList).length = min items.size items2.size := by simp
  wp_walk using wpAny_loadPart' hl, wpAny_loadPart' hb, wpAny_forIn_list _ (fun Q2 b s' => b.1 = none ∧ s' = ⟨hp, g, d, tk, os⟩ ∧ ∃ i, Q2 = (items.toList.zip items2.toList).drop i ∧ ∀ k, k < i → e k = true) _
  case turn =>
   rintro ⟨y, x⟩ Q2 b s' ⟨hb', rfl, i, hz, hR⟩
   have hlt : i < (items.toList.zip items2.toList).length := by
    rcases Nat.lt_or_ge i (items.toList.zip items2.toList).length with h' | h'
    ·exact h'
    ·rw [List.drop_of_length_le h'] at hz; cases hz
   have hm : i < min items.size items2.size := hZ ▸ hlt
   have h1 : i < items.size := Nat.lt_of_lt_of_le hm (Nat.min_le_left _ _)
   have h2 : i < items2.size := Nat.lt_of_lt_of_le hm (Nat.min_le_right _ _)
   rw [List.drop_eq_getElem_cons hlt] at hz
   injection hz with hyx hrest
   have hy : y = items[i] := by have := congrArg Prod.fst hyx; simpa using this
   have hx' : x = items2[i] := by have := congrArg Prod.snd hyx; simpa using this
   subst hy hx'
   refine wpAny_bind (he i h1 h2 prog w _ _ ?_)
   cases hy : e i with
   | true =>
    wp_walk
    refine ⟨rfl, rfl, i + 1, hrest, fun k hk => ?_⟩
    rcases Nat.lt_or_ge k i with q | q
    ·exact hR k q
    ·rw [show k = i by omega]; exact hy
   | false =>
    have hc : aE1 A.in1 ⟨hp, g, d, tk, os⟩ items[i] items2[i] c := by
     rcases hx with ⟨j, j1, j2, j3, j4⟩ | ⟨j1, _⟩
     ·have : j = i := by
       rcases Nat.lt_trichotomy j i with q | q | q
       ·rw [hR j q] at j3; cases j3
       ·exact q
       ·rw [j2 i q] at hy; cases hy
      subst this
      exact j4 h1 h2
     ·rw [j1 i hm] at hy; cases hy
    simp only [xnf, if_true]
    refine wpAny_bind (wpAny_rule ?_)
    refine wpAny_bind (hc prog w _ _ ?_)
    wp_walk
    exact ⟨_, rfl, h⟩
  case fin =>
   rintro ⟨b1, b2⟩ s' ⟨hb', rfl, i, hz, hR⟩
   simp only at hb'
   subst hb'
   have hge : min items.size items2.size ≤ i := by
    rcases Nat.lt_or_ge i (items.toList.zip items2.toList).length with h' | h'
    ·rw [List.drop_eq_getElem_cons h'] at hz; cases hz
    ·exact hZ ▸ h'
   have hc : c = decide (items.size < items2.size) := by
    rcases hx with ⟨j, j1, j2, j3, j4⟩ | ⟨_, q⟩
    ·rw [hR j (by omega)] at j3; cases j3
    ·exact q
   wp_walk
   refine ⟨_, rfl, ?_⟩
   rw [hc] at h
   simpa [Builtin.Tuple.tupleCompareSizes] using h
  case h =>
   exact ⟨rfl, rfl, 0, rfl, fun k hk => absurd hk (Nat.not_lt_zero _)⟩
theorem aE1.tuples {A : Around} {s : Shared} {l b : Addr} {items items2 : Array Value} {e : Nat → Bool} {c : Bool} (hl : s.heap.IsTuple l items) (hb : s.heap.IsTuple b items2) (hu : A.units < cLine)
  (he : ∀ j (h1 : j < items.size) (h2 : j < items2.size), EqAt A.in1 s items[j] items2[j] (e j))
  (hx : Lx e (fun j => ∀ (h1 : j < items.size) (h2 : j < items2.size), aE1 A.in1 s items[j] items2[j] c) (min items.size items2.size) (c = decide (items.size < items2.size))) : aE1 A s (.ref l) (.ref b) c := fun prog w E Q h => by
 obtain ⟨⟨cls, dd, data, sl⟩, ho, hc, n, hd⟩ := id hl
 obtain ⟨⟨cls2, dd2, data2, sl2⟩, ho2, hc2, n2, hd2⟩ := id hb
 simp only at hc hd hc2 hd2
 subst hc hd hc2 hd2
 exact richCompare_meets_room (op := .Lt) ⟨_, ho, rfl⟩ ⟨_, ho2, rfl⟩ F.slot_tuple_lt F.entry_tuple_lt (F.args_tuple_lt_2 _ _) (az8 l b items items2 n n2 dd dd2 sl sl2 e c)
  ⟨ho, ho2, he, hx, show Value.bool c ≠ Value.notImplemented ∧ Q (.bool c) s from ⟨(fun x => nomatch x), h⟩⟩ hu
mutual
def ltD : D → D → Option Bool
 | .int i, .int j => some (decide (i < j))
 | .tuple xs, .tuple ys => ltDs xs ys
 | _, _ => none
def ltDs : List D → List D → Option Bool
 | [], [] => some false
 | [], _ :: _ => some true
 | _ :: _, [] => some false
 | x :: xs, y :: ys => if PyData.eqv x y = true then ltDs xs ys else ltD x y
end
theorem aG3 : ∀ {xs ys : List D} {c : Bool}, ltDs xs ys = some c → Lx (pairEq xs ys) (fun j => ltD (xs.getD j .none) (ys.getD j .none) = some c) (min xs.length ys.length) (c = decide (xs.length < ys.length))
 | [], [], c, h => .inr ⟨fun i hi => by simp at hi, by rw [ltDs] at h; cases h; rfl⟩
 | [], y :: ys, c, h => .inr ⟨fun i hi => by simp at hi, by rw [ltDs] at h; cases h; simp⟩
 | x :: xs, [], c, h => .inr ⟨fun i hi => by simp at hi, by rw [ltDs] at h; cases h; simp⟩
 | x :: xs, y :: ys, c, h => by
  rw [ltDs] at h
  split at h
  ·rename_i e
   rcases aG3 h with ⟨j, j1, j2, j3, j4⟩ | ⟨j1, j2⟩
   ·refine .inl ⟨j + 1, by simp only [List.length_cons]; omega, fun i hi => ?_, j3, j4⟩
    cases i with
    | zero => exact e
    | succ i => exact j2 i (by omega)
   ·refine .inr ⟨fun i hi => ?_, by rw [j2]; simp⟩
    cases i with
    | zero => exact e
    | succ i => exact j1 i (by simp only [List.length_cons] at hi; omega)
  ·rename_i e
   exact .inl ⟨0, by simp only [List.length_cons]; omega, fun i hi => absurd hi (Nat.not_lt_zero _), by simpa [pairEq] using e, h⟩
theorem ReadsAll.len {h : Heap} : ∀ {vs : List Value} {ds : List D} {as : List Addr}, ReadsAll h vs ds as → vs.length = ds.length
 | [], _, _, r => by cases r; rfl
 | v :: vs, _, _, r => by cases r with | cons r1 r2 => rw [List.length_cons, List.length_cons, ReadsAll.len r2]
theorem ReadsAll.at {h : Heap} : ∀ {vs : List Value} {ds : List D} {as : List Addr}, ReadsAll h vs ds as → ∀ (j : Nat) (hj : j < vs.length), ∃ bs, Reads h vs[j] (ds.getD j .none) bs
 | [], _, _, r, j, hj => absurd hj (Nat.not_lt_zero _)
 | v :: vs, _, _, r, j, hj => by
  cases r with
  | cons r1 r2 =>
   cases j with
   | zero => exact ⟨_, r1⟩
   | succ j => exact ReadsAll.at r2 j (by simpa using hj)
theorem am6 : ∀ {xs : List D} {j : Nat}, j < xs.length → (xs.getD j .none).depth ≤ PyData.depthAll xs
 | [], j, h => absurd h (Nat.not_lt_zero _)
 | x :: xs, 0, h => by simp only [List.getD_cons_zero, PyData.depthAll]; omega
 | x :: xs, j + 1, h => by
  have := am6 (xs := xs) (j := j) (by simpa using h)
  simp only [List.getD_cons_succ, PyData.depthAll]; omega
theorem ar6 : ∀ {xs : List D} {j : Nat}, PyData.canLayAll0 xs = true → (xs.getD j .none).canLay0 = true
 | [], j, h => by simp [PyData.canLay0]
 | x :: xs, 0, h => by simp [PyData.canLayAll0] at h; exact h.1
 | x :: xs, j + 1, h => by simp [PyData.canLayAll0] at h; simpa using ar6 (j := j) h.2
theorem aj0 : ∀ (n : Nat) (da db : D) (A : Around) (s : Shared) (a b : Value) (as bs : List Addr) (c : Bool), da.depth ≤ n → Reads s.heap a da as → Reads s.heap b db bs → da.canLay0 = true → db.canLay0 = true → A.units + n < cLine → ltD da db = some c → aE1 A s a b c
 | n, .int i, .int j, A, s, _, _, _, _, c, hn, ra, rb, _, _, hu, h => by
  rw [ltD] at h; cases h
  cases ra; cases rb
  exact fun prog w E Q q => lt_int q
 | 0, .tuple xs, .tuple ys, A, s, _, _, _, _, c, hn, ra, rb, ha, hb, hu, h => by simp [PyData.depth] at hn
 | n + 1, .tuple xs, .tuple ys, A, s, _, _, _, _, c, hn, ra, rb, ha, hb, hu, h => by
  rw [ltD] at h
  have hd : PyData.depthAll xs ≤ n := by simp [PyData.depth] at hn; omega
  cases ra with
  | tuple h1 h2 h3 h4 =>
   cases rb with
   | tuple k1 k2 k3 k4 =>
    rename_i vs m1 a' o' vs' m2
    have n1 := ReadsAll.len h4
    have n2 := ReadsAll.len k4
    have z1 : vs.size = xs.length := by simpa using n1
    have z2 : vs'.size = ys.length := by simpa using n2
    refine aE1.tuples (e := pairEq xs ys) ⟨_, h1, h2, _, h3⟩ ⟨_, k1, k2, _, k3⟩ (by omega) (fun j j1 j2 => ?_) ?_
    ·have := eqAt_readsAll xs ys A.in1 s vs.toList vs'.toList _ _ h4 k4 ha hb (by show A.units + 1 + _ < _; have := Nat.min_le_left (PyData.depthAll xs) (PyData.depthAll ys); omega) j (by simpa using j1) (by simpa using j2)
     simpa using this
    ·rcases aG3 h with ⟨j, j1, j2, j3, j4⟩ | q
     ·refine .inl ⟨j, by rw [z1, z2]; exact j1, j2, j3, fun i1 i2 => ?_⟩
      obtain ⟨as', r1⟩ := ReadsAll.at h4 j (by simpa using i1)
      obtain ⟨bs', r2⟩ := ReadsAll.at k4 j (by simpa using i2)
      have := aj0 n (xs.getD j .none) (ys.getD j .none) A.in1 s _ _ _ _ c (Nat.le_trans (am6 (by omega)) hd) r1 r2 (ar6 ha) (ar6 hb) (by show A.units + 1 + n < _; omega) j4
      simpa using this
     ·exact .inr ⟨fun i hi => q.1 i (by rw [z1, z2] at hi; exact hi), by rw [q.2, z1, z2]⟩
 | _, .none, _, _, _, _, _, _, _, _, _, _, _, _, _, _, h => by simp [ltD] at h
 | _, .bool _, _, _, _, _, _, _, _, _, _, _, _, _, _, _, h => by simp [ltD] at h
 | _, .str _, _, _, _, _, _, _, _, _, _, _, _, _, _, _, h => by simp [ltD] at h
 | _, .list _, _, _, _, _, _, _, _, _, _, _, _, _, _, _, h => by simp [ltD] at h
 | _, .dict _, _, _, _, _, _, _, _, _, _, _, _, _, _, _, h => by simp [ltD] at h
 | _, .int _, .none, _, _, _, _, _, _, _, _, _, _, _, _, _, h => by simp [ltD] at h
 | _, .int _, .bool _, _, _, _, _, _, _, _, _, _, _, _, _, _, h => by simp [ltD] at h
 | _, .int _, .str _, _, _, _, _, _, _, _, _, _, _, _, _, _, h => by simp [ltD] at h
 | _, .int _, .list _, _, _, _, _, _, _, _, _, _, _, _, _, _, h => by simp [ltD] at h
 | _, .int _, .tuple _, _, _, _, _, _, _, _, _, _, _, _, _, _, h => by simp [ltD] at h
 | _, .int _, .dict _, _, _, _, _, _, _, _, _, _, _, _, _, _, h => by simp [ltD] at h
 | _, .tuple _, .none, _, _, _, _, _, _, _, _, _, _, _, _, _, h => by simp [ltD] at h
 | _, .tuple _, .bool _, _, _, _, _, _, _, _, _, _, _, _, _, _, h => by simp [ltD] at h
 | _, .tuple _, .int _, _, _, _, _, _, _, _, _, _, _, _, _, _, h => by simp [ltD] at h
 | _, .tuple _, .str _, _, _, _, _, _, _, _, _, _, _, _, _, _, h => by simp [ltD] at h
 | _, .tuple _, .list _, _, _, _, _, _, _, _, _, _, _, _, _, _, h => by simp [ltD] at h
 | _, .tuple _, .dict _, _, _, _, _, _, _, _, _, _, _, _, _, _, h => by simp [ltD] at h
end G
namespace G
open PySem PySem.Spec PySem.W PyProof.Rows L2
def evT (lt : Nat → Nat → Bool) {α : Type} : KasT α → α
 | .ret a => a
 | .ask i j k => evT lt (k (lt i j))
theorem Z0 (lt : Nat → Nat → Bool) {α β : Type} (f : α → KasT β) : ∀ t : KasT α, evT lt (t.bind f) = evT lt (f (evT lt t))
 | .ret _ => rfl
 | .ask i j k => Z0 lt f (k (lt i j))
structure SW (lt : Nat → Nat → Bool) : Prop where
 irr : ∀ a, lt a a = false
 asy : ∀ a b, lt a b = true → lt b a = false
 nt : ∀ a b c, lt a b = false → lt b c = false → lt a c = false
section
variable {lt : Nat → Nat → Bool}
def Up (lt : Nat → Nat → Bool) (p : Array Nat) (m : Nat) : Prop := ∀ i j, i ≤ j → j < m → lt (p.getD j 0) (p.getD i 0) = false
def Dw (lt : Nat → Nat → Bool) (p : Array Nat) (m : Nat) : Prop := ∀ i j, i ≤ j → j < m → lt (p.getD i 0) (p.getD j 0) = false
theorem aD7 (S : SW lt) {p : Array Nat} : ∀ (f n : Nat), 1 ≤ n → Up lt p n → n ≤ evT lt (kas_asc p f n) ∧ evT lt (kas_asc p f n) ≤ n + f ∧ Up lt p (evT lt (kas_asc p f n)) ∧ (evT lt (kas_asc p f n) < n + f → lt (p.getD (evT lt (kas_asc p f n)) 0) (p.getD (evT lt (kas_asc p f n) - 1) 0) = true)
 | 0, n, h1, hu => ⟨Nat.le_refl _, Nat.le_refl _, hu, fun h => absurd h (Nat.lt_irrefl _)⟩
 | f + 1, n, h1, hu => by
  show n ≤ evT lt (if lt (p.getD n 0) (p.getD (n - 1) 0) = true then .ret n else kas_asc p f (n + 1)) ∧ _
  show _ ∧ evT lt (if lt (p.getD n 0) (p.getD (n - 1) 0) = true then .ret n else kas_asc p f (n + 1)) ≤ _ ∧ Up lt p (evT lt (if lt (p.getD n 0) (p.getD (n - 1) 0) = true then .ret n else kas_asc p f (n + 1))) ∧ (evT lt (if lt (p.getD n 0) (p.getD (n - 1) 0) = true then .ret n else kas_asc p f (n + 1)) < _ → lt (p.getD (evT lt (if lt (p.getD n 0) (p.getD (n - 1) 0) = true then .ret n else kas_asc p f (n + 1))) 0) (p.getD (evT lt (if lt (p.getD n 0) (p.getD (n - 1) 0) = true then .ret n else kas_asc p f (n + 1)) - 1) 0) = true)
  cases c : lt (p.getD n 0) (p.getD (n - 1) 0) with
  | true => exact ⟨Nat.le_refl _, Nat.le_add_right _ _, hu, fun _ => c⟩
  | false =>
   have hu' : Up lt p (n + 1) := fun i j hij hj => by
    rcases Nat.lt_or_ge j n with q | q
    ·exact hu i j hij q
    ·have : j = n := by omega
     subst this
     rcases Nat.lt_or_ge i j with z | z
     ·exact S.nt _ _ _ c (hu i (j - 1) (by omega) (by omega))
     ·rw [show i = j by omega]; exact S.irr _
   obtain ⟨a, b, c', d⟩ := aD7 S f (n + 1) (by omega) hu'
   simp only [xft, if_false]
   exact ⟨by omega, by omega, c', fun h => d (by omega)⟩
theorem X0 {p : Array Nat} {s e : Nat} (he : e ≤ p.size) (k : Nat) : (kas_rev p s e).getD k 0 = if s ≤ k ∧ k < e then p.getD (s + e - 1 - k) 0 else p.getD k 0 := by
 unfold kas_rev
 rw [Array.getD_eq_getD_getElem?, getElem?_mirror_all he]
 split
 ·rw [Array.getD_eq_getD_getElem?]
 ·rw [Array.getD_eq_getD_getElem?]
theorem v3 (p : Array Nat) (s e : Nat) : (kas_rev p s e).size = p.size := mirror_size ..
theorem S0 (p : Array Nat) (s e : Nat) : (kas_rev p s e).Perm p := mirror_perm ..
theorem aR5 {p : Array Nat} {s e m : Nat} (he : e ≤ p.size) (hm : e ≤ m) (h : Dw lt p m) (eqv : ∀ i j, s ≤ i → i < e → s ≤ j → j < e → lt (p.getD i 0) (p.getD j 0) = false) : Dw lt (kas_rev p s e) m := fun i j hij hj => by
 rw [X0 he, X0 he]
 split
 ·split
  ·exact eqv _ _ (by omega) (by omega) (by omega) (by omega)
  ·exact h _ _ (by omega) hj
 ·split
  ·exact h _ _ (by omega) (by omega)
  ·exact h _ _ hij hj
structure DOk (lt : Nat → Nat → Bool) (p0 p : Array Nat) (n q : Nat) : Prop where
 sz : p.size = p0.size
 pm : p.Perm p0
 n1 : 1 ≤ n
 nz : n ≤ p0.size
 qn : q + 1 ≤ n
 dw : Dw lt p n
 eq : ∀ i j, n - (q + 1) ≤ i → i < n → n - (q + 1) ≤ j → j < n → lt (p.getD i 0) (p.getD j 0) = false
theorem ag3 (S : SW lt) {p0 : Array Nat} : ∀ (f : Nat) (p : Array Nat) (n q : Nat), n + f ≤ p0.size → DOk lt p0 p n q → DOk lt p0 (evT lt (kas_desc f p n q)).1 (evT lt (kas_desc f p n q)).2.1 (evT lt (kas_desc f p n q)).2.2 ∧ n ≤ (evT lt (kas_desc f p n q)).2.1 ∧ (evT lt (kas_desc f p n q)).2.1 ≤ n + f
 | 0, p, n, q, _, h => ⟨h, Nat.le_refl _, Nat.le_refl _⟩
 | f + 1, p, n, q, hf, h => by
  have one : ∀ (p1 : Array Nat), p1.size = p0.size → p1.Perm p0 → Dw lt p1 (n + 1) → DOk lt p0 p1 (n + 1) 0 := fun p1 a b c => ⟨a, b, by omega, by omega, by omega, c, fun i j h1 h2 h3 h4 => by rw [show i = j by omega]; exact S.irr _⟩
  have ext : lt (p.getD (n - 1) 0) (p.getD n 0) = false → Dw lt p (n + 1) := fun c i j hij hj => by
   rcases Nat.lt_or_ge j n with z | z
   ·exact h.dw i j hij z
   ·have : j = n := by omega
    subst this
    rcases Nat.lt_or_ge i j with z | z
    ·exact S.nt _ _ _ (h.dw i (j - 1) (by omega) (by omega)) c
    ·rw [show i = j by omega]; exact S.irr _
  have n1 := h.n1
  have qn := h.qn
  unfold kas_desc
  simp only [evT]
  cases c : lt (p.getD n 0) (p.getD (n - 1) 0) with
  | true =>
   have dw1 := ext (S.asy _ _ c)
   simp only [if_true]
   by_cases hq : q > 0
   ·simp only [if_pos hq]
    have r := one (kas_rev p (n - (q + 1)) n) ((v3 ..).trans h.sz) ((S0 ..).trans h.pm) (aR5 (by rw [h.sz]; exact h.nz) (by omega) dw1 h.eq)
    obtain ⟨a, b, d⟩ := ag3 S f _ (n + 1) 0 (by omega) r
    exact ⟨a, by omega, by omega⟩
   ·simp only [if_neg hq]
    obtain ⟨a, b, d⟩ := ag3 S f p (n + 1) 0 (by omega) (one p h.sz h.pm dw1)
    exact ⟨a, by omega, by omega⟩
  | false =>
   simp only [xft, if_false, evT]
   cases d : lt (p.getD (n - 1) 0) (p.getD n 0) with
   | true => simp only [if_true, evT]; exact ⟨h, Nat.le_refl _, by omega⟩
   | false =>
    simp only [xft, if_false]
    have r : DOk lt p0 p (n + 1) (q + 1) := ⟨h.sz, h.pm, by omega, by omega, by omega, ext d, fun i j h1 h2 h3 h4 => by
     have up : ∀ i, n - (q + 1) ≤ i → i < n → lt (p.getD i 0) (p.getD n 0) = false ∧ lt (p.getD n 0) (p.getD i 0) = false := fun i a b => ⟨S.nt _ _ _ (h.eq i (n - 1) a b (by omega) (by omega)) d, S.nt _ _ _ c (h.eq (n - 1) i (by omega) (by omega) a b)⟩
     rcases Nat.lt_or_ge i n with z | z
     ·rcases Nat.lt_or_ge j n with y | y
      ·exact h.eq i j (by omega) z (by omega) y
      ·rw [show j = n by omega]; exact (up i (by omega) z).1
     ·rcases Nat.lt_or_ge j n with y | y
      ·rw [show i = n by omega]; exact (up j (by omega) y).2
      ·rw [show i = n by omega, show j = n by omega]; exact S.irr _⟩
    obtain ⟨a, b, e⟩ := ag3 S f p (n + 1) (q + 1) (by omega) r
    exact ⟨a, by omega, by omega⟩
structure COk (lt : Nat → Nat → Bool) (p0 : Array Nat) (nrem : Nat) (r : Nat × Array Nat) : Prop where
 sz : r.2.size = p0.size
 pm : r.2.Perm p0
 m1 : 1 ≤ r.1
 mn : r.1 ≤ nrem
 up : Up lt r.2 r.1
theorem au3 (S : SW lt) {p0 p : Array Nat} {n nrem : Nat} (h1 : 1 ≤ n) (hn : n ≤ nrem) (hz : nrem ≤ p0.size) (sz : p.size = p0.size) (pm : p.Perm p0) (dw : Dw lt p n) : COk lt p0 nrem (evT lt (kas_tail3 n nrem p)) := by
 unfold kas_tail3
 rw [Z0]
 have up : Up lt (kas_rev p 0 n) n := fun i j hij hj => by
  rw [X0 (by omega), X0 (by omega), if_pos ⟨by omega, hj⟩, if_pos ⟨by omega, by omega⟩]
  exact dw _ _ (by omega) (by omega)
 obtain ⟨a, b, c, _⟩ := aD7 S (nrem - n) n h1 up
 exact ⟨(v3 ..).trans sz, (S0 ..).trans pm, by show 1 ≤ evT lt (kas_asc _ _ _); omega, by show evT lt (kas_asc _ _ _) ≤ nrem; omega, c⟩
theorem ax8 (S : SW lt) {p0 p : Array Nat} {n nrem : Nat} (h1 : 1 ≤ n) (hn : n + 1 ≤ nrem) (hz : nrem ≤ p0.size) (sz : p.size = p0.size) (pm : p.Perm p0) (dw : Dw lt p (n + 1)) : COk lt p0 nrem (evT lt (kas_descPart n nrem p)) := by
 unfold kas_descPart
 rw [Z0]
 obtain ⟨d, a, b⟩ := ag3 S (p0 := p0) (nrem - (n + 1)) p (n + 1) 0 (by omega) ⟨sz, pm, by omega, by omega, by omega, dw, fun i j _ _ _ _ => by rw [show i = j by omega]; exact S.irr _⟩
 generalize evT lt (kas_desc (nrem - (n + 1)) p (n + 1) 0) = r at d a b
 obtain ⟨p1, n1, q1⟩ := r
 simp only at d a b ⊢
 split
 ·exact au3 S d.n1 (by omega) hz ((v3 ..).trans d.sz) ((S0 ..).trans d.pm) (aR5 (by rw [d.sz]; exact d.nz) (Nat.le_refl _) d.dw d.eq)
 ·exact au3 S d.n1 (by omega) hz d.sz d.pm d.dw
theorem aZ5 (S : SW lt) {p : Array Nat} {nrem : Nat} (h1 : 1 ≤ nrem) (hz : nrem ≤ p.size) : COk lt p nrem (evT lt (kas_count nrem p)) := by
 unfold kas_count
 rw [Z0]
 obtain ⟨a, b, c, d⟩ := aD7 S (p := p) (nrem - 1) 1 (Nat.le_refl _) (fun i j h1 h2 => by rw [show i = j by omega]; exact S.irr _)
 generalize evT lt (kas_asc p (nrem - 1) 1) = n at a b c d
 by_cases e : n = nrem
 ·rw [if_pos (by rw [e]; exact beq_self_eq_true _)]
  exact ⟨rfl, Array.Perm.refl _, a, by show n ≤ nrem; omega, c⟩
 ·rw [if_neg (by intro z; exact e (eq_of_beq z))]
  have dn := d (by omega)
  have key : ∀ q : Array Nat, q.size = p.size → q.Perm p → Dw lt q n → (∀ i, i < n → lt (q.getD i 0) (p.getD (n - 1) 0) = false ∧ q.getD n 0 = p.getD n 0) → COk lt p nrem (evT lt (kas_descPart n nrem q)) := fun q sz pm dw h => ax8 S a (by omega) hz sz pm fun i j hij hj => by
   rcases Nat.lt_or_ge j n with z | z
   ·exact dw i j hij z
   ·have : j = n := by omega
    subst this
    rcases Nat.lt_or_ge i j with z | z
    ·rw [(h i z).2]
     exact S.nt _ _ _ (h i z).1 (S.asy _ _ dn)
    ·rw [show i = j by omega]; exact S.irr _
  by_cases g : n > 1
  ·rw [if_pos g]
   show COk lt p nrem (evT lt (if lt (p.getD 0 0) (p.getD (n - 1) 0) = true then .ret (n, p) else kas_descPart n nrem (kas_rev p 0 n)))
   cases z : lt (p.getD 0 0) (p.getD (n - 1) 0) with
   | true =>
    rw [if_pos rfl]
    exact ⟨rfl, Array.Perm.refl _, a, by show n ≤ nrem; omega, c⟩
   | false =>
    rw [if_neg (by simp)]
    have all : ∀ i j, i < n → j < n → lt (p.getD i 0) (p.getD j 0) = false := fun i j hi hj => S.nt _ _ _ (c 0 i (by omega) hi) (S.nt _ _ _ z (c j (n - 1) (by omega) (by omega)))
    refine key _ (v3 ..) (S0 ..) (fun i j hij hj => ?_) fun i hi => ⟨?_, ?_⟩
    ·rw [X0 (by omega), X0 (by omega), if_pos ⟨by omega, by omega⟩, if_pos ⟨by omega, hj⟩]
     exact all _ _ (by omega) (by omega)
    ·rw [X0 (by omega), if_pos ⟨by omega, by omega⟩]
     exact all _ _ (by omega) (by omega)
    ·rw [X0 (by omega), if_neg (by omega)]
  ·rw [if_neg g]
   have : n = 1 := by omega
   subst this
   exact key p rfl (Array.Perm.refl _) (fun i j hij hj => by rw [show i = j by omega]; exact S.irr _) fun i hi => ⟨by rw [show i = 0 by omega]; exact S.irr _, rfl⟩
theorem ai4 (S : SW lt) {p : Array Nat} {k : Nat} (up : Up lt p k) : ∀ (f l r : Nat), r - l ≤ f → l ≤ r → r ≤ k → (∀ i, i < l → lt (p.getD k 0) (p.getD i 0) = false) → (∀ i, r ≤ i → i < k → lt (p.getD k 0) (p.getD i 0) = true) → evT lt (kas_place p k f l r) ≤ k ∧ (∀ i, i < evT lt (kas_place p k f l r) → lt (p.getD k 0) (p.getD i 0) = false) ∧ ∀ i, evT lt (kas_place p k f l r) ≤ i → i < k → lt (p.getD k 0) (p.getD i 0) = true
 | 0, l, r, hf, hl, hr, h1, h2 => ⟨by show l ≤ k; omega, h1, fun i a b => h2 i (by have : l ≤ i := a; omega) b⟩
 | f + 1, l, r, hf, hl, hr, h1, h2 => by
  unfold kas_place
  by_cases g : l ≥ r
  ·rw [if_pos g]
   exact ⟨by show l ≤ k; omega, h1, fun i a b => h2 i (by have : l ≤ i := a; omega) b⟩
  ·rw [if_neg g]
   simp only [evT]
   cases c : lt (p.getD k 0) (p.getD ((l + r) / 2) 0) with
   | true =>
    simp only [if_true]
    refine ai4 S up f l ((l + r) / 2) (by omega) (by omega) (by omega) h1 fun i a b => ?_
    rcases Nat.lt_or_ge i r with z | z
    ·cases d : lt (p.getD k 0) (p.getD i 0) with
     | true => rfl
     | false =>
      have := S.nt _ _ _ d (up ((l + r) / 2) i a b)
      rw [c] at this; cases this
    ·exact h2 i z b
   | false =>
    simp only [xft, if_false]
    refine ai4 S up f ((l + r) / 2 + 1) r (by omega) (by omega) hr (fun i a => ?_) h2
    exact S.nt _ _ _ c (up i ((l + r) / 2) (by omega) (by omega))
theorem aH9 {p : Array Nat} {k d : Nat} (hk : k < p.size) (hd : d ≤ k) (i : Nat) : (bubble p k d).getD i 0 = if i = k - d then p.getD k 0 else if k - d < i ∧ i ≤ k then p.getD (i - 1) 0 else p.getD i 0 := by
 rw [Array.getD_eq_getD_getElem?, Array.getD_eq_getD_getElem?, Array.getD_eq_getD_getElem?, Array.getD_eq_getD_getElem?, getElem?_bubble hk d hd]
 split
 ·rfl
 ·split <;> rfl
theorem ba2 (S : SW lt) {p0 : Array Nat} : ∀ (f : Nat) (p : Array Nat) (k : Nat), k + f ≤ p0.size → p.size = p0.size → p.Perm p0 → Up lt p k → (evT lt (kas_bin f p k)).size = p0.size ∧ (evT lt (kas_bin f p k)).Perm p0 ∧ Up lt (evT lt (kas_bin f p k)) (k + f)
 | 0, p, k, _, sz, pm, up => ⟨sz, pm, up⟩
 | f + 1, p, k, hk, sz, pm, up => by
  unfold kas_bin
  rw [Z0]
  obtain ⟨a, b, c⟩ := ai4 S up k 0 k (by omega) (by omega) (Nat.le_refl _) (fun i h => by omega) (fun i h1 h2 => by omega)
  generalize evT lt (kas_place p k k 0 k) = x at a b c
  have up' : Up lt (bubble p k (k - x)) (k + 1) := fun i j hij hj => by
   rw [aH9 (by omega) (by omega), aH9 (by omega) (by omega), show k - (k - x) = x by omega]
   rcases Nat.lt_trichotomy j x with z | z | z
   ·rw [if_neg (by omega), if_neg (by omega), if_neg (by omega), if_neg (by omega)]
    exact up i j hij (by omega)
   ·rw [if_pos z]
    rcases Nat.lt_or_ge i x with y | y
    ·rw [if_neg (by omega), if_neg (by omega)]; exact b i y
    ·rw [if_pos (by omega)]; exact S.irr _
   ·rw [if_neg (by omega), if_pos ⟨z, by omega⟩]
    rcases Nat.lt_trichotomy i x with y | y | y
    ·rw [if_neg (by omega), if_neg (by omega)]; exact up i (j - 1) (by omega) (by omega)
    ·rw [if_pos y]; exact S.asy _ _ (c (j - 1) (by omega) (by omega))
    ·rw [if_neg (by omega), if_pos ⟨y, by omega⟩]; exact up (i - 1) (j - 1) (by omega) (by omega)
  have := ba2 S f (bubble p k (k - x)) (k + 1) (by omega) ((bubble_size ..).trans sz) ((bubble_perm ..).trans pm) up'
  rw [show k + (f + 1) = k + 1 + f by omega]
  exact this
theorem bc1 (S : SW lt) {n : Nat} (hn : 1 ≤ n) : (evT lt (kas_sort n)).size = n ∧ (evT lt (kas_sort n)).Perm (List.toArray (List.range n)) ∧ Up lt (evT lt (kas_sort n)) n := by
 unfold kas_sort
 rw [Z0]
 have hz : (List.toArray (List.range n)).size = n := by simp
 have c := aZ5 S (p := List.toArray (List.range n)) hn (by rw [hz]; exact Nat.le_refl _)
 generalize evT lt (kas_count n (List.toArray (List.range n))) = r at c
 obtain ⟨m, p⟩ := r
 obtain ⟨sz, pm, m1, mn, up⟩ := c
 simp only at sz pm m1 mn up ⊢
 rw [Nat.max_eq_left m1]
 split
 ·obtain ⟨a, b, d⟩ := ba2 S (n - m) p m (by rw [hz]; omega) sz pm up
  rw [show m + (n - m) = n by omega] at d
  exact ⟨a.trans hz, b, d⟩
 ·have : m = n := by omega
  subst this
  exact ⟨sz.trans hz, pm, up⟩
end
end G
namespace G
open PySem PySem.Spec PyProof.Rows L2
abbrev FnD := List D → Option D
structure Sg where
 fn : List (Str × FnD × Nat)
 cs : List (Str × D)
 bl : List Str
structure Kx where
 N : List Str
 sc : Scope
 df : Bool
 own : List Nat
 cpt : List Nat
 tx : List Nat
 old : Bool
 fz : List (Nat × List Nat)
 hc : List ((Nat × Nat) × List Nat)
def biS (K : PySem.W.Frag) (n : Nat) (F : List D → Option D) : List V → Hp → VK → Prop := fun vs H Q => vs.length = n ∧ ∃ Hf ds d, D6 Hf H ∧ Reps K Hf ds vs ∧ F ds = some d ∧ ∀ v H' Hf', Grow H Hf H' Hf' → Rep K Hf' d v → Q v H'
def bb4 (x : Str) (F : FnD) (n : Nat) : Prop := 0 < n ∧ x ≠ "__name__" ∧ ∃ nm, bootBuiltins x = some (.builtin nm) ∧ ∀ X : Cx, X.A.units + 64 < cLine → S4 X (.builtin nm) (biS X.K n F)
theorem bH0 {X : Cx} {n : Nat} {F : FnD} {x : Str} {e : Expr} {es : List Expr} {g : Rho → Option (List D)} {p pos : Pos} (hb : bb4 x F n) (hu : X.A.units + 64 < cLine) (hg : Gl X x) (hm : X.mg x = none) (ha : JA X (e :: es) g) (hn : (e :: es).length = n) (hdb : (x == ("__debug__" : Str)) = false)
  (he : starEach (e :: es) X.env = (false, eval e X.env) :: starEach es X.env) (hpl : (backTo pos (starEach es X.env)).any (·.1) = false) : JE X (.Call (.Name x p) (e :: es) [] pos) (A2 F g) := fun ρ d q => by
 obtain ⟨ds, h1, h2⟩ := Option.bind_eq_some_iff.mp q
 obtain ⟨_, hnn, nm, hv, hc⟩ := hb
 refine A6 (O7 (hc X hu) hg hm hv (ha.run ρ ds h1) hnn hdb he hpl) fun σ H Q ⟨H0, Hf, s, sl, kk⟩ => ?_
 exact ⟨H0, Hf, s, sl, fun vs H1 Hf1 g1 r1 => ⟨by rw [r1.length, ha.len ρ ds h1, hn], Hf1, ds, d, g1.sub, r1, h2, fun v H2 Hf2 g2 r2 => kk v H2 Hf2 (g1.trans g2) r2⟩⟩
def bL9 (X : Cx) (x : Str) (F : FnD) (n : Nat) : Prop := (∃ (k : Nat) (f : Addr) (fd : FuncData) (ps : List Str), FnOk X.prog X.w X.K X.mg X.base CX0 k f fd ps (spF X.K n F) ∧ Room k X.A ∧ X.mg x = some (.ref f) ∧ PySem.W.keepIn X.K (.ref f) = true ∧ o0 X.K fd ps []) ∨ (X.mg x = none ∧ bb4 x F n)
structure Fit (S : Sg) (c : Kx) (X : Cx) : Prop where
 N : X.N = c.N
 sc : X.env.scope = c.sc
 nd : c.N.Nodup
 calm : X.calm = true
 xe : X.xe = fun _ _ => False
 units : X.A.units + 64 < cLine
 df : c.df = true → (∀ x, X.fn x = true) ∧ c.sc.kind = .function
 fns : ∀ x F n, S.fn.lookup x = some (F, n) → bL9 X x F n
 css : ∀ x d, S.cs.lookup x = some d → ∃ u, aE2 X.K d u ∧ X.mg x = some u
 bls : ∀ x, S.bl.contains x = true → X.mg x = none
def pl : Expr → Bool
 | .Starred .. => false
 | .Slice .. => false
 | .Set .. => false
 | _ => true
def aU1 : Expr → Bool
 | .Call .. => false
 | _ => true
def isC : Expr → Bool
 | .ListComp .. => true
 | .SetComp .. => true
 | .DictComp .. => true
 | _ => false
def plT : Expr → Bool
 | .UnaryOp .. => false
 | .BoolOp .. => false
 | .IfExp .. => false
 | .Compare .. => false
 | _ => true
def p9 (x : Str) : List Str → Option Nat
 | [] => none
 | y :: r => if y == x then some 0 else (p9 x r).map (· + 1)
theorem aw8 {x : Str} : ∀ {l : List Str} {i : Nat}, p9 x l = some i → l[i]? = some x
 | [], i, h => by cases h
 | y :: r, i, h => by
  unfold p9 at h
  split at h
  ·rename_i e
   cases h
   simp only [beq_iff_eq] at e
   subst e; rfl
  ·obtain ⟨j, h1, h2⟩ := Option.map_eq_some_iff.mp h
   subst h2
   simpa using aw8 h1
def ad5 : List Str → Bool
 | [] => true
 | x :: r => !(r.contains x) && ad5 r
theorem ad4 : ∀ {l : List Str}, ad5 l = true → l.Nodup
 | [], _ => List.nodup_nil
 | x :: r, h => by
  unfold ad5 at h
  simp only [Bool.and_eq_true, Bool.not_eq_true'] at h
  refine List.nodup_cons.mpr ⟨fun z => ?_, ad4 h.2⟩
  have := h.1
  rw [List.contains_iff_mem.mpr z] at this
  cases this
def aJ0 (sc : Scope) (x : Str) : Bool := (match sc.names.lookup x with | some .local => true | some .cell => true | some .free => true | _ => false) && !(x == ("__debug__" : Str)) && !(x == ("__classdict__" : Str))
def aV1 (c : Kx) (x : Str) : Bool := (match c.sc.names.lookup x with | some .local => true | some .cell => c.df | _ => false)
def aX7 (sc : Scope) (x : Str) : Bool := (match sc.names.lookup x with | some .globalImplicit => true | _ => false) && !(x == ("__debug__" : Str))
def biB (S : Sg) (c : Kx) (w x : Str) : Bool := x == w && S.bl.contains w && aX7 c.sc w
section
variable {X : Cx} {S : Sg} {c : Kx}
theorem af8 {x : Str} (F : Fit S c X) (h : aJ0 c.sc x = true) : Vis X.env.scope x ∧ (x == ("__debug__" : Str)) = false ∧ (x == ("__classdict__" : Str)) = false := by
 unfold aJ0 at h
 simp only [Bool.and_eq_true, Bool.not_eq_true'] at h
 obtain ⟨⟨h1, h2⟩, h3⟩ := h
 refine ⟨?_, h2, h3⟩
 rw [F.sc]
 unfold Vis
 split at h1
 ·rename_i e; exact .inl e
 ·rename_i e; exact .inr (.inl e)
 ·rename_i e; exact .inr (.inr e)
 ·cases h1
theorem aG4 {x : Str} (F : Fit S c X) (h : aV1 c x = true) : L2.Loc X.env.scope x ∧ (X.fn x = true ∨ X.env.scope.names.lookup x = some .local) := by
 unfold aV1 at h
 rw [F.sc]
 unfold L2.Loc
 split at h
 ·rename_i e; exact ⟨.inl e, .inr e⟩
 ·rename_i e; exact ⟨.inr e, .inl ((F.df h).1 x)⟩
 ·cases h
theorem as2 {x : Str} (F : Fit S c X) (h : aX7 c.sc x = true) : Gl X x ∧ (x == ("__debug__" : Str)) = false := by
 unfold aX7 at h
 simp only [Bool.and_eq_true, Bool.not_eq_true'] at h
 refine ⟨?_, h.2⟩
 unfold Gl Env.kindOf
 rw [F.sc]
 have h1 := h.1
 split at h1
 ·rename_i e; exact e
 ·cases h1
theorem N0 {w x : Str} (F : Fit S c X) (h : biB S c w x = true) : x = w ∧ Gl X w ∧ X.mg w = none := by
 unfold biB at h
 simp only [Bool.and_eq_true, beq_iff_eq] at h
 exact ⟨h.1.1, (as2 F h.2).1, F.bls _ h.1.2⟩
theorem E8 {e : Expr} (h : pl e = true) (es : List Expr) (env : Env) : starEach (e :: es) env = (false, eval e env) :: starEach es env := by
 cases e <;> first | rfl | cases h
theorem bl1 {e : Expr} (h : pl e = true) : ag8 e := by
 intro o i
 cases e <;> first | rfl | cases h
theorem ag0 {e : Expr} (h : pl e = true) (op : CmpOp) : behindInMarks op e = false := by
 cases e <;> first | rfl | cases h
theorem aF6 {e : Expr} (h : pl e = true) (env : Env) (x : Value) : foldedSetIterable e env x = pure x := by
 cases e <;> first | rfl | cases h
theorem av7 {o : Expr} (h : aU1 o = true) (attr : Str) (env : Env) (t : Sem Value) : attributeBase o attr env t = t := by
 cases o <;> first | rfl | cases h
theorem ai7 {e : Expr} (h : isC e = false) (t : Option Expr) (l : Nat) (env : Env) : swapsWith e t l env = pure false := by
 cases e <;> first | rfl | cases h
theorem aS3 {e : Expr} (h : plT e = true) (env : Env) (whole : Sem Value) : isTrue e env whole = (do let v ← whole; standAt e.pos; holding [v] (truthy v)) := by
 cases e <;> first | rfl | cases h
end
end G
namespace G
open PySem PySem.Spec PySem.W PyProof.Rows L2 PySem.SeqAt
def Ask (n : Nat) {α : Type} (P : α → Prop) : KasT α → Prop
 | .ret a => P a
 | .ask i j k => i < n ∧ j < n ∧ ∀ b, Ask n P (k b)
theorem Ask.bind {n : Nat} {α β : Type} {P : α → Prop} {P' : β → Prop} {f : α → KasT β} (hf : ∀ a, P a → Ask n P' (f a)) : ∀ {t : KasT α}, Ask n P t → Ask n P' (t.bind f)
 | .ret a, h => hf a h
 | .ask i j k, h => ⟨h.1, h.2.1, fun b => Ask.bind hf (h.2.2 b)⟩
theorem Ask.ite {n : Nat} {α : Type} {P : α → Prop} {c : Prop} [Decidable c] {s t : KasT α} (h1 : Ask n P s) (h2 : Ask n P t) : Ask n P (if c then s else t) := by split <;> assumption
def Lo (n : Nat) (p : Array Nat) : Prop := p.size = n ∧ ∀ x ∈ p, x < n
section
variable {n : Nat} (hn : 0 < n)
include hn
theorem Lo.get {p : Array Nat} (h : Lo n p) (k : Nat) : p.getD k 0 < n := by
 rw [Array.getD_eq_getD_getElem?]
 rcases Nat.lt_or_ge k p.size with q | q
 ·rw [Array.getElem?_eq_getElem q]; exact h.2 _ (Array.getElem_mem q)
 ·rw [Array.getElem?_eq_none q]; exact hn
omit hn in
theorem Lo.perm {p q : Array Nat} (h : Lo n p) (e : q.Perm p) : Lo n q := ⟨e.size_eq.trans h.1, fun x hx => h.2 x (e.mem_iff.mp hx)⟩
theorem aD8 {p : Array Nat} (h : Lo n p) : ∀ (f m : Nat), Ask n (fun _ => True) (kas_asc p f m)
 | 0, _ => trivial
 | f + 1, m => ⟨h.get hn _, h.get hn _, fun b => .ite (c := b = true) trivial (aD8 h f (m + 1))⟩
theorem ag4 : ∀ (f : Nat) (p : Array Nat) (m q : Nat), Lo n p → Ask n (fun r : Array Nat × Nat × Nat => Lo n r.1) (kas_desc f p m q)
 | 0, _, _, _, h => h
 | f + 1, p, m, q, h => ⟨h.get hn _, h.get hn _, fun b => .ite (c := b = true) (.ite (ag4 f _ _ _ (h.perm (S0 ..))) (ag4 f _ _ _ h)) ⟨h.get hn _, h.get hn _, fun d => .ite (c := d = true) h (ag4 f _ _ _ h)⟩⟩
theorem au4 {p : Array Nat} (m r : Nat) (h : Lo n p) : Ask n (fun r : Nat × Array Nat => Lo n r.2) (kas_tail3 m r p) := by
 unfold kas_tail3
 refine Ask.bind (P := fun _ => True) (fun m _ => ?_) (aD8 hn (h.perm (S0 ..)) _ _)
 exact h.perm (S0 ..)
theorem ae9 {p : Array Nat} (m r : Nat) (h : Lo n p) : Ask n (fun r : Nat × Array Nat => Lo n r.2) (kas_descPart m r p) := by
 unfold kas_descPart
 exact Ask.bind (fun x hx => Ask.ite (au4 hn _ _ (Lo.perm hx (S0 ..))) (au4 hn _ _ hx)) (ag4 hn _ _ _ _ h)
theorem aZ6 {p : Array Nat} (r : Nat) (h : Lo n p) : Ask n (fun r : Nat × Array Nat => Lo n r.2) (kas_count r p) := by
 unfold kas_count
 refine Ask.bind (fun m _ => ?_) (aD8 hn h _ _)
 refine Ask.ite h (Ask.ite ⟨h.get hn _, h.get hn _, fun b => ?_⟩ (ae9 hn _ _ h))
 exact Ask.ite (c := b = true) h (ae9 hn _ _ (h.perm (S0 ..)))
theorem ai5 {p : Array Nat} (h : Lo n p) (k : Nat) : ∀ (f l r : Nat), Ask n (fun _ => True) (kas_place p k f l r)
 | 0, _, _ => trivial
 | f + 1, l, r => .ite (c := l ≥ r) trivial ⟨h.get hn _, h.get hn _, fun b => .ite (c := b = true) (ai5 h k f _ _) (ai5 h k f _ _)⟩
theorem ba3 : ∀ (f : Nat) (p : Array Nat) (k : Nat), Lo n p → Ask n (Lo n) (kas_bin f p k)
 | 0, _, _, h => h
 | f + 1, p, k, h => by
  unfold kas_bin
  exact Ask.bind (fun l _ => ba3 f _ _ (h.perm (bubble_perm ..))) (ai5 hn h k _ _ _)
theorem bc2 : Ask n (Lo n) (kas_sort n) := by
 unfold kas_sort
 refine Ask.bind (fun r hr => ?_) (aZ6 hn n (show Lo n (List.toArray (List.range n)) from ⟨by simp, fun x hx => by simpa using hx⟩))
 exact Ask.ite (ba3 hn _ _ _ hr) hr
end
theorem aI3 {n : Nat} {α : Type} {P : α → Prop} {cmp : Nat → Nat → (Bool → Shared → Prop) → Shared → Prop} {lt : Nat → Nat → Bool} {Q : α → Shared → Prop} {s : Shared} (hc : ∀ i j C, i < n → j < n → C (lt i j) s → cmp i j C s) : ∀ {t : KasT α}, Ask n P t → (P (evT lt t) → Q (evT lt t) s) → t.kasWp cmp Q s
 | .ret a, h, q => q h
 | .ask i j k, h, q => hc i j _ h.1 h.2.1 (aI3 hc (h.2.2 _) q)
section
variable {prog : Program} {w : World} {A : Around} {E : Value → Shared → Prop} {s : Shared}
theorem ay2 {T : String} {l : Addr} {o : Obj} {vs : List Value} {n : Nat} {Q : List Value → Shared → Prop} (hT : T = "list" ∨ T = "tuple") (ho : s.heap.get? l = some o) (hc : o.cls = .type T) (hd : o.data = .seq vs.toArray n)
  (h : Q vs { s with heap := (s.heap.push (seqObj "list" #[] 0)).update s.heap.objs.size (Obj.mapSeq (· ++ vs.toArray)) }) (hsz : vs.length ≤ sizeLine) :
  wpAny (model prog w) A (collect (.ref l)) Q E s := by
 unfold collect
 refine wpAny_bind (wpAny_runValue (codeAny_builtin entry_proto_collect' ?_))
 show wpAny _ _ (do again (.builtin "list.__iadd__" ⟨[← newList [], .ref l], []⟩)) _ _ s
 refine wpAny_bind (wpAny_newList (wpAny_pure ⟨Code.quiet_builtin _ (by decide +kernel), codeAny_builtin entry_list_iadd' ?_⟩))
 show wpAny _ _ (Builtin.List.listExtendWith (.ref s.heap.objs.size) (.ref l) (.ref s.heap.objs.size)) _ _ { s with heap := s.heap.push (seqObj "list" #[] 0) }
 unfold Builtin.List.listExtendWith
 have ho' : (s.heap.push (seqObj "list" #[] 0)).get? l = some o := Heap.get?_push_of_some _ ho
 refine wpAny_bind (wpAny_typeOf (T := T) ⟨o, ho', hc⟩ ?_)
 rw [if_pos (by
  have t1 : (Value.type "list" == Value.type "list") = true := by rfl
  have t2 : (Value.type "tuple" == Value.type "tuple") = true := by rfl
  rcases hT with rfl | rfl
  ·rw [t1]; simp
  ·rw [t2]; simp)]
 refine wpAny_bind (listItems_at ho' hd ?_)
 refine wpAny_bind (listItems_at (xs := #[]) (n := 0) (Heap.get?_push_size _ rfl) rfl ?_)
 rw [if_neg (by simp)]
 refine wpAny_bind (listUpdate_at (xs := #[]) (n := 0) (Heap.get?_push_size _ rfl) rfl ?_ (Nat.zero_le _) (by show (#[] ++ vs.toArray).size ≤ sizeLine + 1; simp only [Array.size_append, List.size_toArray, List.length_nil]; omega))
 refine wpAny_pure ?_
 show wpAny (model prog w) A (do
   let o ← load s.heap.objs.size
   match o.data with
   | .seq xs _ => pure xs.toList
   | _ => unsupported "internal:collect") Q E { s with heap := (s.heap.push (seqObj "list" #[] 0)).update s.heap.objs.size (Obj.mapSeq (· ++ vs.toArray)) }
 refine wpAny_bind (wpAny_load (get?_update_seq (Heap.get?_push_size _ rfl) _) ?_)
 show wpAny _ _ (pure ((#[] : Array Value) ++ vs.toArray).toList) Q E _
 rw [show ((#[] : Array Value) ++ vs.toArray).toList = vs by simp]
 exact wpAny_pure h
theorem aV0 {a : Addr} {vs out : List Value} {n : Nat} {P : PySem.Fin → Shared → Prop} (ho : s.heap.get? a = some (seqObj "list" vs.toArray n)) (h64 : vs.length < 64) (h1 : vs.length < 2 → out = vs)
  (hk : 2 ≤ vs.length → ∀ h' : Heap, (∀ b o, b ≠ a → s.heap.get? b = some o → h'.get? b = some o) →
   wpAny (model prog w) A (keyKind' vs.toArray) (fun κ s' => (kas_sort vs.length).kasWp (kas_ask prog w A κ vs) (fun p s'' => s'' = { s with heap := h' } ∧ (p.toList.map fun i => vs.getD i Value.none) = out) s') (fun _ _ => False) { s with heap := h' })
  (h : ∀ h' c, (∀ b o, b ≠ a → s.heap.get? b = some o → h'.get? b = some o) → h'.get? a = some (seqObj "list" out.toArray c) → P (.done (.ret .none)) { s with heap := h' }) :
  wpAny (model prog w) A (Builtin.«list.sort» ⟨[.ref a], []⟩) P E s := by
 have ha : a < s.heap.objs.size := Heap.lt_size ho
 have hsz : vs.toArray.size = vs.length := by simp
 obtain ⟨e1, ho1⟩ : ∃ e1, (s.heap.update a (Obj.mapSeq fun _ => (#[] : Array Value))).get? a = some (seqObj "list" #[] e1) := ⟨_, get?_update_seq ho fun _ => #[]⟩
 have s1 := Heap.SameBut.update s.heap a (Obj.mapSeq fun _ => (#[] : Array Value))
 rw [list_sort_plain]
 refine wpAny_bind (listItems_at ho rfl ?_)
 refine wpAny_bind (listUpdate_at ho rfl ?_ (by rw [List.size_toArray, sizeLine_eq]; omega) (Nat.zero_le _))
 refine wpAny_bind (seqEpoch_at ho1 rfl ?_)
 refine wpAny_bind (wpAny_newTuple ?_ (by show vs.length ≤ _; rw [sizeLine_eq]; omega))
 refine wpAny_bind (wpAny_newList ?_ (Nat.zero_le _))
 refine wpAny_holding ?_
 have keep : ∀ b o, b ≠ a → s.heap.get? b = some o → (((s.heap.update a (Obj.mapSeq fun _ => (#[] : Array Value))).push (seqObj "tuple" vs.toArray 0)).push (seqObj "list" #[] 0)).get? b = some o := fun b o hb q =>
  Heap.get?_push_of_some _ (Heap.get?_push_of_some _ (s1.extBut b o hb q))
 have ho3 : (((s.heap.update a (Obj.mapSeq fun _ => (#[] : Array Value))).push (seqObj "tuple" vs.toArray 0)).push (seqObj "list" #[] 0)).get? a = some (seqObj "list" #[] e1) := Heap.get?_push_of_some _ (Heap.get?_push_of_some _ ho1)
 show wpAny _ _ _ _ _ { s with heap := ((s.heap.update a (Obj.mapSeq fun _ => (#[] : Array Value))).push (seqObj "tuple" vs.toArray 0)).push (seqObj "list" #[] 0) }
 generalize ((s.heap.update a (Obj.mapSeq fun _ => (#[] : Array Value))).push (seqObj "tuple" vs.toArray 0)).push (seqObj "list" #[] 0) = h3 at keep ho3
 have fin : ∃ c, (h3.update a (Obj.mapSeq fun _ => out.toArray)).get? a = some (seqObj "list" out.toArray c) := ⟨_, get?_update_seq ho3 fun _ => out.toArray⟩
 obtain ⟨c, hc⟩ := fin
 have keep' : ∀ b o, b ≠ a → s.heap.get? b = some o → (h3.update a (Obj.mapSeq fun _ => out.toArray)).get? b = some o := fun b o hb q => (Heap.SameBut.update h3 a _).extBut b o hb (keep b o hb q)
 by_cases h2 : vs.toArray.size < 2
 ·rw [if_pos h2, if_pos h2]
  refine wpAny_bind (wpAny_pure ?_)
  dsimp only
  rw [StateT.run_pure]
  refine wpAny_bind (wpAny_pure ?_)
  dsimp only
  have ez : (arrOf (SortSt.mk' general' (vs.toArray.zip vs.toArray) #[] 7 none)).map (·.2) = out.toArray := by
   rw [h1 (by omega)]
   show (vs.toArray.zip vs.toArray).map (·.2) = vs.toArray
   apply Array.toList_inj.mp
   simp [List.map_snd_zip]
  rw [ez]
  refine wpAny_bind (seqEpoch_at ho3 rfl ?_)
  refine wpAny_bind (listUpdate_at ho3 rfl ?_ (Nat.zero_le _) (by rw [List.size_toArray, sizeLine_eq, h1 (by omega)]; omega))
  show wpAny _ _ _ _ _ _
  simp only [bne_self_eq_false, xft, if_false]
  exact wpAny_pure (h _ c keep' hc)
 ·rw [if_neg h2, if_neg h2]
  refine wpAny_bind (wpAny_mono (hk (by omega) h3 keep) (fun κ s' hκ => ?_) fun _ _ x => x.elim)
  refine wpAny_bind (wpAny_mono (kat_run (E := E) (Q := fun st' s'' => ∃ p : Array Nat, p.size = vs.length ∧ arrOf st' = p.map (kas_item (vs.toArray.zip vs.toArray)) ∧ failedOf st' = none ∧ s'' = { s with heap := h3 } ∧ (p.toList.map fun i => vs.getD i Value.none) = out) rfl (by omega) h64
   (fun p st' s'' a1 a2 a3 a4 => ⟨p, a1, a2, a3, a4⟩) hκ) ?_ fun _ _ e => e)
  rintro ⟨⟨⟩, st'⟩ s'' ⟨p, hp, har, hf, rfl, e⟩
  dsimp only
  have ez := kat_snds rfl har
  have hol : out.length = vs.length := by rw [← e, List.length_map, Array.length_toList, hp]
  rw [e] at ez
  rw [ez]
  refine wpAny_bind (seqEpoch_at ho3 rfl ?_)
  refine wpAny_bind (listUpdate_at ho3 rfl ?_ (Nat.zero_le _) (by rw [List.size_toArray, sizeLine_eq]; omega))
  rw [hf]
  simp only [bne_self_eq_false, xft, if_false]
  exact wpAny_pure (h _ c keep' hc)
theorem al4 {T : String} {l : Addr} {o : Obj} {vs out : List Value} {n : Nat} {Q : Value → Shared → Prop} (hT : T = "list" ∨ T = "tuple") (ho : s.heap.get? l = some o) (hc : o.cls = .type T) (hd : o.data = .seq vs.toArray n) (h64 : vs.length < 64) (h1 : vs.length < 2 → out = vs)
  (hk : 2 ≤ vs.length → ∀ h' : Heap, (∀ b o, s.heap.get? b = some o → h'.get? b = some o) →
   wpAny (model prog w) A.in1.in1 (keyKind' vs.toArray) (fun κ s' => (kas_sort vs.length).kasWp (kas_ask prog w A.in1.in1 κ vs) (fun p s'' => s'' = { s with heap := h' } ∧ (p.toList.map fun i => vs.getD i Value.none) = out) s') (fun _ _ => False) { s with heap := h' })
  (h : ∀ h' c, (∀ b o, s.heap.get? b = some o → h'.get? b = some o) → h'.get? (s.heap.objs.size + 1) = some (seqObj "list" out.toArray c) → Q (.ref (s.heap.objs.size + 1)) { s with heap := h' }) :
  wpAny (model prog w) A (call (.builtin "sorted") [.ref l]) Q E s := by
 refine Calls.call_function_entry kind_sorted plain_sorted entry_sorted (args_sorted1 _) ?_
 unfold Builtin.«sorted»
 refine wpAny_bind (m := checkCount "sorted" 1 1 _) (wpAny_pure ?_)
 refine wpAny_bind (ay2 hT ho hc hd ?_ (by rw [sizeLine_eq]; omega))
 refine wpAny_bind (wpAny_newList ?_ (by rw [sizeLine_eq]; omega))
 have hsz : ((s.heap.push (seqObj "list" #[] 0)).update s.heap.objs.size (Obj.mapSeq (· ++ vs.toArray))).objs.size = s.heap.objs.size + 1 := by
  rw [Heap.size_update, size_push']
 have hoL : (((s.heap.push (seqObj "list" #[] 0)).update s.heap.objs.size (Obj.mapSeq (· ++ vs.toArray))).push (seqObj "list" vs.toArray 0)).get? (s.heap.objs.size + 1) = some (seqObj "list" vs.toArray 0) := by
  rw [← hsz]; exact Heap.get?_push_size _ rfl
 have keep : ∀ b o, s.heap.get? b = some o → (((s.heap.push (seqObj "list" #[] 0)).update s.heap.objs.size (Obj.mapSeq (· ++ vs.toArray))).push (seqObj "list" vs.toArray 0)).get? b = some o := fun b o q => by
  have hlt : b < s.heap.objs.size := Heap.lt_size q
  rw [Heap.get?_push_ne _ _ _ (by rw [hsz]; exact Nat.ne_of_lt (Nat.lt_succ_of_lt hlt)), Heap.get?_update_ne _ _ _ _ (Nat.ne_of_lt hlt), Heap.get?_push_ne _ _ _ (Nat.ne_of_lt hlt)]
  exact q
 show wpAny _ _ _ _ _ { s with heap := ((s.heap.push (seqObj "list" #[] 0)).update s.heap.objs.size (Obj.mapSeq (· ++ vs.toArray))).push (seqObj "list" vs.toArray 0) }
 rw [hsz]
 generalize ((s.heap.push (seqObj "list" #[] 0)).update s.heap.objs.size (Obj.mapSeq (· ++ vs.toArray))).push (seqObj "list" vs.toArray 0) = h3 at hoL keep
 have ne : ∀ b o, s.heap.get? b = some o → b ≠ s.heap.objs.size + 1 := fun b o q => Nat.ne_of_lt (Nat.lt_succ_of_lt (Heap.lt_size q))
 refine wpAny_bind (wpAny_holding (wpAny_call_entry slot_list_sort ⟨_, hoL, rfl⟩ entry_list_sort ?body (args_list_sort _)))
 case body =>
  refine aV0 (s := { s with heap := h3 }) (out := out) hoL h64 h1 (fun h2 h' kp => hk h2 h' fun b o q => kp b o (ne b o q) (keep b o q)) fun h' c kp e => ⟨_, rfl, wpAny_pure ⟨_, rfl, h h' c (fun b o q => kp b o (ne b o q) (keep b o q)) e⟩⟩
end
def tt : D → Bool
 | .tuple (.tuple _ :: _) => true
 | _ => false
def ltN (ds : List D) (i j : Nat) : Bool := (ltD (ds.getD i (ds.headD .none)) (ds.getD j (ds.headD .none))).getD false
def ak2 (ds : List D) : Option (List D) :=
 if ds.length < 2 then some ds
 else if ds.length < 64 ∧ (ds.all fun d => tt d && (d.canLay0 && decide (d.depth ≤ 60))) = true ∧ (ds.all fun x => ds.all fun y => (ltD x y).isSome) = true then
  some ((evT (ltN ds) (kas_sort ds.length)).toList.map fun i => ds.getD i .none)
 else none
def ao9 : List D → Option D := fun l => match l with
 | [d] => (f9 d).bind fun q => (ak2 q.2).map PyData.list
 | _ => none
theorem bb1 {n : Nat} {α : Type} {P : α → Prop} (lt : Nat → Nat → Bool) : ∀ {t : KasT α}, Ask n P t → P (evT lt t)
 | .ret _, h => h
 | .ask i j k, h => bb1 (n := n) (P := P) lt (t := k (lt i j)) (h.2.2 (lt i j))
theorem aw6 {prog : Program} {w : World} {A : Around} {s : Shared} {Q : Bool → Shared → Prop} {m : Nat} {fin : Bool} (hu : A.units + m < cLine) : ∀ (xs ys : List D) (vs ws : List Value) (as bs : List Addr) (i : Nat) (c : Bool), ReadsAll s.heap vs xs as → ReadsAll s.heap ws ys bs → PyData.canLayAll0 xs = true → PyData.canLayAll0 ys = true → PyData.depthAll xs ≤ m →
  ltDs xs ys = some c → fin = decide (xs.length < ys.length) → Q c s → KatLex prog w A false fin Q (vs.zip ws) i s
 | [], [], _, _, _, _, i, c, ra, rb, _, _, _, h, hf, q => by
  cases ra; cases rb; rw [ltDs] at h; cases h; rw [hf]; exact q
 | [], y :: ys, _, _, _, _, i, c, ra, rb, _, _, _, h, hf, q => by
  cases ra; rw [ltDs] at h; cases h; rw [hf]; simpa using kat_nil (by simpa using q)
 | x :: xs, [], _, _, _, _, i, c, ra, rb, _, _, _, h, hf, q => by
  cases rb; rw [ltDs] at h; cases h; rw [hf]; simpa using kat_nil (by simpa using q)
 | x :: xs, y :: ys, _, _, _, _, i, c, ra, rb, ha, hb, hd, h, hf, q => by
  have ha' : x.canLay0 = true ∧ PyData.canLayAll0 xs = true := by simpa [PyData.canLayAll0] using ha
  have hb' : y.canLay0 = true ∧ PyData.canLayAll0 ys = true := by simpa [PyData.canLayAll0] using hb
  have hd' : x.depth ≤ m ∧ PyData.depthAll xs ≤ m := by simp only [PyData.depthAll] at hd; omega
  rw [ltDs] at h
  cases ra with
  | cons r rs =>
   cases rb with
   | cons r' rs' =>
    rw [List.zip_cons_cons]
    refine kat_cons (eqAt_reads x y A s _ _ _ _ r r' ha'.1 hb'.1 (by have := Nat.min_le_left x.depth y.depth; omega) prog w _ _ ?_)
    cases e : PyData.eqv x y with
    | true =>
     rw [if_pos e] at h
     exact kat_yes (aw6 hu xs ys _ _ _ _ (i + 1) c rs rs' ha'.2 hb'.2 hd'.2 h (by rw [hf]; simp) q)
    | false =>
     rw [if_neg (by rw [e]; exact Bool.false_ne_true)] at h
     refine kat_no ?_
     rw [Bool.false_and]
     exact kat_one _ _ (aj0 m x y A s _ _ _ _ c hd'.1 r r' ha'.1 hb'.1 hu h prog w _ _ q)
theorem aE4 {M : Model} {h : Heap} : ∀ {vs : List Value} {ds : List D} {as : List Addr}, ReadsAll h vs ds as → (ds.all fun d => tt d && (d.canLay0 && decide (d.depth ≤ 60))) = true → ∃ fs, KatTups h vs fs ∧ fs.length = vs.length ∧ ∀ v ∈ fs, Looks M h (typeOf v) (.type "tuple")
 | [], _, _, r, _ => ⟨[], .nil, rfl, fun v hv => nomatch hv⟩
 | v :: vs, _, _, r, ha => by
  cases r with
  | cons r1 r2 =>
   rename_i d ds _ _
   rw [List.all_cons, Bool.and_eq_true, Bool.and_eq_true] at ha
   obtain ⟨fs, h1, h2, h3⟩ := aE4 (M := M) r2 ha.2
   have h0 := ha.1.1
   unfold tt at h0
   split at h0
   ·cases r1 with
    | tuple k1 k2 k3 k4 =>
     rename_i its _
     obtain ⟨f, fr, e⟩ : ∃ f fr, its.toList = f :: fr := by
      cases e : its.toList with
      | nil => rw [e] at k4; cases k4
      | cons f fr => exact ⟨f, fr, rfl⟩
     rw [e] at k4
     cases k4 with
     | cons q1 q2 =>
      cases q1 with
      | tuple j1 j2 j3 j4 =>
       refine ⟨_ :: fs, .cons k1 k2 k3 (by rw [← Array.getElem?_toList, e]; rfl) h1, by rw [List.length_cons, List.length_cons, h2], fun v hv => ?_⟩
       rcases List.mem_cons.mp hv with rfl | hv
       ·rw [← j2]; exact (Looks.ld j1).andThen .now
       ·exact h3 v hv
   ·cases h0
theorem Reps.pick {K : PySem.W.Frag} {H : Hp} {ds : List D} {vs : List V} (h : Reps K H ds vs) : ∀ {p : List Nat}, (∀ i ∈ p, i < ds.length) → Reps K H (p.map fun i => ds.getD i .none) (p.map fun i => vs.getD i .non)
 | [], _ => rfl
 | i :: p, hp => by
  have hi := hp i (.head _)
  obtain ⟨v, e, r⟩ := h.get (i := i) (List.getElem?_eq_getElem hi)
  refine ⟨_, _, rfl, ?_, Reps.pick h fun j hj => hp j (.tail _ hj)⟩
  show Rep K H (ds.getD i .none) (vs.getD i .non)
  rw [List.getD_eq_getElem?_getD, List.getD_eq_getElem?_getD, e, List.getElem?_eq_getElem hi]
  exact r
theorem B8.at {vs : List V} {us : List Value} (h : B8 vs us) : ∀ {i : Nat}, i < vs.length → L0 (vs.getD i .non) (us.getD i .none) := by
 induction h with
 | nil => exact fun hi => absurd hi (Nat.not_lt_zero _)
 | cons r _ ih =>
  intro i hi
  cases i with
  | zero => exact r
  | succ i => simpa using ih (by simpa using hi)
theorem B8.pick {vs : List V} {us : List Value} (h : B8 vs us) : ∀ {p : List Nat}, (∀ i ∈ p, i < vs.length) → B8 (p.map fun i => vs.getD i .non) (p.map fun i => us.getD i .none)
 | [], _ => .nil
 | i :: p, hp => .cons (B8.at h (hp i (.head _))) (B8.pick h fun j hj => hp j (.tail _ hj))
theorem aQ9 {X : Cx} (hu : X.A.units + 64 < cLine) : S4 X (.builtin "sorted") (biS X.K 1 ao9) := by
 intro pins s σ H xs us Q I rv ⟨hl, Hf, ds0, d, ss, rp, e, k⟩
 unfold ao9 at e
 split at e
 ·rename_i d0
  obtain ⟨⟨t, ds⟩, e1, e2⟩ := Option.bind_eq_some_iff.mp e
  obtain ⟨out, e3, rfl⟩ := Option.map_eq_some_iff.mp e2
  replace e3 : ak2 ds = some out := e3
  clear e2
  obtain ⟨x, xr, rfl, r0, rn⟩ := rp
  cases rn
  obtain ⟨u, rfl, rx⟩ := W9 rv
  obtain ⟨a, vs, rfl, sq, rs⟩ := Rep.seq r0 ss e1
  cases rx
  have core : ∀ (T : String) (its : List Value) (o : Obj) (n : Nat), (T = "list" ∨ T = "tuple") → s.heap.get? a = some o → o.cls = .type T → o.data = .seq its.toArray n → B8 vs its →
    wpAny (model X.prog X.w) X.A (call (.builtin "sorted") [.ref a]) (EP X pins σ Q) X.xe s := fun T its o n hT ho hc hd r' => by
   have n1 := rs.length
   have n2 := r'.length
   have fin : ∀ (p : List Nat), (∀ i ∈ p, i < ds.length) → p.length < 64 → (p.map fun i => ds.getD i .none) = out → ∀ (h' : Heap) (c : Nat), (∀ b o, s.heap.get? b = some o → h'.get? b = some o) → h'.get? (s.heap.objs.size + 1) = some (seqObj "list" (p.map fun i => its.getD i Value.none).toArray c) →
     EP X pins σ Q (.ref (s.heap.objs.size + 1)) { s with heap := h' } := fun p hp hz ho h' c kp eo => by
    have fr := I.hok.fresh (Nat.le_succ s.heap.objs.size)
    refine ⟨.ref (s.heap.objs.size + 1), _, I.laid (t' := s.toks) kp (Nat.le_succ _) (show V2 X.prog X.w _ h' _ (.lst (p.map fun i => vs.getD i .non)) from ⟨by rw [List.length_map, sizeLine_eq]; omega, _, c, B8.pick r' (fun i hi => by rw [n1]; exact hp i hi), eo⟩), rfl, k _ _ _ (Grow.laid ss fr) ?_⟩
    refine ⟨_, _, rfl, SqL.of A7, ?_⟩
    rw [← ho]
    exact (rs.pick hp).mono (B9 (ss.free fr))
   obtain ⟨as, rd⟩ := Reps.reads I (rs.mono ss) r'
   unfold ak2 at e3
   split at e3
   ·rename_i h2
    cases e3
    have idp : ∀ {α : Type} (z : α) (l : List α), (List.range l.length).map (fun i => l.getD i z) = l := fun z l => by
     apply List.ext_getElem
     ·simp
     ·intro i i1 i2; simp [i2]
    have lz : its.length = ds.length := by omega
    refine al4 (out := its) hT ho hc hd (by omega) (fun _ => rfl) (fun h3 => absurd h3 (by omega)) fun h' c kp eo => ?_
    refine fin (List.range ds.length) (fun i hi => by simpa using hi) (by rw [List.length_range]; omega) (idp _ _) h' c kp ?_
    rw [← lz, idp]; exact eo
   ·split at e3
    ·rename_i h2 h3
     cases e3
     obtain ⟨h64, hall, hlt⟩ := h3
     have lz : its.length = ds.length := by omega
     have pin := bc2 (n := ds.length) (by omega)
     have lo := bb1 (ltN ds) pin
     refine al4 (out := (evT (ltN ds) (kas_sort ds.length)).toList.map fun i => its.getD i Value.none) hT ho hc hd (by omega) (fun h3 => absurd h3 (by omega)) (fun _ h' kp => ?_) fun h' c kp eo => fin _ (fun i hi => lo.2 i (by simpa using hi)) (by rw [Array.length_toList, lo.1]; exact h64) rfl h' c kp eo
     have rd' : ReadsAll h' its ds as := ReadsAll.keeps kp rd
     obtain ⟨fs, t1, t2, t3⟩ := aE4 (M := model X.prog X.w) rd' hall
     refine kat_kind (s := { s with heap := h' }) t1 (by omega) t3 (by rfl) ?_
     have hb : (Value.type "tuple" != Value.type "tuple") = false := by rfl
     rw [hb, lz]
     refine aI3 (P := Lo ds.length) (lt := ltN ds) (fun i j C hi hj hC => ?_) pin fun _ => ⟨rfl, rfl⟩
     unfold kas_ask
     have hat : ∀ m, m < ds.length → ∃ (a : Addr) (o : Obj) (ws : Array Value) (n : Nat) (ys : List D) (bs : List Addr), its.getD m Value.none = .ref a ∧ h'.get? a = some o ∧ o.data = .seq ws n ∧ ReadsAll h' ws.toList ys bs ∧ ds.getD m (ds.headD .none) = .tuple ys ∧ PyData.canLayAll0 ys = true ∧ PyData.depthAll ys ≤ 60 := fun m hm => by
      obtain ⟨bs, r1⟩ := ReadsAll.at rd' m (by omega)
      have hmem := List.all_eq_true.mp hall _ (List.getElem_mem hm)
      simp only [Bool.and_eq_true, decide_eq_true_eq] at hmem
      obtain ⟨q1, q2, q3⟩ := hmem
      have ed : ds.getD m .none = ds[m] := by simp [hm]
      have ed' : ds.getD m (ds.headD .none) = ds[m] := by simp [hm]
      have ei : its.getD m Value.none = its[m]'(by omega) := by simp [show m < its.length by omega]
      rw [ed] at r1
      rw [ei, ed']
      generalize ds[m] = dm at q1 q2 q3 r1
      generalize its[m]'(by omega) = vm at r1
      unfold tt at q1
      split at q1
      ·cases r1 with
       | tuple k1 k2 k3 k4 => exact ⟨_, _, _, _, _, _, rfl, k1, k3, k4, rfl, by simpa [PyData.canLay0] using q2, by simp only [PyData.depth] at q3; omega⟩
      ·cases q1
     obtain ⟨a1, o1, ws1, m1, ys1, bs1, i1, i2, i3, i4, i5, i6, i7⟩ := hat i hi
     obtain ⟨a2, o2, ws2, m2, ys2, bs2, j1, j2, j3, j4, j5, j6, j7⟩ := hat j hj
     rw [i1, j1]
     have z1 := ReadsAll.len i4
     have z2 := ReadsAll.len j4
     have hs : (ltDs ys1 ys2).isSome = true := by
      have q1 := List.all_eq_true.mp hlt _ (List.getElem_mem hi)
      have q2 := List.all_eq_true.mp q1 _ (List.getElem_mem hj)
      have e1 : ds[i] = .tuple ys1 := by rw [← i5]; simp [hi]
      have e2 : ds[j] = .tuple ys2 := by rw [← j5]; simp [hj]
      rw [e1, e2, ltD] at q2
      exact q2
     obtain ⟨c, hc'⟩ := Option.isSome_iff_exists.mp hs
     have hC' : C c { s with heap := h' } := by
      have : ltN ds i j = c := by unfold ltN; rw [i5, j5, ltD, hc']; rfl
      rw [← this]; exact hC
     refine kat_lt (s := { s with heap := h' }) i2 i3 j2 j3 ?_
     exact aw6 (m := 60) (by show X.A.units + 1 + 1 + 60 < _; omega) ys1 ys2 _ _ _ _ 0 c i4 j4 i6 j6 i7 hc' (by
      have w1 : ws1.size = ys1.length := by simpa using z1
      have w2 : ws2.size = ys2.length := by simpa using z2
      rw [w1, w2]) hC'
    ·cases e3
  cases t with
  | true =>
   obtain ⟨its, r', ⟨o, ho, hc, n, hd⟩, _⟩ := I.tuple sq
   exact core "tuple" its o n (.inr rfl) ho hc hd r'
  | false =>
   obtain ⟨its, r', pl, _⟩ := I.list sq
   obtain ⟨o, ho, hc, n, hd⟩ := pl.isList
   exact core "list" its o n (.inl rfl) ho hc hd r'
 ·cases e
theorem bq3 : bb4 "sorted" ao9 1 := ⟨by decide, by decide, "sorted", by decide +kernel, fun X hu => aQ9 hu⟩
end G
namespace Sh
open PySem PySem.W G L2
def Q7 : List Int → List Int → Bool
 | [], [] => false
 | [], _ :: _ => true
 | _ :: _, [] => false
 | x :: xs, y :: ys => if x = y then Q7 xs ys else decide (x < y)
theorem aw4 : ∀ a, Q7 a a = false
 | [] => rfl
 | x :: xs => by unfold Q7; rw [if_pos rfl]; exact aw4 xs
theorem aw5 : ∀ a b, Q7 a b = true → Q7 b a = false
 | [], [], h => rfl
 | [], _ :: _, h => rfl
 | _ :: _, [], h => by simp [Q7] at h
 | x :: xs, y :: ys, h => by
  unfold Q7 at h ⊢
  by_cases e : x = y
  ·rw [if_pos e] at h; rw [if_pos e.symm]; exact aw5 xs ys h
  ·rw [if_neg e] at h; rw [if_neg (fun z => e z.symm)]; simp at h ⊢; omega
theorem aG5 : ∀ a b c, Q7 a b = false → Q7 b c = false → Q7 a c = false
 | [], [], c, _, h2 => h2
 | [], _ :: _, _, h1, _ => by simp [Q7] at h1
 | _ :: _, [], [], _, _ => rfl
 | _ :: _, [], _ :: _, _, h2 => by simp [Q7] at h2
 | x :: xs, y :: ys, [], _, _ => rfl
 | x :: xs, y :: ys, z :: zs, h1, h2 => by
  unfold Q7 at h1 h2 ⊢
  by_cases e : x = y
  ·rw [if_pos e] at h1; subst e
   by_cases e2 : x = z
   ·rw [if_pos e2] at h2 ⊢; exact aG5 xs ys zs h1 h2
   ·rw [if_neg e2] at h2 ⊢; exact h2
  ·rw [if_neg e] at h1
   by_cases e2 : y = z
   ·subst e2; rw [if_neg e]; exact h1
   ·rw [if_neg e2] at h2
    simp only [decide_eq_false_iff_not, Int.not_lt] at h1 h2
    rw [if_neg (by omega)]
    simp only [decide_eq_false_iff_not, Int.not_lt]
    omega
theorem aw3 : ∀ a b, Q7 a b = false → Q7 b a = false → a = b
 | [], [], _, _ => rfl
 | [], _ :: _, h, _ => by simp [Q7] at h
 | _ :: _, [], _, h => by simp [Q7] at h
 | x :: xs, y :: ys, h1, h2 => by
  unfold Q7 at h1 h2
  by_cases e : x = y
  ·rw [if_pos e] at h1; rw [if_pos e.symm] at h2; rw [e, aw3 xs ys h1 h2]
  ·rw [if_neg e] at h1; rw [if_neg (fun z => e z.symm)] at h2
   simp only [decide_eq_false_iff_not, Int.not_lt] at h1 h2
   omega
theorem bG1 (a b a' b' : Int) (xs ys : List Int) : Q7 (a :: b :: xs) (a' :: b' :: ys) = if a = a' ∧ b = b' then Q7 xs ys else Q7 [a, b] [a', b'] := by
 simp only [Q7]
 by_cases e : a = a' <;> by_cases f : b = b' <;> simp [e, f]
def Q4.k (q : Q4) : List Int := [q.c.num, q.c.den, q.x.num, q.x.den, q.y.num, q.y.den, q.z.num, q.z.den]
def kD : List Int → D
 | [a, b, c, d, e, f, g, h] => .tuple [.tuple [.int a, .int b], .tuple [.int c, .int d], .tuple [.int e, .int f], .tuple [.int g, .int h]]
 | _ => .none
theorem bf8 (a b a' b' : Int) : ltD (.tuple [.int a, .int b]) (.tuple [.int a', .int b']) = some (Q7 [a, b] [a', b']) := by
 simp only [ltD, ltDs, PyData.eqv, Q7, beq_iff_eq]
 by_cases e : a = a' <;> by_cases f : b = b' <;> simp [e, f]
theorem bf7 (r s : Rat) (xs ys : List D) : ltDs (fr r :: xs) (fr s :: ys) = if r.num = s.num ∧ (r.den : Int) = s.den then ltDs xs ys else some (Q7 [r.num, r.den] [s.num, s.den]) := by
 rw [ltDs]
 have e : PyData.eqv (fr r) (fr s) = decide (r.num = s.num ∧ (r.den : Int) = s.den) := by
  unfold fr
  simp only [PyData.eqv, PyData.eqvAll]
  by_cases e : r.num = s.num <;> by_cases f : (r.den : Int) = s.den <;> simp [e, f]
 rw [e]
 by_cases h : r.num = s.num ∧ (r.den : Int) = s.den
 ·rw [decide_eq_true h, if_pos rfl, if_pos h]
 ·rw [decide_eq_false h, if_neg Bool.false_ne_true, if_neg h]
  exact bf8 _ _ _ _
theorem ag1 (r s : Rat) {xs ys : List D} {us vs : List Int} (h : ltDs xs ys = some (Q7 us vs)) : ltDs (fr r :: xs) (fr s :: ys) = some (Q7 (r.num :: r.den :: us) (s.num :: s.den :: vs)) := by
 rw [bf7, bG1 _ _ _ _ us vs]
 split
 ·exact h
 ·rfl
theorem bl6 (a b : Q4) : ltD a.d b.d = some (Q7 a.k b.k) := by
 show ltD (.tuple [fr a.c, fr a.x, fr a.y, fr a.z]) (.tuple [fr b.c, fr b.x, fr b.y, fr b.z]) = _
 rw [ltD]
 exact ag1 _ _ (ag1 _ _ (ag1 _ _ (ag1 _ _ (by rw [ltDs]; rfl))))
theorem aH1 (q : Q4) (l : List Q4) (i : Nat) : (l.map Q4.d).getD i q.d = (l.getD i q).d := by
 rw [List.getD_eq_getElem?_getD, List.getD_eq_getElem?_getD, List.getElem?_map]
 cases l[i]? <;> rfl
theorem ar3 (q : Q4) (r : List Q4) (i j : Nat) : G.ltN ((q :: r).map Q4.d) i j = Q7 ((q :: r).getD i q).k ((q :: r).getD j q).k := by
 unfold G.ltN
 show (ltD (((q :: r).map Q4.d).getD i q.d) (((q :: r).map Q4.d).getD j q.d)).getD false = _
 rw [aH1, aH1, bl6]; rfl
theorem bD3 (q : Q4) (r : List Q4) : SW (G.ltN ((q :: r).map Q4.d)) :=
 ⟨fun a => by rw [ar3]; exact aw4 _, fun a b h => by rw [ar3] at h ⊢; exact aw5 _ _ h, fun a b c h1 h2 => by rw [ar3] at h1 h2 ⊢; exact aG5 _ _ _ h1 h2⟩
theorem aQ8 {l : List Q4} (h2 : 2 ≤ l.length) (h64 : l.length < 64) : ∃ r : List Q4, ak2 (l.map Q4.d) = some (r.map Q4.d) ∧ r.Perm l ∧ r.Pairwise (fun a b => Q7 b.k a.k = false) := by
 obtain ⟨q, s, rfl⟩ : ∃ q s, l = q :: s := by
  cases l with
  | nil => cases h2
  | cons q s => exact ⟨q, s, rfl⟩
 generalize hl : q :: s = l at h2 h64
 have S : SW (G.ltN (l.map Q4.d)) := by rw [← hl]; exact bD3 q s
 have N : ∀ i j, G.ltN (l.map Q4.d) i j = Q7 (l.getD i q).k (l.getD j q).k := by rw [← hl]; exact ar3 q s
 obtain ⟨p1, p2, p3⟩ := bc1 S (n := l.length) (by omega)
 have e : ak2 (l.map Q4.d) = some ((evT (G.ltN (l.map Q4.d)) (kas_sort l.length)).toList.map fun i => (l.map Q4.d).getD i .none) := by
  unfold ak2
  rw [List.length_map, if_neg (by omega), if_pos]
  refine ⟨h64, ?_, ?_⟩
  ·rw [List.all_map, List.all_eq_true]; intro x _; rfl
  ·rw [List.all_map, List.all_eq_true]; intro x _
   show ((l.map Q4.d).all fun y => (ltD x.d y).isSome) = true
   rw [List.all_map, List.all_eq_true]; intro y _
   show (ltD x.d y.d).isSome = true
   rw [bl6]; rfl
 generalize evT (G.ltN (l.map Q4.d)) (kas_sort l.length) = p at e p1 p2 p3
 have p2' : p.toList.Perm (List.range l.length) := by
  have := Array.perm_iff_toList_perm.mp p2
  simpa using this
 refine ⟨p.toList.map fun i => l.getD i q, ?_, ?_, ?_⟩
 ·rw [e, List.map_map]
  congr 1
  apply List.map_congr_left
  intro i hi
  have hi : i < l.length := by simpa using p2'.mem_iff.mp hi
  show (l.map Q4.d).getD i .none = (l.getD i q).d
  rw [List.getD_eq_getElem?_getD, List.getD_eq_getElem?_getD, List.getElem?_map, List.getElem?_eq_getElem hi]; rfl
 ·have := p2'.map (fun i => l.getD i q)
  refine this.trans (List.Perm.of_eq ?_)
  apply List.ext_getElem
  ·simp
  ·intro i i1 i2; simp [i2]
 ·rw [List.pairwise_map, List.pairwise_iff_getElem]
  intro i j hi hj hij
  have hz : p.toList.length = l.length := by rw [Array.length_toList, p1]
  have := p3 i j (by omega) (by omega)
  rw [N] at this
  have g : ∀ m (hm : m < p.toList.length), p.getD m 0 = p.toList[m] := fun m hm => by
   rw [Array.getD_eq_getD_getElem?, ← Array.getElem?_toList, List.getElem?_eq_getElem hm]; rfl
  rw [g j hj, g i hi] at this
  exact this
theorem aQ7 {l l' : List Q4} (h : l.Perm l') (h64 : l.length < 64) : ∃ r : List Q4, ao9 [.tuple (l.map Q4.d)] = some (.list (r.map Q4.d)) ∧ ao9 [.tuple (l'.map Q4.d)] = some (.list (r.map Q4.d)) := by
 have hl := h.length_eq
 have out : ∀ {a b : List Q4}, ak2 (a.map Q4.d) = some (b.map Q4.d) → ao9 [.tuple (a.map Q4.d)] = some (.list (b.map Q4.d)) := fun {a b} e => by
  show ((ak2 (a.map Q4.d)).map PyData.list) = _
  rw [e]; rfl
 rcases Nat.lt_or_ge l.length 2 with q | q
 ·have e : l = l' := by
   match l, l', h, q with
   | [], [], _, _ => rfl
   | [a], [b], h, _ => rw [List.singleton_perm_singleton.mp h]
   | [], _ :: _, h, _ => exact absurd h.length_eq (by simp)
   | [_], [], h, _ => exact absurd h.length_eq (by simp)
   | [_], _ :: _ :: _, h, _ => exact absurd h.length_eq (by simp)
   | _ :: _ :: _, _, _, q => exact absurd q (by simp)
  subst e
  have : ak2 (l.map Q4.d) = some (l.map Q4.d) := by unfold ak2; rw [List.length_map, if_pos q]
  exact ⟨l, out this, out this⟩
 ·obtain ⟨r, e1, p1, s1⟩ := aQ8 q h64
  obtain ⟨r', e2, p2, s2⟩ := aQ8 (l := l') (by omega) (by omega)
  have pk : (r.map Q4.k).Perm (r'.map Q4.k) := ((p1.trans h).trans p2.symm).map Q4.k
  have ek : r.map Q4.k = r'.map Q4.k := List.Perm.eq_of_pairwise (le := fun a b => Q7 b a = false) (fun a b _ _ h1 h2 => aw3 a b h2 h1) (List.pairwise_map.mpr s1) (List.pairwise_map.mpr s2) pk
  have ed : r.map Q4.d = r'.map Q4.d := by
   have f : ∀ l : List Q4, l.map Q4.d = (l.map Q4.k).map kD := fun l => by rw [List.map_map]; rfl
   rw [f, f, ek]
  rw [← ed] at e2
  exact ⟨r, out e1, out e2⟩
theorem Ly.spotsL (l : List Q4) (n : Nat) : Ly (n + 3) (.list (l.map Q4.d)) := Ly.lst fun x hx => by
 obtain ⟨q, _, rfl⟩ := List.mem_map.mp hx
 exact Ly.q4 q n
theorem at4 {w h : Nat} (w1 : 1 ≤ w) (f : Int → Int → Q4) (x y : Int) : atQ w h ((plc w (w * h)).map fun p => f p.1 p.2) x y = if 0 ≤ x ∧ x < w ∧ 0 ≤ y ∧ y < h then f x y else q0 := by
 unfold atQ
 split
 ·rename_i b
  obtain ⟨n1, n2⟩ := ad0 b
  obtain ⟨a1, a2, a3, a4⟩ := b
  obtain ⟨i, rfl⟩ := Int.eq_ofNat_of_zero_le a1
  obtain ⟨j, rfl⟩ := Int.eq_ofNat_of_zero_le a3
  have e : ((j : Int) * w + i).toNat = j * w + i := by rw [← Int.natCast_mul, ← Int.natCast_add, Int.toNat_natCast]
  have lt : j * w + i < w * h := by omega
  rw [e, List.getD_eq_getElem?_getD, List.getElem?_map]
  unfold plc
  rw [List.getElem?_map, List.getElem?_range lt]
  have m1 : (j * w + i) % w = i := by rw [Nat.mul_comm, Nat.mul_add_mod]; exact Nat.mod_eq_of_lt (by omega)
  have m2 : (j * w + i) / w = j := by rw [Nat.mul_comm, Nat.mul_add_div (by omega), Nat.div_eq_of_lt (by omega)]; rfl
  show f (((j * w + i) % w : Nat) : Int) (((j * w + i) / w : Nat) : Int) = _
  rw [m1, m2]
 ·rfl
theorem ap2 {k w h : Nat} {l : List Q4} (S : ShOk k w h l) : l = (plc w (w * h)).map fun p => atQ w h l p.1 p.2 := by
 apply List.ext_getElem
 ·rw [List.length_map, a8, S.len]
 ·intro i i1 i2
  have hi : i < w * h := by rw [← S.len]; exact i1
  have wp : 0 < w := S.w1
  have hy := Nat.div_lt_of_lt_mul hi
  have hx := Nat.mod_lt i wp
  rw [List.getElem_map]
  unfold plc
  rw [List.getElem_map, List.getElem_range]
  unfold atQ
  rw [if_pos ⟨Int.natCast_nonneg _, Int.ofNat_lt.mpr hx, Int.natCast_nonneg _, Int.ofNat_lt.mpr hy⟩]
  have e : (((i / w : Nat) : Int) * w + ((i % w : Nat) : Int)).toNat = i := by
   rw [← Int.natCast_mul, ← Int.natCast_add, Int.toNat_natCast, Nat.mul_comm]; exact Nat.div_add_mod i w
  rw [e]
  simp [i1]
theorem f8 {k k' w h : Nat} {l l' : List Q4} (S : ShOk k w h l) (S' : ShOk k' w h l') (H : ∀ x y : Int, 0 ≤ x ∧ x < w ∧ 0 ≤ y ∧ y < h → atQ w h l x y = atQ w h l' x y) : l = l' := by
 rw [ap2 S, ap2 S']
 apply List.map_congr_left
 intro p hp
 exact H _ _ (bd6 hp S.w1)
theorem aI2 {w h : Nat} {l : List Q4} {x y : Int} (n : ¬ (0 ≤ x ∧ x < w ∧ 0 ≤ y ∧ y < h)) : atQ w h l x y = q0 := by unfold atQ; rw [if_neg n]
theorem c7 {w h : Nat} {l : List Q4} (h1 : 1 ≤ h) (x y : Int) : atQ h w (Y5 w h l) x y = atQ w h l y ((h : Int) - 1 - x) := by
 unfold Y5
 rw [at4 h1 (fun a b => atQ w h l b ((h : Int) - 1 - a))]
 split
 ·rfl
 ·rename_i n; rw [aI2 (by omega)]
theorem t9 {w h : Nat} {l : List Q4} (w1 : 1 ≤ w) (x y : Int) : atQ w h (m7 w h l) x y = atQ w h l ((w : Int) - 1 - x) y := by
 unfold m7
 rw [at4 w1 (fun a b => atQ w h l ((w : Int) - 1 - a) b)]
 split
 ·rfl
 ·rename_i n; rw [aI2 (by omega)]
theorem X5 {w h : Nat} {l : List Q4} {left top : Int} {wide high : Nat} (w1 : 1 ≤ wide) (x y : Int) : atQ wide high (D1 w h l left top wide high) x y = if 0 ≤ x ∧ x < wide ∧ 0 ≤ y ∧ y < high then atQ w h l (left + x) (top + y) else q0 := by
 unfold D1
 exact at4 w1 (fun a b => atQ w h l (left + a) (top + b)) x y
theorem ba0 (m : Man) : m.bl q0 q0 = q0 := by
 have z1 : (0 : Rat) + 0 = 0 := Rat.add_zero 0
 have z2 : (0 : Rat) - 0 = 0 := by rw [Rat.sub_eq_add_neg, Rat.add_neg_cancel]
 have z3 : (0 : Rat) ≤ 1 := by decide
 have e : ∀ m : Man, m.cov 0 0 = 0 ∧ m.col 0 0 0 0 = 0 := fun m => by cases m <;> exact ⟨by simp [Man.cov, ay4, z1, z2, z3], by simp [Man.col, ay4, z1, z2, z3]⟩
 show Q4.mk (m.cov 0 0) (m.col 0 0 0 0) (m.col 0 0 0 0) (m.col 0 0 0 0) = Q4.mk 0 0 0 0
 rw [(e m).1, (e m).2]
theorem an4 (m : Man) {k k' w h : Nat} {a b : List Q4} (S : ShOk k w h a) (T : ShOk k' w h b) (x y : Int) : atQ w h (blL m a b) x y = m.bl (atQ w h a x y) (atQ w h b x y) := by
 unfold atQ
 split
 ·rename_i c
  obtain ⟨n1, n2⟩ := ad0 c
  unfold blL
  have i1 : (y * w + x).toNat < a.length := by rw [S.len]; omega
  have i2 : (y * w + x).toNat < b.length := by rw [T.len]; omega
  rw [List.getD_eq_getElem?_getD, List.getD_eq_getElem?_getD, List.getD_eq_getElem?_getD, List.getElem?_map, (List.getElem?_zip_eq_some (z := (a[(y * w + x).toNat], b[(y * w + x).toNat]))).mpr ⟨List.getElem?_eq_getElem i1, List.getElem?_eq_getElem i2⟩, List.getElem?_eq_getElem i1, List.getElem?_eq_getElem i2]
  rfl
 ·exact (ba0 m).symm
theorem aQ1 {k w h : Nat} {l : List Q4} (S : ShOk k w h l) (hw : w ≤ 3) (hh : h ≤ 3) : (Y5 w h l).Perm l := by
 have w1 := S.w1
 have h1 := S.h1
 have p : ((plc h (h * w)).map fun p => (p.2, (h : Int) - 1 - p.1)).Perm (plc w (w * h)) := by
  clear S
  have hw' : w = 1 ∨ w = 2 ∨ w = 3 := by omega
  have hh' : h = 1 ∨ h = 2 ∨ h = 3 := by omega
  rcases hw' with rfl | rfl | rfl <;> rcases hh' with rfl | rfl | rfl <;> decide
 have q := p.map (fun p => atQ w h l p.1 p.2)
 rw [← ap2 S, List.map_map] at q
 exact q
end Sh
namespace Sh
open PySem G L2
abbrev scr (ns : List Int) : D := .list (ns.map PyData.int)
theorem Z1 (ns : List Int) (k m : Nat) (hn : ns.length ≤ 63) (hk : k < 2 ^ 60) (hm : 0 < m) : ∃ n : Nat, C2 [scr ns, .int k, .int m] = some (.int n) ∧ n < m := by
 have a := ah2 ns k m hn hk (by omega)
 have b := ag2 ns k m (by omega)
 refine ⟨(y9 ns k m).toNat, ?_, by omega⟩
 rw [a]
 congr 2
 omega
theorem aH5 {h : D → D → Option D} {f g : DE} {ρ : Rho} {x y : D} (h1 : f ρ = some x) (h2 : g ρ = some y) : A4 h f g ρ = h x y := by unfold A4; rw [h1, xbs, h2, xbs]
theorem Y7 {α : Type} (a : α) : ∀ n : Nat, (List.replicate n [a]).flatten = List.replicate n a
 | 0 => rfl
 | n + 1 => by rw [List.replicate_succ, List.flatten_cons, Y7 a n]; rfl
theorem aU5 {xs : List D} {n : Nat} (hn : n ≤ 1000) (hx : xs.length ≤ 1000) : Y0 (.list xs) (.int n) = some (.list (List.replicate n xs).flatten) := by
 show (if 0 ≤ (n : Int) ∧ (n : Int) < 1000000 ∧ xs.length * ((n : Int)).toNat ≤ 16777216 then some (PyData.list (List.replicate ((n : Int)).toNat xs).flatten) else none) = _
 rw [Int.toNat_natCast, if_pos ⟨by omega, by omega, Nat.le_trans (Nat.mul_le_mul hx hn) (by decide)⟩]
theorem bL4 (a : D) (r : List D) : af6 (a :: r) none (some 1) = [a] := by
 unfold af6
 have h1 : HT.sIx (a :: r).length 0 none = 0 := by simp [HT.sIx]
 have h2 : HT.sIx (a :: r).length (a :: r).length (some 1) = 1 := by simp only [HT.sIx, List.length_cons]; first | omega | (simp; omega) | simp
 rw [h1, h2]; rfl
theorem aI5 (ns : List Int) (k : Nat) (hn : ns.length ≤ 63) (hk : k < 2 ^ 30) : ∃ q : Q4, W7 [scr ns, .int k] = some q.d ∧ q.ok 8 := by
 obtain ⟨c, x, y, z, e, S⟩ := bB2 ns k hn hk
 exact ⟨⟨c, x, y, z⟩, e, S⟩
theorem aR0 (ns : List Int) (at' : Nat) (hn : ns.length ≤ 63) (ha : at' < 2 ^ 20) : ∃ f : Nat → Q4, ∀ k, k < 1000 → W7 [scr ns, .int ((at' + 12 * k : Nat) : Int)] = some (f k).d ∧ (f k).ok 8 := by
 refine ⟨fun k => if h : k < 1000 then Classical.choose (aI5 ns (at' + 12 * k) hn (by omega)) else q0, fun k hk => ?_⟩
 simp only [dif_pos hk]
 exact Classical.choose_spec (aI5 ns (at' + 12 * k) hn (by omega))
theorem x5 (ns : List Int) (at' w h : Nat) (hn : ns.length ≤ 63) (ha : at' < 2 ^ 20) (w1 : 1 ≤ w) (w8 : w ≤ 8) (h1 : 1 ≤ h) (h8 : h ≤ 8) : ∃ l : List Q4, T0 [scr ns, .int at', .int w, .int h] = some (shD w h l) ∧ ShOk 8 w h l := by
 obtain ⟨f, hf⟩ := aR0 ns at' hn ha
 have wh : w * h ≤ 64 := Nat.mul_le_mul w8 h8
 have wh1 : 1 ≤ w * h := Nat.mul_le_mul w1 h1
 obtain ⟨t, et, ht⟩ := Z1 ns (at' + 7) 3 hn (by omega) (by decide)
 have et' : C2 [scr ns, .int ((at' : Int) + 7), .int 3] = some (.int t) := by rw [← et]; simp
 have c : L1 1 [0, 1] (U3 (A4 Y0 (A1 2) (A1 3))) (L4 0) K1 (A2 W7 (A0 (A1 1) (A0 (A4 d6 (A1 2) (A4 Y0 (dC (.int 12)) (A1 0))) A3))) [some (.val (scr ns)), some (.val (.int at')), some (.val (.int w)), some (.val (.int h)), none] = some ((List.range (w * h)).map fun k => (f k).d) := by
  refine aU2 (l := List.range (w * h)) (h := fun k : Nat => PyData.int k) (r := [some (.val (scr ns)), some (.val (.int at'))]) rfl (aF4 ?_ (by omega)) (by rw [List.length_range]; omega) ?_
  ·exact w6 (by omega) (by omega)
  ·intro k hk
   have hk := List.mem_range.mp hk
   have m12 : Y0 (.int 12) (.int k) = some (.int ((12 * k : Nat) : Int)) := w6 (i := 12) (by decide) (by omega)
   have e1 : ((at' : Int) + ((12 * k : Nat) : Int)) = ((at' + 12 * k : Nat) : Int) := by omega
   wp_walk using evD, m12, e1, (hf k (by omega)).1
 have mwh : Y0 (.int w) (.int h) = some (.int ((w * h : Nat) : Int)) := w6 (by omega) (by omega)
 have cv : ((t : Int) == 0) = decide (t = 0) := by cases t with
  | zero => rfl
  | succ n => rw [decide_eq_false (by omega)]; exact beq_eq_false_iff_ne.mpr (by omega)
 obtain ⟨n, en⟩ : ∃ n, w * h = n + 1 := ⟨w * h - 1, by omega⟩
 by_cases t0 : t = 0
 ·refine ⟨List.replicate (w * h) (f 0), ?_, w1, w8, h1, h8, List.length_replicate .., fun q hq => by rw [(List.mem_replicate.mp hq).2]; exact (hf 0 (by decide)).2⟩
  refine E9 (ρ := [some (.val (scr ns)), some (.val (.int at')), some (.val (.int w)), some (.val (.int h)), none]) rfl ?_
  have hd : (List.range (w * h)).map (fun k => (f k).d) = (f 0).d :: (List.range n).map (fun k => (f (k + 1)).d) := by
   rw [en, List.range_succ_eq_map, xmc, List.map_map]; rfl
  rw [hd] at c
  have v : A4 Y0 (aZ4 (A1 4) Q6 (Q5 (dC (.int 1)))) (A4 Y0 (A1 2) (A1 3)) [some (.val (scr ns)), some (.val (.int at')), some (.val (.int w)), some (.val (.int h)), some (.val (.list ((f 0).d :: (List.range n).map (fun k => (f (k + 1)).d))))] = some (.list (List.replicate (w * h) (f 0).d)) := by
   have a1 : aZ4 (A1 4) Q6 (Q5 (dC (.int 1))) [some (.val (scr ns)), some (.val (.int at')), some (.val (.int w)), some (.val (.int h)), some (.val (.list ((f 0).d :: (List.range n).map (fun k => (f (k + 1)).d))))] = some (.list (af6 ((f 0).d :: (List.range n).map (fun k => (f (k + 1)).d)) none (some 1))) := rfl
   have a2 : A4 Y0 (A1 2) (A1 3) [some (.val (scr ns)), some (.val (.int at')), some (.val (.int w)), some (.val (.int h)), some (.val (.list ((f 0).d :: (List.range n).map (fun k => (f (k + 1)).d))))] = some (.int ((w * h : Nat) : Int)) := (aH5 rfl rfl).trans mwh
   rw [bL4] at a1
   have a3 := aU5 (xs := [(f 0).d]) (show w * h ≤ 1000 by omega) (show 1 ≤ 1000 by decide)
   rw [Y7] at a3
   exact (aH5 a1 a2).trans a3
  have t1 : tB2 eqD (A2 C2 (A0 (A1 0) (A0 (A4 d6 (A1 1) (dC (.int 7))) (A0 (dC (.int 3)) A3)))) (dC (.int 0)) [some (.val (scr ns)), some (.val (.int at')), some (.val (.int w)), some (.val (.int h)), some (.val (.list ((f 0).d :: (List.range n).map (fun k => (f (k + 1)).d))))] = some true := by
   simp only [tB2, A4, A2, A0, A3, A1, dC, xms, xbs, xg0, xg1, t8, et', r9, cv, decide_eq_true t0, M9]
  simp only [ae5, B7, Q0, c, sIf, t1, F3, v, C1, O8, A0, A3, N7, B4, A1, xms, xbs, xw0, xw1, xg0, xg1, if_true, xft, if_false, shD, List.map_replicate]
 ·refine ⟨(List.range (w * h)).map f, ?_, w1, w8, h1, h8, by rw [List.length_map, List.length_range], fun q hq => by
   obtain ⟨k, hk, rfl⟩ := List.mem_map.mp hq
   exact (hf k (by have := List.mem_range.mp hk; omega)).2⟩
  refine E9 (ρ := [some (.val (scr ns)), some (.val (.int at')), some (.val (.int w)), some (.val (.int h)), none]) rfl ?_
  wp_walk using evD, ae5, c, et', cv, decide_eq_false t0, shD, List.map_map
  rfl
end Sh
namespace G
open PySem PySem.Spec PyProof.Rows L2
abbrev DA := Rho → Option (List D)
abbrev DQ := Rho → Option (Bool × List D)
abbrev DT := Rho → Option Bool
abbrev DG := D → Rho → Option Rho
def dNo : DE := fun _ => none
def aNo : DA := fun _ => none
def qNo : DQ := fun _ => none
def tNo : DT := fun _ => none
def gNo : DG := fun _ _ => none
structure Ev where
 e : Kx → Expr → DE
 q : Kx → Expr → DQ
 n : Kx → Expr → DA
 t : Kx → Expr → DT
 g : Kx → Expr → DG
 b : Kx → List Stmt → DS
def aC9 : CmpOp → D → D → Option D
 | .Lt => ltI | .LtE => leI | .Gt => gtI | .GtE => geI | .Eq => eqD | .NotEq => neD | .Is => isB | .IsNot => bF9 | .In => inD false | .NotIn => inD true
def evA (f : Expr → DE) : List Expr → DA
 | [] => A3
 | e :: es => if pl e then A0 (f e) (evA f es) else aNo
def aY6 (f : Expr → DE) (op : BoolOp) : List Expr → DE
 | [] => dNo
 | [a] => f a
 | a :: b :: r => match op with
  | .And => j8 (f a) (aY6 f op (b :: r))
  | .Or => dOr (f a) (aY6 f op (b :: r))
def aY5 (f : Expr → DT) (op : BoolOp) : List Expr → DT
 | [] => tNo
 | [a] => f a
 | a :: b :: r => match op with
  | .And => U9 (f a) (aY5 f op (b :: r))
  | .Or => Z6 (f a) (aY5 f op (b :: r))
def evO (f : Expr → DE) : Option Expr → Rho → Option (Option Int)
 | none => Q6
 | some e => Q5 (f e)
def bz6 (f : Expr → DG) : List Expr → List D → Rho → Option Rho
 | [] => N5
 | e :: es => B6 (f e) (bz6 f es)
def aY3 (f : Expr → DT) : List Expr → DT
 | [] => K1
 | [t] => f t
 | _ => tNo
def U5 : Expr → List Str
 | .Name x _ => [x]
 | .Tuple es _ _ => es.filterMap fun | .Name x _ => some x | _ => none
 | _ => []
def rl (scope sc : Scope) : Scope := { scope with names := scope.names.map fun (n, k) => if (k == .free && sc.kind == .function && sc.names.lookup n == some .cell) then (n, .cell) else (n, k) }
def aX5 (n : Nat) (caps l : List Nat) : List Nat := (List.range caps.length).filterMap fun i => match caps[i]? with | some j => if l.contains j then some (n + i) else none | none => none
def bD4 (c : Kx) (j : Nat) : Str := (c.N[j]?).getD ""
def inner (c : Kx) (tn : List Str) (caps : List Nat) (scope : Scope) : Kx :=
 { N := tn ++ caps.map (bD4 c), sc := rl scope c.sc, df := false, own := aX5 tn.length caps c.own, cpt := [], tx := aX5 tn.length caps c.tx, old := c.old, fz := [], hc := c.hc }
def isList : Expr → Bool
 | .List .. => true
 | .ListComp .. => true
 | _ => false
def x8 (c : Kx) (l : List Nat) : Expr → Bool
 | .Name x _ => (match p9 x c.N with | some i => l.contains i | none => false)
 | _ => false
def bz3 : Expr → Bool
 | .Constant (.str _) _ _ => true
 | _ => false
def bC3 (S : Sg) (c : Kx) : Expr → Bool
 | .Constant (.str _) _ _ => true
 | .Name x _ => (match p9 x c.N with | some _ => false | none => (match S.cs.lookup x with | some (.str _) => true | _ => false))
 | _ => false
def opW (S : Sg) (c : Kx) (op : CmpOp) (b : Expr) : D → D → Option D := if bC3 S c b then (match op with
 | .In => inS false
 | .NotIn => inS true
 | _ => aC9 op) else aC9 op
def ax0 : Expr → Bool
 | .Tuple .. => true
 | _ => false
def bo1 (x : Str) : Option String := if x == "int" then some "int" else if x == "bool" then some "bool" else if x == "str" then some "str" else if x == "tuple" then some "tuple" else if x == "list" then some "list" else none
section
variable (S : Sg) (r : Ev)
def evR (c : Kx) (tg : Expr) (a : Expr) : DA := match a with
 | .Call (.Name y _) [.Call (.Name z _) [b] [] _] [] _ => if biB S c "list" y && biB S c "enumerate" z && ax0 tg && pl b then bH3 (qE (r.e c b)) else fun _ => none
 | _ => fun _ => none
def evI (c : Kx) (tg it : Expr) : DA := match it with
 | .Call (.Name x _) [a] [] _ => if biB S c "reversed" x then evR S r c tg a else if biB S c "range" x && pl a then U3 (r.e c a) else if biB S c "enumerate" x && ax0 tg && pl a then bm1 (qE (r.e c a)) else V4 (r.e c it)
 | .Call (.Name x _) [a, b] [] _ => if biB S c "range" x && pl a && pl b then bm0 (r.e c a) (r.e c b) else if biB S c "zip" x && ax0 tg && pl a && pl b then r8 (qE (r.e c a)) (qE (r.e c b)) else V4 (r.e c it)
 | _ => if x8 c c.tx it then bH2 (r.e c it) else V4 (r.e c it)
def evC (c : Kx) (ex : Expr) : DA := match ex with
 | .ListComp elt [⟨tgt, iter, ifs, 0⟩] scope pos =>
  let tn := U5 tgt
  let caps := (c.hc.lookup (pos.line, pos.col)).getD []
  let c' := inner c tn caps scope
  if ag7 c.N c'.N tn.length caps c.sc scope && ad5 c'.N && pl iter then L1 tn.length caps (evI S r c tgt iter) (r.g c' tgt) (aY3 (r.t c') ifs) (r.e c' elt) else aNo
 | _ => aNo
def az5 (c : Kx) (x : Str) (a : Expr) : DE :=
 if !(pl a) then dNo
 else if biB S c "len" x then (match a with
  | .Call (.Name y _) [e] [] _ => if biB S c "set" y && pl e then aH4 (r.q c e) else c5 (r.q c a)
  | _ => if x8 c c.tx a then bn0 (r.e c a) else c5 (r.q c a))
 else if biB S c "tuple" x then N7 (r.q c a)
 else if biB S c "all" x then n6 (r.q c a)
 else if biB S c "int" x then n5 (r.e c a)
 else if biB S c "str" x then bI1 (r.e c a)
 else if biB S c "abs" x then bI5 (r.e c a)
 else if biB S c "min" x then bm6 (r.q c a)
 else if biB S c "max" x then bm8 (r.q c a)
 else dNo
def az4 (c : Kx) (x : Str) (a b : Expr) : DE :=
 if !(pl a) then dNo
 else if biB S c "isinstance" x then (match b with
  | .Name y _ => (match bo1 y with
   | some T => if biB S c y y then n4 T (r.e c a) else dNo
   | none => dNo)
  | _ => dNo)
 else if !(pl b) then dNo
 else if biB S c "min" x then bm7 (r.e c a) (r.e c b)
 else if biB S c "max" x then bm9 (r.e c a) (r.e c b)
 else dNo
def aP7 (c : Kx) (x : Str) (args : List Expr) (ex : Expr) : DE := match S.fn.lookup x with
 | some (F, n) => if aX7 c.sc x && args.length == n && args.all pl then A2 F (evA (r.e c) args) else dNo
 | none => match args with
  | [a] => if biB S c "list" x then Y2 (r.n c ex) else az5 S r c x a
  | [a, b] => az4 S r c x a b
  | _ => dNo
def bn6 (c : Kx) (a i : Expr) : DE := match i with
 | .Slice lo hi none _ =>
  if c.old then aa0 (r.e c a) (evO (r.e c) lo) (evO (r.e c) hi)
  else if x8 c c.tx a then bI2 (r.e c a) (evO (r.e c) lo) (evO (r.e c) hi)
  else if x8 c c.own a then bI3 (r.q c a) (evO (r.e c) lo) (evO (r.e c) hi)
  else aZ4 (r.e c a) (evO (r.e c) lo) (evO (r.e c) hi)
 | .Slice none none (some (.UnaryOp .USub (.Constant (.int 1) _ _) _)) _ => bm5 (r.e c a)
 | _ => if pl i then (if bz3 a then bI4 (r.e c a) (r.e c i) else dIx (r.q c a) (r.e c i)) else dNo
def xE (c : Kx) (ex : Expr) : DE := match ex with
 | .Constant .none _ _ => dC .none
 | .Constant (.bool b) _ _ => dC (.bool b)
 | .Constant (.int i) _ _ => dC (.int i)
 | .Constant (.str x) _ _ => dC (.str x)
 | .Name x _ => (match p9 x c.N with
  | some i => if aJ0 c.sc x then A1 i else dNo
  | none => (match S.cs.lookup x with
   | some d => if aX7 c.sc x then dC d else dNo
   | none => dNo))
 | .Tuple es _ _ => if es.length ≤ 1000 then O8 (evA (r.e c) es) else dNo
 | .List _ _ => Y2 (r.n c ex)
 | .ListComp _ _ _ _ => Y2 (r.n c ex)
 | .BinOp a .Add b _ => if c.old && !(isList a || isList b) then A4 c6 (r.e c a) (r.e c b) else A4 d6 (r.e c a) (r.e c b)
 | .BinOp a .Sub b _ => A4 o5 (r.e c a) (r.e c b)
 | .BinOp a .Mult b _ => if c.old then A4 U7 (r.e c a) (r.e c b) else (match a with
  | .Subscript v _ _ => if x8 c c.tx v then A4 bu1 (r.e c a) (r.e c b) else A4 Y0 (r.e c a) (r.e c b)
  | _ => A4 Y0 (r.e c a) (r.e c b))
 | .BinOp a .FloorDiv b _ => A4 t6 (r.e c a) (r.e c b)
 | .BinOp a .Mod b _ => A4 W8 (r.e c a) (r.e c b)
 | .BinOp a .Pow b _ => A4 br6 (r.e c a) (r.e c b)
 | .UnaryOp .USub a _ => bA1 (r.e c a)
 | .UnaryOp .Not a _ => m9 (r.e c a)
 | .Compare a [op] [b] _ => if pl b then A4 (opW S c op b) (r.e c a) (r.e c b) else dNo
 | .Compare a [op, op'] [b, d] _ => if pl d then N6 (aC9 op) (aC9 op') (r.e c a) (r.e c b) (r.e c d) else dNo
 | .BoolOp op vs _ => aY6 (r.e c) op vs
 | .IfExp t a b _ => ae0 (r.t c t) (r.e c a) (r.e c b)
 | .Subscript a i _ => bn6 r c a i
 | .Call (.Attribute o m apos) [a] [] cpos => if m == "join" && aU1 o && apos.endLine == cpos.line && pl a then bn1 (r.e c o) (r.q c a) else dNo
 | .Call (.Name x _) args [] _ => aP7 S r c x args ex
 | _ => dNo
def xQ (c : Kx) (ex : Expr) : DQ := match ex with
 | .Name x _ => (match p9 x c.N with
  | some i => if aJ0 c.sc x then B4 i else qNo
  | none => qE (r.e c ex))
 | .List _ _ => qN (r.n c ex)
 | .ListComp _ _ _ _ => qN (r.n c ex)
 | .Call (.Name x _) [_] [] _ => if biB S c "list" x then qN (r.n c ex) else qE (r.e c ex)
 | _ => qE (r.e c ex)
def xN (c : Kx) (ex : Expr) : DA := match ex with
 | .List es _ => if es.length ≤ 1000 then evA (r.e c) es else aNo
 | .ListComp _ _ _ _ => evC S r c ex
 | .Call (.Name x _) [a] [] _ => if biB S c "list" x && pl a then (fun ρ => (r.q c a ρ).map fun q => q.2) else aNo
 | .BinOp a .Add b _ => bG0 (r.q c a) (r.q c b)
 | _ => aNo
def xT (c : Kx) (ex : Expr) : DT := match ex with
 | .Compare a [op] [b] _ => if pl b then tB2 (opW S c op b) (r.e c a) (r.e c b) else tNo
 | .Compare a [op, op'] [b, d] _ => if pl d then aA0 (N6 (aC9 op) (aC9 op') (r.e c a) (r.e c b) (r.e c d)) else tNo
 | .BoolOp op vs _ => aY5 (r.t c) op vs
 | .UnaryOp .Not a _ => U0 (r.t c a)
 | _ => if plT ex then Z5 (r.e c ex) else tNo
def xG (c : Kx) (ex : Expr) : DG := match ex with
 | .Name x _ => (match p9 x c.N with
  | some i => if aV1 c x then L4 i else gNo
  | none => gNo)
 | .Tuple es _ _ => if es.all pl then M5 es.length (bz6 (r.g c) es) else gNo
 | _ => gNo
def bE4 (c : Kx) (x y : Str) (px py : Pos) (a b : Expr) : Bool :=
 c.df && pl a && pl b && !(x == y) && px.line == py.line && c.sc.names.lookup x == some .local && c.sc.names.lookup y == some .local && !(([a, b] : List Expr).all (foldedForSure 8)) && !(([a, b] : List Expr).all (constantsAlone 8))
def bn8 (c : Kx) (tg v : Expr) (p : Pos) : DS := match tg with
 | .Name x p' => (match p9 x c.N with
  | none => N8
  | some i => if !(aV1 c x) then N8 else (match v with
   | .ListComp _ _ sc pv => if c.sc.names.lookup x == some .local then
     (if c.df && p'.line == pv.line && !(sc.names.any fun (n, k) => n == x && (k == .local || k == .cell)) then (if c.own.contains i then aR3 i (evC S r c v) else Q0 i (evC S r c v)) else N8)
    else F3 i (r.e c v)
   | _ => if isC v then N8 else if c.own.contains i then aR3 i (r.n c v) else F3 i (r.e c v)))
 | .Subscript (.Name x _) (.Slice lo hi none _) _ => (match p9 x c.N with
  | none => N8
  | some i => if aJ0 c.sc x && !(isC v) then bD5 i (evO (r.e c) lo) (evO (r.e c) hi) (r.n c v) else N8)
 | .Tuple [.Name x px, .Name y py] _ _ => (match v with
  | .Tuple [a, b] _ _ => (match p9 x c.N, p9 y c.N with
   | some i, some j => if bE4 c x y px py a b then aR2 i j (evA (r.e c) [a, b]) else N8
   | _, _ => N8)
  | .Tuple _ _ _ => N8
  | _ => g8 (r.e c v) (r.g c tg))
 | .Tuple es _ _ => if ax0 v && (es.length == 2 || es.length == 3) then N8 else g8 (r.e c v) (r.g c tg)
 | _ => N8
def bn7 (c : Kx) (x m : Str) (e : Expr) : DS := match p9 x c.N with
 | none => N8
 | some i => if aJ0 c.sc x && pl e then (if m == "append" then bq8 i (r.e c e) else if m == "extend" then bq7 i (r.e c e) else N8) else N8
def xS0 (c : Kx) (st : Stmt) : DS := match st with
 | .Return (some e) _ => C1 (r.e c e)
 | .If t a b _ => sIf (r.t c t) (r.b c a) (r.b c b)
 | .While t a [] _ => Z9 (r.t c t) (r.b c a)
 | .For tg it a [] _ => if pl it then bD6 (evI S r c tg it) (r.g c tg) (r.b c a) else N8
 | .Assign [tg] v p => bn8 S r c tg v p
 | .Expr (.Call (.Attribute (.Name x _) m apos) [e] [] cpos) _ => if apos.endLine == cpos.line then bn7 r c x m e else N8
 | .Continue _ => bk7
 | .Break _ => fun ρ => some (.bk ρ)
 | .Pass _ => O5
 | _ => N8
def bu3 : Stmt → Nat
 | .Return _ p => p.line
 | .If _ _ _ p => p.line
 | .While _ _ _ p => p.line
 | .For _ _ _ _ p => p.line
 | .Assign _ _ p => p.line
 | .Expr _ p => p.line
 | _ => 0
def fzW (g : DS) : Option (List Nat) → DS
 | none => g
 | some l => l.foldl (fun g i => bq6 i g) g
def xS (c : Kx) (st : Stmt) : DS := fzW (xS0 S r c st) (c.fz.lookup (bu3 st))
def evB (f : Stmt → DS) : List Stmt → DS
 | [] => O5
 | [s] => f s
 | s :: t :: Q2 => B7 (f s) (evB f (t :: Q2))
def step : Ev := ⟨xE S r, xQ S r, xN S r, xT S r, xG r, fun c => evB (xS S r c)⟩
end
def ev (S : Sg) : Nat → Ev
 | 0 => ⟨fun _ _ => dNo, fun _ _ => qNo, fun _ _ => aNo, fun _ _ => tNo, fun _ _ => gNo, fun _ _ => N8⟩
 | n + 1 => step S (ev S n)
end G
namespace G
open PySem PySem.Spec PyProof.Rows L2
section
variable {X : Cx} {S : Sg} {c : Kx}
theorem Q9 {e : Expr} : JE X e dNo := fun ρ d h => by cases h
theorem bl8 {e : Expr} : JQ X e qNo := fun ρ t d h => by cases h
theorem am0 {e : Expr} : JN X e aNo := fun ρ d h => by cases h
theorem aG6 {e : Expr} : JT X e tNo := fun ρ d h => by cases h
theorem bG4 {e : Expr} : JW X e tNo := fun ρ d h => by cases h
theorem aw7 {e : Expr} : JG X e gNo := by
 unfold JG PG
 intros
 rename_i h
 obtain ⟨d, ρ, ρ', H0, Hf, z, _⟩ := h
 cases z
theorem bH1 {es : List Expr} : JA X es aNo := ⟨fun ρ d h => (nomatch h), fun ρ d h => (nomatch h)⟩
theorem bv0 {es : List Expr} : JTs X es tNo := fun pins s σ H Q I ⟨ρ, b, h, _⟩ => by cases h
theorem k5 (hu : X.A.units + 64 < cLine) : ∀ op : CmpOp, OpD X (compareOp op) (aC9 op)
 | .Lt => bF1 | .LtE => bF2 | .Gt => bF5 | .GtE => bF6 | .Eq => bF7 hu | .NotEq => bF0 hu | .Is => bF3 | .IsNot => aT4 | .In => bF4 | .NotIn => aT3
theorem aT2 (hu : X.A.units + 64 < cLine) (S : Sg) (c : Kx) (op : CmpOp) (b : Expr) : OpD X (compareOp op) (opW S c op b) := by
 unfold opW
 split
 ·split
  ·exact bt8
  ·exact aK9
  ·exact k5 hu _
 ·exact k5 hu op
theorem am1 {f : Expr → DE} (h : ∀ e, JE X e (f e)) : ∀ es, JA X es (evA f es)
 | [] => by9
 | e :: es => by
  unfold evA
  split
  ·rename_i p; exact bi6 (h e) (am1 h es) (E8 p es _)
  ·exact bH1
theorem ar9 {f : Expr → DE} (h : ∀ e, JE X e (f e)) (op : BoolOp) (pos : Pos) : ∀ vs, JE X (.BoolOp op vs pos) (aY6 f op vs)
 | [] => Q9
 | [a] => bx8 (h a)
 | a :: b :: r => by
  unfold aY6
  cases op
  ·exact by6 (h a) (ar9 h .And pos (b :: r))
  ·exact bG7 (h a) (ar9 h .Or pos (b :: r))
theorem ar7 {f : Expr → DT} (h : ∀ e, JT X e (f e)) (op : BoolOp) (pos : Pos) : ∀ vs, JW X (.BoolOp op vs pos) (aY5 f op vs)
 | [] => bG4
 | [a] => by cases op; exact bg0 (h a); exact bu8 (h a)
 | a :: b :: r => by
  unfold aY5
  cases op
  ·exact bu9 (h a) (ar7 h .And pos (b :: r))
  ·exact bG3 (h a) (ar7 h .Or pos (b :: r))
theorem n8 {f : Expr → DE} (h : ∀ e, JE X e (f e)) : ∀ o, JO X o (evO f o)
 | none => bh0
 | some e => bg9 (h e)
theorem bv1 {f : Expr → DT} (h : ∀ e, JT X e (f e)) : ∀ l, JTs X l (aY3 f l)
 | [] => bg2
 | [t] => bg1 (h t)
 | _ :: _ :: _ => bv0
theorem aW2 {f : Expr → DG} (h : ∀ e, JG X e (f e)) : ∀ es, es.all pl = true → JGs X es (bz6 f es)
 | [], _ => bh5
 | e :: es, p => by
  simp only [List.all_cons, Bool.and_eq_true] at p
  refine aW3 (h e) (aW2 h es p.2) ?_
  have p1 := p.1
  cases e <;> first | rfl | cases p1
theorem aI4 {env : Env} : ∀ {es : List Expr}, es.all pl = true → (assignEach es env).length = es.length ∧ (assignEach es env).findIdx? (·.1) = none
 | [], _ => ⟨rfl, rfl⟩
 | e :: es, p => by
  simp only [List.all_cons, Bool.and_eq_true] at p
  obtain ⟨h1, h2⟩ := aI4 (env := env) p.2
  have p1 := p.1
  have q : assignEach (e :: es) env = (false, assign e env) :: assignEach es env := by cases e <;> first | rfl | cases p1
  rw [q]
  refine ⟨by simp [h1], ?_⟩
  simp [List.findIdx?_cons, h2]
structure Sound (S : Sg) (r : Ev) : Prop where
 e : ∀ {c X}, Fit S c X → ∀ ex, JE X ex (r.e c ex)
 q : ∀ {c X}, Fit S c X → ∀ ex, JQ X ex (r.q c ex)
 n : ∀ {c X}, Fit S c X → ∀ ex, JN X ex (r.n c ex)
 t : ∀ {c X}, Fit S c X → ∀ ex, JT X ex (r.t c ex)
 g : ∀ {c X}, Fit S c X → ∀ ex, JG X ex (r.g c ex)
 b : ∀ {c X}, Fit S c X → ∀ sts, JSs X sts (r.b c sts)
theorem Fit.hx (F : Fit S c X) : ∀ e s, X.xe e s → False := fun e s h => by rw [F.xe] at h; exact h
theorem Fit.po (F : Fit S c X) : PassesOwn (model X.prog X.w) X.A X.env X.xe := by rw [F.xe]; exact PassesOwn.never
theorem Fit.slot (F : Fit S c X) {x : Str} {i : Nat} (h : p9 x c.N = some i) : X.N[i]? = some x := by rw [F.N]; exact aw8 h
theorem Fit.inner {tn : List Str} {caps : List Nat} {scope : Scope} {C : Addr} {s0 : Shared} {H0 : Hp} {ex : List Addr} (F : Fit S c X) (hn : (G.inner c tn caps scope).N.Nodup) : Fit S (G.inner c tn caps scope) (D4 X (G.inner c tn caps scope).N scope C s0 H0 ex) :=
 ⟨rfl, by show relabel scope X.env = rl scope c.sc; rw [← F.sc]; rfl, hn, F.calm, rfl, F.units, (fun h => by cases h), F.fns, F.css, F.bls⟩
variable {r : Ev}
theorem bx0 (R : Sound S r) (F : Fit S c X) (tg a : Expr) {p pos : Pos} (hg : Gl X "reversed") (hm : X.mg "reversed" = none) : JI X tg (.Call (.Name "reversed" p) [a] [] pos) (evR S r c tg a) := by
 unfold evR
 split
 ·split
  ·rename_i h
   simp only [Bool.and_eq_true] at h
   obtain ⟨rfl, h1, h2⟩ := N0 F h.1.1.1
   obtain ⟨rfl, h3, h4⟩ := N0 F h.1.1.2
   have ht := h.1.2
   cases tg <;> first | (exact bh3 h3 h4 h1 h2 hg hm F.calm (R.e F _) (E8 h.2 _ _)) | (exact nomatch ht)
  ·exact fun ρ ds q => nomatch q
 ·exact fun ρ ds q => nomatch q
theorem bl9 (R : Sound S r) (F : Fit S c X) (tg it : Expr) : JI X tg it (evI S r c tg it) := by
 unfold evI
 split
 ·rename_i x p a pos
  split
  ·rename_i h
   obtain ⟨rfl, h1, h2⟩ := N0 F h
   exact bx0 R F tg a h1 h2
  ·split
   ·rename_i h
    simp only [Bool.and_eq_true] at h
    obtain ⟨rfl, h1, h2⟩ := N0 F h.1
    exact aM3 h1 h2 (R.e F a) (E8 h.2 _ _)
   ·split
    ·rename_i h
     simp only [Bool.and_eq_true] at h
     obtain ⟨rfl, h1, h2⟩ := N0 F h.1.1
     have ht := h.1.2
     cases tg <;> first | (exact bh4 h1 h2 (R.e F a) (E8 h.2 _ _)) | (exact nomatch ht)
    ·exact aC0 (R.e F _)
 ·rename_i x p a b pos
  split
  ·rename_i h
   simp only [Bool.and_eq_true] at h
   obtain ⟨rfl, h1, h2⟩ := N0 F h.1.1
   exact aM2 h1 h2 (R.e F a) (R.e F b) (by rw [E8 h.1.2, E8 h.2]; rfl) (E8 h.2 _ _)
  ·split
   ·rename_i h
    simp only [Bool.and_eq_true] at h
    obtain ⟨rfl, h1, h2⟩ := N0 F h.1.1.1
    have ht := h.1.1.2
    cases tg <;> first | (exact bw8 h1 h2 (R.e F a) (R.e F b) (by rw [E8 h.1.2, E8 h.2]; rfl) (E8 h.2 _ _)) | (exact nomatch ht)
   ·exact aC0 (R.e F _)
 ·split
  ·exact bw9 (R.e F _)
  ·exact aC0 (R.e F _)
theorem aH6 (R : Sound S r) (F : Fit S c X) {elt tgt iter : Expr} {ifs : List Expr} {scope : Scope} {caps : List Nat}
  (h : (ag7 c.N (G.inner c (U5 tgt) caps scope).N (U5 tgt).length caps c.sc scope && ad5 (G.inner c (U5 tgt) caps scope).N && pl iter) = true) :
  CompSc X (G.inner c (U5 tgt) caps scope).N (U5 tgt).length caps scope ∧ JI X tgt iter (evI S r c tgt iter) ∧ (∀ C s0 H0 ex, JG (D4 X (G.inner c (U5 tgt) caps scope).N scope C s0 H0 ex) tgt (r.g (G.inner c (U5 tgt) caps scope) tgt)) ∧
  (∀ C s0 H0 ex, JTs (D4 X (G.inner c (U5 tgt) caps scope).N scope C s0 H0 ex) ifs (aY3 (r.t (G.inner c (U5 tgt) caps scope)) ifs)) ∧ (∀ C s0 H0 ex, JE (D4 X (G.inner c (U5 tgt) caps scope).N scope C s0 H0 ex) elt (r.e (G.inner c (U5 tgt) caps scope) elt)) ∧
  ∀ x, foldedSetIterable iter X.env x = pure x := by
 simp only [Bool.and_eq_true] at h
 obtain ⟨⟨h1, h2⟩, h3⟩ := h
 have hn := ad4 h2
 exact ⟨aN8 h1 F.N F.sc, bl9 R F tgt iter, fun C s0 H0 ex => R.g (F.inner hn) tgt, fun C s0 H0 ex => bv1 (R.t (F.inner hn)) ifs, fun C s0 H0 ex => R.e (F.inner hn) elt, aF6 h3 _⟩
theorem bG6 (R : Sound S r) (F : Fit S c X) (ex : Expr) : JN X ex (evC S r c ex) := by
 unfold evC
 split
 ·rename_i elt tgt iter ifs scope pos
  dsimp only
  split
  ·rename_i h
   obtain ⟨h1, h2, h3, h4, h5, h6⟩ := aH6 (ifs := ifs) (elt := elt) R F h
   exact bh2 h1 F.hx h2 h3 h4 h5 F.calm h6
  ·exact am0
 ·exact am0
theorem aJ1 {x : Str} {T : String} (h : bo1 x = some T) : bootBuiltins x = some (.type T) ∧ x ≠ "__name__" ∧ (x == ("__debug__" : Str)) = false := by
 unfold bo1 at h
 split at h
 ·rename_i e; cases h; simp only [beq_iff_eq] at e; subst e; exact ⟨aD3, by decide, by decide⟩
 ·split at h
  ·rename_i e; cases h; simp only [beq_iff_eq] at e; subst e; exact ⟨bj8, by decide, by decide⟩
  ·split at h
   ·rename_i e; cases h; simp only [beq_iff_eq] at e; subst e; exact ⟨ba4, by decide, by decide⟩
   ·split at h
    ·rename_i e; cases h; simp only [beq_iff_eq] at e; subst e; exact ⟨ay5, by decide, by decide⟩
    ·split at h
     ·rename_i e; cases h; simp only [beq_iff_eq] at e; subst e; exact ⟨aI1, by decide, by decide⟩
     ·cases h
theorem aF7 {e : Expr} (h : pl e = true) (pos : Pos) (env : Env) : (backTo pos (starEach [e] env)).any (·.1) = false := by
 rw [E8 h]; rfl
theorem o9 (pos : Pos) (env : Env) : ∀ {es : List Expr}, es.all pl = true → (starEach es env).any (·.1) = false
 | [], _ => rfl
 | e :: es, h => by
  simp only [List.all_cons, Bool.and_eq_true] at h
  rw [E8 h.1, List.any_cons, o9 pos env h.2]; rfl
end
end G
namespace G
open PySem PySem.Spec PyProof.Rows L2
section
variable {X : Cx} {S : Sg} {c : Kx} {r : Ev}
theorem bb5 (R : Sound S r) (F : Fit S c X) (a i : Expr) (pos : Pos) : JE X (.Subscript a i pos) (bn6 r c a i) := by
 unfold bn6
 split
 ·split
  ·exact aW6 (R.e F _) (n8 (R.e F) _) (n8 (R.e F) _)
  ·split
   ·exact bx5 (R.e F _) (n8 (R.e F) _) (n8 (R.e F) _)
   ·split
    ·exact bx6 (R.q F _) (n8 (R.e F) _) (n8 (R.e F) _)
    ·exact bx7 (R.e F _) (n8 (R.e F) _) (n8 (R.e F) _)
 ·exact bh8 (R.e F _) (aW7 aX0)
 ·split
  ·rename_i h
   split
   ·exact by1 (R.e F _) (R.e F _) (bl1 h)
   ·exact bG8 (R.q F _) (R.e F _) (bl1 h)
  ·exact Q9
theorem aI9 (R : Sound S r) (F : Fit S c X) (x : Str) (a : Expr) (p pos : Pos) : JE X (.Call (.Name x p) [a] [] pos) (az5 S r c x a) := by
 unfold az5
 split
 ·exact Q9
 rename_i hp
 have hp : pl a = true := by simpa using hp
 have hs := E8 hp [] X.env
 split
 ·rename_i h
  obtain ⟨rfl, h1, h2⟩ := N0 F h
  split
  ·rename_i y py e ppos
   split
   ·rename_i hy
    simp only [Bool.and_eq_true] at hy
    obtain ⟨rfl, g1, g2⟩ := N0 F hy.1
    exact aM4 h1 h2 g1 g2 (R.q F _) F.calm (E8 hy.2 _ _)
   ·exact aW8 h1 h2 (R.q F _) hs
  ·split
   ·exact bi3 h1 h2 (R.e F a) hs
   ·exact aW8 h1 h2 (R.q F a) hs
 split
 ·rename_i h; obtain ⟨rfl, h1, h2⟩ := N0 F h; exact bh7 h1 h2 (R.q F a) hs
 split
 ·rename_i h; obtain ⟨rfl, h1, h2⟩ := N0 F h; exact by7 h1 h2 (R.q F a) F.calm hs
 split
 ·rename_i h; obtain ⟨rfl, h1, h2⟩ := N0 F h; exact aW9 h1 h2 (R.e F a) hs
 split
 ·rename_i h; obtain ⟨rfl, h1, h2⟩ := N0 F h; exact aW5 h1 h2 (R.e F a) hs
 split
 ·rename_i h; obtain ⟨rfl, h1, h2⟩ := N0 F h; exact by8 h1 h2 (R.e F a) hs
 split
 ·rename_i h; obtain ⟨rfl, h1, h2⟩ := N0 F h; exact bh9 h1 h2 (R.q F a) F.calm hs
 split
 ·rename_i h; obtain ⟨rfl, h1, h2⟩ := N0 F h; exact bi1 h1 h2 (R.q F a) F.calm hs
 exact Q9
theorem aI8 (R : Sound S r) (F : Fit S c X) (x : Str) (a b : Expr) (p pos : Pos) : JE X (.Call (.Name x p) [a, b] [] pos) (az4 S r c x a b) := by
 unfold az4
 split
 ·exact Q9
 rename_i hp
 have hp : pl a = true := by simpa using hp
 split
 ·rename_i h
  obtain ⟨rfl, h1, h2⟩ := N0 F h
  split
  ·rename_i y py
   split
   ·rename_i T hT
    split
    ·rename_i hy
     obtain ⟨_, g1, g2⟩ := N0 F hy
     obtain ⟨t1, t2, t3⟩ := aJ1 hT
     exact by2 h1 h2 g1 g2 t1 (R.e F a) t2 t3 (E8 hp _ _) rfl rfl
    ·exact Q9
   ·exact Q9
  ·exact Q9
 split
 ·exact Q9
 rename_i hb
 have hb : pl b = true := by simpa using hb
 split
 ·rename_i h; obtain ⟨rfl, h1, h2⟩ := N0 F h; exact bi0 h1 h2 (R.e F a) (R.e F b) F.calm (E8 hp _ _) (E8 hb _ _) (aF7 hb pos _)
 split
 ·rename_i h; obtain ⟨rfl, h1, h2⟩ := N0 F h; exact bi2 h1 h2 (R.e F a) (R.e F b) F.calm (E8 hp _ _) (E8 hb _ _) (aF7 hb pos _)
 exact Q9
theorem aj7 (pos : Pos) : ∀ l : List (Bool × Sem Value), (backTo pos l).any (·.1) = l.any (·.1)
 | [] => rfl
 | (b, t) :: r => by
  have ih := aj7 pos r
  unfold backTo at ih ⊢
  rw [xmc, List.any_cons, List.any_cons, ih]
theorem aP6 (R : Sound S r) (F : Fit S c X) (x : Str) (args : List Expr) (p pos : Pos) : JE X (.Call (.Name x p) args [] pos) (aP7 S r c x args (.Call (.Name x p) args [] pos)) := by
 unfold aP7
 split
 ·rename_i Fn n hl
  split
  ·rename_i h
   simp only [Bool.and_eq_true, beq_iff_eq] at h
   obtain ⟨⟨hg, hn⟩, hp⟩ := h
   obtain ⟨g1, g2⟩ := as2 F hg
   rcases F.fns _ _ _ hl with ⟨k, f, fd, ps, hk, hr, hm, hkp, hb⟩ | ⟨hm, hb⟩
   case inr =>
    cases args with
    | nil => cases hn; exact absurd hb.1 (Nat.lt_irrefl _)
    | cons e es =>
     simp only [List.all_cons, Bool.and_eq_true] at hp
     exact bH0 hb F.units g1 hm (am1 (R.e F) (e :: es)) hn g2 (E8 hp.1 _ _) ((aj7 pos _).trans (o9 pos _ hp.2))
   cases args with
   | nil => cases hn; exact aX2 hk hr g1 hm hkp hb g2
   | cons e es =>
    simp only [List.all_cons, Bool.and_eq_true] at hp
    exact bi5 hk hr g1 hm hkp hb (am1 (R.e F) (e :: es)) hn g2 (E8 hp.1 _ _) ((aj7 pos _).trans (o9 pos _ hp.2))
  ·exact Q9
 ·split
  ·split
   ·exact aj1 (R.n F _)
   ·exact aI9 R F _ _ _ _
  ·exact aI8 R F _ _ _ _ _
  ·exact Q9
theorem bC1 (R : Sound S r) (F : Fit S c X) (ex : Expr) : JE X ex (xE S r c ex) := by
 have hu := F.units
 unfold xE
 split
 ·exact by0
 ·exact bG9
 ·exact aX0
 ·exact bx4
 ·split
  ·rename_i i h
   split
   ·rename_i v; obtain ⟨h1, h2, h3⟩ := af8 F v; exact bx2 i (F.slot h) h1 h2 h3
   ·exact Q9
  ·split
   ·rename_i d hd
    split
    ·rename_i g; obtain ⟨u, k1, k2⟩ := F.css _ _ hd; obtain ⟨g1, g2⟩ := as2 F g; exact by4 k1 g1 k2 g2
    ·exact Q9
   ·exact Q9
 ·split
  ·rename_i h; exact bx3 (am1 (R.e F) _) h
  ·exact Q9
 ·exact aj1 (R.n F _)
 ·exact aj1 (R.n F _)
 ·split
  ·exact Y1 aT5 (R.e F _) (R.e F _)
  ·exact Y1 bf3 (R.e F _) (R.e F _)
 ·exact Y1 bt3 (R.e F _) (R.e F _)
 ·split
  ·exact Y1 aq8 (R.e F _) (R.e F _)
  ·split
   ·split
    ·exact Y1 bf2 (R.e F _) (R.e F _)
    ·exact Y1 aG0 (R.e F _) (R.e F _)
   ·exact Y1 aG0 (R.e F _) (R.e F _)
 ·exact Y1 bt9 (R.e F _) (R.e F _)
 ·exact Y1 bt6 (R.e F _) (R.e F _)
 ·exact Y1 bt4 (R.e F _) (R.e F _)
 ·exact aW7 (R.e F _)
 ·exact bx9 (R.e F _)
 ·split
  ·rename_i h; exact by5 (aT2 hu S c _ _) (R.e F _) (R.e F _) (ag0 h _)
  ·exact Q9
 ·split
  ·rename_i h; exact aX1 (k5 hu _) (k5 hu _) (R.e F _) (R.e F _) (R.e F _) (ag0 h _)
  ·exact Q9
 ·exact ar9 (R.e F) _ _ _
 ·exact by3 (R.t F _) (R.e F _) (R.e F _)
 ·exact bb5 R F _ _ _
 ·split
  ·rename_i h
   simp only [Bool.and_eq_true, beq_iff_eq] at h
   obtain ⟨⟨⟨hm, hn⟩, hl⟩, hp⟩ := h
   subst hm
   have hs := E8 hp [] X.env
   exact bi4 (R.e F _) (R.q F _) (av7 hn _ _ _) (by rw [hs]; rfl) (by simpa using hl) hs
  ·exact Q9
 ·exact aP6 R F _ _ _ _
 ·exact Q9
theorem bB8 (R : Sound S r) (F : Fit S c X) (ex : Expr) : JQ X ex (xQ S r c ex) := by
 unfold xQ
 split
 ·split
  ·rename_i i h
   split
   ·rename_i v; obtain ⟨h1, h2, h3⟩ := af8 F v; exact bw4 i (F.slot h) h1 h2 h3
   ·exact bl8
  ·exact aW1 (R.e F _)
 ·exact bw5 (R.n F _)
 ·exact bw5 (R.n F _)
 ·split
  ·exact bw5 (R.n F _)
  ·exact aW1 (R.e F _)
 ·exact aW1 (R.e F _)
theorem bB9 (R : Sound S r) (F : Fit S c X) (ex : Expr) : JN X ex (xN S r c ex) := by
 unfold xN
 split
 ·split
  ·rename_i h; exact bw6 (am1 (R.e F) _) h
  ·exact am0
 ·exact bG6 R F _
 ·split
  ·rename_i h
   simp only [Bool.and_eq_true] at h
   obtain ⟨rfl, h1, h2⟩ := N0 F h.1
   exact bh1 h1 h2 (R.q F _) (E8 h.2 _ _)
  ·exact am0
 ·exact bw7 (R.q F _) (R.q F _)
 ·exact am0
theorem bB6 (R : Sound S r) (F : Fit S c X) (ex : Expr) : JT X ex (xT S r c ex) := by
 have hu := F.units
 unfold xT
 split
 ·split
  ·rename_i h; exact bv4 (aT2 hu S c _ _) (R.e F _) (R.e F _) (ag0 h _)
  ·exact aG6
 ·split
  ·rename_i h; exact aV5 (k5 hu _) (k5 hu _) (R.e F _) (R.e F _) (R.e F _) (ag0 h _)
  ·exact aG6
 ·exact aV4 (ar7 (R.t F) _ _ _)
 ·exact bv3 (R.t F _)
 ·split
  ·rename_i h; exact bv2 (R.e F _) (aS3 h _)
  ·exact aG6
theorem bC0 (R : Sound S r) (F : Fit S c X) (ex : Expr) : JG X ex (xG r c ex) := by
 unfold xG
 split
 ·split
  ·rename_i i h
   split
   ·rename_i v; obtain ⟨h1, h2⟩ := aG4 F v; exact bh6 i (by rw [F.N]; exact F.nd) (F.slot h) h1 h2
   ·exact aw7
  ·exact aw7
 ·split
  ·rename_i h
   obtain ⟨h1, h2⟩ := aI4 (env := X.env) h
   exact bx1 (aW2 (R.g F) _ h) F.calm h1 h2
  ·exact aw7
 ·exact aw7
theorem aG7 {st : Stmt} {f : DS} (h : ∀ ρ, f ρ = none) : JS X st f := fun ρ fl q => by rw [h ρ] at q; cases q
theorem ba1 (F : Fit S c X) (h : c.df = true) : X.env.blockKind = .function := by
 unfold Env.blockKind
 rw [F.sc, (F.df h).2]; rfl
theorem al2 (elt : Expr) (gens : List Comprehension) (sc : Scope) (pv p' : Pos) (x : Str) (l : Nat) (env : Env) : swapsWith (.ListComp elt gens sc pv) (some (.Name x p')) l env =
  pure (env.blockKind == .function && env.kindOf x == some .local && p'.line == pv.line && !(sc.names.any fun (n, k) => n == x && (k == .local || k == .cell))) := rfl
theorem aG8 (R : Sound S r) (F : Fit S c X) {x : Str} {p' pv p : Pos} {elt : Expr} {gens : List Comprehension} {sc : Scope} {i : Nat} (hi : p9 x c.N = some i) (hl : (c.sc.names.lookup x == some .local) = true)
  (h : (c.df && p'.line == pv.line && !(sc.names.any fun (n, k) => n == x && (k == .local || k == .cell))) = true) :
  JS X (.Assign [.Name x p'] (.ListComp elt gens sc pv) p) (aR3 i (evC S r c (.ListComp elt gens sc pv))) ∧ JS X (.Assign [.Name x p'] (.ListComp elt gens sc pv) p) (Q0 i (evC S r c (.ListComp elt gens sc pv))) := by
 unfold evC
 simp only [Bool.and_eq_true] at h
 have hl' : X.env.scope.names.lookup x = some .local := by rw [F.sc]; simpa using hl
 have hsw : swapsWith (.ListComp elt gens sc pv) (some (.Name x p')) p.line X.env = pure true := by
  rw [al2, ba1 F h.1.1, h.1.2, h.2]
  unfold Env.kindOf
  rw [hl']; rfl
 split
 ·rename_i elt tgt iter ifs scope pos he
  cases he
  dsimp only
  split
  ·rename_i hc
   obtain ⟨h1, h2, h3, h4, h5, h6⟩ := aH6 (ifs := ifs) (elt := elt) R F hc
   exact ⟨bg6 i (by rw [F.N]; exact F.nd) h1 F.hx h2 h3 h4 h5 (F.slot hi) hl' hsw F.calm h6, bg8 i (by rw [F.N]; exact F.nd) h1 F.hx h2 h3 h4 h5 (F.slot hi) hl' hsw F.calm h6⟩
  ·exact ⟨aG7 fun ρ => rfl, aG7 fun ρ => rfl⟩
 ·exact ⟨aG7 fun ρ => rfl, aG7 fun ρ => rfl⟩
theorem bb7 (R : Sound S r) (F : Fit S c X) (tg v : Expr) (p : Pos) : JS X (.Assign [tg] v p) (bn8 S r c tg v p) := by
 have nd : X.N.Nodup := by rw [F.N]; exact F.nd
 unfold bn8
 split
 ·rename_i x p'
  split
  ·exact J9
  ·rename_i i hi
   split
   ·exact J9
   ·rename_i hlo
    have hlo : aV1 c x = true := by simpa using hlo
    obtain ⟨l1, l2⟩ := aG4 F hlo
    split
    ·rename_i elt gens sc pv
     split
     ·rename_i hl
      split
      ·rename_i h
       split
       ·exact (aG8 R F hi hl h).1
       ·exact (aG8 R F hi hl h).2
      ·exact J9
     ·rename_i hl
      refine aV8 i nd (R.e F _) (F.slot hi) l1 ?_ l2
      rw [al2]
      have : (X.env.kindOf x == some .local) = false := by
       unfold Env.kindOf
       rw [F.sc]; simpa using hl
      rw [this, Bool.and_false]; rfl
    ·split
     ·exact J9
     ·rename_i hc
      have hc : isC v = false := by simpa using hc
      split
      ·exact bv8 i nd (R.n F _) (F.slot hi) l1 (ai7 hc _ _ _) l2
      ·exact aV8 i nd (R.e F _) (F.slot hi) l1 (ai7 hc _ _ _) l2
 ·split
  ·exact J9
  ·rename_i i hi
   split
   ·rename_i h
    simp only [Bool.and_eq_true, Bool.not_eq_true'] at h
    obtain ⟨h1, h2, h3⟩ := af8 F h.1
    exact bv5 i (R.n F _) (n8 (R.e F) _) (n8 (R.e F) _) (F.slot hi) h1 h2 h3 (ai7 h.2 _ _ _)
   ·exact J9
 ·rename_i x px y py kt pt
  split
  ·rename_i a b k2 p2
   split
   ·rename_i i j hi hj
    split
    ·rename_i h
     unfold bE4 at h
     simp only [Bool.and_eq_true, Bool.not_eq_true', beq_iff_eq] at h
     obtain ⟨⟨⟨⟨⟨⟨⟨⟨hd, ha⟩, hb⟩, hxy⟩, hl⟩, hx⟩, hy⟩, hf⟩, hcs⟩ := h
     have hx' : X.env.scope.names.lookup x = some .local := by rw [F.sc]; exact hx
     have hy' : X.env.scope.names.lookup y = some .local := by rw [F.sc]; exact hy
     have hne : i ≠ j := fun z => by
      subst z
      have := (F.slot hi).symm.trans (F.slot hj)
      cases this
      simp at hxy
     refine bv7 nd (am1 (R.e F) [a, b]) ?_ hne (F.slot hi) (F.slot hj) hx' hy' F.calm rfl
     have kx : X.env.kindOf x = some .local := hx'
     have ky : X.env.kindOf y = some .local := hy'
     have st : ∀ e : Expr, pl e = true → (match e with | .Starred .. => true | _ => false) = false := fun e he => by cases e <;> first | rfl | cases he
     have sa := st a ha
     have sb := st b hb
     have hyx : (y == x) = false := by
      cases q : (y == x) with
      | false => rfl
      | true => simp only [beq_iff_eq] at q; subst q; simp at hxy
     simp only [swappedStores, List.length_cons, List.length_nil, List.head?_cons, xms, Option.getD_some, Expr.pos, List.filterMap_cons, List.filterMap_nil, kx, ky, ba1 F hd, hf, hcs, hl, sa, sb, List.any_cons, List.any_nil]
     simp [List.eraseDups, List.eraseDupsBy, List.eraseDupsBy.loop, hxy, hyx]
     intro z
     rcases z with z | z
     ·cases a <;> first | exact absurd (show false = true from z) Bool.false_ne_true | exact nomatch ha
     ·cases b <;> first | exact absurd (show false = true from z) Bool.false_ne_true | exact nomatch hb
    ·exact J9
   ·exact J9
  ·exact J9
  ·rename_i h1 h2
   refine aV9 (R.e F _) (R.g F _) ?_ ?_ rfl
   ·cases v <;> rfl
   ·cases v <;> first | rfl | exact (h2 _ _ _ rfl).elim
 ·rename_i es kt pt _
  split
  ·exact J9
  ·rename_i h
   refine aV9 (R.e F _) (R.g F _) ?_ ?_ rfl
   ·cases v <;> rfl
   ·cases v <;> first | rfl | skip
    rename_i vs k3 p3
    have h : (es.length == 2 || es.length == 3) = false := by simpa [ax0] using h
    unfold swappedStores
    simp only [h, xnf, Bool.true_or, if_true]
 ·exact J9
end
end G
namespace G
open PySem PySem.Spec PyProof.Rows L2
section
variable {X : Cx} {S : Sg} {c : Kx} {r : Ev}
theorem bb6 (R : Sound S r) (F : Fit S c X) (x m : Str) (e : Expr) (p apos cpos pos : Pos) (hl : (apos.endLine == cpos.line) = true) : JS X (.Expr (.Call (.Attribute (.Name x p) m apos) [e] [] cpos) pos) (bn7 r c x m e) := by
 unfold bn7
 split
 ·exact J9
 ·rename_i i hi
  split
  ·rename_i h
   simp only [Bool.and_eq_true] at h
   obtain ⟨h1, h2, h3⟩ := af8 F h.1
   have hs := E8 h.2 [] X.env
   split
   ·rename_i hm
    simp only [beq_iff_eq] at hm
    subst hm
    exact bw3 i (R.e F e) (F.slot hi) h1 h2 h3 rfl (by rw [hs]; rfl) hl hs rfl
   ·split
    ·rename_i hm
     simp only [beq_iff_eq] at hm
     subst hm
     exact bw1 i (R.e F e) (F.slot hi) h1 h2 h3 hl hs
    ·exact J9
  ·exact J9
theorem aP5 (R : Sound S r) (F : Fit S c X) (st : Stmt) : JS X st (xS0 S r c st) := by
 unfold xS0
 split
 ·exact bv6 (R.e F _)
 ·exact bG5 (R.t F _) (R.b F _) (R.b F _)
 ·exact aV7 (R.t F _) (R.b F _) F.po
 ·split
  ·rename_i h; exact bw0 (bl9 R F _ _) (R.g F _) (R.b F _) F.po F.calm (aF6 h _)
  ·exact J9
 ·exact bb7 R F _ _ _
 ·split
  ·rename_i h; exact bb6 R F _ _ _ _ _ _ _ h
  ·exact J9
 ·exact bg7
 ·exact bw2
 ·exact bg5
 ·exact J9
theorem aX9 {st : Stmt} : ∀ (l : List Nat) {g : DS}, JS X st g → JS X st (l.foldl (fun g i => bq6 i g) g)
 | [], _, h => h
 | i :: l, _, h => aX9 l (bv9 i h)
theorem bB7 (R : Sound S r) (F : Fit S c X) (st : Stmt) : JS X st (xS S r c st) := by
 unfold xS fzW
 split
 ·exact aP5 R F st
 ·exact aX9 _ (aP5 R F st)
theorem aY4 {f : Stmt → DS} (h : ∀ st, JS X st (f st)) : ∀ sts, JSs X sts (evB f sts)
 | [] => bg4
 | [s] => bg3 (h s)
 | s :: t :: Q2 => aV6 (h s) (aY4 h (t :: Q2))
theorem bc0 (R : Sound S r) : Sound S (step S r) :=
 ⟨fun F => bC1 R F, fun F => bB8 R F, fun F => bB9 R F, fun F => bB6 R F, fun F => bC0 R F, fun F => aY4 (bB7 R F)⟩
theorem bm4 (S : Sg) : ∀ n, Sound S (ev S n)
 | 0 => ⟨fun _ _ => Q9, fun _ _ => bl8, fun _ _ => am0, fun _ _ => aG6, fun _ _ => aw7, fun _ _ ρ fl q => by cases q⟩
 | n + 1 => bc0 (bm4 S n)
end
structure Fd where
 x : Str
 st : Stmt
 ps : List Str
 N : List Str
 own : List Nat := []
 tx : List Nat := []
 old : Bool := false
 fz : List (Nat × List Nat) := []
 hc : List ((Nat × Nat) × List Nat) := []
def Fd.c (d : Fd) : Kx := { N := d.N, sc := K0 d.st, df := true, own := d.own, cpt := [], tx := d.tx, old := d.old, fz := d.fz, hc := d.hc }
def Fd.okB (d : Fd) : Bool := let sc := K0 d.st
 sc.kind == .function && !sc.isCoroutine && !sc.isGenerator && ad5 d.N && d.N.take d.ps.length == d.ps && (d.ps.all fun x => match sc.names.lookup x with | some .local => true | some .cell => true | _ => false) && sc.names.all fun y => match y.2 with | .free => false | _ => true
theorem Fd.sc {d : Fd} (h : d.okB = true) : FnScope d.N d.ps (K0 d.st) := by
 unfold Fd.okB at h
 simp only [Bool.and_eq_true, Bool.not_eq_true', beq_iff_eq, List.all_eq_true] at h
 obtain ⟨⟨⟨⟨⟨⟨h1, h2⟩, h3⟩, h4⟩, h5⟩, h6⟩, h7⟩ := h
 refine ⟨h1, h2, h3, ad4 h4, h5, fun x hx => ?_, fun y hy e => ?_⟩
 ·have := h6 x hx
  split at this
  ·rename_i q; exact .inl q
  ·rename_i q; exact .inr q
  ·cases this
 ·have := h7 y hy
  rw [e] at this
  cases this
def KF (K : PySem.W.Frag) (x : Str) (st : Stmt) : Prop := ∃ (f : Addr) (oc : Value) (od : Option Addr) (sl : Array (Option Value)) (kV dc pm : Value) (an : Option Addr) (cd ct : Value),
 PySem.W.nsIn K mainGlobals x = some (some (.ref f)) ∧ K.lookup f = some ⟨oc, od, .func (PySem.W.fnOf x x (X2 st) (S2 st) (K0 st) .none kV dc pm an cd ct), sl⟩ ∧ PySem.W.codeIn K cd x = true ∧ PySem.W.keepIn K (.ref f) = true
theorem bG2 {K : PySem.W.Frag} {x : Str} {st : Stmt} {f : Addr} {oc : Value} {od : Option Addr} {sl : Array (Option Value)} {kV dc pm : Value} {an : Option Addr} {cd ct : Value} (a : PySem.W.nsIn K mainGlobals x = some (some (.ref f)))
  (l : K.lookup f = some ⟨oc, od, .func (PySem.W.fnOf x x (X2 st) (S2 st) (K0 st) .none kV dc pm an cd ct), sl⟩) (c : PySem.W.codeIn K cd x = true) (k : PySem.W.keepIn K (.ref f) = true) : KF K x st := ⟨f, oc, od, sl, kV, dc, pm, an, cd, ct, a, l, c, k⟩
abbrev Tab := List (Str × FnD × Nat)
section
variable {P : Program} {w : World} {K : PySem.W.Frag} {mg : Str → Option Value} {base : Heap} {cs : List (Str × D)} {bl : List Str}
structure Md (K : PySem.W.Frag) (mg : Str → Option Value) (cs : List (Str × D)) (bl : List Str) : Prop where
 ns : ∀ x v, PySem.W.nsIn K mainGlobals x = some (some v) → mg x = some v
 css : ∀ x d, cs.lookup x = some d → ∃ u, aE2 K d u ∧ mg x = some u
 bls : ∀ x, bl.contains x = true → mg x = none
def TOk (P : Program) (w : World) (K : PySem.W.Frag) (mg : Str → Option Value) (base : Heap) (k : Nat) (tab : Tab) : Prop := ∀ x F n, tab.lookup x = some (F, n) → (∃ (f : Addr) (fd : FuncData) (ps : List Str),
 FnOk P w K mg base CX0 k f fd ps (spF K n F) ∧ mg x = some (.ref f) ∧ PySem.W.keepIn K (.ref f) = true ∧ o0 K fd ps []) ∨ (mg x = none ∧ bb4 x F n)
theorem TOk.nil : TOk P w K mg base 0 [] := fun x F n h => by cases h
theorem TOk.mono {j k : Nat} {tab : Tab} (T : TOk P w K mg base j tab) (h : j ≤ k) : TOk P w K mg base k tab := fun x F n e =>
 (T x F n e).imp (fun ⟨f, fd, ps, h1, h2, h3, h4⟩ => ⟨f, fd, ps, h1.mono h, h2, h3, h4⟩) id
def Bd (d : Fd) : Prop := ∀ (kV doc pm : Value) (an : Option Addr) (cdv ct : Value) (us : List Value), us.length = d.ps.length → bindArgs (PySem.W.fnOf d.x d.x (X2 d.st) (S2 d.st) (K0 d.st) .none kV doc pm an cdv ct) ⟨us, []⟩ = pure (d.ps.zip us)
def rd (tab : Tab) (cs : List (Str × D)) (bl : List Str) (d : Fd) : FnD := R6 ((ev ⟨tab, cs, bl⟩ 99).b d.c (S2 d.st)) d.N.length
theorem bm3 {k : Nat} {tab : Tab} {d : Fd} {f : Addr} {fd : FuncData} (M : Md K mg cs bl) (T : TOk P w K mg base k tab) (ok : d.okB = true) (Fn : Fun K d.x d.x d.st f fd) : FnOk P w K mg base CX0 (k + 1) f fd d.ps (spF K d.ps.length (rd tab cs bl d)) := by
 have Sc := Fd.sc ok
 refine bj1 (N := d.N) Fn Sc fun cdv A outer s H E hr => (bm4 ⟨tab, cs, bl⟩ 99).b (c := d.c) ?_ _
 refine ⟨rfl, rfl, Sc.nd, rfl, rfl, hr.units, fun _ => ⟨fun _ => rfl, Sc.kind⟩, fun x F n h => ?_, M.css, M.bls⟩
 exact (T x F n h).imp (fun ⟨f', fd', ps, h1, h2, h3, h4⟩ => ⟨k, f', fd', ps, h1, hr, h2, h3, h4⟩) id
theorem aV3 {x : Str} {st : Stmt} (h : KF K x st) (M : Md K mg cs bl) : ∃ (f : Addr) (kV dc pm : Value) (an : Option Addr) (cd ct : Value), Fun K x x st f (PySem.W.fnOf x x (X2 st) (S2 st) (K0 st) .none kV dc pm an cd ct) ∧ mg x = some (.ref f) := by
 obtain ⟨f, oc, od, sl, kV, dc, pm, an, cd, ct, a, l, cc, kk⟩ := h
 exact ⟨f, kV, dc, pm, an, cd, ct, bz4 l cc kk, M.ns _ _ a⟩
theorem TOk.cons {k : Nat} {tab : Tab} {x : Str} {F : FnD} {n : Nat} (T : TOk P w K mg base k tab) (h : ∃ (f : Addr) (fd : FuncData) (ps : List Str), FnOk P w K mg base CX0 k f fd ps (spF K n F) ∧ mg x = some (.ref f) ∧ PySem.W.keepIn K (.ref f) = true ∧ o0 K fd ps []) :
  TOk P w K mg base k ((x, F, n) :: tab) := fun y G m e => by
 rw [List.lookup_cons] at e
 split at e
 ·rename_i q
  cases e
  simp only [beq_iff_eq] at q
  subst q
  exact .inl h
 ·exact T y G m e
theorem TOk.bi {k : Nat} {tab : Tab} {x : Str} {F : FnD} {n : Nat} (T : TOk P w K mg base k tab) (M : Md K mg cs bl) (hb : bl.contains x = true) (h : bb4 x F n) : TOk P w K mg base k ((x, F, n) :: tab) := fun y G m e => by
 rw [List.lookup_cons] at e
 split at e
 ·rename_i q
  cases e
  simp only [beq_iff_eq] at q
  subst q
  exact .inr ⟨M.bls _ hb, h⟩
 ·exact T y G m e
theorem TOk.add {k n : Nat} {tab : Tab} {F : FnD} (T : TOk P w K mg base k tab) (M : Md K mg cs bl) (d : Fd) (h : KF K d.x d.st) (bd : Bd d) (ok : d.okB = true) (hn : d.ps.length = n) (e : rd tab cs bl d = F) : TOk P w K mg base (k + 1) ((d.x, F, n) :: tab) := by
 subst hn e
 obtain ⟨f, kV, dc, pm, an, cd, ct, Fn, hm⟩ := aV3 h M
 exact (T.mono (Nat.le_succ k)).cons ⟨f, _, d.ps, bm3 M T ok Fn, hm, Fn.kp, .all (bd kV dc pm an cd ct)⟩
theorem bf9 {k : Nat} {tab : Tab} {F : FnD} {fa : Addr} {x : Str} (M : Md K mg cs bl) (T : ∀ base : Heap, TOk P w K mg base k tab) (d : Fd) (h : KF K d.x d.st) (bd : Bd d) (ok : d.okB = true) (hp : d.ps = [x]) (e : rd tab cs bl d = F) (hm : mg d.x = some (.ref fa)) :
  ∃ fd : FuncData, (∀ (s : Shared) (u : Value), BindsTo s fd ⟨[u], []⟩ [(x, u)]) ∧ ∀ base : Heap, FnOk P w K mg base CX0 (k + 1) fa fd [x] (spF K 1 F) := by
 subst e
 obtain ⟨f, kV, dc, pm, an, cd, ct, Fn, hm'⟩ := aV3 h M
 cases hm.symm.trans hm'
 refine ⟨PySem.W.fnOf d.x d.x (X2 d.st) (S2 d.st) (K0 d.st) .none kV dc pm an cd ct, fun s u => .of_eq ?_, fun base => ?_⟩
 ·have := bd kV dc pm an cd ct [u] (by rw [hp]; rfl)
  rw [hp] at this
  exact this
 ·have := bm3 M (T base) ok Fn
  rw [hp] at this
  exact this
end
end G
namespace Lk11
open PySem PySem.Spec PyProof.Rows L2 G Sh
def top (i : Nat) : Stmt := PySem.Challenge.pw_glazework_k11_whole_turned.main.body.getD i (.Pass ⟨0, 0, 0, 0⟩)
abbrev S5 : Stmt := top 2
abbrev Z7 : Stmt := top 3
abbrev Z8 : Stmt := top 4
abbrev ap4 : Stmt := top 5
abbrev o8 : Stmt := top 6
abbrev ap3 : Stmt := top 7
abbrev ab9 : Stmt := top 8
abbrev X8 : Stmt := top 9
abbrev U6 : Stmt := top 12
abbrev S7 : Stmt := top 13
abbrev ac5 : Stmt := top 14
abbrev g6 : Stmt := top 16
abbrev g7 : Stmt := top 17
abbrev R9 : Stmt := top 18
abbrev ab8 : Stmt := top 19
abbrev ac0 : Stmt := top 20
abbrev o7 : Stmt := top 21
abbrev ah7 : Stmt := top 22
abbrev S6 : Stmt := top 23
abbrev ai0 : Stmt := top 25
abbrev ac4 : Stmt := top 26
abbrev ah9 : Stmt := top 27
abbrev ac1 : Stmt := top 29
abbrev ac3 : Stmt := top 31
abbrev ah8 : Stmt := top 32
abbrev ac2 : Stmt := top 33
abbrev bk6 : Stmt := top 34
def aB0 : DS := (F3 1 (A4 d6 (dC (.int 1)) (A2 C2 (A0 (A1 0) (A0 (dC (.int 0)) (A0 (dC (.int 3)) A3))))))
def aA9 : DS := (F3 2 (A4 d6 (dC (.int 1)) (A2 C2 (A0 (A1 0) (A0 (dC (.int 1)) (A0 (dC (.int 3)) A3))))))
def aA8 : DS := (F3 3 (A2 T0 (A0 (A1 0) (A0 (dC (.int 10)) (A0 (A1 1) (A0 (A1 2) A3))))))
def aA7 : DS := (F3 4 (A2 T0 (A0 (A1 0) (A0 (dC (.int 120)) (A0 (A1 1) (A0 (A1 2) A3))))))
def aA6 : DS := (F3 5 (dIx (qN (A0 (dC (.str "over")) (A0 (dC (.str "multiply")) (A0 (dC (.str "screen")) (A0 (dC (.str "plus")) (A0 (dC (.str "atop")) (A0 (dC (.str "cut")) A3))))))) (A2 C2 (A0 (A1 0) (A0 (dC (.int 2)) (A0 (dC (.int 6)) A3))))))
def aA5 : DS := (sIf (Z6 (tB2 neD (A2 M7 (A0 (A2 M7 (A0 (A2 M7 (A0 (A2 M7 (A0 (A1 3) A3)) A3)) A3)) A3)) (A1 3)) (tB2 neD (A2 N4 (A0 (A2 N4 (A0 (A1 3) A3)) A3)) (A1 3))) (C1 (dC (.bool false))) O5)
def aA4 : DS := (sIf (Z6 (tB2 neD (A2 M7 (A0 (A2 N4 (A0 (A2 M7 (A0 (A2 N4 (A0 (A1 3) A3)) A3)) A3)) A3)) (A1 3)) (tB2 neD (A2 ao9 (A0 (dIx (qE (A2 M7 (A0 (A1 3) A3))) (dC (.int 2))) A3)) (A2 ao9 (A0 (dIx (B4 3) (dC (.int 2))) A3)))) (C1 (dC (.bool false))) O5)
def aA3 : DS := (F3 6 (A2 J7 (A0 (A1 5) (A0 (A1 3) (A0 (A1 4) A3)))))
def aA2 : DS := (sIf (tB2 neD (A2 J7 (A0 (A1 5) (A0 (A2 M7 (A0 (A1 3) A3)) (A0 (A2 M7 (A0 (A1 4) A3)) A3)))) (A2 M7 (A0 (A1 6) A3))) (C1 (dC (.bool false))) O5)
def aA1 : DS := (sIf (tB2 neD (A2 J7 (A0 (A1 5) (A0 (A2 N4 (A0 (A1 3) A3)) (A0 (A2 N4 (A0 (A1 4) A3)) A3)))) (A2 N4 (A0 (A1 6) A3))) (C1 (dC (.bool false))) O5)
def ao8 : DS := (F3 7 (A2 C2 (A0 (A1 0) (A0 (dC (.int 3)) (A0 (dC (.int 5)) A3)))))
def ao7 : DS := (F3 8 (A2 C2 (A0 (A1 0) (A0 (dC (.int 4)) (A0 (dC (.int 5)) A3)))))
def ao6 : DS := (F3 9 (A2 D2 (A0 (A1 3) (A0 (A4 o5 (dC (.int 0)) (A1 7)) (A0 (A4 o5 (dC (.int 0)) (A1 8)) (A0 (dC (.int 8)) (A0 (dC (.int 8)) A3)))))))
def ao5 : DS := (sIf (tB2 neD (A2 D2 (A0 (A1 9) (A0 (A1 7) (A0 (A1 8) (A0 (A1 1) (A0 (A1 2) A3)))))) (A1 3)) (C1 (dC (.bool false))) O5)
def ao4 : DS := (sIf (tB2 neD (A2 D2 (A0 (A2 D2 (A0 (A1 3) (A0 (dC (.int 1)) (A0 (dC (.int 0)) (A0 (dC (.int 4)) (A0 (dC (.int 4)) A3)))))) (A0 (dC (.int 0)) (A0 (dC (.int 1)) (A0 (dC (.int 3)) (A0 (dC (.int 3)) A3)))))) (A2 D2 (A0 (A1 3) (A0 (dC (.int 1)) (A0 (dC (.int 1)) (A0 (dC (.int 3)) (A0 (dC (.int 3)) A3))))))) (C1 (dC (.bool false))) O5)
def ao3 : DS := (F3 10 (A2 D2 (A0 (A1 3) (A0 (A1 7) (A0 (A1 8) (A0 (dC (.int 2)) (A0 (dC (.int 2)) A3)))))))
def ao2 : DS := (F3 11 (A2 D2 (A0 (A1 4) (A0 (A1 7) (A0 (A1 8) (A0 (dC (.int 2)) (A0 (dC (.int 2)) A3)))))))
def ao1 : DS := (C1 (A4 eqD (A2 D2 (A0 (A1 6) (A0 (A1 7) (A0 (A1 8) (A0 (dC (.int 2)) (A0 (dC (.int 2)) A3)))))) (A2 J7 (A0 (A1 5) (A0 (A1 10) (A0 (A1 11) A3))))))
def bn5 : DS := (B7 aB0 (B7 aA9 (B7 aA8 (B7 aA7 (B7 aA6 (B7 aA5 (B7 aA4 (B7 aA3 (B7 aA2 (B7 aA1 (B7 ao8 (B7 ao7 (B7 ao6 (B7 ao5 (B7 ao4 (B7 ao3 (B7 ao2 ao1)))))))))))))))))
def aI6 : List D → Option D := R6 bn5 12
end Lk11
namespace Lk11
open PySem G L2 Sh
theorem O6 {f g : DS} {ρ ρ' : Rho} (h : f ρ = some (.nx ρ')) : B7 f g ρ = g ρ' := by unfold B7; rw [h]; rfl
theorem aU9 : ∀ n : Nat, n < 6 → ∃ m : Man, atI ([.str "over", .str "multiply", .str "screen", .str "plus", .str "atop", .str "cut"] : List D) (n : Int) = some (.str m.s)
 | 0, _ => ⟨.over, rfl⟩
 | 1, _ => ⟨.mult, rfl⟩
 | 2, _ => ⟨.screen, rfl⟩
 | 3, _ => ⟨.plus, rfl⟩
 | 4, _ => ⟨.atop, rfl⟩
 | 5, _ => ⟨.cut, rfl⟩
theorem bI6 (n : Nat) : d6 (.int 1) (.int n) = some (.int ((1 + n : Nat) : Int)) := by
 rw [t8]; rfl
theorem atc {w h : Nat} {l : List Q4} {x y x' y' : Int} (hx : x = x') (hy : y = y') : atQ w h l x y = atQ w h l x' y' := by rw [hx, hy]
theorem main : ∀ ns : List Int, ns.length ≤ 63 → aI6 [.list (ns.map PyData.int)] = some (.bool true) := by
 intro ns hn
 obtain ⟨d0, e0, l0⟩ := Z1 ns 0 3 hn (by decide) (by decide)
 have e0 : C2 [scr ns, .int 0, .int 3] = some (.int d0) := e0
 obtain ⟨d1, e1, l1⟩ := Z1 ns 1 3 hn (by decide) (by decide)
 have e1 : C2 [scr ns, .int 1, .int 3] = some (.int d1) := e1
 obtain ⟨d2, e2, l2⟩ := Z1 ns 2 6 hn (by decide) (by decide)
 have e2 : C2 [scr ns, .int 2, .int 6] = some (.int d2) := e2
 obtain ⟨d3, e3, l3⟩ := Z1 ns 3 5 hn (by decide) (by decide)
 have e3 : C2 [scr ns, .int 3, .int 5] = some (.int d3) := e3
 obtain ⟨d4, e4, l4⟩ := Z1 ns 4 5 hn (by decide) (by decide)
 have e4 : C2 [scr ns, .int 4, .int 5] = some (.int d4) := e4
 obtain ⟨w, hw⟩ : ∃ w, w = 1 + d0 := ⟨_, rfl⟩
 obtain ⟨h, hh⟩ : ∃ h, h = 1 + d1 := ⟨_, rfl⟩
 obtain ⟨l, el, S⟩ := x5 ns 10 w h hn (by decide) (by omega) (by omega) (by omega) (by omega)
 have el : T0 [scr ns, .int 10, .int w, .int h] = some (shD w h l) := el
 obtain ⟨l', el', S'⟩ := x5 ns 120 w h hn (by decide) (by omega) (by omega) (by omega) (by omega)
 have el' : T0 [scr ns, .int 120, .int w, .int h] = some (shD w h l') := el'
 obtain ⟨m, hm⟩ := aU9 d2 l2
 have k8 : 1 ≤ 8 := by decide
 have w1 := S.w1
 have h1 := S.h1
 have c0 : d6 (.int 1) (.int d0) = some (.int w) := by rw [bI6, hw]
 have c1 : d6 (.int 1) (.int d1) = some (.int h) := by rw [bI6, hh]
 obtain ⟨t1, T1⟩ := d8 S k8
 obtain ⟨t2, T2⟩ := d8 T1 k8
 obtain ⟨t3, T3⟩ := d8 T2 k8
 obtain ⟨t4, T4⟩ := d8 T3 k8
 have q4 : Y5 h w (Y5 w h (Y5 h w (Y5 w h l))) = l := f8 T4 S fun x y b => by
  rw [c7 w1, c7 h1, c7 w1, c7 h1]
  exact atc (by omega) (by omega)
 rw [q4] at t4
 obtain ⟨m1, M1⟩ := ai9 S k8
 obtain ⟨m2, M2⟩ := ai9 M1 k8
 have q2 : m7 w h (m7 w h l) = l := f8 M2 S fun x y b => by
  rw [t9 w1, t9 w1]
  exact atc (by omega) (by omega)
 rw [q2] at m2
 obtain ⟨n1, N1⟩ := d8 M1 k8
 obtain ⟨n2, N2⟩ := ai9 N1 k8
 obtain ⟨n3, N3⟩ := d8 N2 k8
 have q3 : Y5 h w (m7 h w (Y5 w h (m7 w h l))) = l := f8 N3 S fun x y b => by
  rw [c7 w1, t9 h1, c7 h1, t9 w1]
  exact atc (by omega) (by omega)
 rw [q3] at n3
 have w9 : w * h ≤ 9 := Nat.mul_le_mul (show w ≤ 3 by omega) (show h ≤ 3 by omega)
 obtain ⟨r, r1, r2⟩ := aQ7 (aQ1 S (by omega) (by omega)) (by rw [T1.len, Nat.mul_comm]; omega)
 obtain ⟨b1, B1⟩ := at1 m S S' (by decide)
 obtain ⟨u1, U1⟩ := d8 S' k8
 obtain ⟨b2, B2⟩ := at1 m T1 U1 (by decide)
 obtain ⟨t5, T5⟩ := d8 B1 (by decide)
 have q5 : blL m (Y5 w h l) (Y5 w h l') = Y5 w h (blL m l l') := f8 B2 T5 fun x y b => by
  rw [an4 m T1 U1, c7 h1, c7 h1, c7 h1, an4 m S S']
 rw [q5] at b2
 obtain ⟨v1, V1⟩ := ai9 S' k8
 obtain ⟨b3, B3⟩ := at1 m M1 V1 (by decide)
 obtain ⟨m6, M6⟩ := ai9 B1 (by decide)
 have q6 : blL m (m7 w h l) (m7 w h l') = m7 w h (blL m l l') := f8 B3 M6 fun x y b => by
  rw [an4 m M1 V1, t9 w1, t9 w1, t9 w1, an4 m S S']
 rw [q6] at b3
 obtain ⟨f1, F1⟩ := X1 S k8 (-(d3 : Int)) (-(d4 : Int)) (wide := 8) (high := 8) (by decide) (by decide) (by decide) (by decide)
 have f1 : D2 [shD w h l, .int (-(d3 : Int)), .int (-(d4 : Int)), .int 8, .int 8] = some (shD 8 8 (D1 w h l (-(d3 : Int)) (-(d4 : Int)) 8 8)) := f1
 obtain ⟨f2, F2⟩ := X1 F1 k8 (d3 : Int) (d4 : Int) (wide := w) (high := h) w1 S.w8 h1 S.h8
 have q7 : D1 8 8 (D1 w h l (-(d3 : Int)) (-(d4 : Int)) 8 8) d3 d4 w h = l := f8 F2 S fun x y b => by
  rw [X5 w1, if_pos b, X5 (by decide), if_pos ⟨by omega, by omega, by omega, by omega⟩]
  exact atc (by omega) (by omega)
 rw [q7] at f2
 obtain ⟨g1, G1⟩ := X1 S k8 1 0 (wide := 4) (high := 4) (by decide) (by decide) (by decide) (by decide)
 have g1 : D2 [shD w h l, .int 1, .int 0, .int 4, .int 4] = some (shD 4 4 (D1 w h l 1 0 4 4)) := g1
 obtain ⟨g2, G2⟩ := X1 G1 k8 0 1 (wide := 3) (high := 3) (by decide) (by decide) (by decide) (by decide)
 have g2 : D2 [shD 4 4 (D1 w h l 1 0 4 4), .int 0, .int 1, .int 3, .int 3] = some (shD 3 3 (D1 4 4 (D1 w h l 1 0 4 4) 0 1 3 3)) := g2
 obtain ⟨g3, G3⟩ := X1 S k8 1 1 (wide := 3) (high := 3) (by decide) (by decide) (by decide) (by decide)
 have g3 : D2 [shD w h l, .int 1, .int 1, .int 3, .int 3] = some (shD 3 3 (D1 w h l 1 1 3 3)) := g3
 have q8 : D1 4 4 (D1 w h l 1 0 4 4) 0 1 3 3 = D1 w h l 1 1 3 3 := f8 G2 G3 fun x y b => by
  rw [X5 (by decide), if_pos b, X5 (by decide), X5 (by decide), if_pos b, if_pos ⟨by omega, by omega, by omega, by omega⟩]
  exact atc (by omega) (by omega)
 rw [q8] at g2
 obtain ⟨p1, P1⟩ := X1 S k8 (d3 : Int) (d4 : Int) (wide := 2) (high := 2) (by decide) (by decide) (by decide) (by decide)
 have p1 : D2 [shD w h l, .int d3, .int d4, .int 2, .int 2] = some (shD 2 2 (D1 w h l d3 d4 2 2)) := p1
 obtain ⟨p2, P2⟩ := X1 S' k8 (d3 : Int) (d4 : Int) (wide := 2) (high := 2) (by decide) (by decide) (by decide) (by decide)
 have p2 : D2 [shD w h l', .int d3, .int d4, .int 2, .int 2] = some (shD 2 2 (D1 w h l' d3 d4 2 2)) := p2
 obtain ⟨p3, P3⟩ := X1 B1 (by decide) (d3 : Int) (d4 : Int) (wide := 2) (high := 2) (by decide) (by decide) (by decide) (by decide)
 have p3 : D2 [shD w h (blL m l l'), .int d3, .int d4, .int 2, .int 2] = some (shD 2 2 (D1 w h (blL m l l') d3 d4 2 2)) := p3
 obtain ⟨p4, P4⟩ := at1 m P1 P2 (by decide)
 have q9 : D1 w h (blL m l l') d3 d4 2 2 = blL m (D1 w h l d3 d4 2 2) (D1 w h l' d3 d4 2 2) := f8 P3 P4 fun x y b => by
  rw [an4 m P1 P2, X5 (by decide), X5 (by decide), X5 (by decide), if_pos b, if_pos b, if_pos b, an4 m S S']
 rw [q9] at p3
 have s0 : aB0 [some (.val (scr ns)), none, none, none, none, none, none, none, none, none, none, none] = some (.nx [some (.val (scr ns)), some (.val (.int w)), none, none, none, none, none, none, none, none, none, none]) := by wp_walk using evD, aB0, e0, c0
 have s1 : aA9 [some (.val (scr ns)), some (.val (.int w)), none, none, none, none, none, none, none, none, none, none] = some (.nx [some (.val (scr ns)), some (.val (.int w)), some (.val (.int h)), none, none, none, none, none, none, none, none, none]) := by wp_walk using evD, aA9, e1, c1
 have s2 : aA8 [some (.val (scr ns)), some (.val (.int w)), some (.val (.int h)), none, none, none, none, none, none, none, none, none] = some (.nx [some (.val (scr ns)), some (.val (.int w)), some (.val (.int h)), some (.val (shD w h l)), none, none, none, none, none, none, none, none]) := by wp_walk using evD, aA8, el
 have s3 : aA7 [some (.val (scr ns)), some (.val (.int w)), some (.val (.int h)), some (.val (shD w h l)), none, none, none, none, none, none, none, none] = some (.nx [some (.val (scr ns)), some (.val (.int w)), some (.val (.int h)), some (.val (shD w h l)), some (.val (shD w h l')), none, none, none, none, none, none, none]) := by wp_walk using evD, aA7, el'
 have s4 : aA6 [some (.val (scr ns)), some (.val (.int w)), some (.val (.int h)), some (.val (shD w h l)), some (.val (shD w h l')), none, none, none, none, none, none, none] = some (.nx [some (.val (scr ns)), some (.val (.int w)), some (.val (.int h)), some (.val (shD w h l)), some (.val (shD w h l')), some (.val (.str m.s)), none, none, none, none, none, none]) := by wp_walk using evD, aA6, e2, hm
 have ne1 : neD (shD w h l) (shD w h l) = some (.bool false) := v9 (Ly.sheet ..) (by decide)
 have s5 : aA5 [some (.val (scr ns)), some (.val (.int w)), some (.val (.int h)), some (.val (shD w h l)), some (.val (shD w h l')), some (.val (.str m.s)), none, none, none, none, none, none] = some (.nx [some (.val (scr ns)), some (.val (.int w)), some (.val (.int h)), some (.val (shD w h l)), some (.val (shD w h l')), some (.val (.str m.s)), none, none, none, none, none, none]) := by wp_walk using evD, aA5, t1, t2, t3, t4, m1, m2, ne1
 have ne2 : neD (.list (r.map Q4.d)) (.list (r.map Q4.d)) = some (.bool false) := v9 (Ly.spotsL r 0) (by decide)
 have i1 : dIx (qE (A2 M7 (A0 (A1 3) A3))) (dC (.int 2)) [some (.val (scr ns)), some (.val (.int w)), some (.val (.int h)), some (.val (shD w h l)), some (.val (shD w h l')), some (.val (.str m.s)), none, none, none, none, none, none] = some (.tuple ((Y5 w h l).map Q4.d)) := by
  simp only [dIx, qE, A2, A0, A3, A1, dC, xms, xbs, xg0, xg1, t1]
  rfl
 have i2 : dIx (B4 3) (dC (.int 2)) [some (.val (scr ns)), some (.val (.int w)), some (.val (.int h)), some (.val (shD w h l)), some (.val (shD w h l')), some (.val (.str m.s)), none, none, none, none, none, none] = some (.tuple (l.map Q4.d)) := rfl
 have s6 : aA4 [some (.val (scr ns)), some (.val (.int w)), some (.val (.int h)), some (.val (shD w h l)), some (.val (shD w h l')), some (.val (.str m.s)), none, none, none, none, none, none] = some (.nx [some (.val (scr ns)), some (.val (.int w)), some (.val (.int h)), some (.val (shD w h l)), some (.val (shD w h l')), some (.val (.str m.s)), none, none, none, none, none, none]) := by simp only [aA4, sIf, Z6, tB2, A4, A2, A0, A3, i1, i2, A1, xms, xbs, xg0, xg1, m1, n1, n2, n3, ne1, r1, r2, ne2, M9, C1, O5, dC, xft, if_true, if_false]
 have s7 : aA3 [some (.val (scr ns)), some (.val (.int w)), some (.val (.int h)), some (.val (shD w h l)), some (.val (shD w h l')), some (.val (.str m.s)), none, none, none, none, none, none] = some (.nx [some (.val (scr ns)), some (.val (.int w)), some (.val (.int h)), some (.val (shD w h l)), some (.val (shD w h l')), some (.val (.str m.s)), some (.val (shD w h (blL m l l'))), none, none, none, none, none]) := by wp_walk using evD, aA3, b1
 have ne3 : neD (shD h w (Y5 w h (blL m l l'))) (shD h w (Y5 w h (blL m l l'))) = some (.bool false) := v9 (Ly.sheet ..) (by decide)
 have s8 : aA2 [some (.val (scr ns)), some (.val (.int w)), some (.val (.int h)), some (.val (shD w h l)), some (.val (shD w h l')), some (.val (.str m.s)), some (.val (shD w h (blL m l l'))), none, none, none, none, none] = some (.nx [some (.val (scr ns)), some (.val (.int w)), some (.val (.int h)), some (.val (shD w h l)), some (.val (shD w h l')), some (.val (.str m.s)), some (.val (shD w h (blL m l l'))), none, none, none, none, none]) := by wp_walk using evD, aA2, t1, u1, b2, t5, ne3
 have ne4 : neD (shD w h (m7 w h (blL m l l'))) (shD w h (m7 w h (blL m l l'))) = some (.bool false) := v9 (Ly.sheet ..) (by decide)
 have s9 : aA1 [some (.val (scr ns)), some (.val (.int w)), some (.val (.int h)), some (.val (shD w h l)), some (.val (shD w h l')), some (.val (.str m.s)), some (.val (shD w h (blL m l l'))), none, none, none, none, none] = some (.nx [some (.val (scr ns)), some (.val (.int w)), some (.val (.int h)), some (.val (shD w h l)), some (.val (shD w h l')), some (.val (.str m.s)), some (.val (shD w h (blL m l l'))), none, none, none, none, none]) := by wp_walk using evD, aA1, m1, v1, b3, m6, ne4
 have s10 : ao8 [some (.val (scr ns)), some (.val (.int w)), some (.val (.int h)), some (.val (shD w h l)), some (.val (shD w h l')), some (.val (.str m.s)), some (.val (shD w h (blL m l l'))), none, none, none, none, none] = some (.nx [some (.val (scr ns)), some (.val (.int w)), some (.val (.int h)), some (.val (shD w h l)), some (.val (shD w h l')), some (.val (.str m.s)), some (.val (shD w h (blL m l l'))), some (.val (.int d3)), none, none, none, none]) := by wp_walk using evD, ao8, e3
 have s11 : ao7 [some (.val (scr ns)), some (.val (.int w)), some (.val (.int h)), some (.val (shD w h l)), some (.val (shD w h l')), some (.val (.str m.s)), some (.val (shD w h (blL m l l'))), some (.val (.int d3)), none, none, none, none] = some (.nx [some (.val (scr ns)), some (.val (.int w)), some (.val (.int h)), some (.val (shD w h l)), some (.val (shD w h l')), some (.val (.str m.s)), some (.val (shD w h (blL m l l'))), some (.val (.int d3)), some (.val (.int d4)), none, none, none]) := by wp_walk using evD, ao7, e4
 have s12 : ao6 [some (.val (scr ns)), some (.val (.int w)), some (.val (.int h)), some (.val (shD w h l)), some (.val (shD w h l')), some (.val (.str m.s)), some (.val (shD w h (blL m l l'))), some (.val (.int d3)), some (.val (.int d4)), none, none, none] = some (.nx [some (.val (scr ns)), some (.val (.int w)), some (.val (.int h)), some (.val (shD w h l)), some (.val (shD w h l')), some (.val (.str m.s)), some (.val (shD w h (blL m l l'))), some (.val (.int d3)), some (.val (.int d4)), some (.val (shD 8 8 (D1 w h l (-(d3 : Int)) (-(d4 : Int)) 8 8))), none, none]) := by wp_walk using evD, ao6, Int.zero_sub, f1
 have s13 : ao5 [some (.val (scr ns)), some (.val (.int w)), some (.val (.int h)), some (.val (shD w h l)), some (.val (shD w h l')), some (.val (.str m.s)), some (.val (shD w h (blL m l l'))), some (.val (.int d3)), some (.val (.int d4)), some (.val (shD 8 8 (D1 w h l (-(d3 : Int)) (-(d4 : Int)) 8 8))), none, none] = some (.nx [some (.val (scr ns)), some (.val (.int w)), some (.val (.int h)), some (.val (shD w h l)), some (.val (shD w h l')), some (.val (.str m.s)), some (.val (shD w h (blL m l l'))), some (.val (.int d3)), some (.val (.int d4)), some (.val (shD 8 8 (D1 w h l (-(d3 : Int)) (-(d4 : Int)) 8 8))), none, none]) := by wp_walk using evD, ao5, f2, ne1
 have ne5 : neD (shD 3 3 (D1 w h l 1 1 3 3)) (shD 3 3 (D1 w h l 1 1 3 3)) = some (.bool false) := v9 (Ly.sheet ..) (by decide)
 have s14 : ao4 [some (.val (scr ns)), some (.val (.int w)), some (.val (.int h)), some (.val (shD w h l)), some (.val (shD w h l')), some (.val (.str m.s)), some (.val (shD w h (blL m l l'))), some (.val (.int d3)), some (.val (.int d4)), some (.val (shD 8 8 (D1 w h l (-(d3 : Int)) (-(d4 : Int)) 8 8))), none, none] = some (.nx [some (.val (scr ns)), some (.val (.int w)), some (.val (.int h)), some (.val (shD w h l)), some (.val (shD w h l')), some (.val (.str m.s)), some (.val (shD w h (blL m l l'))), some (.val (.int d3)), some (.val (.int d4)), some (.val (shD 8 8 (D1 w h l (-(d3 : Int)) (-(d4 : Int)) 8 8))), none, none]) := by wp_walk using evD, ao4, g1, g2, g3, ne5
 have s15 : ao3 [some (.val (scr ns)), some (.val (.int w)), some (.val (.int h)), some (.val (shD w h l)), some (.val (shD w h l')), some (.val (.str m.s)), some (.val (shD w h (blL m l l'))), some (.val (.int d3)), some (.val (.int d4)), some (.val (shD 8 8 (D1 w h l (-(d3 : Int)) (-(d4 : Int)) 8 8))), none, none] = some (.nx [some (.val (scr ns)), some (.val (.int w)), some (.val (.int h)), some (.val (shD w h l)), some (.val (shD w h l')), some (.val (.str m.s)), some (.val (shD w h (blL m l l'))), some (.val (.int d3)), some (.val (.int d4)), some (.val (shD 8 8 (D1 w h l (-(d3 : Int)) (-(d4 : Int)) 8 8))), some (.val (shD 2 2 (D1 w h l d3 d4 2 2))), none]) := by wp_walk using evD, ao3, p1
 have s16 : ao2 [some (.val (scr ns)), some (.val (.int w)), some (.val (.int h)), some (.val (shD w h l)), some (.val (shD w h l')), some (.val (.str m.s)), some (.val (shD w h (blL m l l'))), some (.val (.int d3)), some (.val (.int d4)), some (.val (shD 8 8 (D1 w h l (-(d3 : Int)) (-(d4 : Int)) 8 8))), some (.val (shD 2 2 (D1 w h l d3 d4 2 2))), none] = some (.nx [some (.val (scr ns)), some (.val (.int w)), some (.val (.int h)), some (.val (shD w h l)), some (.val (shD w h l')), some (.val (.str m.s)), some (.val (shD w h (blL m l l'))), some (.val (.int d3)), some (.val (.int d4)), some (.val (shD 8 8 (D1 w h l (-(d3 : Int)) (-(d4 : Int)) 8 8))), some (.val (shD 2 2 (D1 w h l d3 d4 2 2))), some (.val (shD 2 2 (D1 w h l' d3 d4 2 2)))]) := by wp_walk using evD, ao2, p2
 have eq1 : eqD (shD 2 2 (blL m (D1 w h l d3 d4 2 2) (D1 w h l' d3 d4 2 2))) (shD 2 2 (blL m (D1 w h l d3 d4 2 2) (D1 w h l' d3 d4 2 2))) = some (.bool true) := bj4 (Ly.sheet ..) (by decide)
 have s17 : ao1 [some (.val (scr ns)), some (.val (.int w)), some (.val (.int h)), some (.val (shD w h l)), some (.val (shD w h l')), some (.val (.str m.s)), some (.val (shD w h (blL m l l'))), some (.val (.int d3)), some (.val (.int d4)), some (.val (shD 8 8 (D1 w h l (-(d3 : Int)) (-(d4 : Int)) 8 8))), some (.val (shD 2 2 (D1 w h l d3 d4 2 2))), some (.val (shD 2 2 (D1 w h l' d3 d4 2 2)))] = some (.rt (.bool true)) := by wp_walk using evD, ao1, p3, p4, eq1
 refine E9 (ρ := [some (.val (scr ns)), none, none, none, none, none, none, none, none, none, none, none]) rfl ?_
 unfold bn5
 rw [O6 s0, O6 s1, O6 s2, O6 s3, O6 s4, O6 s5, O6 s6, O6 s7, O6 s8, O6 s9, O6 s10, O6 s11, O6 s12, O6 s13, O6 s14, O6 s15, O6 s16]
 exact s17
end Lk11
namespace Lk11
open PySem PySem.Spec PyProof.Rows L2 G Sh
def zcs : List (Str × D) := [("ONE", (.tuple [(.int 1), (.int 1)])), ("CLEAR", (.tuple [(.tuple [(.int 0), (.int 1)]), (.tuple [(.int 0), (.int 1)]), (.tuple [(.int 0), (.int 1)]), (.tuple [(.int 0), (.int 1)])]))]
def zbl : List Str := ["len", "range", "sorted", "tuple", "zip"]
def tb0 : Tab := [("sorted", ao9, 1)]
def O9 : Fd := { x := "common_divisor", st := S5, ps := ["one", "other"], N := ["one", "other", "left_over"], old := true }
theorem ae1 : Bd O9 := (fun _ _ _ _ _ _ us hl => match us, hl with | [_, _], _ => rfl)
theorem ad1 : O9.okB = true := by kernel_rfl
theorem ad7 : rd tb0 zcs zbl O9 = P8 := by kernel_rfl
def tb1 : Tab := ("common_divisor", P8, 2) :: tb0
def V5 : Fd := { x := "least_form", st := Z7, ps := ["top", "under"], N := ["top", "under", "divisor"], old := true }
theorem at2 : Bd V5 := (fun _ _ _ _ _ _ us hl => match us, hl with | [_, _], _ => rfl)
theorem aq9 : V5.okB = true := by kernel_rfl
theorem as5 : rd tb1 zcs zbl V5 = P7 := by kernel_rfl
def tb2 : Tab := ("least_form", P7, 2) :: tb1
def V6 : Fd := { x := "is_at_most", st := Z8, ps := ["one", "other"], N := ["one", "other"], old := true }
theorem at3 : Bd V6 := (fun _ _ _ _ _ _ us hl => match us, hl with | [_, _], _ => rfl)
theorem ar0 : V6.okB = true := by kernel_rfl
theorem as6 : rd tb2 zcs zbl V6 = V9 := by kernel_rfl
def tb3 : Tab := ("is_at_most", V9, 2) :: tb2
def ag6 : Fd := { x := "added", st := ap4, ps := ["one", "other"], N := ["one", "other"], old := true }
theorem bk0 : Bd ag6 := (fun _ _ _ _ _ _ us hl => match us, hl with | [_, _], _ => rfl)
theorem bf5 : ag6.okB = true := by kernel_rfl
theorem bj6 : rd tb3 zcs zbl ag6 = S3 := by kernel_rfl
def tb4 : Tab := ("added", S3, 2) :: tb3
def b9 : Fd := { x := "lessened", st := o8, ps := ["one", "other"], N := ["one", "other"], old := true }
theorem aD5 : Bd b9 := (fun _ _ _ _ _ _ us hl => match us, hl with | [_, _], _ => rfl)
theorem aB9 : b9.okB = true := by kernel_rfl
theorem aC5 : rd tb4 zcs zbl b9 = S9 := by kernel_rfl
def tb5 : Tab := ("lessened", S9, 2) :: tb4
def ag5 : Fd := { x := "times", st := ap3, ps := ["one", "other"], N := ["one", "other"], old := true }
theorem bj9 : Bd ag5 := (fun _ _ _ _ _ _ us hl => match us, hl with | [_, _], _ => rfl)
theorem bf4 : ag5.okB = true := by kernel_rfl
theorem bj5 : rd tb5 zcs zbl ag5 = T9 := by kernel_rfl
def tb6 : Tab := ("times", T9, 2) :: tb5
def k7 : Fd := { x := "rest_of", st := ab9, ps := ["share"], N := ["share"], old := true }
theorem aO7 : Bd k7 := (fun _ _ _ _ _ _ us hl => match us, hl with | [_], _ => rfl)
theorem aL1 : k7.okB = true := by kernel_rfl
theorem aN0 : rd tb6 zcs zbl k7 = W3 := by kernel_rfl
def tb7 : Tab := ("rest_of", W3, 1) :: tb6
def T7 : Fd := { x := "at_most_one", st := X8, ps := ["fraction"], N := ["fraction"], old := true }
theorem al0 : Bd T7 := (fun _ _ _ _ _ _ us hl => match us, hl with | [_], _ => rfl)
theorem ak4 : T7.okB = true := by kernel_rfl
theorem ak7 : rd tb7 zcs zbl T7 = R0 := by kernel_rfl
def tb8 : Tab := ("at_most_one", R0, 1) :: tb7
def R4 : Fd := { x := "blended_cover", st := U6, ps := ["manner", "c", "d"], N := ["manner", "c", "d"], old := true }
theorem af7 : Bd R4 := (fun _ _ _ _ _ _ us hl => match us, hl with | [_, _, _], _ => rfl)
theorem af3 : R4.okB = true := by kernel_rfl
theorem af5 : rd tb8 zcs zbl R4 = R5 := by kernel_rfl
def tb9 : Tab := ("blended_cover", R5, 3) :: tb8
def P5 : Fd := { x := "blended_colour", st := S7, ps := ["manner", "c", "d", "x", "y"], N := ["manner", "c", "d", "x", "y", "through"], old := true }
theorem ae3 : Bd P5 := (fun _ _ _ _ _ _ us hl => match us, hl with | [_, _, _, _, _], _ => rfl)
theorem ad3 : P5.okB = true := by kernel_rfl
theorem ad9 : rd tb9 zcs zbl P5 = P9 := by kernel_rfl
def bp9 : Tab := ("blended_colour", P9, 5) :: tb9
def l9 : Fd := { x := "blended", st := ac5, ps := ["manner", "above", "below"], N := ["manner", "above", "below", "c", "d", "colours"], old := true, hc := [((50, 14), [0, 3, 4])] }
theorem aP3 : Bd l9 := (fun _ _ _ _ _ _ us hl => match us, hl with | [_, _, _], _ => rfl)
theorem aL7 : l9.okB = true := by kernel_rfl
theorem aN6 : rd bp9 zcs zbl l9 = W4 := by kernel_rfl
def bp8 : Tab := ("blended", W4, 3) :: bp9
def X3 : Fd := { x := "places_of", st := g6, ps := ["wide", "high"], N := ["wide", "high"], hc := [((54, 11), [0])] }
theorem ay6 : Bd X3 := (fun _ _ _ _ _ _ us hl => match us, hl with | [_, _], _ => rfl)
theorem av4 : X3.okB = true := by kernel_rfl
theorem ax5 : rd bp8 zcs zbl X3 = M8 := by kernel_rfl
def bp7 : Tab := ("places_of", M8, 2) :: bp8
def X4 : Fd := { x := "has_place", st := g7, ps := ["sheet", "x", "y"], N := ["sheet", "x", "y"] }
theorem ay7 : Bd X4 := (fun _ _ _ _ _ _ us hl => match us, hl with | [_, _, _], _ => rfl)
theorem av5 : X4.okB = true := by kernel_rfl
theorem ax6 : rd bp7 zcs zbl X4 = X7 := by kernel_rfl
def bp6 : Tab := ("has_place", X7, 3) :: bp7
def O3 : Fd := { x := "number_of_place", st := R9, ps := ["sheet", "x", "y"], N := ["sheet", "x", "y"] }
theorem aa3 : Bd O3 := (fun _ _ _ _ _ _ us hl => match us, hl with | [_, _, _], _ => rfl)
theorem v8 : O3.okB = true := by kernel_rfl
theorem y8 : rd bp6 zcs zbl O3 = O4 := by kernel_rfl
def bp5 : Tab := ("number_of_place", O4, 3) :: bp6
def k6 : Fd := { x := "spot_at", st := ab8, ps := ["sheet", "x", "y"], N := ["sheet", "x", "y"] }
theorem aO6 : Bd k6 := (fun _ _ _ _ _ _ us hl => match us, hl with | [_, _, _], _ => rfl)
theorem aL0 : k6.okB = true := by kernel_rfl
theorem aM9 : rd bp5 zcs zbl k6 = P6 := by kernel_rfl
def bp4 : Tab := ("spot_at", P6, 3) :: bp5
def k9 : Fd := { x := "part_of", st := ac0, ps := ["sheet", "left", "top", "wide", "high"], N := ["sheet", "left", "top", "wide", "high"], hc := [((64, 30), [0, 1, 2])] }
theorem aO8 : Bd k9 := (fun _ _ _ _ _ _ us hl => match us, hl with | [_, _, _, _, _], _ => rfl)
theorem aL2 : k9.okB = true := by kernel_rfl
theorem aN1 : rd bp4 zcs zbl k9 = D2 := by kernel_rfl
def bp3 : Tab := ("part_of", D2, 5) :: bp4
def b0 : Fd := { x := "mirrored", st := o7, ps := ["sheet"], N := ["sheet", "wide", "high"], hc := [((68, 30), [0, 1])] }
theorem aD4 : Bd b0 := (fun _ _ _ _ _ _ us hl => match us, hl with | [_], _ => rfl)
theorem aB8 : b0.okB = true := by kernel_rfl
theorem aC4 : rd bp3 zcs zbl b0 = N4 := by kernel_rfl
def bp2 : Tab := ("mirrored", N4, 1) :: bp3
def z6 : Fd := { x := "turned", st := ah7, ps := ["sheet"], N := ["sheet", "wide", "high"], hc := [((72, 30), [0, 2])] }
theorem ba7 : Bd z6 := (fun _ _ _ _ _ _ us hl => match us, hl with | [_], _ => rfl)
theorem aT6 : z6.okB = true := by kernel_rfl
theorem aY9 : rd bp2 zcs zbl z6 = M7 := by kernel_rfl
def bp1 : Tab := ("turned", M7, 1) :: bp2
def P0 : Fd := { x := "blended_sheets", st := S6, ps := ["manner", "above", "below"], N := ["manner", "above", "below", "spots"], hc := [((74, 12), [0])] }
theorem ae2 : Bd P0 := (fun _ _ _ _ _ _ us hl => match us, hl with | [_, _, _], _ => rfl)
theorem ad2 : P0.okB = true := by kernel_rfl
theorem ad8 : rd bp1 zcs zbl P0 = J7 := by kernel_rfl
def bp0 : Tab := ("blended_sheets", J7, 3) :: bp1
def z9 : Fd := { x := "_law_cell", st := ai0, ps := ["_law_script", "_law_k"], N := ["_law_script", "_law_k"], old := true }
theorem bb0 : Bd z9 := (fun _ _ _ _ _ _ us hl => match us, hl with | [_, _], _ => rfl)
theorem aT9 : z9.okB = true := by kernel_rfl
theorem aZ2 : rd bp0 zcs zbl z9 = ab3 := by kernel_rfl
def bo9 : Tab := ("_law_cell", ab3, 2) :: bp0
def l8 : Fd := { x := "_law_drawn", st := ac4, ps := ["_law_script", "_law_k", "_law_many"], N := ["_law_script", "_law_k", "_law_many", "_law_cell_here"], old := true }
theorem aP2 : Bd l8 := (fun _ _ _ _ _ _ us hl => match us, hl with | [_, _, _], _ => rfl)
theorem aL6 : l8.okB = true := by kernel_rfl
theorem aN5 : rd bo9 zcs zbl l8 = C2 := by kernel_rfl
def bo8 : Tab := ("_law_drawn", C2, 3) :: bo9
def z8 : Fd := { x := "_law_made", st := ah9, ps := ["_law_top", "_law_under"], N := ["_law_top", "_law_under", "_law_one", "_law_by"], old := true }
theorem ba9 : Bd z8 := (fun _ _ _ _ _ _ us hl => match us, hl with | [_, _], _ => rfl)
theorem aT8 : z8.okB = true := by kernel_rfl
theorem aZ1 : rd bo8 zcs zbl z8 = j9 := by kernel_rfl
def bo7 : Tab := ("_law_made", j9, 2) :: bo8
def l5 : Fd := { x := "_law_times", st := ac1, ps := ["_law_one", "_law_other"], N := ["_law_one", "_law_other"], old := true }
theorem aO9 : Bd l5 := (fun _ _ _ _ _ _ us hl => match us, hl with | [_, _], _ => rfl)
theorem aL3 : l5.okB = true := by kernel_rfl
theorem aN2 : rd bo7 zcs zbl l5 = m5 := by kernel_rfl
def bo6 : Tab := ("_law_times", m5, 2) :: bo7
def l7 : Fd := { x := "_law_share", st := ac3, ps := ["_law_script", "_law_at"], N := ["_law_script", "_law_at", "_law_under", "_law_drawn_here"], old := true }
theorem aP1 : Bd l7 := (fun _ _ _ _ _ _ us hl => match us, hl with | [_, _], _ => rfl)
theorem aL5 : l7.okB = true := by kernel_rfl
theorem aN4 : rd bo6 zcs zbl l7 = Z4 := by kernel_rfl
def bo5 : Tab := ("_law_share", Z4, 2) :: bo6
def z7 : Fd := { x := "_law_spot", st := ah8, ps := ["_law_script", "_law_at"], N := ["_law_script", "_law_at", "_law_cover"], old := true, hc := [((103, 33), [2, 0, 1])] }
theorem ba8 : Bd z7 := (fun _ _ _ _ _ _ us hl => match us, hl with | [_, _], _ => rfl)
theorem aT7 : z7.okB = true := by kernel_rfl
theorem aZ0 : rd bo5 zcs zbl z7 = W7 := by kernel_rfl
def bo4 : Tab := ("_law_spot", W7, 2) :: bo5
def l6 : Fd := { x := "_law_sheet", st := ac2, ps := ["_law_script", "_law_at", "_law_wide", "_law_high"], N := ["_law_script", "_law_at", "_law_wide", "_law_high", "_law_spots"], hc := [((105, 17), [0, 1])] }
theorem aP0 : Bd l6 := (fun _ _ _ _ _ _ us hl => match us, hl with | [_, _, _, _], _ => rfl)
theorem aL4 : l6.okB = true := by kernel_rfl
theorem aN3 : rd bo4 zcs zbl l6 = T0 := by kernel_rfl
def bo3 : Tab := ("_law_sheet", T0, 4) :: bo4
def aH3 : Fd := { x := "law", st := bk6, ps := ["_law_script"], N := ["_law_script", "_law_wide", "_law_high", "_law_one", "_law_other", "_law_manner", "_law_both", "_law_left", "_law_top", "_law_far", "_law_mine", "_law_yours"] }
theorem bI7 : Bd aH3 := (fun _ _ _ _ _ _ us hl => match us, hl with | [_], _ => rfl)
theorem bF8 : aH3.okB = true := by kernel_rfl
theorem bI0 : rd bo3 zcs zbl aH3 = aI6 := by kernel_rfl
theorem bJ3 {P : Program} {w : World} {K : PySem.W.Frag} {mg : Str → Option Value} (M : Md K mg zcs zbl) (h_common_divisor : KF K "common_divisor" S5) (h_least_form : KF K "least_form" Z7) (h_is_at_most : KF K "is_at_most" Z8) (h_added : KF K "added" ap4) (h_lessened : KF K "lessened" o8) (h_times : KF K "times" ap3) (h_rest_of : KF K "rest_of" ab9) (h_at_most_one : KF K "at_most_one" X8) (h_blended_cover : KF K "blended_cover" U6) (h_blended_colour : KF K "blended_colour" S7) (h_blended : KF K "blended" ac5) (h_places_of : KF K "places_of" g6) (h_has_place : KF K "has_place" g7) (h_number_of_place : KF K "number_of_place" R9) (h_spot_at : KF K "spot_at" ab8) (h_part_of : KF K "part_of" ac0) (h_mirrored : KF K "mirrored" o7) (h_turned : KF K "turned" ah7) (h_blended_sheets : KF K "blended_sheets" S6) (h_l_cell : KF K "_law_cell" ai0) (h_l_drawn : KF K "_law_drawn" ac4) (h_l_made : KF K "_law_made" ah9) (h_l_times : KF K "_law_times" ac1) (h_l_share : KF K "_law_share" ac3) (h_l_spot : KF K "_law_spot" ah8) (h_l_sheet : KF K "_law_sheet" ac2) (base : Heap) : TOk P w K mg base 26 bo3 := by
 have t : TOk P w K mg base 0 tb0 := (TOk.bi TOk.nil M (by decide +kernel) bq3)
 have t : TOk P w K mg base 1 tb1 := t.add M O9 h_common_divisor ae1 ad1 rfl ad7
 have t : TOk P w K mg base 2 tb2 := t.add M V5 h_least_form at2 aq9 rfl as5
 have t : TOk P w K mg base 3 tb3 := t.add M V6 h_is_at_most at3 ar0 rfl as6
 have t : TOk P w K mg base 4 tb4 := t.add M ag6 h_added bk0 bf5 rfl bj6
 have t : TOk P w K mg base 5 tb5 := t.add M b9 h_lessened aD5 aB9 rfl aC5
 have t : TOk P w K mg base 6 tb6 := t.add M ag5 h_times bj9 bf4 rfl bj5
 have t : TOk P w K mg base 7 tb7 := t.add M k7 h_rest_of aO7 aL1 rfl aN0
 have t : TOk P w K mg base 8 tb8 := t.add M T7 h_at_most_one al0 ak4 rfl ak7
 have t : TOk P w K mg base 9 tb9 := t.add M R4 h_blended_cover af7 af3 rfl af5
 have t : TOk P w K mg base 10 bp9 := t.add M P5 h_blended_colour ae3 ad3 rfl ad9
 have t : TOk P w K mg base 11 bp8 := t.add M l9 h_blended aP3 aL7 rfl aN6
 have t : TOk P w K mg base 12 bp7 := t.add M X3 h_places_of ay6 av4 rfl ax5
 have t : TOk P w K mg base 13 bp6 := t.add M X4 h_has_place ay7 av5 rfl ax6
 have t : TOk P w K mg base 14 bp5 := t.add M O3 h_number_of_place aa3 v8 rfl y8
 have t : TOk P w K mg base 15 bp4 := t.add M k6 h_spot_at aO6 aL0 rfl aM9
 have t : TOk P w K mg base 16 bp3 := t.add M k9 h_part_of aO8 aL2 rfl aN1
 have t : TOk P w K mg base 17 bp2 := t.add M b0 h_mirrored aD4 aB8 rfl aC4
 have t : TOk P w K mg base 18 bp1 := t.add M z6 h_turned ba7 aT6 rfl aY9
 have t : TOk P w K mg base 19 bp0 := t.add M P0 h_blended_sheets ae2 ad2 rfl ad8
 have t : TOk P w K mg base 20 bo9 := t.add M z9 h_l_cell bb0 aT9 rfl aZ2
 have t : TOk P w K mg base 21 bo8 := t.add M l8 h_l_drawn aP2 aL6 rfl aN5
 have t : TOk P w K mg base 22 bo7 := t.add M z8 h_l_made ba9 aT8 rfl aZ1
 have t : TOk P w K mg base 23 bo6 := t.add M l5 h_l_times aO9 aL3 rfl aN2
 have t : TOk P w K mg base 24 bo5 := t.add M l7 h_l_share aP1 aL5 rfl aN4
 have t : TOk P w K mg base 25 bo4 := t.add M z7 h_l_spot ba8 aT7 rfl aZ0
 have t : TOk P w K mg base 26 bo3 := t.add M l6 h_l_sheet aP0 aL4 rfl aN3
 exact t
theorem zmd {K : PySem.W.Frag} {h : Heap} {mg : Str → Option Value} {q0 q1t0 q1t1 q1t2 q1t3 q1 : Addr} {e0 e1t0 e1t1 e1t2 e1t3 e1 : Option Addr} {y0 y1t0 y1t1 y1t2 y1t3 y1 : Array (Option Value)} {g0t0 g0t1 g1t0t0 g1t0t1 g1t1t0 g1t1t1 g1t2t0 g1t2t1 g1t3t0 g1t3t1 : Tok} {n0 n1t0 n1t1 n1t2 n1t3 n1 : Nat} (X : K.In h) (G : h.Ns mainGlobals mg) (p0 : PySem.W.nsIn K mainGlobals "ONE" = some (some (.ref q0))) (r0 : K.lookup q0 = some ⟨.type "tuple", e0, .seq #[.int 1 g0t0, .int 1 g0t1] n0, y0⟩) (p1 : PySem.W.nsIn K mainGlobals "CLEAR" = some (some (.ref q1))) (r1 : K.lookup q1 = some ⟨.type "tuple", e1, .seq #[.ref q1t0, .ref q1t1, .ref q1t2, .ref q1t3] n1, y1⟩) (r1t3 : K.lookup q1t3 = some ⟨.type "tuple", e1t3, .seq #[.int 0 g1t3t0, .int 1 g1t3t1] n1t3, y1t3⟩) (r1t2 : K.lookup q1t2 = some ⟨.type "tuple", e1t2, .seq #[.int 0 g1t2t0, .int 1 g1t2t1] n1t2, y1t2⟩) (r1t1 : K.lookup q1t1 = some ⟨.type "tuple", e1t1, .seq #[.int 0 g1t1t0, .int 1 g1t1t1] n1t1, y1t1⟩) (r1t0 : K.lookup q1t0 = some ⟨.type "tuple", e1t0, .seq #[.int 0 g1t0t0, .int 1 g1t0t1] n1t0, y1t0⟩) (z0 : PySem.W.nsIn K mainGlobals "len" = some none) (z1 : PySem.W.nsIn K mainGlobals "range" = some none) (z2 : PySem.W.nsIn K mainGlobals "sorted" = some none) (z3 : PySem.W.nsIn K mainGlobals "tuple" = some none) (z4 : PySem.W.nsIn K mainGlobals "zip" = some none) : Md K mg zcs zbl := by
 refine ⟨fun x v e => PySem.W.mg_of X G e, fun x d e => ?_, fun x e => ?_⟩
 ·unfold zcs at e
  rw [List.lookup_cons] at e
  split at e
  ·rename_i q; cases e; simp only [beq_iff_eq] at q; subst q; exact ⟨_, (Y9 r0 rfl rfl (by show 2 ≤ 1000; decide) (F0 (Q8 1 g0t0) (F0 (Q8 1 g0t1) W2))), PySem.W.mg_of X G p0⟩
  rw [List.lookup_cons] at e
  split at e
  ·rename_i q; cases e; simp only [beq_iff_eq] at q; subst q; exact ⟨_, (Y9 r1 rfl rfl (by show 4 ≤ 1000; decide) (F0 (Y9 r1t0 rfl rfl (by show 2 ≤ 1000; decide) (F0 (Q8 0 g1t0t0) (F0 (Q8 1 g1t0t1) W2))) (F0 (Y9 r1t1 rfl rfl (by show 2 ≤ 1000; decide) (F0 (Q8 0 g1t1t0) (F0 (Q8 1 g1t1t1) W2))) (F0 (Y9 r1t2 rfl rfl (by show 2 ≤ 1000; decide) (F0 (Q8 0 g1t2t0) (F0 (Q8 1 g1t2t1) W2))) (F0 (Y9 r1t3 rfl rfl (by show 2 ≤ 1000; decide) (F0 (Q8 0 g1t3t0) (F0 (Q8 1 g1t3t1) W2))) W2))))), PySem.W.mg_of X G p1⟩
  cases e
 ·unfold zbl at e
  simp only [List.contains_cons, List.contains_nil, Bool.or_false, Bool.or_eq_true, beq_iff_eq] at e
  rcases e with e | e | e | e | e
  ·subst e; exact PySem.W.mg_none_of X G z0
  ·subst e; exact PySem.W.mg_none_of X G z1
  ·subst e; exact PySem.W.mg_none_of X G z2
  ·subst e; exact PySem.W.mg_none_of X G z3
  ·subst e; exact PySem.W.mg_none_of X G z4
theorem bB4 {l : PySem.W.OpenLaw} {q : Program} {loose : List Str} {XP : (Str → Option Value) → Heap → Prop} {YP : World → Heap → Prop} {d : DefRec} {K : Params → PySem.W.Frag} (hn : l.most = some 63) (hdf : d.params.defaults = [])
  (hY : ∀ (w : World) (h : Heap), YP w h → (K w.params).In h) (hd : d.name = "law")
  (F : ∀ (w : World) (mg : Str → Option Value) (h : Heap), (K w.params).In h → h.Ns mainGlobals mg → Md (K w.params) mg zcs zbl)
  (Q : ∀ w : World, KF (K w.params) "common_divisor" S5 ∧ KF (K w.params) "least_form" Z7 ∧ KF (K w.params) "is_at_most" Z8 ∧ KF (K w.params) "added" ap4 ∧ KF (K w.params) "lessened" o8 ∧ KF (K w.params) "times" ap3 ∧ KF (K w.params) "rest_of" ab9 ∧ KF (K w.params) "at_most_one" X8 ∧ KF (K w.params) "blended_cover" U6 ∧ KF (K w.params) "blended_colour" S7 ∧ KF (K w.params) "blended" ac5 ∧ KF (K w.params) "places_of" g6 ∧ KF (K w.params) "has_place" g7 ∧ KF (K w.params) "number_of_place" R9 ∧ KF (K w.params) "spot_at" ab8 ∧ KF (K w.params) "part_of" ac0 ∧ KF (K w.params) "mirrored" o7 ∧ KF (K w.params) "turned" ah7 ∧ KF (K w.params) "blended_sheets" S6 ∧ KF (K w.params) "_law_cell" ai0 ∧ KF (K w.params) "_law_drawn" ac4 ∧ KF (K w.params) "_law_made" ah9 ∧ KF (K w.params) "_law_times" ac1 ∧ KF (K w.params) "_law_share" ac3 ∧ KF (K w.params) "_law_spot" ah8 ∧ KF (K w.params) "_law_sheet" ac2 ∧ KF (K w.params) "law" bk6)
  (M : ∀ ns : List Int, ns.length ≤ 63 → aI6 [.list (ns.map PyData.int)] = some (.bool true)) :
  PySem.W.WalkO q loose XP YP l.row.toRowW d [] (fun f vs => PySem.call f vs) :=
 L2.bb8 (n := 63) (k := 27) (x := "_law_script") (CX := fun _ => CX0) (sp := fun w => spF (K w.params) 1 aI6) hn (by decide) hdf ⟨rfl, by decide, by decide⟩ hY
  (fun w mg fa h hk hg hm => by
   have N := F w mg h hk hg
   obtain ⟨h_common_divisor, h_least_form, h_is_at_most, h_added, h_lessened, h_times, h_rest_of, h_at_most_one, h_blended_cover, h_blended_colour, h_blended, h_places_of, h_has_place, h_number_of_place, h_spot_at, h_part_of, h_mirrored, h_turned, h_blended_sheets, h_l_cell, h_l_drawn, h_l_made, h_l_times, h_l_share, h_l_spot, h_l_sheet, h_law⟩ := Q w
   rw [hd] at hm
   obtain ⟨fd, b1, b2⟩ := bf9 N (fun base => bJ3 N h_common_divisor h_least_form h_is_at_most h_added h_lessened h_times h_rest_of h_at_most_one h_blended_cover h_blended_colour h_blended h_places_of h_has_place h_number_of_place h_spot_at h_part_of h_mirrored h_turned h_blended_sheets h_l_cell h_l_drawn h_l_made h_l_times h_l_share h_l_spot h_l_sheet base) aH3 h_law bI7 bF8 rfl bI0 hm
   exact ⟨fd, b1, fun base _ _ => b2 base⟩)
  (fun w H a ns hl _ hS => ⟨rfl, H, [.list (ns.map PyData.int)], .bool true, D6.refl _, ⟨.ref a, [], rfl, ⟨a, _, rfl, hS, Reps.ints ns⟩, rfl⟩, M ns hl, fun v H' Hf' g r => r⟩) fun _ _ _ _ _ z => z
end Lk11
def PySem.W.Fast.tw9758062913079070376 : Unit := ()
def PySem.W.Fast.tw16511273658124321824 : Unit := ()
def PySem.W.Fast.tw4131232163714692981 : Unit := ()
def PySem.W.Fast.tw9909968203501944509 : Unit := ()
def PySem.W.Fast.tw10828623355996587362 : Unit := ()
def PySem.W.Fast.tw731523719316966522 : Unit := ()
def PySem.W.Fast.tw11526848035314586978 : Unit := ()
def PySem.W.Fast.tw12358609757703410238 : Unit := ()
def PySem.W.Fast.tw3672451467170448609 : Unit := ()
def PySem.W.Fast.tw16497260550936245238 : Unit := ()
def PySem.W.Fast.tw3915498799252031260 : Unit := ()
def PySem.W.Fast.tw677818805400386108 : Unit := ()
def PySem.W.Fast.tw4319987347004166322 : Unit := ()
def PySem.W.Fast.tw9380905426487284628 : Unit := ()
def PySem.W.Fast.tw13209849853326730223 : Unit := ()
def PySem.W.Fast.tw1826164094020658300 : Unit := ()
def PySem.W.Fast.tw8442933023844448761 : Unit := ()
def PySem.W.Fast.tw8100819573434636312 : Unit := ()
def PySem.W.Fast.tw6635443054558534146 : Unit := ()
def PySem.W.Fast.tw15169493957493143027 : Unit := ()
def PySem.W.Fast.tw4638260360354096075 : Unit := ()
def PySem.W.Fast.tw3141379795698378511 : Unit := ()
def PySem.W.Fast.tw7506220555928289350 : Unit := ()
def PySem.W.Fast.tw7130351412176024242 : Unit := ()
def PySem.W.Fast.tw463126509537738285 : Unit := ()
def PySem.W.Fast.tw9436019141660379899 : Unit := ()
def PySem.W.Fast.tw14966534782034386479 : Unit := ()
def PySem.W.Fast.tw15493501486428271763 : Unit := ()
def PySem.W.Fast.tw14745832065755069197 : Unit := ()
def PySem.W.Fast.tw8066486375761817808 : Unit := ()
def PySem.W.Fast.tw12475058570979929394 : Unit := ()
def PySem.W.Fast.tw11233010425923416374 : Unit := ()
def PySem.W.Fast.tw10220716191769720458 : Unit := ()
namespace Lk11
open PySem PySem.W PyProof.Rows
set_option maxHeartbeats 0 in
open_top head for PySem.Challenge.rw_glazework_k11_whole_turned
end Lk11
open PySem PySem.W PyProof.Rows
set_option maxRecDepth 100000 in
set_option maxHeartbeats 0 in
theorem PySem.Challenge.cw_glazework_k11_whole_turned_holds : PySem.Challenge.rw_glazework_k11_whole_turned.Holds := by
 refine Lk11.head ?_
 k_fill
 refine Lk11.bB4 (l := PySem.Challenge.rw_glazework_k11_whole_turned) rfl rfl (fun w h Y => PySem.W.kIn_of Y) rfl ?F ?Q Lk11.main
 case F =>
  intro w mg h KX G
  refine' Lk11.zmd KX G ?p0 ?r0 ?p1 ?r1 ?r1t3 ?r1t2 ?r1t1 ?r1t0 ?z0 ?z1 ?z2 ?z3 ?z4
  (case p0 => k_is); (case r0 => k_is); (case p1 => k_is); (case r1 => k_is); (case r1t3 => k_is); (case r1t2 => k_is); (case r1t1 => k_is); (case r1t0 => k_is); (case z0 => k_is); (case z1 => k_is); (case z2 => k_is); (case z3 => k_is); (case z4 => k_is)
 case Q =>
  intro w
  refine ⟨?_, ?_, ?_, ?_, ?_, ?_, ?_, ?_, ?_, ?_, ?_, ?_, ?_, ?_, ?_, ?_, ?_, ?_, ?_, ?_, ?_, ?_, ?_, ?_, ?_, ?_, ?_⟩
  all_goals (refine' G.bG2 ?a ?l ?c ?k; (case a => k_is); (case l => k_is); (case c => k_is); (case k => k_is))
