import PyProof.Rows.All
import Wide.All
import OpenK.AllK
import Wide.FinOn
import Lean
import PyProof.EqAt
import PyProof.EqKinds
import PyProof.TupleCall
import PySem.Challenge.RW_glazework_k60_boxes
set_option compiler.extract_closed false
noncomputable section
set_option Elab.async false
set_option linter.all false
set_option maxRecDepth 100000
namespace L2
open PySem PySem.Spec PyProof.Rows
noncomputable abbrev Key := Sum Int Str
noncomputable def cg8 : Key → Value → Bool
 | .inl k, v => Value.isInt k v
 | .inr x, v => Value.isStrOf x v
noncomputable def cL6 (w : World) : Key → Int
 | .inl k => hashInt k
 | .inr x => hashStr w x
theorem O7 : ∀ {k : Key} {v : Value}, cg8 k v = true → (∃ i t, k = Sum.inl i ∧ v = Value.int i t) ∨ (∃ x t, k = Sum.inr x ∧ v = Value.str x t)
 | .inl i, v, h => by
  obtain ⟨t, e⟩ := Value.isInt_shape (k := i) (v := v) h
  exact .inl ⟨i, t, rfl, e⟩
 | .inr x, v, h => by
  obtain ⟨t, e⟩ := Value.isStrOf_shape (x := x) (v := v) h
  exact .inr ⟨x, t, rfl, e⟩
theorem cu2 (a b : Int) : decide ((Sum.inl a : Key) = Sum.inl b) = (a == b) := by
 by_cases e : a = b
 ·subst e; simp
 ·have h : ¬ (Sum.inl a : Key) = Sum.inl b := fun q => e (Sum.inl.inj q)
  rw [decide_eq_false h]
  exact (beq_eq_false_iff_ne.mpr e).symm
theorem ct9 (a b : Str) : decide ((Sum.inr a : Key) = Sum.inr b) = decide (a = b) := by
 by_cases e : a = b
 ·subst e; simp
 ·have h : ¬ (Sum.inr a : Key) = Sum.inr b := fun q => e (Sum.inr.inj q)
  rw [decide_eq_false h, decide_eq_false e]
theorem cu1 (a : Int) (b : Str) : decide ((Sum.inl a : Key) = Sum.inr b) = false := decide_eq_false (fun q => nomatch q)
theorem cu0 (a : Str) (b : Int) : decide ((Sum.inr a : Key) = Sum.inl b) = false := decide_eq_false (fun q => nomatch q)
noncomputable def aR6 (prog : Program) (w : World) : PySem.KeyKind prog w Key where
 is := cg8
 hash := cL6 w
 inj := fun v a b ha hb => by
  rcases O7 ha with ⟨i, t, rfl, rfl⟩ | ⟨x, t, rfl, rfl⟩
  ·rcases O7 hb with ⟨j, u, rfl, e⟩ | ⟨y, u, rfl, e⟩
   ·injection e with e1 _; rw [e1]
   ·exact nomatch e
  ·rcases O7 hb with ⟨j, u, rfl, e⟩ | ⟨y, u, rfl, e⟩
   ·exact nomatch e
   ·injection e with e1 _; rw [e1]
 byValue := fun k v h => by
  rcases O7 h with ⟨i, t, rfl, rfl⟩ | ⟨x, t, rfl, rfl⟩ <;> rfl
 pyHash := fun hv h => by
  rcases O7 hv with ⟨i, t, rfl, rfl⟩ | ⟨x, t, rfl, rfl⟩
  ·exact wpAny_pyHash_int h
  ·exact wpAny_pyHash_str h
 eqBool := fun hu hv h => by
  rcases O7 hu with ⟨i, t, rfl, rfl⟩ | ⟨x, t, rfl, rfl⟩
  ·rcases O7 hv with ⟨j, u, rfl, rfl⟩ | ⟨y, u, rfl, rfl⟩
   ·rw [cu2] at h; exact wpAny_eqBool_int h
   ·rw [cu1] at h; exact SeqAt.EqAt.int_str i t y u _ _ _ _ h
  ·rcases O7 hv with ⟨j, u, rfl, rfl⟩ | ⟨y, u, rfl, rfl⟩
   ·rw [cu0] at h; exact SeqAt.EqAt.str_int x t j u _ _ _ _ h
   ·rw [ct9] at h; exact wpAny_eqBool_str h
 «strs» := fun k x t v h => by
  rcases O7 h with ⟨i, u, rfl, e⟩ | ⟨y, u, rfl, e⟩
  ·exact nomatch e
  ·injection e with e1 _
   subst e1
   cases v <;> rfl
end L2
namespace L2
open PySem PySem.Spec PyProof.Rows
inductive V where
 | non | bl (b : Bool) | int (i : Int) | str (x : Str) | byt (b : Array UInt8) | flt (b : UInt64) | ref (a : Addr) | ty (n : String)
 deriving DecidableEq
noncomputable def O4 : V → Value → Prop
 | .non, u => u = Value.none
 | .bl b, u => u = Value.bool b
 | .int i, u => ∃ t, u = Value.int i t
 | .str x, u => ∃ t, u = Value.str x t
 | .byt b, u => ∃ t, u = Value.bytes b t
 | .flt b, u => ∃ t, u = Value.float b t
 | .ref a, u => u = Value.ref a
 | .ty n, u => u = Value.type n
noncomputable abbrev L7 : List V → List Value → Prop := Paired O4
theorem L7.length {xs : List V} {us : List Value} (r : L7 xs us) : xs.length = us.length := Paired.length r
theorem L7.get : ∀ {xs : List V} {us : List Value} {i : Nat} {x : V}, L7 xs us → xs[i]? = some x → ∃ u, us[i]? = some u ∧ O4 x u
 | _, _, _, _, .nil, e => by simp at e
 | _, _, 0, _, .cons r _, e => by simp at e; subst e; exact ⟨_, rfl, r⟩
 | _, _, i + 1, x, .cons _ t, e => by
  obtain ⟨u, h1, h2⟩ := L7.get (i := i) (x := x) t (by simpa using e)
  exact ⟨u, by simpa using h1, h2⟩
theorem L7.append : ∀ {xs ys : List V} {us ws : List Value}, L7 xs us → L7 ys ws → L7 (xs ++ ys) (us ++ ws)
 | _, _, _, _, .nil, s => s
 | _, _, _, _, .cons r t, s => .cons r (L7.append t s)
theorem L7.take : ∀ {xs : List V} {us : List Value} (n : Nat), L7 xs us → L7 (xs.take n) (us.take n)
 | _, _, 0, _ => .nil
 | _, _, _ + 1, .nil => .nil
 | _, _, n + 1, .cons r t => .cons r (L7.take n t)
theorem L7.drop : ∀ {xs : List V} {us : List Value} (n : Nat), L7 xs us → L7 (xs.drop n) (us.drop n)
 | _, _, 0, r => r
 | _, _, _ + 1, .nil => .nil
 | _, _, n + 1, .cons _ t => L7.drop n t
noncomputable def cJ2 : Option V → Option Value → Prop
 | some v, some u => O4 v u
 | none, none => True
 | _, _ => False
noncomputable def KV {κ : Type} : List (κ × V) → List (κ × Value) → Prop := Paired fun (p : κ × V) (q : κ × Value) => p.1 = q.1 ∧ O4 p.2 q.2
noncomputable def kV : Key → V
 | .inl i => .int i
 | .inr x => .str x
inductive HO where
 /-- a list -/
 | lst (xs : List V)
 /-- a tuple (never changes) -/
 | tup (xs : List V)
 /-- a dict whose keys are ints and texts; one whose keys are tuples of ints and texts (the empty one is both) -/
 | dK (kvs : List (Key × V)) | dT (kvs : List (List Key × V))
 /-- a set of ints: its members, its size -/
 | set (S : Int → Bool) (n : Nat)
 /-- an instance of the class at C, its dict at dx, its attributes -/
 | ins (C dx : Addr) (fs : List (Str × V))
 /-- the dict of the instance at x -/
 | own (x : Addr)
 /-- the dict of an exception -/
 | xd (fs : List (Str × V))
 /-- a bound method, f of x -/
 | met (f x : Addr)
 /-- a range object lo, lo + 1, .. below hi -/
 | rng (lo hi : Int)
 /-- a thing that is known to the object (the script; a dict while a loop walks it): read, never written while it is so -/
 | frz (o : Obj) (u : HO)
 /-- a code object's table -/
 | tbl (ps : Array Value)
 /-- any other thing, by what is true of its one object (a def of one's own: SetO a S n := HO.ext fun h => ..) -/
 | ext (φ : Heap → Prop)
noncomputable abbrev Hp := Addr → Option HO
noncomputable def upd (H : Hp) (a : Addr) (o : HO) : Hp := fun b => if b = a then some o else H b
theorem G8 {H : Hp} {a : Addr} {o : HO} : upd H a o a = some o := by unfold upd; rw [if_pos rfl]
theorem G9 {H : Hp} {a b : Addr} {o : HO} (h : b ≠ a) : upd H a o b = H b := by unfold upd; rw [if_neg h]
theorem J3 {H : Hp} {a b : Addr} {o : HO} (h : H a = some o) (h' : H b = none) : a ≠ b := by
 intro e; subst e; rw [h] at h'; cases h'
section
variable (P : Program) (w : World)
noncomputable def j9 (H : Hp) (h : Heap) (a : Addr) : HO → Prop
 | .lst xs => xs.length ≤ sizeLine ∧ ∃ (its : List Value) (n : Nat), L7 xs its ∧ h.get? a = some { cls := .type "list", data := .seq its.toArray n }
 | .tup xs => xs.length ≤ sizeLine ∧ ∃ its : List Value, L7 xs its ∧ IsTup h a its.toArray
 | .dK kvs => kvs.length ≤ sizeLine ∧ (a == sysModules) = false ∧ ∃ vs, KV kvs vs ∧ h.DictOf (aR6 P w) a vs
 | .dT kvs => kvs.length ≤ sizeLine ∧ (a == sysModules) = false ∧ ∃ xs : List (List Key × Addr × Value),
   Paired (fun (p : List Key × V) (q : List Key × Addr × Value) => p.1 = q.1 ∧ H q.2.1 = some (.tup (p.1.map kV)) ∧ O4 p.2 q.2.2) kvs xs ∧
   ∃ o es ep, h.get? a = some o ∧ o.ExactDict ∧ o.data = .dict es ep ∧ es.toList = xs.map (entryOfKey (tupleKind (aR6 P w))) ∧ (xs.map (·.1)).Nodup
 | .set S n => h.SetOf (intKind P w) a S n
 | .ins C dx fs => H dx = some (.own a) ∧ fs.length ≤ 1000 ∧ dx ≠ a ∧ h.get? a = some (PySem.W.instObj C dx) ∧
   ∃ mA, h.Ns1 dx mA ∧ (∀ f, cJ2 (fs.lookup f) (mA f)) ∧ PySem.Within mA (fs.map (·.1))
 | .own _ => ∃ o, h.get? a = some o
 | .xd fs => ∃ mA, h.Ns1 a mA ∧ ∀ f, cJ2 (fs.lookup f) (mA f)
 | .rng lo hi => ∃ t u v, h.get? a = some { cls := .type "range", data := .fields #[.int lo t, .int hi u, .int 1 v] }
 | .frz o u => h.get? a = some o ∧ j9 H h a u
 | .tbl ps => h.get? a = some { cls := .none, data := .fields ps }
 | .met f x => h.get? a = some (PySem.W.methodObj (.ref f) (.ref x))
 | .ext φ => φ h ∧ (∃ o, h.get? a = some o) ∧ ∀ h1 h2 : Heap, φ h1 → (∀ o, h1.get? a = some o → h2.get? a = some o) → φ h2
noncomputable def HOk (H : Hp) (h : Heap) : Prop := ∀ a o, H a = some o → j9 P w H h a o
end
section
variable {P : Program} {w : World} {H H' : Hp} {h h' : Heap} {a : Addr} {o : HO}
theorem j9.lt (x : j9 P w H h a o) : a < h.objs.size := by
 cases o with
 | lst xs => obtain ⟨_, _, _, _, e⟩ := x; exact Heap.lt_size e
 | tup xs => obtain ⟨_, _, _, p⟩ := x; exact p.lt
 | dK kvs => obtain ⟨_, _, _, _, o, _, _, e, _⟩ := x; exact Heap.lt_size e
 | dT kvs => obtain ⟨_, _, _, _, o, _, _, e, _⟩ := x; exact Heap.lt_size e
 | set S n => obtain ⟨o, _, _, _, e, _⟩ := x; exact Heap.lt_size e
 | ins C dx fs => obtain ⟨_, _, _, e, _⟩ := x; exact Heap.lt_size e
 | own y => obtain ⟨_, e⟩ := x; exact Heap.lt_size e
 | xd fs => obtain ⟨_, ⟨_, _, _, e, _⟩, _⟩ := x; exact Heap.lt_size e
 | rng lo hi => obtain ⟨_, _, _, e⟩ := x; exact Heap.lt_size e
 | frz ob u => obtain ⟨e, _⟩ := x; exact Heap.lt_size e
 | tbl ps => exact Heap.lt_size (show h.get? a = some _ from x)
 | met f y => exact Heap.lt_size (show h.get? a = some _ from x)
 | ext φ => obtain ⟨_, ⟨_, e⟩, _⟩ := x; exact Heap.lt_size e
theorem Paired.mapP {α β : Type} {F G : α → β → Prop} : ∀ {l₁ : List α} {l₂ : List β}, Paired F l₁ l₂ → (∀ a b, F a b → G a b) → Paired G l₁ l₂
 | _, _, .nil, _ => .nil
 | _, _, .cons r t, f => .cons (f _ _ r) (Paired.mapP t f)
theorem j9.stay (x : j9 P w H h a o) (k : ∀ b u, (b = a ∨ H b = some (.own a)) → h.get? b = some u → h'.get? b = some u)
  (ho : ∀ b, H b = some (.own a) → H' b = some (.own a)) (ht : ∀ b xs, H b = some (.tup xs) → H' b = some (.tup xs)) : j9 P w H' h' a o := by
 induction o with
 | lst xs => obtain ⟨z, its, n, r, e⟩ := x; exact ⟨z, its, n, r, k _ _ (.inl rfl) e⟩
 | tup xs => obtain ⟨z, its, r, ob, e, c⟩ := x; exact ⟨z, its, r, ob, k _ _ (.inl rfl) e, c⟩
 | dK kvs => obtain ⟨z, y, vs, r, ob, es, ep, e, c⟩ := x; exact ⟨z, y, vs, r, ob, es, ep, k _ _ (.inl rfl) e, c⟩
 | dT kvs =>
  obtain ⟨z, y, xs, r, ob, es, ep, e, c⟩ := x
  exact ⟨z, y, xs, Paired.mapP r fun p q z => ⟨z.1, ht _ _ z.2.1, z.2.2⟩, ob, es, ep, k _ _ (.inl rfl) e, c⟩
 | set S n => obtain ⟨ob, es, ep, t, e, c⟩ := x; exact ⟨ob, es, ep, t, k _ _ (.inl rfl) e, c⟩
 | ins C dx fs =>
  obtain ⟨d, z, ne, e, mA, ⟨od, es, ep, e2, c⟩, r⟩ := x
  exact ⟨ho _ d, z, ne, k _ _ (.inl rfl) e, mA, ⟨od, es, ep, k _ _ (.inr d) e2, c⟩, r⟩
 | own y => obtain ⟨ob, e⟩ := x; exact ⟨ob, k _ _ (.inl rfl) e⟩
 | xd fs => obtain ⟨mA, ⟨od, es, ep, e, c⟩, r⟩ := x; exact ⟨mA, ⟨od, es, ep, k _ _ (.inl rfl) e, c⟩, r⟩
 | rng lo hi => obtain ⟨t, u, v, e⟩ := x; exact ⟨t, u, v, k _ _ (.inl rfl) e⟩
 | frz ob u ih => obtain ⟨e, q⟩ := x; exact ⟨k _ _ (.inl rfl) e, ih q⟩
 | tbl ps =>
  have e : h.get? a = some { cls := .none, data := .fields ps } := x
  show h'.get? a = some { cls := .none, data := .fields ps }
  exact k a _ (.inl rfl) e
 | met f y =>
  have e : h.get? a = some (PySem.W.methodObj (.ref f) (.ref y)) := x
  show h'.get? a = some (PySem.W.methodObj (.ref f) (.ref y))
  exact k a _ (.inl rfl) e
 | ext φ => obtain ⟨p, ⟨o, e⟩, st⟩ := x; exact ⟨st _ _ p fun o q => k _ _ (.inl rfl) q, ⟨o, k _ _ (.inl rfl) e⟩, st⟩
theorem HOk.lt (x : HOk P w H h) (e : H a = some o) : a < h.objs.size := (x a o e).lt
theorem HOk.fresh (x : HOk P w H h) (e : h.objs.size ≤ a) : H a = none := by
 cases q : H a with
 | none => rfl
 | some u => exact absurd (Nat.lt_of_lt_of_le (x.lt q) e) (Nat.lt_irrefl _)
theorem HOk.kept (x : HOk P w H h) (k : ∀ b u, h.get? b = some u → h'.get? b = some u) : HOk P w H h' := fun a o e =>
 (x a o e).stay (fun b u _ q => k b u q) (fun _ q => q) fun _ _ q => q
theorem HOk.laid (x : HOk P w H h) (k : ∀ b u, h.get? b = some u → h'.get? b = some u) (hp : h.objs.size ≤ a) (new : j9 P w (upd H a o) h' a o) : HOk P w (upd H a o) h' := fun b u e => by
 have hn := x.fresh hp
 by_cases hb : b = a
 ·subst hb; rw [G8] at e; cases e; exact new
 ·rw [G9 hb] at e
  exact (x b u e).stay (fun c v _ q => k c v q) (fun c q => by rw [G9 (J3 q hn)]; exact q) fun c xs q => by rw [G9 (J3 q hn)]; exact q
end
noncomputable def Rd (H : Hp) (a : Addr) (u : HO) : Prop := H a = some u ∨ ∃ o, H a = some (.frz o u)
theorem Rd.ok {P : Program} {w : World} {H : Hp} {h : Heap} {a : Addr} {u : HO} (r : Rd H a u) (x : HOk P w H h) : j9 P w H h a u := by
 rcases r with r | ⟨o, r⟩
 ·exact x a u r
 ·obtain ⟨_, q⟩ := x a _ r
  exact q
noncomputable def Mut : Option HO → Prop
 | some (.lst _) => True
 | some (.dK _) => True
 | some (.dT _) => True
 | some (.set _ _) => True
 | some (.ins _ _ _) => True
 | some (.ext _) => True
 | _ => False
section
variable {P : Program} {w : World} {H : Hp} {h h' : Heap} {x e : Addr} {o' : HO}
theorem HOk.write (ok : HOk P w H h) (mu : Mut (H x)) (he : e = x ∨ H e = some (.own x)) (k : ∀ b u, b ≠ e → h.get? b = some u → h'.get? b = some u) (heo : ∃ u, h'.get? e = some u)
  (new : j9 P w (upd H x o') h' x o') : HOk P w (upd H x o') h' := fun b u q => by
 have nown : ∀ c y, H c = some (.own y) → c ≠ x := fun c y r z => by subst z; rw [r] at mu; exact mu
 have ntup : ∀ c xs, H c = some (.tup xs) → c ≠ x := fun c xs r z => by subst z; rw [r] at mu; exact mu
 by_cases hb : b = x
 ·subst hb; rw [G8] at q; cases q; exact new
 ·rw [G9 hb] at q
  by_cases hbe : b = e
  ·have q' : H b = some (.own x) := by
    rcases he with z | z
    ·exact absurd (hbe.trans z) hb
    ·rw [hbe]; exact z
   rw [q] at q'; cases q'
   obtain ⟨v, hv⟩ := heo
   exact ⟨v, by rw [hbe]; exact hv⟩
  ·refine (ok b u q).stay (fun c v hc r => k c v ?_ r) (fun c r => by rw [G9 (nown c b r)]; exact r) fun c xs r => by rw [G9 (ntup c xs r)]; exact r
   rcases hc with rfl | hc
   ·exact hbe
   ·rintro rfl
    rcases he with z | z
    ·exact nown c b hc z
    ·rw [hc] at z; cases z; exact hb rfl
end
structure Un (fs ex : List Addr) (H H' : Hp) (h h' : Heap) : Prop where
 keep : ∀ b o, h.get? b = some o → H b = none → b ∉ fs → b ∉ ex → h'.get? b = some o
 slot : ∀ b o, h.get? b = some o → H b = none → b ∈ fs → b ∉ ex → ∃ sl, h'.get? b = some { o with slots := sl }
 free : ∀ b o, h.get? b = some o → H b = none → b ∉ ex → H' b = none
 there : ∀ b o, h.get? b = some o → b ∉ ex → ∃ o', h'.get? b = some o'
 tups : ∀ b xs, H b = some (.tup xs) → H' b = some (.tup xs)
 frzs : ∀ b o u, H b = some (.frz o u) → H' b = some (.frz o u)
 tbls : ∀ b ps, H b = some (.tbl ps) → ∃ more, H' b = some (.tbl (ps ++ more))
section
variable {fs fs' ex ex' : List Addr} {H H1 H2 : Hp} {h h1 h2 h' : Heap} {a x e : Addr} {o : HO}
theorem Un.any (u : Un fs ex H H1 h h1) {b : Addr} {ob : Obj} (q : h.get? b = some ob) (n : H b = none) (hx : b ∉ ex) : ∃ sl, h1.get? b = some { ob with slots := sl } := by
 by_cases hb : b ∈ fs
 ·exact u.slot b ob q n hb hx
 ·exact ⟨ob.slots, u.keep b ob q n hb hx⟩
theorem Un.kept (k : ∀ b u, h.get? b = some u → h'.get? b = some u) : Un fs ex H H h h' :=
 ⟨fun b ob q _ _ _ => k b ob q, fun b ob q _ _ _ => ⟨ob.slots, k b ob q⟩, fun _ _ _ n _ => n, fun b ob q _ => ⟨ob, k b ob q⟩, fun _ _ q => q, fun _ _ _ q => q, fun _ ps q => ⟨#[], by rw [q]; simp⟩⟩
theorem Un.refl : Un fs ex H H h h := Un.kept fun _ _ q => q
theorem Un.laid (k : ∀ b u, h.get? b = some u → h'.get? b = some u) (hp : h.objs.size ≤ a) (hn : H a = none) : Un fs ex H (upd H a o) h h' where
 keep := fun b u q _ _ _ => k b u q
 slot := fun b u q _ _ _ => ⟨u.slots, k b u q⟩
 free := fun b u q n _ => by rw [G9 (Nat.ne_of_lt (Nat.lt_of_lt_of_le (Heap.lt_size q) hp))]; exact n
 there := fun b u q _ => ⟨u, k b u q⟩
 tups := fun b xs q => by rw [G9 (J3 q hn)]; exact q
 frzs := fun b u xs q => by rw [G9 (J3 q hn)]; exact q
 tbls := fun b ps q => ⟨#[], by rw [G9 (J3 q hn), q]; simp⟩
theorem Un.write (mu : Mut (H x)) (he : e = x ∨ H e = some (.own x)) (k : ∀ b u, b ≠ e → h.get? b = some u → h'.get? b = some u) (heo : ∃ u, h'.get? e = some u) : Un fs ex H (upd H x o) h h' := by
 have hx : ∀ b, H b = none → b ≠ x := fun b n z => by subst z; rw [n] at mu; exact mu
 have hb : ∀ b, H b = none → b ≠ e := fun b n z => by
  subst z
  rcases he with r | r
  ·exact hx b n r
  ·rw [n] at r; cases r
 have hm : ∀ b u, H b = some u → ¬ Mut (some u) → b ≠ x := fun b u q nm z => by subst z; rw [q] at mu; exact nm mu
 refine ⟨fun b u q n _ _ => k b u (hb b n) q, fun b u q n _ _ => ⟨u.slots, k b u (hb b n) q⟩, fun b u q n _ => by rw [G9 (hx b n)]; exact n, fun b u q _ => ?_,
  fun b xs q => by rw [G9 (hm b _ q fun z => z)]; exact q, fun b u xs q => by rw [G9 (hm b _ q fun z => z)]; exact q, fun b ps q => ⟨#[], by rw [G9 (hm b _ q fun z => z), q]; simp⟩⟩
 by_cases hbe : b = e
 ·subst hbe; exact heo
 ·exact ⟨u, k b u hbe q⟩
end
noncomputable def trk (h : Heap) (H : Hp) : List Addr := (List.range h.objs.size).filter fun a => (H a).isSome
noncomputable def aS7 (h : Heap) (H : Hp) : Heap := PySem.W.hideAll h (trk h H)
theorem bx8 (h : Heap) (H : Hp) : (aS7 h H).objs.size = h.objs.size := PySem.W.hideAll_size _ _
theorem bN7 {h : Heap} {H : Hp} {b : Addr} {o : Obj} (e : h.get? b = some o) (n : H b = none) : (aS7 h H).get? b = some o :=
 PySem.W.hideAll_get _ e fun hm => by
  have q : (H b).isSome = true := (List.mem_filter.mp hm).2
  rw [n] at q; simp at q
theorem bX9 {h : Heap} {H : Hp} {b : Addr} {o : Obj} (e : (aS7 h H).get? b = some o) : h.get? b = some o ∧ H b = none := by
 have e' : h.get? b = some o := PySem.W.of_hideAll (trk h H) e
 refine ⟨e', ?_⟩
 cases q : H b with
 | none => rfl
 | some x =>
  have hm : b ∈ trk h H := List.mem_filter.mpr ⟨List.mem_range.mpr (Heap.lt_size e'), by simp [q]⟩
  have z : (aS7 h H).get? b = none := PySem.W.hideAll_none (trk h H) hm
  rw [z] at e; cases e
noncomputable def ce9 (g h : Heap) (L : Addr) : List (Addr × Obj) := (List.range h.objs.size).filterMap fun a => if a = L ∨ (g.get? a).isSome = true then none else (h.get? a).map fun o => (a, o)
noncomputable def W0 (g h : Heap) (L d : Addr) : List (Addr × Obj) := (ce9 g h L).filter fun p => decide (p.1 ≠ d)
end L2
namespace L2
open PySem PySem.Spec PyProof.Rows
structure Mod (K : PySem.W.Frag) (mg : Str → Option Value) (base : Heap) : Prop where
 kin : K.In base
 glob : base.Ns mainGlobals mg
 blt : ∃ mb, base.Ns builtinsNs mb ∧ ∀ x : Str, x ≠ "__name__" → mb x = bootBuiltins x
 nolimit : base.NoLimit
structure Cx where
 prog : Program
 w : World
 K : PySem.W.Frag
 mg : Str → Option Value
 base : Heap
 A : Around
 N : List Str
 s₀ : Shared
 H₀ : Hp
 env : Env
 outer : List Env
 stack : List Env
 ex : List Addr
 fn : Str → Bool
 calm : Bool
 pn : List (Addr × Obj)
 xe : Value → Shared → Prop
noncomputable def frs (l : List Env) : List Addr := l.filterMap (·.frame)
noncomputable abbrev Cx.fs (X : Cx) : List Addr := frs X.outer
noncomputable def Vis (sc : Scope) (x : Str) : Prop := sc.names.lookup x = some .local ∨ sc.names.lookup x = some .cell ∨ sc.names.lookup x = some .free
noncomputable def Loc (sc : Scope) (x : Str) : Prop := sc.names.lookup x = some .local ∨ sc.names.lookup x = some .cell
noncomputable def cM7 (env : Env) (h : Heap) (m : Str → Option Value) (x : Str) (u : Value) : Prop :=
 (env.kindOf x = some .local ∧ m x = some u) ∨ ((env.kindOf x = some .cell ∨ env.kindOf x = some .free) ∧ ∃ c, env.cells.lookup x = some c ∧ h.IsCell c (some u))
structure Cx.Ok (X : Cx) : Prop where
 mod : Mod X.K X.mg X.base
 kind : X.env.scope.kind = .function
 glob : X.env.globals = mainGlobals
 blt : X.env.builtins = builtinsNs
 above : X.s₀.heap.objs.size ≤ X.env.locals
 inj : ∀ x y c, X.env.cells.lookup x = some c → X.env.cells.lookup y = some c → x = y
 has : ∀ x, (X.env.kindOf x = some .cell ∨ X.env.kindOf x = some .free) → ∃ c, X.env.cells.lookup x = some c
 cab : ∀ x c, X.fn x = true → X.env.cells.lookup x = some c → X.s₀.heap.objs.size ≤ c
 hd : X.calm = true → X.A.handled = none
 frames : X.A.frames = some X.stack
 stk : X.stack = X.outer ∨ (X.stack = X.env :: X.outer ∧ X.env.frame = some X.env.locals)
 exf : ∀ b ∈ X.ex, b ≠ X.env.locals ∧ ∀ x c, X.env.cells.lookup x = some c → c ≠ b
 bs : ∀ b o, X.base.get? b = some o → X.s₀.heap.get? b = some o ∧ X.H₀ b = none
 bsz : X.base.objs.size ≤ X.s₀.heap.objs.size
 noex : ∀ b o, X.base.get? b = some o → b ∉ X.ex
 exfs : ∀ b ∈ X.ex, b ∉ X.fs
 funs : X.s₀.heap.FunFrames X.base X.outer
 frf : ∀ b ∈ X.fs, X.H₀ b = none
structure Inv (X : Cx) (pins : List (Addr × Obj)) (σ : List (Option V)) (H : Hp) (s : Shared) : Prop where
 ok : X.Ok
 os : s.os = X.s₀.os
 bare : AllBare s.gens
 base : Un X.fs X.ex X.H₀ H X.s₀.heap s.heap
 loc : ∃ m, s.heap.Ns X.env.locals m ∧ ∀ (i : Nat) (x : Str) (v : V), X.N[i]? = some x → σ[i]? = some (some v) → Vis X.env.scope x → ∃ u, O4 v u ∧ cM7 X.env s.heap m x u
 cell : ∀ x c, X.env.cells.lookup x = some c → ∃ v, s.heap.IsCell c v
 free : H X.env.locals = none
 freeC : ∀ x c, X.env.cells.lookup x = some c → H c = none
 pin : ∀ p ∈ X.pn ++ pins, s.heap.get? p.1 = some p.2 ∧ H p.1 = none ∧ p.1 ≠ X.env.locals ∧ p.1 ∉ X.fs ∧ ∀ v, p.2.data ≠ .cell v
 hok : HOk X.prog X.w H s.heap
 len : σ.length = X.N.length
section
variable {X : Cx} {pins : List (Addr × Obj)} {σ : List (Option V)} {H H' : Hp} {s : Shared} {h' : Heap}
theorem Cx.Ok.nofr (ok : X.Ok) {b : Addr} {o : Obj} (e : X.base.get? b = some o) : b ∉ X.fs := fun hb => by
 have := (ok.funs.mem hb).1
 rw [e] at this; cases this
theorem Inv.bs (I : Inv X pins σ H s) : ∀ b o, X.base.get? b = some o → s.heap.get? b = some o ∧ H b = none := fun b o e =>
 ⟨I.base.keep b o (I.ok.bs b o e).1 (I.ok.bs b o e).2 (I.ok.nofr e) (I.ok.noex b o e), I.base.free b o (I.ok.bs b o e).1 (I.ok.bs b o e).2 (I.ok.noex b o e)⟩
theorem Inv.bk (I : Inv X pins σ H s) : ∀ b o, X.base.get? b = some o → s.heap.get? b = some o := fun b o e => (I.bs b o e).1
theorem Inv.mod (I : Inv X pins σ H s) : Mod X.K X.mg X.base := I.ok.mod
theorem Inv.kIn (I : Inv X pins σ H s) : X.K.In s.heap := I.ok.mod.kin.keeps I.bk
theorem Inv.lt (I : Inv X pins σ H s) : X.env.locals < s.heap.objs.size := let ⟨_, hn, _⟩ := I.loc; hn.lt
theorem Inv.sz (I : Inv X pins σ H s) : X.s₀.heap.objs.size ≤ s.heap.objs.size := Nat.le_trans I.ok.above (Nat.le_of_lt I.lt)
theorem Inv.nofs (I : Inv X pins σ H s) {a : Addr} (h : s.heap.objs.size ≤ a) : a ∉ X.fs := fun hb => by
 obtain ⟨_, o, ho, _⟩ := I.ok.funs.mem hb
 exact absurd (Nat.lt_of_lt_of_le (Heap.lt_size ho) (Nat.le_trans I.sz h)) (Nat.lt_irrefl _)
theorem Inv.cne (I : Inv X pins σ H s) : ∀ x c, X.env.cells.lookup x = some c → c ≠ X.env.locals := fun x c e z => by
 obtain ⟨v, o, ho, hd⟩ := I.cell x c e
 obtain ⟨m, ⟨o', es, ep, ho', hd', _⟩, _⟩ := I.loc
 rw [z, ho'] at ho; cases ho; rw [hd'] at hd; cases hd
theorem Inv.funs (I : Inv X pins σ H s) : s.heap.FunFrames X.base X.outer := by
 have all : ∀ (l : List Env), (∀ b ∈ frs l, b ∈ X.fs) → X.s₀.heap.FunFrames X.base l → s.heap.FunFrames X.base l := by
  intro l
  induction l with
  | nil => intro _ _; trivial
  | cons env r ih =>
   intro hs hl
   obtain ⟨hk, ⟨L, o, hf, hn, ho, hd⟩, hr⟩ := hl
   have hL : L ∈ X.fs := hs L (by unfold frs; rw [List.filterMap_cons, hf]; exact List.mem_cons_self)
   obtain ⟨sl, e⟩ := I.base.slot L o ho (I.ok.frf L hL) hL fun z => I.ok.exfs L z hL
   exact ⟨hk, ⟨L, _, hf, hn, e, hd⟩, ih (fun b hb => hs b (by unfold frs; rw [List.filterMap_cons, hf]; exact List.mem_cons_of_mem _ hb)) hr⟩
 exact all X.outer (fun _ hb => hb) I.ok.funs
theorem Inv.stack (I : Inv X pins σ H s) : s.heap.FunFrames X.base X.stack := by
 rcases I.ok.stk with e | ⟨e, hf⟩
 ·rw [e]; exact I.funs
 ·rw [e]
  obtain ⟨m, hn, _⟩ := I.loc
  refine .cons (by rw [I.ok.kind]; decide) hf hn ?_ I.funs
  exact Heap.get?_none_of_le (Nat.le_trans I.ok.bsz I.ok.above)
theorem Inv.stkSub (I : Inv X pins σ H s) : ∀ b ∈ frs X.stack, b ∈ X.env.locals :: X.fs := fun b hb => by
 rcases I.ok.stk with e | ⟨e, hf⟩
 ·rw [e] at hb; exact List.mem_cons_of_mem _ hb
 ·rw [e] at hb
  unfold frs at hb
  rw [List.filterMap_cons, hf] at hb
  exact hb
theorem Inv.stkFree (I : Inv X pins σ H s) : ∀ b ∈ frs X.stack, H b = none := fun b hb => by
 rcases List.mem_cons.mp (I.stkSub b hb) with e | hb
 ·rw [e]; exact I.free
 ·obtain ⟨_, o, ho, _⟩ := I.ok.funs.mem hb
  exact I.base.free b o ho (I.ok.frf b hb) fun z => I.ok.exfs b z hb
theorem Inv.step {g' : Array GenState} {t' : Nat} {d' : Drawn} {ch : List Addr} (I : Inv X pins σ H s)
  (hch : ∀ b ∈ ch, (b ∈ X.ex ∨ X.s₀.heap.objs.size ≤ b) ∧ b ≠ X.env.locals ∧ (∀ x c, X.env.cells.lookup x = some c → c ≠ b) ∧ ∀ p ∈ X.pn ++ pins, p.1 ≠ b)
  (keep : ∀ b o, b ≠ X.env.locals → b ∉ X.fs → b ∉ ch → s.heap.get? b = some o → H b = none → h'.get? b = some o)
  (slot : ∀ b o, b ≠ X.env.locals → b ∈ X.fs → b ∉ ch → s.heap.get? b = some o → H b = none → ∃ sl, h'.get? b = some { o with slots := sl }) (free : ∀ b o, b ∉ ch → s.heap.get? b = some o → H b = none → H' b = none)
  (there : ∀ b o, b ∉ ch → s.heap.get? b = some o → ∃ o', h'.get? b = some o')
  (tups : ∀ b xs, H b = some (.tup xs) → H' b = some (.tup xs)) (frzs : ∀ b o u, H b = some (.frz o u) → H' b = some (.frz o u)) (tbls : ∀ b ps, H b = some (.tbl ps) → ∃ more, H' b = some (.tbl (ps ++ more)))
  (ns : ∀ m, s.heap.Ns X.env.locals m → h'.Ns X.env.locals m) (hok : HOk X.prog X.w H' h') (hg : AllBare g') :
  Inv X pins σ H' { s with heap := h', gens := g', drawn := d', toks := t' } := by
 have neL : ∀ b o, X.s₀.heap.get? b = some o → b ≠ X.env.locals := fun b o e => Nat.ne_of_lt (Nat.lt_of_lt_of_le (Heap.lt_size e) I.ok.above)
 have neC : ∀ b o, X.s₀.heap.get? b = some o → b ∉ X.ex → b ∉ ch := fun b o e hx hb => by
  rcases (hch b hb).1 with z | z
  ·exact hx z
  ·exact absurd (Nat.lt_of_lt_of_le (Heap.lt_size e) z) (Nat.lt_irrefl _)
 have cellK : ∀ x c, X.env.cells.lookup x = some c → ∀ v, s.heap.IsCell c v → h'.IsCell c v := fun x c e v ⟨o, ho, hd⟩ => by
  have nch : c ∉ ch := fun z => (hch c z).2.2.1 x c e rfl
  by_cases hc : c ∈ X.fs
  ·obtain ⟨sl, q⟩ := slot c o (I.cne x c e) hc nch ho (I.freeC x c e)
   exact ⟨_, q, hd⟩
  ·exact ⟨o, keep c o (I.cne x c e) hc nch ho (I.freeC x c e), hd⟩
 refine ⟨I.ok, I.os, hg, ⟨fun b o e n hb hx => ?_, fun b o e n hb hx => ?_, fun b o e n hx => ?_, fun b o e hx => ?_, fun b xs e => tups b xs (I.base.tups b xs e), fun b o xs e => frzs b o xs (I.base.frzs b o xs e), fun b ps e => ?_⟩, ?_, fun x c e => ?_, ?_, fun x c e => ?_, fun p hp => ?_, hok, I.len⟩
 ·exact keep b o (neL b o e) hb (neC b o e hx) (I.base.keep b o e n hb hx) (I.base.free b o e n hx)
 ·obtain ⟨sl, e1⟩ := I.base.slot b o e n hb hx
  obtain ⟨sl', e2⟩ := slot b _ (neL b o e) hb (neC b o e hx) e1 (I.base.free b o e n hx)
  exact ⟨sl', e2⟩
 ·obtain ⟨o', e1⟩ := I.base.there b o e hx
  exact free b o' (neC b o e hx) e1 (I.base.free b o e n hx)
 ·obtain ⟨o', e1⟩ := I.base.there b o e hx
  exact there b o' (neC b o e hx) e1
 ·obtain ⟨m1, e1⟩ := I.base.tbls b ps e
  obtain ⟨m2, e2⟩ := tbls b _ e1
  exact ⟨m1 ++ m2, by rw [e2, Array.append_assoc]⟩
 ·obtain ⟨m, hn, hl⟩ := I.loc
  refine ⟨m, ns m hn, fun i x v e1 e2 e3 => ?_⟩
  obtain ⟨u, r, l⟩ := hl i x v e1 e2 e3
  refine ⟨u, r, ?_⟩
  rcases l with l | ⟨k, c, e, z⟩
  ·exact .inl l
  ·exact .inr ⟨k, c, e, cellK x c e _ z⟩
 ·obtain ⟨v, z⟩ := I.cell x c e
  exact ⟨v, cellK x c e v z⟩
 ·obtain ⟨m, ⟨o, _, _, ho, _⟩, _⟩ := I.loc
  exact free _ o (fun z => (hch _ z).2.1 rfl) ho I.free
 ·obtain ⟨v, o, ho, hd⟩ := I.cell x c e
  exact free c o (fun z => (hch c z).2.2.1 x c e rfl) ho (I.freeC x c e)
 ·obtain ⟨e, n, ne, nf, d⟩ := I.pin p hp
  have nch : p.1 ∉ ch := fun z => (hch p.1 z).2.2.2 p hp rfl
  exact ⟨keep p.1 p.2 ne nf nch e n, free p.1 p.2 nch e n, ne, nf, d⟩
theorem Inv.un {t' : Nat} (I : Inv X pins σ H s) (u : Un X.fs [] H H' s.heap h') (hok : HOk X.prog X.w H' h') : Inv X pins σ H' { s with heap := h', toks := t' } := by
 obtain ⟨m, ⟨o, es, ep, ho, r⟩, _⟩ := id I.loc
 obtain ⟨sl, hL⟩ := u.any ho I.free (by simp)
 exact I.step (g' := s.gens) (d' := s.drawn) (ch := []) (fun _ z => nomatch z) (fun b o _ hb _ e n => u.keep b o e n hb (by simp)) (fun b o _ hb _ e n => u.slot b o e n hb (by simp)) (fun b o _ e n => u.free b o e n (by simp)) (fun b o _ e => u.there b o e (by simp)) u.tups u.frzs u.tbls (fun m' hm => by
  obtain ⟨o', es', ep', ho', r'⟩ := hm
  rw [ho] at ho'; cases ho'
  exact ⟨_, es', ep', hL, r'⟩) hok I.bare
theorem Inv.call {g' : Array GenState} {t' : Nat} {d' : Drawn} {ch : List Addr} (I : Inv X pins σ H s) (u : Un (frs X.stack) ch H H' s.heap h') (hok : HOk X.prog X.w H' h') (hg : AllBare g')
  (hch : ∀ b ∈ ch, (b ∈ X.ex ∨ X.s₀.heap.objs.size ≤ b) ∧ b ≠ X.env.locals ∧ (∀ x c, X.env.cells.lookup x = some c → c ≠ b) ∧ ∀ p ∈ X.pn ++ pins, p.1 ≠ b) :
  Inv X pins σ H' { s with heap := h', gens := g', drawn := d', toks := t' } := by
 obtain ⟨m, ⟨o, es, ep, ho, r⟩, _⟩ := id I.loc
 obtain ⟨sl, hL⟩ := u.any ho I.free fun z => (hch _ z).2.1 rfl
 exact I.step (ch := ch) hch (fun b o hL hb hc e n => u.keep b o e n (fun z => (List.mem_cons.mp (I.stkSub b z)).elim hL hb) hc) (fun b o _ _ hc e n => u.any e n hc) (fun b o hc e n => u.free b o e n hc) (fun b o hc e => u.there b o e hc) u.tups u.frzs u.tbls (fun m' hm => by
  obtain ⟨o', es', ep', ho', r'⟩ := hm
  rw [ho] at ho'; cases ho'
  exact ⟨_, es', ep', hL, r'⟩) hok hg
theorem Inv.turned {t' : Nat} {it : Addr} (I : Inv X pins σ H s) (k : ∀ b o, b ≠ it → s.heap.get? b = some o → h'.get? b = some o) (hn : H it = none) (hL : it ≠ X.env.locals)
  (h1 : it ∈ X.ex ∨ X.s₀.heap.objs.size ≤ it) (h2 : ∀ x c, X.env.cells.lookup x = some c → c ≠ it) (h3 : ∀ p ∈ X.pn ++ pins, p.1 ≠ it) : Inv X pins σ H { s with heap := h', toks := t' } := by
 have nit : ∀ b u, H b = some u → b ≠ it := fun b u e z => by rw [z, hn] at e; cases e
 refine I.step (g' := s.gens) (d' := s.drawn) (ch := [it]) (fun b hb => ?_) (fun b o _ _ hc e _ => k b o (fun z => hc (by simp [z])) e) (fun b o _ _ hc e _ => ⟨o.slots, k b o (fun z => hc (by simp [z])) e⟩) (fun _ _ _ _ n => n)
  (fun b o hc e => ⟨o, k b o (fun z => hc (by simp [z])) e⟩) (fun _ _ e => e) (fun _ _ _ e => e) (fun b ps e => ⟨#[], by rw [e]; simp⟩) (fun m hm => ?_) (fun b u e => ?_) I.bare
 ·have e : b = it := by simpa using hb
  subst e
  exact ⟨h1, hL, h2, h3⟩
 ·obtain ⟨o, es, ep, ho, r⟩ := hm
  exact ⟨o, es, ep, k _ o (Ne.symm hL) ho, r⟩
 ·refine (I.hok b u e).stay (fun c v hc q => k c v ?_ q) (fun _ q => q) fun _ _ q => q
  rcases hc with z | z
  ·rw [z]; exact nit b u e
  ·exact nit c _ z
theorem Inv.tok (I : Inv X pins σ H s) (t : Nat) : Inv X pins σ H { s with toks := t } := I.un (h' := s.heap) (t' := t) Un.refl I.hok
theorem Inv.kept {t' : Nat} (I : Inv X pins σ H s) (k : ∀ b u, s.heap.get? b = some u → h'.get? b = some u) : Inv X pins σ H { s with heap := h', toks := t' } := I.un (Un.kept k) (I.hok.kept k)
theorem Inv.laid {a : Addr} {o : HO} {t' : Nat} (I : Inv X pins σ H s) (k : ∀ b u, s.heap.get? b = some u → h'.get? b = some u) (hp : s.heap.objs.size ≤ a) (new : j9 X.prog X.w (upd H a o) h' a o) :
  Inv X pins σ (upd H a o) { s with heap := h', toks := t' } := I.un (Un.laid k hp (I.hok.fresh hp)) (I.hok.laid k hp new)
theorem Inv.write {x e : Addr} {o : HO} {t' : Nat} (I : Inv X pins σ H s) (mu : Mut (H x)) (he : e = x ∨ H e = some (.own x)) (k : ∀ b u, b ≠ e → s.heap.get? b = some u → h'.get? b = some u) (heo : ∃ u, h'.get? e = some u)
  (new : j9 X.prog X.w (upd H x o) h' x o) : Inv X pins σ (upd H x o) { s with heap := h', toks := t' } := I.un (Un.write mu he k heo) (I.hok.write mu he k heo new)
theorem Inv.pins_of {pins' : List (Addr × Obj)} (I : Inv X pins σ H s) (h : ∀ p ∈ pins', s.heap.get? p.1 = some p.2 ∧ H p.1 = none ∧ p.1 ≠ X.env.locals ∧ p.1 ∉ X.fs ∧ ∀ v, p.2.data ≠ .cell v) : Inv X pins' σ H s :=
 ⟨I.ok, I.os, I.bare, I.base, I.loc, I.cell, I.free, I.freeC, fun p hp => (List.mem_append.mp hp).elim (fun z => I.pin p (List.mem_append_left _ z)) (h p), I.hok, I.len⟩
theorem aX3 {N : List Str} (hN : N.Nodup) {i j : Nat} {x : Str} (a : N[i]? = some x) (b : N[j]? = some x) : i = j := by
 obtain ⟨h1, e1⟩ := List.getElem?_eq_some_iff.mp a
 obtain ⟨h2, e2⟩ := List.getElem?_eq_some_iff.mp b
 exact (List.getElem_inj hN).mp (e1.trans e2.symm)
theorem aL5 {M : Model} {A : Around} {E : Value → Shared → Prop} {i : Nat} {x : Str} {v : V} {u : Value} {Q : Unit → Shared → Prop} (I : Inv X pins σ H s) (hN : X.N.Nodup) (hi : X.N[i]? = some x) (hx : Loc X.env.scope x) (r : O4 v u)
  (h : ∀ s', Inv X pins (σ.set i (some v)) H s' → (∃ a, Heap.SameBut a s.heap s'.heap ∧ (a = X.env.locals ∨ X.env.cells.lookup x = some a)) → Q () s') (hf : X.fn x = true ∨ X.env.scope.names.lookup x = some .local := by first | exact .inl rfl | exact .inr rfl | assumption) : wpAny M A (storeName X.env x u) Q E s := by
 obtain ⟨m, hn, hl⟩ := id I.loc
 have hcls : (X.env.scope.kind == .class || (X.env.scope.kind == .module && X.env.locals != X.env.globals)) = false := by rw [I.ok.kind]; rfl
 have hiσ : i < σ.length := by rw [I.len]; exact (List.getElem?_eq_some_iff.mp hi).1
 have cne := I.cne
 have tracked : ∀ {a : Addr} {h' : Heap}, (∃ o, s.heap.get? a = some o ∧ H a = none) → Heap.SameBut a s.heap h' → HOk X.prog X.w H h' := fun {a h'} ha hs b ob e => by
  obtain ⟨_, _, hfree⟩ := ha
  refine (I.hok b ob e).stay (fun c w' hc q => (hs.2 c ?_).trans q) (fun _ q => q) fun _ _ q => q
  rintro rfl
  rcases hc with rfl | hc
  ·rw [hfree] at e; cases e
  ·rw [hfree] at hc; cases hc
 rcases hx with hk | hk
 ·refine wpAny_storeName_local hk hn (fun h' hn' hs => ?_) hcls
  obtain ⟨oL, _, _, hoL, _⟩ := id hn
  refine h _ ⟨I.ok, I.os, I.bare, ⟨fun b o e n hb hx => ?_, fun b o e n hb hx => ?_, I.base.free, fun b o e hx => ?_, I.base.tups, I.base.frzs, I.base.tbls⟩, ⟨_, hn', fun j y v' e1 e2 e3 => ?_⟩, fun y c e => ?_, I.free, I.freeC, fun p hp => ?_, tracked ⟨oL, hoL, I.free⟩ hs, by simpa using I.len⟩ ⟨_, hs, .inl rfl⟩
  ·exact (hs.2 b (Nat.ne_of_lt (Nat.lt_of_lt_of_le (Heap.lt_size e) I.ok.above))).trans (I.base.keep b o e n hb hx)
  ·obtain ⟨sl, e1⟩ := I.base.slot b o e n hb hx
   exact ⟨sl, (hs.2 b (Nat.ne_of_lt (Nat.lt_of_lt_of_le (Heap.lt_size e) I.ok.above))).trans e1⟩
  ·obtain ⟨o', e1⟩ := I.base.there b o e hx
   exact ⟨o', (hs.2 b (Nat.ne_of_lt (Nat.lt_of_lt_of_le (Heap.lt_size e) I.ok.above))).trans e1⟩
  ·by_cases hj : j = i
   ·subst hj
    rw [hi] at e1; cases e1
    rw [List.getElem?_set_self hiσ] at e2
    cases e2
    exact ⟨u, r, .inl ⟨hk, by simp⟩⟩
   ·rw [List.getElem?_set_ne (Ne.symm hj)] at e2
    obtain ⟨u', r', q⟩ := hl j y v' e1 e2 e3
    refine ⟨u', r', ?_⟩
    rcases q with ⟨k, e⟩ | ⟨k, c, e, z⟩
    ·refine .inl ⟨k, ?_⟩
     have : y ≠ x := fun e => hj (aX3 hN e1 (e ▸ hi))
     simp [this, e]
    ·exact .inr ⟨k, c, e, z.sameBut hs (cne y c e)⟩
  ·obtain ⟨w', z⟩ := I.cell y c e
   exact ⟨w', z.sameBut hs (cne y c e)⟩
  ·obtain ⟨e, n, ne, nf, d⟩ := I.pin p hp
   exact ⟨(hs.2 p.1 ne).trans e, n, ne, nf, d⟩
 ·have hfn : X.fn x = true := by
   rcases hf with z | z
   ·exact z
   ·rw [z] at hk; cases hk
  obtain ⟨c, hc⟩ := I.ok.has x (.inl hk)
  obtain ⟨w', z⟩ := I.cell x c hc
  refine wpAny_storeName_cell I.ok.kind hk hc z (fun h' hc' hs => ?_)
  obtain ⟨oc, hoc, hocd⟩ := id z
  refine h { s with heap := h' } ⟨I.ok, I.os, I.bare, ⟨fun b o e n hb hx => ?_, fun b o e n hb hx => ?_, I.base.free, fun b o e hx => ?_, I.base.tups, I.base.frzs, I.base.tbls⟩, ⟨m, hn.sameBut hs (Ne.symm (cne x c hc)), fun j y v' e1 e2 e3 => ?_⟩, fun y c' e => ?_, I.free, I.freeC, fun p hp => ?_, tracked ⟨oc, hoc, I.freeC x c hc⟩ hs, by simpa using I.len⟩ ⟨c, hs, .inr hc⟩
  ·exact (hs.2 b (Nat.ne_of_lt (Nat.lt_of_lt_of_le (Heap.lt_size e) (I.ok.cab x c hfn hc)))).trans (I.base.keep b o e n hb hx)
  ·obtain ⟨sl, e1⟩ := I.base.slot b o e n hb hx
   exact ⟨sl, (hs.2 b (Nat.ne_of_lt (Nat.lt_of_lt_of_le (Heap.lt_size e) (I.ok.cab x c hfn hc)))).trans e1⟩
  ·obtain ⟨o', e1⟩ := I.base.there b o e hx
   exact ⟨o', (hs.2 b (Nat.ne_of_lt (Nat.lt_of_lt_of_le (Heap.lt_size e) (I.ok.cab x c hfn hc)))).trans e1⟩
  ·by_cases hj : j = i
   ·subst hj
    rw [hi] at e1; cases e1
    rw [List.getElem?_set_self hiσ] at e2
    cases e2
    exact ⟨u, r, .inr ⟨.inl hk, c, hc, hc'⟩⟩
   ·rw [List.getElem?_set_ne (Ne.symm hj)] at e2
    obtain ⟨u', r', q⟩ := hl j y v' e1 e2 e3
    refine ⟨u', r', ?_⟩
    rcases q with q | ⟨k, c', e, z'⟩
    ·exact .inl q
    ·refine .inr ⟨k, c', e, z'.sameBut hs ?_⟩
     rintro rfl
     exact hj (aX3 hN e1 (I.ok.inj _ _ _ e hc ▸ hi))
  ·by_cases hcc : c' = c
   ·subst hcc; exact ⟨_, hc'⟩
   ·obtain ⟨w2, z2⟩ := I.cell y c' e
    exact ⟨w2, z2.sameBut hs hcc⟩
  ·obtain ⟨e, n, ne, nf, d⟩ := I.pin p hp
   refine ⟨(hs.2 p.1 ?_).trans e, n, ne, nf, d⟩
   intro q
   rw [q, hoc] at e
   have q' : oc = p.2 := Option.some.inj e
   exact d w' (by rw [← q']; exact hocd)
theorem ap8 {M : Model} {A : Around} {E : Value → Shared → Prop} {i : Nat} {x : Str} {v : V} {u : Value} {Q : Unit → Shared → Prop} (I : Inv X pins σ H s) (hN : X.N.Nodup) (hi : X.N[i]? = some x) (hx : Loc X.env.scope x) (r : O4 v u)
  (h : ∀ s', Inv X pins (σ.set i (some v)) H s' → Q () s') (hf : X.fn x = true ∨ X.env.scope.names.lookup x = some .local := by first | exact .inl rfl | exact .inr rfl | assumption) : wpAny M A (storeName X.env x u) Q E s :=
 aL5 I hN hi hx r (fun s' I' _ => h s' I') hf
theorem Inv.call' {s' : Shared} {ch : List Addr} (I : Inv X pins σ H s) (ho : s'.os = s.os) (u : Un (frs X.stack) ch H H' s.heap s'.heap) (hok : HOk X.prog X.w H' s'.heap) (hg : AllBare s'.gens)
  (hch : ∀ b ∈ ch, (b ∈ X.ex ∨ X.s₀.heap.objs.size ≤ b) ∧ b ≠ X.env.locals ∧ (∀ x c, X.env.cells.lookup x = some c → c ≠ b) ∧ ∀ p ∈ X.pn ++ pins, p.1 ≠ b) : Inv X pins σ H' s' := by
 obtain ⟨h', g', d', t', o'⟩ := s'
 have e : o' = s.os := ho
 subst e
 exact I.call (g' := g') (t' := t') (d' := d') u hok hg hch
end
noncomputable abbrev XK := Value → Option Addr → Hp → Prop
noncomputable abbrev St := List (Option V)
noncomputable abbrev VK := V → Hp → Prop
noncomputable abbrev TE := St → Hp → VK → Prop
noncomputable abbrev TT := St → Hp → (Bool → Hp → Prop) → Prop
noncomputable abbrev TA := St → Hp → (List V → Hp → Prop) → Prop
structure Ends where
 nx : St → Hp → Prop
 rt : VK
 bk : St → Hp → Prop := fun _ _ => False
 ct : St → Hp → Prop := fun _ _ => False
noncomputable abbrev TS := Ends → St → Hp → Prop
noncomputable def EP (X : Cx) (pins : List (Addr × Obj)) (σ : St) (Q : VK) (u : Value) (s' : Shared) : Prop := ∃ v H', Inv X pins σ H' s' ∧ O4 v u ∧ Q v H'
noncomputable def TP (X : Cx) (pins : List (Addr × Obj)) (σ : St) (Q : Bool → Hp → Prop) (b : Bool) (s' : Shared) : Prop := ∃ H', Inv X pins σ H' s' ∧ Q b H'
noncomputable def AP (X : Cx) (pins : List (Addr × Obj)) (σ : St) (Q : List V → Hp → Prop) (us : List Value) (s' : Shared) : Prop := ∃ vs H', Inv X pins σ H' s' ∧ L7 vs us ∧ Q vs H'
noncomputable def SP (X : Cx) (pins : List (Addr × Obj)) (D : Ends) (f : Flow) (s' : Shared) : Prop :=
 match f with
 | .next => ∃ σ' H', Inv X pins σ' H' s' ∧ D.nx σ' H'
 | .brk => ∃ σ' H', Inv X pins σ' H' s' ∧ D.bk σ' H'
 | .cont => ∃ σ' H', Inv X pins σ' H' s' ∧ D.ct σ' H'
 | .ret u => ∃ v σ' H', Inv X pins σ' H' s' ∧ O4 v u ∧ D.rt v H'
noncomputable def PE (X : Cx) (e : Expr) (t : TE) : Prop :=
 ∀ (pins : List (Addr × Obj)) (s : Shared) (σ : St) (H : Hp) (Q : VK), Inv X pins σ H s → t σ H Q → wpAny (model X.prog X.w) X.A (eval e X.env) (EP X pins σ Q) X.xe s
noncomputable def PT (X : Cx) (e : Expr) (t : TT) : Prop :=
 ∀ (pins : List (Addr × Obj)) (s : Shared) (σ : St) (H : Hp) (Q : Bool → Hp → Prop), Inv X pins σ H s → t σ H Q → wpAny (model X.prog X.w) X.A (isTrue e X.env (eval e X.env)) (TP X pins σ Q) X.xe s
noncomputable def PW (X : Cx) (e : Expr) (t : TT) : Prop :=
 ∀ (whole : Sem Value) (pins : List (Addr × Obj)) (s : Shared) (σ : St) (H : Hp) (Q : Bool → Hp → Prop), Inv X pins σ H s → t σ H Q → wpAny (model X.prog X.w) X.A (isTrue e X.env whole) (TP X pins σ Q) X.xe s
theorem PW.pt {X : Cx} {e : Expr} {t : TT} (h : PW X e t) : PT X e t := h _
noncomputable def PA (X : Cx) (es : List Expr) (t : TA) : Prop :=
 ∀ (pos : Pos) (pins : List (Addr × Obj)) (s : Shared) (σ : St) (H : Hp) (Q : List V → Hp → Prop), Inv X pins σ H s → t σ H Q → wpAny (model X.prog X.w) X.A (spliced (backTo pos (starEach es X.env))) (AP X pins σ Q) X.xe s
noncomputable def PS (X : Cx) (st : Stmt) (t : TS) : Prop :=
 ∀ (pins : List (Addr × Obj)) (s : Shared) (σ : St) (H : Hp) (D : Ends), Inv X pins σ H s → t D σ H → wpAny (model X.prog X.w) X.A (exec st X.env) (SP X pins D) X.xe s
noncomputable def PSs (X : Cx) (st : List Stmt) (t : TS) : Prop :=
 ∀ (pins : List (Addr × Obj)) (s : Shared) (σ : St) (H : Hp) (D : Ends), Inv X pins σ H s → t D σ H → wpAny (model X.prog X.w) X.A (execs st X.env) (SP X pins D) X.xe s
theorem thn {α : Type} {t : Sem α} {Q Q' : α → Shared → Prop} {M : Model} {A : Around} {E : Value → Shared → Prop} {s : Shared} (h : wpAny M A t Q E s) (hQ : ∀ a s, Q a s → Q' a s) : wpAny M A t Q' E s := wpAny_mono h hQ fun _ _ x => x
end L2
namespace L2
open PySem PySem.Spec PyProof.Rows
section
variable {X : Cx}
theorem bin {a b : Expr} {ta tb : TE} (ha : PE X a ta) (hb : PE X b tb) {pins : List (Addr × Obj)} {s : Shared} {σ : St} {H : Hp} {R : V → V → Hp → Prop} (I : Inv X pins σ H s) (h : ta σ H fun x H1 => tb σ H1 fun y H2 => R x y H2)
  {α : Type} {Q : α → Shared → Prop} {f : Value → Value → Sem α}
  (hf : ∀ v u s2 x y H2, Inv X pins σ H2 s2 → O4 x v → O4 y u → R x y H2 → wpAny (model X.prog X.w) X.A (f v u) Q X.xe s2) :
  wpAny (model X.prog X.w) X.A (eval a X.env) (fun v s₁ => wpAny (model X.prog X.w) X.A (eval b X.env) (fun u s₂ => wpAny (model X.prog X.w) X.A (f v u) Q X.xe s₂) X.xe s₁) X.xe s := by
 refine thn (ha pins s σ H _ I h) fun v s1 ⟨x, H1, I1, r1, q1⟩ => ?_
 refine thn (hb pins s1 σ H1 _ I1 q1) fun u s2 ⟨y, H2, I2, r2, q2⟩ => ?_
 exact hf v u s2 x y H2 I2 r1 r2 q2
noncomputable def cC8 (i : Nat) : TE := fun σ H Q => ∃ v, σ[i]? = some (some v) ∧ Q v H
noncomputable def tC (v : V) : TE := fun _ H Q => Q v H
theorem ao3 {i : Nat} {x : Str} {pos : Pos} (hN : X.N[i]? = some x) (hv : Vis X.env.scope x) (hd : (x == ("__debug__" : Str)) = false := by decide) (hcd : (x == ("__classdict__" : Str)) = false := by decide) : PE X (.Name x pos) (cC8 i) := by
 intro pins s σ H Q I h
 obtain ⟨v, e, h⟩ := h
 obtain ⟨m, hn, hl⟩ := I.loc
 obtain ⟨u, r, l⟩ := hl i x v hN e hv
 have fin : EP X pins σ Q u s := ⟨v, H, I, r, h⟩
 rcases l with ⟨hk, hm⟩ | ⟨hk, c, hc, hcell⟩
 ·exact wpAny_Name (wpAny_loadName_local I.ok.kind hk hn hm fin) hd
 ·rcases hk with hk | hk
  ·exact wpAny_Name (wpAny_loadName_cell I.ok.kind hk hc hcell fin) hd
  ·exact wpAny_Name (wpAny_loadName_free I.ok.kind hk hc hcell fin hcd) hd
theorem cr1 {i j pos} : PE X (.Constant (.int i) j pos) (tC (.int i)) := fun _ _ _ H _ I h => wpAny_Constant_int ⟨.int i, H, I.tok _, ⟨_, rfl⟩, h⟩
theorem cE6 {b j pos} : PE X (.Constant (.bool b) j pos) (tC (.bl b)) := fun _ _ _ H _ I h => Constant_bool ⟨.bl b, H, I, rfl, h⟩
theorem cq9 {j pos} : PE X (.Constant .none j pos) (tC .non) := fun _ _ _ H _ I h => Constant_none ⟨.non, H, I, rfl, h⟩
theorem cq5 {x j pos} : PE X (.Constant (.str x) j pos) (tC (.str x)) := fun _ _ _ H _ I h => Calls.Constant_str ⟨.str x, H, I.tok _, ⟨_, rfl⟩, h⟩
noncomputable def Gl (X : Cx) (x : Str) : Prop := X.env.kindOf x = some .globalImplicit
theorem aR9 {E : Value → Shared → Prop} {pins : List (Addr × Obj)} {s : Shared} {σ : St} {H : Hp} {x : Str} {u : Value} {pos : Pos} {Q : Value → Shared → Prop} (I : Inv X pins σ H s) (hg : Gl X x) (hm : X.mg x = some u) (h : Q u s)
  (hd : (x == ("__debug__" : Str)) = false := by decide) : wpAny (model X.prog X.w) X.A (eval (.Name x pos) X.env) Q E s :=
 Calls.Name_function_global I.ok.kind hg (Calls.loadGlobal_global (by rw [I.ok.glob]; exact I.mod.glob.keeps I.bk) hm h) hd
theorem ao6 {E : Value → Shared → Prop} {pins : List (Addr × Obj)} {s : Shared} {σ : St} {H : Hp} {x : Str} {u : Value} {pos : Pos} {Q : Value → Shared → Prop} (I : Inv X pins σ H s) (hg : Gl X x) (hm : X.mg x = none) (hv : bootBuiltins x = some u) (h : Q u s)
  (hn : x ≠ "__name__" := by decide) (hd : (x == ("__debug__" : Str)) = false := by decide) : wpAny (model X.prog X.w) X.A (eval (.Name x pos) X.env) Q E s := by
 obtain ⟨mb, h1, h2⟩ := I.mod.blt
 exact Calls.Name_function_global I.ok.kind hg (Calls.loadGlobal_builtin (by rw [I.ok.glob]; exact I.mod.glob.keeps I.bk) hm (by rw [I.ok.blt]; exact h1.keeps I.bk) ((h2 x hn).trans hv) h) hd
theorem bW9 {x : Str} {v : V} {u : Value} {pos : Pos} (hg : Gl X x) (hm : X.mg x = some u) (r : O4 v u) (hd : (x == ("__debug__" : Str)) = false := by decide) : PE X (.Name x pos) (tC v) :=
 fun _ _ _ H _ I h => aR9 I hg hm ⟨v, H, I, r, h⟩ hd
theorem bX2 {x : Str} {v : V} {u : Value} {pos : Pos} (hg : Gl X x) (hm : X.mg x = none) (hv : bootBuiltins x = some u) (r : O4 v u) (hn : x ≠ "__name__" := by decide) (hd : (x == ("__debug__" : Str)) = false := by decide) : PE X (.Name x pos) (tC v) :=
 fun _ _ _ H _ I h => ao6 I hg hm hv ⟨v, H, I, r, h⟩ hn hd
variable {a b : Expr} {ta tb : TE} {pos : Pos}
variable {tA tB' : TT} {W0 : List Expr}
noncomputable def cK7 (t u : TT) : TT := fun σ H Q => t σ H fun c H1 => if c = true then u σ H1 Q else Q false H1
noncomputable def tOr (t u : TT) : TT := fun σ H Q => t σ H fun c H1 => if c = true then Q true H1 else u σ H1 Q
noncomputable def cK3 (t : TT) : TT := fun σ H Q => t σ H fun c H1 => Q (!c) H1
theorem bV7 (ha : PT X a tA) : PW X (.BoolOp .And [a] pos) tA := by
 intro wh pins s σ H Q I h
 refine isTrue_and (thn (ha pins s σ H Q I h) fun c s1 e => ?_)
 cases c with
 | true => exact isTrue_and_nil e
 | false => exact e
theorem cp4 (ha : PT X a tA) : PW X (.BoolOp .Or [a] pos) tA := by
 intro wh pins s σ H Q I h
 refine isTrue_or (thn (ha pins s σ H Q I h) fun c s1 e => ?_)
 cases c with
 | false => exact isTrue_or_nil e
 | true => exact e
theorem bG5 (ha : PT X a tA) (hb : PW X (.BoolOp .And (b :: W0) pos) tB') : PW X (.BoolOp .And (a :: b :: W0) pos) (cK7 tA tB') := by
 intro wh pins s σ H Q I h
 refine isTrue_and (thn (ha pins s σ H _ I h) fun c s1 ⟨H1, I1, q1⟩ => ?_)
 cases c with
 | true => exact hb wh pins s1 σ H1 Q I1 q1
 | false => exact ⟨H1, I1, q1⟩
theorem cf6 (ha : PT X a tA) (hb : PW X (.BoolOp .Or (b :: W0) pos) tB') : PW X (.BoolOp .Or (a :: b :: W0) pos) (tOr tA tB') := by
 intro wh pins s σ H Q I h
 refine isTrue_or (thn (ha pins s σ H _ I h) fun c s1 ⟨H1, I1, q1⟩ => ?_)
 cases c with
 | true => exact ⟨H1, I1, q1⟩
 | false => exact hb wh pins s1 σ H1 Q I1 q1
theorem cp5 (ha : PT X a tA) : PT X (.UnaryOp .Not a pos) (cK3 tA) := by
 intro pins s σ H Q I h
 exact isTrue_not (ha pins s σ H (fun c H1 => Q (!c) H1) I h)
noncomputable def cD6 (ta tb : TE) : TE := fun σ H Q => ta σ H fun x H1 => ∃ c, x = .bl c ∧ if c = true then tb σ H1 Q else Q (.bl false) H1
noncomputable def cK2 (ta tb : TE) : TE := fun σ H Q => ta σ H fun x H1 => ∃ c, x = .bl c ∧ if c = true then Q (.bl true) H1 else tb σ H1 Q
noncomputable def cD0 (ta : TE) : TE := fun σ H Q => ta σ H fun x H1 => ∃ c, x = .bl c ∧ Q (.bl (!c)) H1
theorem cq7 {op} {t : TE} (h : PE X a t) : PE X (.BoolOp op [a] pos) t := fun pins s σ H Q I hw => BoolOp_one (h pins s σ H Q I hw)
theorem bH6 (ha : PE X a ta) (hb : PE X (.BoolOp .And (b :: W0) pos) tb) : PE X (.BoolOp .And (a :: b :: W0) pos) (cD6 ta tb) := by
 intro pins s σ H Q I h
 refine BoolOp_and (thn (ha pins s σ H _ I h) fun v s1 ⟨x, H1, I1, r1, q1⟩ => ?_)
 obtain ⟨c, rfl, q1⟩ := q1
 cases r1
 refine wpAny_truthy_bool ?_
 cases c with
 | true => exact hb pins s1 σ H1 Q I1 q1
 | false => exact ⟨.bl false, H1, I1, rfl, q1⟩
theorem cf9 (ha : PE X a ta) (hb : PE X (.BoolOp .Or (b :: W0) pos) tb) : PE X (.BoolOp .Or (a :: b :: W0) pos) (cK2 ta tb) := by
 intro pins s σ H Q I h
 refine BoolOp_or (thn (ha pins s σ H _ I h) fun v s1 ⟨x, H1, I1, r1, q1⟩ => ?_)
 obtain ⟨c, rfl, q1⟩ := q1
 cases r1
 refine wpAny_truthy_bool ?_
 cases c with
 | false => exact hb pins s1 σ H1 Q I1 q1
 | true => exact ⟨.bl true, H1, I1, rfl, q1⟩
theorem cq8 (ha : PE X a ta) : PE X (.UnaryOp .Not a pos) (cD0 ta) := by
 intro pins s σ H Q I h
 refine UnaryOp_ (thn (ha pins s σ H _ I h) fun v s1 ⟨x, H1, I1, r1, q1⟩ => ?_)
 obtain ⟨c, rfl, q1⟩ := q1
 cases r1
 exact not_of (wpAny_truthy_bool ⟨.bl (!c), H1, I1, rfl, q1⟩)
noncomputable def tIf (t : TT) (ta tb : TE) : TE := fun σ H Q => t σ H fun c H1 => if c = true then ta σ H1 Q else tb σ H1 Q
theorem aW4 {c : Expr} (hc : PT X c tA) (ha : PE X a ta) (hb : PE X b tb) : PE X (.IfExp c a b pos) (tIf tA ta tb) := by
 intro pins s σ H Q I h
 refine wpAny_IfExp (thn (hc pins s σ H _ I h) fun d s1 ⟨H1, I1, q1⟩ => ?_)
 cases d with
 | true => exact ha pins s1 σ H1 Q I1 q1
 | false => exact hb pins s1 σ H1 Q I1 q1
end
end L2
namespace L2
open PySem PySem.Spec PyProof.Rows
noncomputable def SqL (K : PySem.W.Frag) (H : Hp) (a : Addr) (xs : List V) : Prop :=
 Rd H a (.lst xs) ∨
  ∃ (o : Obj) (its : Array Value) (n : Nat), K.lookup a = some o ∧ o.cls = .type "list" ∧ o.dict = none ∧ o.data = .seq its n ∧ its.size ≤ sizeLine ∧ L7 xs its.toList
noncomputable def SqT (K : PySem.W.Frag) (H : Hp) (a : Addr) (xs : List V) : Prop :=
 Rd H a (.tup xs) ∨
  ∃ (o : Obj) (its : Array Value) (n : Nat), K.lookup a = some o ∧ o.cls = .type "tuple" ∧ o.data = .seq its n ∧ its.size ≤ sizeLine ∧ L7 xs its.toList
noncomputable def cM5 : Value → Option V
 | .none => some .non
 | .bool b => some (.bl b)
 | .int i _ => some (.int i)
 | .str x _ => some (.str x)
 | .bytes b _ => some (.byt b)
 | .float b _ => some (.flt b)
 | .ref a => some (.ref a)
 | .type n => some (.ty n)
 | _ => none
theorem O4.abs {x : V} {u : Value} (r : O4 x u) : cM5 u = some x := by
 cases x with
 | non => cases r; rfl
 | bl _ => cases r; rfl
 | int _ => obtain ⟨t, rfl⟩ := r; rfl
 | str _ => obtain ⟨t, rfl⟩ := r; rfl
 | byt _ => obtain ⟨t, rfl⟩ := r; rfl
 | flt _ => obtain ⟨t, rfl⟩ := r; rfl
 | ref _ => cases r; rfl
 | ty _ => cases r; rfl
theorem O4.inj {x y : V} {u : Value} (r : O4 x u) (q : O4 y u) : x = y := Option.some.inj (r.abs.symm.trans q.abs)
theorem L7.inj : ∀ {xs ys : List V} {us : List Value}, L7 xs us → L7 ys us → xs = ys
 | _, _, _, .nil, .nil => rfl
 | _, _, _, .cons r t, .cons r' t' => by rw [r.inj r', L7.inj t t']
section
variable {X : Cx} {pins : List (Addr × Obj)} {σ : St} {H : Hp} {s : Shared} {a : Addr} {xs ys : List V}
theorem SqL.of {K : PySem.W.Frag} (h : H a = some (.lst xs)) : SqL K H a xs := .inl (.inl h)
theorem SqT.of {K : PySem.W.Frag} (h : H a = some (.tup xs)) : SqT K H a xs := .inl (.inl h)
theorem Inv.list (I : Inv X pins σ H s) (h : SqL X.K H a xs) : ∃ its : List Value, L7 xs its ∧ PlainL s.heap a its.toArray ∧ xs.length ≤ sizeLine := by
 rcases h with h | ⟨o, its, n, hk, hc, hd, hs, hz, r⟩
 ·obtain ⟨z, its, n, r, e⟩ := h.ok I.hok
  exact ⟨its, r, ⟨_, n, e, rfl, rfl, rfl⟩, z⟩
 ·refine ⟨its.toList, r, ⟨o, n, I.kIn a o hk, hc, hd, by simpa using hs⟩, ?_⟩
  have e := r.length
  simp only [Array.length_toList] at e
  omega
theorem Inv.tuple (I : Inv X pins σ H s) (h : SqT X.K H a xs) : ∃ its : List Value, L7 xs its ∧ IsTup s.heap a its.toArray ∧ xs.length ≤ sizeLine := by
 rcases h with h | ⟨o, its, n, hk, hc, hs, hz, r⟩
 ·obtain ⟨z, its, r, p⟩ := h.ok I.hok
  exact ⟨its, r, p, z⟩
 ·refine ⟨its.toList, r, ⟨o, I.kIn a o hk, hc, n, by simpa using hs⟩, ?_⟩
  have e := r.length
  simp only [Array.length_toList] at e
  omega
theorem Inv.list_inj (I : Inv X pins σ H s) (h : SqL X.K H a xs) (h' : SqL X.K H a ys) : xs = ys := by
 obtain ⟨its, r, ⟨o, n, e, _, _, d⟩, _⟩ := I.list h
 obtain ⟨its', r', ⟨o', n', e', _, _, d'⟩, _⟩ := I.list h'
 rw [e] at e'; cases e'
 rw [d] at d'
 injection d' with d1 _
 have : its = its' := by simpa using congrArg Array.toList d1
 subst this
 exact r.inj r'
theorem Inv.tuple_inj (I : Inv X pins σ H s) (h : SqT X.K H a xs) (h' : SqT X.K H a ys) : xs = ys := by
 obtain ⟨its, r, ⟨o, e, _, n, d⟩, _⟩ := I.tuple h
 obtain ⟨its', r', ⟨o', e', _, n', d'⟩, _⟩ := I.tuple h'
 rw [e] at e'; cases e'
 rw [d] at d'
 injection d' with d1 _
 have : its = its' := by simpa using congrArg Array.toList d1
 subst this
 exact r.inj r'
end
noncomputable abbrev Cx.wish (X : Cx) (E : Value → Shared → Prop) : Cx := { X with xe := E }
noncomputable abbrev Cx.nox (X : Cx) : Cx := X.wish fun _ _ => False
theorem Cx.Ok.wish {X : Cx} (ok : X.Ok) (E : Value → Shared → Prop) : (X.wish E).Ok :=
 ⟨ok.mod, ok.kind, ok.glob, ok.blt, ok.above, ok.inj, ok.has, ok.cab, ok.hd, ok.frames, ok.stk, ok.exf, ok.bs, ok.bsz, ok.noex, ok.exfs, ok.funs, ok.frf⟩
theorem Cx.Ok.unwish {X : Cx} {E : Value → Shared → Prop} (ok : (X.wish E).Ok) : X.Ok :=
 ⟨ok.mod, ok.kind, ok.glob, ok.blt, ok.above, ok.inj, ok.has, ok.cab, ok.hd, ok.frames, ok.stk, ok.exf, ok.bs, ok.bsz, ok.noex, ok.exfs, ok.funs, ok.frf⟩
section
variable {X : Cx} {pins : List (Addr × Obj)} {σ : St} {H : Hp} {s : Shared} {E : Value → Shared → Prop}
theorem Inv.wish (I : Inv X pins σ H s) (E : Value → Shared → Prop) : Inv (X.wish E) pins σ H s := ⟨I.ok.wish E, I.os, I.bare, I.base, I.loc, I.cell, I.free, I.freeC, I.pin, I.hok, I.len⟩
theorem Inv.unwish (I : Inv (X.wish E) pins σ H s) : Inv X pins σ H s := ⟨I.ok.unwish, I.os, I.bare, I.base, I.loc, I.cell, I.free, I.freeC, I.pin, I.hok, I.len⟩
theorem SP.unwish {D : Ends} {f : Flow} {s' : Shared} (h : SP (X.wish E) pins D f s') : SP X pins D f s' := by
 cases f with
 | next => obtain ⟨σ', H', I, q⟩ := h; exact ⟨σ', H', I.unwish, q⟩
 | brk => obtain ⟨σ', H', I, q⟩ := h; exact ⟨σ', H', I.unwish, q⟩
 | cont => obtain ⟨σ', H', I, q⟩ := h; exact ⟨σ', H', I.unwish, q⟩
 | ret u => obtain ⟨v, σ', H', I, r, q⟩ := h; exact ⟨v, σ', H', I.unwish, r, q⟩
theorem PSs.nox {st : List Stmt} {t : TS} (h : PSs X.nox st t) : PSs X st t := fun pins s σ H D I hw =>
 wpAny_mono (h pins s σ H D (I.wish _) hw) (fun _ _ q => q.unwish) fun _ _ z => False.elim z
end
section
variable {X : Cx} {st : Stmt} {W0 : List Stmt} {t u : TS} {e : Expr} {te : TE} {pos : Pos}
noncomputable def cf2 : TS := fun D σ H => D.nx σ H
noncomputable def cJ9 (t u : TS) : TS := fun D σ H => t { D with nx := u D } σ H
theorem bW2 : PSs X [] cf2 := fun _ _ σ H _ I h => wpAny_execs_nil ⟨σ, H, I, h⟩
theorem aq4 (h1 : PS X st t) (h2 : PSs X W0 u) : PSs X (st :: W0) (cJ9 t u) := by
 intro pins s σ H D I h
 refine wpAny_execs_cons (thn (h1 pins s σ H { D with nx := u D } I h) fun f s1 q => ?_)
 cases f with
 | next =>
  obtain ⟨σ', H', I', q⟩ := q
  exact h2 pins s1 σ' H' D I' q
 | ret v => exact q
 | brk => exact q
 | cont => exact q
theorem bW1 (h1 : PS X st t) : PSs X [st] t := by
 intro pins s σ H D I h
 refine wpAny_execs_cons (thn (h1 pins s σ H D I h) fun f s1 q => ?_)
 cases f with
 | next => exact wpAny_execs_nil q
 | ret v => exact q
 | brk => exact q
 | cont => exact q
noncomputable def co9 : TS := fun D σ H => D.bk σ H
noncomputable def cD3 : TS := fun D σ H => D.ct σ H
theorem bW3 : PS X (.Pass pos) cf2 := fun _ _ σ H _ I h => wpAny_Pass ⟨σ, H, I, h⟩
theorem bG9 : PS X (.Break pos) co9 := fun _ _ σ H _ I h => wpAny_Break ⟨σ, H, I, h⟩
theorem aW2 : PS X (.Continue pos) cD3 := fun _ _ σ H _ I h => wpAny_Continue ⟨σ, H, I, h⟩
theorem Inv.quiet {pins : List (Addr × Obj)} {σ : St} {H : Hp} {s : Shared} (I : Inv X pins σ H s) : interactive X.env = false := by simp [interactive, I.ok.kind]
noncomputable def cD2 (te : TE) : TS := fun D σ H => te σ H fun _ H1 => D.nx σ H1
theorem aQ4 (he : PE X e te) (hs : swapsWith e none pos.line X.env = pure false := by rfl) : PS X (.Expr e pos) (cD2 te) := by
 intro pins s σ H D I h
 exact wpAny_Expr_any (thn (he pins s σ H _ I h) fun v s1 ⟨x, H1, I1, r1, q1⟩ => ⟨σ, H1, I1, q1⟩) I.quiet hs
noncomputable def cK0 (te : TE) : TS := fun D σ H => te σ H D.rt
theorem cp7 (he : PE X e te) : PS X (.Return (some e) pos) (cK0 te) := by
 intro pins s σ H D I h
 exact wpAny_Return_some (thn (he pins s σ H _ I h) fun v s1 ⟨x, H1, I1, r1, q1⟩ => ⟨x, σ, H1, I1, r1, q1⟩)
noncomputable def cK5 (c : TT) (t u : TS) : TS := fun D σ H => c σ H fun b H1 => if b = true then t D σ H1 else u D σ H1
theorem cf7 {c : Expr} {a b : List Stmt} {tc : TT} (hc : PT X c tc) (ha : PSs X a t) (hb : PSs X b u) : PS X (.If c a b pos) (cK5 tc t u) := by
 intro pins s σ H D I h
 refine wpAny_If (thn (hc pins s σ H _ I h) fun d s1 ⟨H1, I1, q1⟩ => ?_)
 cases d with
 | true => exact ha pins s1 σ H1 D I1 q1
 | false => exact hb pins s1 σ H1 D I1 q1
noncomputable def co8 : TS := fun _ _ _ => False
theorem y6 {sts : List Stmt} : PSs X sts co8 := fun _ _ _ _ _ _ h => h.elim
end
noncomputable abbrev TG := V → St → Hp → (St → Hp → Prop) → Prop
noncomputable abbrev TGs := List V → St → Hp → (St → Hp → Prop) → Prop
noncomputable def PG (X : Cx) (target : Expr) (t : TG) : Prop :=
 ∀ (pins : List (Addr × Obj)) (s : Shared) (σ : St) (H : Hp) (v : V) (u : Value) (Q : St → Hp → Prop), Inv X pins σ H s → O4 v u → t v σ H Q →
  wpAny (model X.prog X.w) X.A (assign target X.env u) (fun _ s' => ∃ σ' H', Inv X pins σ' H' s' ∧ Q σ' H') X.xe s
noncomputable def PGs (X : Cx) (ts : List Expr) (t : TGs) : Prop :=
 ∀ (pins : List (Addr × Obj)) (s : Shared) (σ : St) (H : Hp) (vs : List V) (us : List Value) (Q : St → Hp → Prop), Inv X pins σ H s → L7 vs us → t vs σ H Q →
  wpAny (model X.prog X.w) X.A (assignInOrder ((assignEach ts X.env).map (·.2)) us) (fun _ s' => ∃ σ' H', Inv X pins σ' H' s' ∧ Q σ' H') X.xe s
section
variable {X : Cx} {pos : Pos}
noncomputable def ch4 (i : Nat) : TG := fun v σ H Q => Q (σ.set i (some v)) H
theorem bW8 {i : Nat} {x : Str} (hN : X.N.Nodup) (hi : X.N[i]? = some x) (hx : Loc X.env.scope x) (hf : X.fn x = true ∨ X.env.scope.names.lookup x = some .local := by first | exact .inl rfl | exact .inr rfl | assumption) : PG X (.Name x pos) (ch4 i) := by
 intro pins s σ H v u Q I r h
 exact wpAny_assign_Name (ap8 I hN hi hx r (fun s' I' => ⟨_, H, I', h⟩) hf)
noncomputable def cM0 : TGs := fun vs σ H Q => vs = [] ∧ Q σ H
noncomputable def cI0 (t : TG) (u : TGs) : TGs := fun vs σ H Q => ∃ v r, vs = v :: r ∧ t v σ H fun σ' H' => u r σ' H' Q
theorem bW7 : PGs X [] cM0 := by
 intro pins s σ H vs us Q I r h
 obtain ⟨e, h⟩ := h
 subst e
 cases r
 exact assignInOrder_nil ⟨σ, H, I, h⟩
theorem bH4 {e : Expr} {es : List Expr} {t : TG} {u : TGs} (h1 : PG X e t) (h2 : PGs X es u)
  (hs : (assignEach (e :: es) X.env).map (·.2) = assign e X.env :: (assignEach es X.env).map (·.2) := by rfl) : PGs X (e :: es) (cI0 t u) := by
 intro pins s σ H vs us Q I r h
 obtain ⟨v, vr, e1, h⟩ := h
 subst e1
 cases r with
 | cons r rr =>
  rw [hs]
  refine assignInOrder_cons (thn (h1 pins s σ H _ _ _ I r h) fun _ s1 ⟨σ1, H1, I1, q1⟩ => ?_)
  exact h2 pins s1 σ1 H1 _ _ Q I1 rr q1
noncomputable def cL9 (K : PySem.W.Frag) (n : Nat) (t : TGs) : TG := fun v σ H Q => ∃ a xs, v = .ref a ∧ SqT K H a xs ∧ xs.length = n ∧ t xs σ H Q
theorem cq3 {es : List Expr} {k : Nat} {t : TGs} {n : Nat} (hc : X.calm = true) (h : PGs X es t)
  (hn : (assignEach es X.env).length = n := by rfl) (hst : (assignEach es X.env).findIdx? (·.1) = none := by rfl) : PG X (.Tuple es k pos) (cL9 X.K n t) := by
 intro pins s σ H v u Q I r hw
 obtain ⟨a, xs, e1, hq, hl, hw⟩ := hw
 subst e1
 cases r
 obtain ⟨its, rv, ht, hz⟩ := I.tuple hq
 refine assign_Tuple_tuple (I.ok.hd hc) ht (by simp [hn, ← hl, rv.length]) hst fun h' hx => ?_
 have I1 : Inv X pins σ H { s with heap := h' } := I.kept (t' := s.toks) fun b o e => hx b o (Nat.ne_of_lt (Heap.lt_size e)) e
 exact h pins _ σ H xs _ Q I1 (by simpa using rv) hw
noncomputable def cD5 (te : TE) (g : TG) : TS := fun D σ H => te σ H fun x H1 => g x σ H1 D.nx
theorem cq0 {tg e : Expr} {te : TE} {g : TG} (he : PE X e te) (hg : PG X tg g) (hs : swapsWithSole [tg] e pos.line X.env = pure false := by rfl) (hw : swappedStores [tg] e X.env = pure none := by rfl)
  (h1 : (assignEach [tg] X.env).map (·.2) = [assign tg X.env] := by rfl) : PS X (.Assign [tg] e pos) (cD5 te g) := by
 intro pins s σ H D I h
 refine wpAny_Assign_stores (thn (he pins s σ H _ I h) fun v s1 ⟨x, H1, I1, r1, q1⟩ => ?_) hs hw
 rw [h1]
 exact thn (hg pins s1 σ H1 x v _ I1 r1 q1) fun _ s2 q => q
theorem bG8 {i : Nat} {x : Str} {e : Expr} {te : TE} {pos' : Pos} (hN : X.N.Nodup) (hi : X.N[i]? = some x) (hx : Loc X.env.scope x) (he : PE X e te) (hs : swapsWith e (some (.Name x pos')) pos.line X.env = pure false := by rfl) (hf : X.fn x = true ∨ X.env.scope.names.lookup x = some .local := by first | exact .inl rfl | exact .inr rfl | assumption) :
  PS X (.Assign [.Name x pos'] e pos) (cD5 te (ch4 i)) := by
 intro pins s σ H D I h
 refine wpAny_Assign_Name (thn (he pins s σ H _ I h) fun v s1 ⟨y, H1, I1, r1, q1⟩ => ?_) hs
 exact ap8 I1 hN hi hx r1 (fun s2 I2 => ⟨_, H1, I2, q1⟩) hf
noncomputable def cK1 (i j : Nat) (ta : TA) : TS := fun D σ H => ta σ H fun vs H1 => ∃ v w, vs = [v, w] ∧ D.nx ((σ.set i (some v)).set j (some w)) H1
theorem cp8 {i j : Nat} {x y : Str} {a b : Expr} {ta : TA} {px py pt : Pos} {kt k2 pt2} (hc : X.calm = true) (hN : X.N.Nodup) (hi : X.N[i]? = some x) (hj : X.N[j]? = some y) (hij : i ≠ j)
  (hx : X.env.scope.names.lookup x = some .local) (hy : X.env.scope.names.lookup y = some .local) (ha : PA X [a, b] ta)
  (hw : swappedStores [.Tuple [.Name x px, .Name y py] kt pt] (.Tuple [a, b] k2 pt2) X.env = pure (some [x, y]))
  (hs : swapsWithSole [.Tuple [.Name x px, .Name y py] kt pt] (.Tuple [a, b] k2 pt2) pos.line X.env = pure false := by rfl) :
  PS X (.Assign [.Tuple [.Name x px, .Name y py] kt pt] (.Tuple [a, b] k2 pt2) pos) (cK1 i j ta) := by
 intro pins s σ H D I h
 rw [exec_Assign_arm]
 refine wpAny_bind (wpAny_standAt ?_)
 rw [hs]
 refine wpAny_bind (wpAny_pure ?_)
 rw [if_neg (by decide)]
 refine wpAny_bind (Tuple_ (thn (ha _ pins s σ H _ I h) fun us s1 ⟨vs, H1, I1, r1, q1⟩ => ?_))
 obtain ⟨v, w, e1, q1⟩ := q1
 subst e1
 obtain ⟨u1, u2, rfl, rv, rw'⟩ : ∃ u1 u2, us = [u1, u2] ∧ O4 v u1 ∧ O4 w u2 := by
  cases r1 with
  | cons p q =>
   cases q with
   | cons p' q' =>
    cases q'
    exact ⟨_, _, rfl, p, p'⟩
 refine wpAny_newObj_type ?_ (by show 2 ≤ sizeLine; decide)
 have I2 : Inv X pins σ H1 { s1 with heap := s1.heap.push { cls := .type "tuple", data := .seq [u1, u2].toArray } } := I1.kept (t' := s1.toks) fun b o e => Heap.get?_push_of_some _ e
 rw [hw]
 refine wpAny_bind (wpAny_pure ?_)
 show wpAny (model X.prog X.w) X.A (do rule "assign.swapped-stores"; let items ← unpackItems (.ref s1.heap.objs.size) 2 none; assignInOrder [fun v => bindName X.env y v, fun v => bindName X.env x v] items.reverse; pure Flow.next) _ _ _
 refine wpAny_bind (wpAny_rule (wpAny_bind (unpackItems_tuple (items := #[u1, u2]) (I.ok.hd hc) (IsTup.new s1.heap _) fun h' hx' => ?_)))
 have I3 := I2.kept (h' := h') (t' := s1.toks) fun b o e => hx' b o (Nat.ne_of_lt (Heap.lt_size e)) e
 show wpAny _ _ (assignInOrder [fun v => bindName X.env y v, fun v => bindName X.env x v] [u2, u1] >>= fun _ => pure Flow.next) _ _ _
 refine wpAny_bind (assignInOrder_cons (wpAny_bindName (ap8 I3 hN hj (.inl hy) rw' (fun s2 I4 => ?_) (.inr hy))))
 refine assignInOrder_cons (wpAny_bindName (ap8 I4 hN hi (.inl hx) rv (fun s3 I5 => assignInOrder_nil (wpAny_pure ?_)) (.inr hx)))
 rw [List.set_comm _ _ (Ne.symm hij)] at I5
 exact ⟨_, H1, I5, q1⟩
end
section
variable {X : Cx} {pos : Pos}
noncomputable def co7 (c : TT) (tb : TS) : TS := fun D σ H => ∃ W : Nat → St → Hp → Prop, (∃ m, W m σ H) ∧ ∀ m σ H, W m σ H →
 c σ H fun b H1 => if b = true then ∃ N : St → Hp → Prop, (∀ σ' H', N σ' H' → ∃ m', m' < m ∧ W m' σ' H') ∧ tb { D with nx := N, ct := N, bk := D.nx } σ H1 else D.nx σ H1
theorem bG7 {c : Expr} {body : List Stmt} {tc : TT} {tb : TS} (hp : PassesOwn (model X.prog X.w) X.A X.env X.xe) (hc : PT X c tc) (hb : PSs X body tb) : PS X (.While c body [] pos) (co7 tc tb) := by
 intro pins s σ H D I h
 obtain ⟨W, ⟨m0, w0⟩, turn⟩ := h
 refine wpAny_While (codeAny_whileLoop (fun n s' => ∃ σ' H', Inv X pins σ' H' s' ∧ W n σ' H') ?_ m0 ⟨σ, H, I, w0⟩)
 rintro n s1 ⟨σ1, H1, I1, w1⟩
 refine wpAny_passesOwn hp (thn (hc pins s1 σ1 H1 _ I1 (turn n σ1 H1 w1)) fun b s2 ⟨H2, I2, q2⟩ => ?_)
 cases b with
 | true =>
  obtain ⟨N, hN, q2⟩ := q2
  rw [if_pos rfl]
  refine wpAny_passesOwn hp (thn (hb pins s2 σ1 H2 _ I2 q2) fun f s3 q3 => ?_)
  cases f with
  | next =>
   obtain ⟨σ3, H3, I3, n3⟩ := q3
   obtain ⟨m', hm, w3⟩ := hN σ3 H3 n3
   exact ⟨m', hm, σ3, H3, I3, w3⟩
  | cont =>
   obtain ⟨σ3, H3, I3, n3⟩ := q3
   obtain ⟨m', hm, w3⟩ := hN σ3 H3 n3
   exact ⟨m', hm, σ3, H3, I3, w3⟩
  | brk => exact q3
  | ret v => exact q3
 | false =>
  rw [if_neg Bool.false_ne_true]
  exact wpAny_execs_nil ⟨σ1, H2, I2, q2⟩
end
structure It where
 go : Nat → Hp → Prop
 yld : Nat → Hp → V → Hp → Prop
 stop : Nat → Hp → Prop
noncomputable def ay3 (X : Cx) (pins : List (Addr × Obj)) (H : Hp) (b : Addr) : Prop :=
 H b = none ∧ b ≠ X.env.locals ∧ b ∉ X.fs ∧ (b ∈ X.ex ∨ X.s₀.heap.objs.size ≤ b) ∧ (∀ x c, X.env.cells.lookup x = some c → c ≠ b) ∧ ∀ p ∈ X.pn ++ pins, p.1 ≠ b
theorem Inv.fpOk {X : Cx} {pins : List (Addr × Obj)} {σ : St} {H H' : Hp} {s : Shared} {b : Addr} (I : Inv X pins σ H s) (hb : s.heap.objs.size ≤ b) (hn : H' b = none) : ay3 X pins H' b := by
 refine ⟨hn, Nat.ne_of_gt (Nat.lt_of_lt_of_le I.lt hb), I.nofs hb, .inr (Nat.le_trans I.sz hb), fun x c e z => ?_, fun p hp z => ?_⟩
 ·obtain ⟨v, q⟩ := I.cell x c e
  exact absurd (Nat.lt_of_lt_of_le q.lt (by rw [z]; exact hb)) (Nat.lt_irrefl _)
 ·exact absurd (Nat.lt_of_lt_of_le (Heap.lt_size (I.pin p hp).1) (by rw [z]; exact hb)) (Nat.lt_irrefl _)
structure Turn (P : Program) (w : World) (K : PySem.W.Frag) (tg : Expr) (J : It) (fp : List Addr) (it : Addr) (tn : Nat → Heap → Prop) : Prop where
 mem : it ∈ fp
 obj : ∀ i h, tn i h → ∀ b ∈ fp, ∃ o, h.get? b = some o ∧ ∀ v, o.data ≠ .cell v
 keep : ∀ i h h', tn i h → (∀ b ∈ fp, ∀ o, h.get? b = some o → h'.get? b = some o) → tn i h'
 item : ∀ (X : Cx), X.prog = P → X.w = w → X.K = K → X.calm = true → ∀ (i : Nat) (pins : List (Addr × Obj)) (s : Shared) (σ : St) (H : Hp) (E : Value → Shared → Prop), Inv X pins σ H s → (∀ b ∈ fp, ay3 X pins H b) → tn i s.heap → J.go i H →
  wpAny (model P w) X.A (pyNext (.ref it)) (fun r s1 => ∃ u, r = some u ∧
   wpAny (model P w) X.A (letOwnedTupleGo tg (.ref it) u) (fun _ s2 => ∃ x H', Inv X pins σ H' s2 ∧ O4 x u ∧ J.yld i H x H' ∧ tn (i + 1) s2.heap ∧ ∀ b ∈ fp, H' b = none) E s1) E s
 done : ∀ (X : Cx), X.prog = P → X.w = w → X.K = K → X.calm = true → ∀ (i : Nat) (pins : List (Addr × Obj)) (s : Shared) (σ : St) (H : Hp) (E : Value → Shared → Prop), Inv X pins σ H s → (∀ b ∈ fp, ay3 X pins H b) → tn i s.heap → J.stop i H →
  wpAny (model P w) X.A (pyNext (.ref it)) (fun r s1 => r = none ∧ Inv X pins σ H s1) E s
 self : ∀ (A : Around) (i : Nat) (s : Shared) (Q : Value → Shared → Prop) (E : Value → Shared → Prop), tn i s.heap → Q (.ref it) s → wpAny (model P w) A (pyIter (.ref it)) Q E s
noncomputable abbrev TI := St → Hp → (It → Hp → Prop) → Prop
noncomputable def PIE (X : Cx) (pins : List (Addr × Obj)) (σ : St) (tg : Expr) (R : It → Hp → Prop) (itv : Value) (s2 : Shared) : Prop :=
 ∃ (it : Addr) (fp : List Addr) (tn : Nat → Heap → Prop) (J : It) (H' : Hp), itv = .ref it ∧ Inv X pins σ H' s2 ∧ Turn X.prog X.w X.K tg J fp it tn ∧ tn 0 s2.heap ∧ (∀ b ∈ fp, ay3 X pins H' b) ∧ R J H'
noncomputable def PI (X : Cx) (tg iter : Expr) (wi : TI) : Prop :=
 ∀ (pins : List (Addr × Obj)) (s : Shared) (σ : St) (H : Hp) (R : It → Hp → Prop), Inv X pins σ H s → wi σ H R →
  wpAny (model X.prog X.w) X.A (eval iter X.env) (fun v s1 => wpAny (model X.prog X.w) X.A (pyIter v) (PIE X pins σ tg R) X.xe s1) X.xe s
theorem bp8 {M : Model} {A : Around} {E : Value → Shared → Prop} {s : Shared} {tg : Expr} {it : Addr} {u : Value} {o : Obj} {n : String} {vs : Array Value} {Q : Unit → Shared → Prop} (ho : s.heap.get? it = some o) (hc : o.cls = .type n) (hd : o.data = .fields vs)
    (hn : ["enumerate", "zip", "dict_itemiterator", "dict_reverseitemiterator", "odict_iterator", "itertools.zip_longest", "itertools.pairwise"].contains n = false) (hQ : Q () s) : wpAny M A (letOwnedTupleGo tg (.ref it) u) Q E s := by
  unfold letOwnedTupleGo
  cases tg <;> first
    | exact wpAny_pure hQ
    | (cases u <;> first
        | exact wpAny_pure hQ
        | (refine wpAny_bind (wpAny_load ho ?_)
           rw [hc, hd]
           show wpAny M A (if (["enumerate", "zip", "dict_itemiterator", "dict_reverseitemiterator", "odict_iterator", "itertools.zip_longest", "itertools.pairwise"].contains n && vs[0]? == some (rawInt _)) = true then _ else _) Q E s
           rw [if_neg (by intro h; rw [hn, Bool.false_and] at h; cases h)]
           exact wpAny_pure hQ))
noncomputable def Itl (K : PySem.W.Frag) (a : Addr) : It :=
 ⟨fun i H => ∃ xs x, SqL K H a xs ∧ xs[i]? = some x, fun i H x H' => H' = H ∧ ∀ xs, SqL K H a xs → xs[i]? = some x, fun i H => ∃ xs, SqL K H a xs ∧ xs.length ≤ i⟩
noncomputable def Itt (K : PySem.W.Frag) (a : Addr) : It :=
 ⟨fun i H => ∃ xs x, SqT K H a xs ∧ xs[i]? = some x, fun i H x H' => H' = H ∧ ∀ xs, SqT K H a xs → xs[i]? = some x, fun i H => ∃ xs, SqT K H a xs ∧ xs.length ≤ i⟩
noncomputable def Itr (lo : Int) (n : Nat) : It := ⟨fun i _ => i < n, fun i H x H' => H' = H ∧ x = .int (lo + i), fun i _ => n ≤ i⟩
theorem bs4 {P : Program} {w : World} {K : PySem.W.Frag} {tg : Expr} (a it : Addr) : Turn P w K tg (Itl K a) [it] it (fun i h => h.IsListIter it a i) where
 mem := by simp
 obj := fun i h st b hb => by
  have e : b = it := by simpa using hb
  subst e
  obtain ⟨o, e, c, d⟩ := st
  exact ⟨o, e, fun v z => by rw [d] at z; cases z⟩
 keep := fun i h h' st k => st.at fun o e => k it (by simp) o e
 item := by
  intro X hP hw hK hc i pins s σ H E I hf st hg
  subst hP hw hK
  obtain ⟨xs, x, hq, hx⟩ := hg
  obtain ⟨its, rv, p, hz⟩ := I.list hq
  obtain ⟨u, hu, ru⟩ := rv.get hx
  obtain ⟨f0, f1, f2, f3, f4, f5⟩ := hf it (by simp)
  refine wpAny_pyNext_list_item st p.isList (x := u) (by simpa using hu) fun h' st' sb => ?_
  have I1 : Inv X pins σ H { s with heap := h' } := I.turned (t' := s.toks) (fun b o hb e => (sb.2 b hb).trans e) f0 f1 f3 f4 f5
  obtain ⟨o, e, c, d⟩ := id st'
  exact ⟨u, rfl, bp8 (s := { s with heap := h' }) e c d (by decide) ⟨x, H, I1, ru, ⟨rfl, fun ys hy => by rw [I.list_inj hy hq]; exact hx⟩, st', fun b hb => (hf b hb).1⟩⟩
 done := by
  intro X hP hw hK hc i pins s σ H E I hf st hg
  subst hP hw hK
  obtain ⟨xs, hq, hx⟩ := hg
  obtain ⟨its, rv, p, hz⟩ := I.list hq
  obtain ⟨f0, f1, f2, f3, f4, f5⟩ := hf it (by simp)
  have hl := rv.length
  exact wpAny_pyNext_list_end (I.ok.hd hc) st p.isList (by simp; omega) fun h' eb => ⟨rfl, I.turned (t' := s.toks) (fun b o hb e => eb b o hb e) f0 f1 f3 f4 f5⟩
 self := fun _ _ _ _ _ st h => wpAny_pyIter_listiter st h
theorem bd2 {P : Program} {w : World} {K : PySem.W.Frag} {tg : Expr} (a it : Addr) : Turn P w K tg (Itt K a) [it] it (fun i h => h.IsTupleIter it a i) where
 mem := by simp
 obj := fun i h st b hb => by
  have e : b = it := by simpa using hb
  subst e
  obtain ⟨o, e, c, d⟩ := st
  exact ⟨o, e, fun v z => by rw [d] at z; cases z⟩
 keep := fun i h h' st k => st.at fun o e => k it (by simp) o e
 item := by
  intro X hP hw hK hc i pins s σ H E I hf st hg
  subst hP hw hK
  obtain ⟨xs, x, hq, hx⟩ := hg
  obtain ⟨its, rv, p, hz⟩ := I.tuple hq
  obtain ⟨u, hu, ru⟩ := rv.get hx
  obtain ⟨f0, f1, f2, f3, f4, f5⟩ := hf it (by simp)
  refine wpAny_pyNext_tuple_item st (show s.heap.IsTuple a its.toArray from p) (x := u) (by simpa using hu) fun h' st' sb => ?_
  have I1 : Inv X pins σ H { s with heap := h' } := I.turned (t' := s.toks) (fun b o hb e => (sb.2 b hb).trans e) f0 f1 f3 f4 f5
  obtain ⟨o, e, c, d⟩ := id st'
  exact ⟨u, rfl, bp8 (s := { s with heap := h' }) e c d (by decide) ⟨x, H, I1, ru, ⟨rfl, fun ys hy => by rw [I.tuple_inj hy hq]; exact hx⟩, st', fun b hb => (hf b hb).1⟩⟩
 done := by
  intro X hP hw hK hc i pins s σ H E I hf st hg
  subst hP hw hK
  obtain ⟨xs, hq, hx⟩ := hg
  obtain ⟨its, rv, p, hz⟩ := I.tuple hq
  obtain ⟨f0, f1, f2, f3, f4, f5⟩ := hf it (by simp)
  have hl := rv.length
  exact wpAny_pyNext_tuple_end (I.ok.hd hc) st (show s.heap.IsTuple a its.toArray from p) (by simp; omega) fun h' eb => ⟨rfl, I.turned (t' := s.toks) (fun b o hb e => eb b o hb e) f0 f1 f3 f4 f5⟩
 self := fun _ _ _ _ _ st h => wpAny_pyIter_tupleiter st h
theorem bd3 {P : Program} {w : World} {K : PySem.W.Frag} {tg : Expr} (it : Addr) (lo : Int) (n : Nat) : Turn P w K tg (Itr lo n) [it] it (fun i h => IsRangeIter h it (lo + (i : Nat) * 1) ((n : Int) - (i : Nat)) 1) where
 mem := by simp
 obj := fun i h st b hb => by
  have e : b = it := by simpa using hb
  subst e
  exact ⟨_, st, fun v z => by
   have z' : Data.fields _ = Data.cell v := z
   cases z'⟩
 keep := fun i h h' st k => k it (by simp) _ st
 item := by
  intro X hP hw hK hc i pins s σ H E I hf st hg
  subst hP hw hK
  obtain ⟨f0, f1, f2, f3, f4, f5⟩ := hf it (by simp)
  have W := Walks.range (prog := X.prog) (w := X.w) (I.ok.hd hc) it lo 1 n
  refine W.item i s _ _ hg st fun v h' tk hv st' kk => ?_
  obtain ⟨t, rfl⟩ := hv
  have I1 : Inv X pins σ H { s with heap := h', toks := tk } := I.turned (fun b o hb e => kk b o (by simpa using hb) e) f0 f1 f3 f4 f5
  refine ⟨_, rfl, bp8 (s := { s with heap := h', toks := tk }) (n := "range_iterator") st' rfl rfl (by decide) ⟨.int (lo + i), H, I1, ⟨t, ?_⟩, ⟨rfl, rfl⟩, st', fun b hb => (hf b hb).1⟩⟩
  rw [Int.mul_one]
 done := by
  intro X hP hw hK hc i pins s σ H E I hf st hg
  subst hP hw hK
  obtain ⟨f0, f1, f2, f3, f4, f5⟩ := hf it (by simp)
  exact wpAny_pyNext_range_end (I.ok.hd hc) st (by have : n ≤ i := hg; omega) fun h' eb => ⟨rfl, I.turned (t' := s.toks) (fun b o hb e => eb b o hb e) f0 f1 f3 f4 f5⟩
 self := fun _ _ _ _ _ st h => wpAny_pyIter_rangeiter st h
end L2
namespace L2
open PySem PySem.Spec PyProof.Rows
section
variable {X : Cx} {tg : Expr}
noncomputable def cH8 (K : PySem.W.Frag) (tl : TE) : TI := fun σ H R => tl σ H fun x H1 => ∃ a, x = .ref a ∧ (∃ xs, SqL K H1 a xs) ∧ R (Itl K a) H1
noncomputable def cL8 (K : PySem.W.Frag) (tl : TE) : TI := fun σ H R => tl σ H fun x H1 => ∃ a, x = .ref a ∧ (∃ xs, SqT K H1 a xs) ∧ R (Itt K a) H1
theorem bW6 {l : Expr} {tl : TE} (hl : PE X l tl) : PI X tg l (cH8 X.K tl) := by
 intro pins s σ H R I h
 refine thn (hl pins s σ H _ I h) fun v s1 ⟨x, H1, I1, r1, q1⟩ => ?_
 obtain ⟨a, e, ⟨xs, hq⟩, q⟩ := q1
 subst e
 cases r1
 obtain ⟨its, rv, p, hz⟩ := I1.list hq
 refine wpAny_pyIter_list p.isList ?_
 refine ⟨s1.heap.objs.size, [s1.heap.objs.size], _, _, H1, rfl, I1.kept (t' := s1.toks) fun b o e => Heap.get?_push_of_some _ e, bs4 a _, ⟨_, Heap.get?_push_size _ rfl, rfl, rfl⟩, fun b hb => ?_, q⟩
 have e : b = s1.heap.objs.size := by simpa using hb
 subst e
 exact I1.fpOk (Nat.le_refl _) (I1.hok.fresh (Nat.le_refl _))
theorem cq2 {l : Expr} {tl : TE} (hl : PE X l tl) : PI X tg l (cL8 X.K tl) := by
 intro pins s σ H R I h
 refine thn (hl pins s σ H _ I h) fun v s1 ⟨x, H1, I1, r1, q1⟩ => ?_
 obtain ⟨a, e, ⟨xs, hq⟩, q⟩ := q1
 subst e
 cases r1
 obtain ⟨its, rv, p, hz⟩ := I1.tuple hq
 refine wpAny_pyIter_tuple (show s1.heap.IsTuple a its.toArray from p) ?_
 refine ⟨s1.heap.objs.size, [s1.heap.objs.size], _, _, H1, rfl, I1.kept (t' := s1.toks) fun b o e => Heap.get?_push_of_some _ e, bd2 a _, ⟨_, Heap.get?_push_size _ rfl, rfl, rfl⟩, fun b hb => ?_, q⟩
 have e : b = s1.heap.objs.size := by simpa using hb
 subst e
 exact I1.fpOk (Nat.le_refl _) (I1.hok.fresh (Nat.le_refl _))
theorem aW0 {pins : List (Addr × Obj)} {σ : St} {H : Hp} {s : Shared} {R : It → Hp → Prop} {E : Value → Shared → Prop} {lo hi : Int} {t u v : Tok} {tk : Nat} (I : Inv X pins σ H s) (h1 : -(2 ^ 62) ≤ lo) (h2 : lo < 2 ^ 62) (h3 : -(2 ^ 62) ≤ hi) (h4 : hi < 2 ^ 62)
  (q : R (Itr lo (hi - lo).toNat) H) : wpAny (model X.prog X.w) X.A (pyIter (.ref s.heap.objs.size)) (PIE X pins σ tg R) E { s with heap := s.heap.push { cls := .type "range", data := .fields #[.int lo t, .int hi u, .int 1 v] }, toks := tk } := by
 refine wpAny_pyIter_range (IsRange.new ..) (small_one h1 h2 h3 h4) ?_
 have I1 : Inv X pins σ H { s with heap := s.heap.push { cls := .type "range", data := .fields #[.int lo t, .int hi u, .int 1 v] }, toks := tk } := I.kept fun b o e => Heap.get?_push_of_some _ e
 refine ⟨(s.heap.push { cls := .type "range", data := .fields #[.int lo t, .int hi u, .int 1 v] }).objs.size, [(s.heap.push { cls := .type "range", data := .fields #[.int lo t, .int hi u, .int 1 v] }).objs.size], _, _, H, rfl,
  I1.kept (t' := tk) fun b o e => Heap.get?_push_of_some _ e, bd3 _ lo (hi - lo).toNat, ?_, fun b hb => ?_, q⟩
 ·have e1 : lo + ((0 : Nat) : Int) * 1 = lo := by simp
  have e2 : (((hi - lo).toNat : Nat) : Int) - ((0 : Nat) : Int) = Builtin.Range.rangeSize lo hi 1 := by rw [rangeSize_one]; split <;> omega
  show IsRangeIter _ _ (lo + ((0 : Nat) : Int) * 1) ((((hi - lo).toNat : Nat) : Int) - ((0 : Nat) : Int)) 1
  rw [e1, e2]
  exact Heap.get?_push_size _ rfl
 ·have e : b = (s.heap.push { cls := .type "range", data := .fields #[.int lo t, .int hi u, .int 1 v] }).objs.size := by simpa using hb
  subst e
  exact I1.fpOk (Nat.le_refl _) (I1.hok.fresh (Nat.le_refl _))
noncomputable def cH7 (ta : TA) : TI := fun σ H R => ta σ H fun vs H1 => ∃ j : Int, vs = [.int j] ∧ -(2 ^ 62) ≤ j ∧ j < 2 ^ 62 ∧ R (Itr 0 j.toNat) H1
noncomputable def cH6 (ta : TA) : TI := fun σ H R => ta σ H fun vs H1 => ∃ i j : Int, vs = [.int i, .int j] ∧ (-(2 ^ 62) ≤ i ∧ i < 2 ^ 62 ∧ -(2 ^ 62) ≤ j ∧ j < 2 ^ 62) ∧ R (Itr i (j - i).toNat) H1
theorem bt8 {a : Expr} {ta : TA} {p pos : Pos} (hg : Gl X "range") (hm : X.mg "range" = none) (ha : PA X [a] ta) (hs : starEach [a] X.env = [(false, eval a X.env)] := by rfl) : PI X tg (.Call (.Name "range" p) [a] [] pos) (cH7 ta) := by
 intro pins s σ H R I h
 refine Call_ (ao6 I hg hm boot_range (PyProof.Rows.callWith_type1 (thn (ha pos pins s σ H _ I h) fun us s1 ⟨vs, H1, I1, r1, q1⟩ => ?_) hs rfl))
 obtain ⟨j, e, q1, q2, q⟩ := q1
 subst e
 cases r1 with
 | cons r rr =>
  cases rr
  obtain ⟨t, rfl⟩ := r
  exact call_range_1 (aW0 I1 (by omega) (by omega) q1 q2 (by simpa using q))
theorem bt7 {a b : Expr} {ta : TA} {p pos : Pos} (hg : Gl X "range") (hm : X.mg "range" = none) (ha : PA X [a, b] ta) (hs : starEach [a, b] X.env = [(false, eval a X.env), (false, eval b X.env)] := by rfl) (hs2 : starEach [b] X.env = [(false, eval b X.env)] := by rfl) :
  PI X tg (.Call (.Name "range" p) [a, b] [] pos) (cH6 ta) := by
 intro pins s σ H R I h
 refine Call_ (ao6 I hg hm boot_range (PyProof.Rows.callWith_type1 (thn (ha pos pins s σ H _ I h) fun us s1 ⟨vs, H1, I1, r1, q1⟩ => ?_) (by rw [hs, hs2]) (by rw [hs2]; rfl)))
 obtain ⟨i, j, e, ⟨q1, q2, q3, q4⟩, q⟩ := q1
 subst e
 cases r1 with
 | cons r rr =>
  cases rr with
  | cons r' rr =>
   cases rr
   obtain ⟨t, rfl⟩ := r
   obtain ⟨t', rfl⟩ := r'
   exact call_range_2 (aW0 I1 q1 q2 q3 q4 q)
noncomputable def cK6 (wi : TI) (g : TG) (tb : TS) : TS := fun D σ H => wi σ H fun J H1 => ∃ W : Nat → Nat → St → Hp → Prop, (∃ m, W 0 m σ H1) ∧ ∀ i m σ H, W i m σ H →
 (J.stop i H ∧ D.nx σ H) ∨ (J.go i H ∧ ∃ N : St → Hp → Prop, (∀ σ' H', N σ' H' → ∃ m', m' < m ∧ W (i + 1) m' σ' H') ∧ ∀ x H', J.yld i H x H' → g x σ H' fun σ2 H2 => tb { D with nx := N, ct := N, bk := D.nx } σ2 H2)
noncomputable def aE9 (fp : List Addr) (h : Heap) : List (Addr × Obj) := fp.filterMap fun b => (h.get? b).map fun o => (b, o)
theorem ac5 {fp : List Addr} {h : Heap} {b : Addr} {o : Obj} (hb : b ∈ fp) (e : h.get? b = some o) : (b, o) ∈ aE9 fp h := List.mem_filterMap.mpr ⟨b, hb, by rw [e]; rfl⟩
theorem bu3 {fp : List Addr} {h : Heap} {p : Addr × Obj} (hp : p ∈ aE9 fp h) : p.1 ∈ fp ∧ h.get? p.1 = some p.2 := by
 obtain ⟨b, hb, e⟩ := List.mem_filterMap.mp hp
 cases q : h.get? b with
 | none => rw [q] at e; cases e
 | some o =>
  rw [q] at e
  have e' : (b, o) = p := Option.some.inj e
  subst e'
  exact ⟨hb, q⟩
theorem Inv.pinned {pins : List (Addr × Obj)} {σ : St} {H : Hp} {s : Shared} {fp : List Addr} (I : Inv X pins σ H s) (hf : ∀ b ∈ fp, ay3 X pins H b) (ho : ∀ b ∈ fp, ∃ o, s.heap.get? b = some o ∧ ∀ v, o.data ≠ .cell v) : Inv X (pins ++ aE9 fp s.heap) σ H s :=
 I.pins_of fun p hp => (List.mem_append.mp hp).elim (fun z => I.pin p (List.mem_append_right _ z)) fun z => by
  obtain ⟨hb, e⟩ := bu3 z
  obtain ⟨f0, f1, f2, _⟩ := hf p.1 hb
  obtain ⟨o, e', d⟩ := ho p.1 hb
  rw [e] at e'; cases e'
  exact ⟨e, f0, f1, f2, d⟩
theorem Inv.unpinned {pins pl : List (Addr × Obj)} {σ : St} {H : Hp} {s : Shared} (I : Inv X (pins ++ pl) σ H s) : Inv X pins σ H s := I.pins_of fun p hp => I.pin p (List.mem_append_right _ (List.mem_append_left _ hp))
theorem cp9 {iter : Expr} {body : List Stmt} {wi : TI} {g : TG} {tb : TS} {pos : Pos} (hp : PassesOwn (model X.prog X.w) X.A X.env X.xe) (hc : X.calm = true) (hi : PI X tg iter wi) (hg : PG X tg g) (hb : PSs X body tb)
  (hs : ∀ x, foldedSetIterable iter X.env x = pure x := by intro _; rfl) : PS X (.For tg iter body [] pos) (cK6 wi g tb) := by
 intro pins s σ H D I h
 refine wpAny_For (thn (hi pins s σ H _ I h) fun v s1 h1 => thn h1 fun itv s2 h2 => ?_) hs
 obtain ⟨it, fp, tn, J, H2, e, I2, T, st2, f2, W, ⟨m0, w0⟩, turn⟩ := h2
 subst e
 have stat : ∀ {H' : Hp}, (∀ b ∈ fp, H' b = none) → ∀ b ∈ fp, ay3 X pins H' b := fun hn b hb => ⟨hn b hb, (f2 b hb).2⟩
 refine codeAny_forLoop_any (fun n s' => ∃ i σ' H', Inv X pins σ' H' s' ∧ tn i s'.heap ∧ (∀ b ∈ fp, H' b = none) ∧ W i n σ' H') ?_ m0 ⟨0, σ, H2, I2, st2, fun b hb => (f2 b hb).1, w0⟩
 rintro n s3 ⟨i, σ3, H3, I3, st3, fr3, w3⟩
 rcases turn i n σ3 H3 w3 with ⟨stop, qn⟩ | ⟨go, N, hN, step⟩
 ·refine wpAny_passesOwn hp (thn (T.done X rfl rfl rfl hc i pins s3 σ3 H3 X.xe I3 (stat fr3) st3 stop) fun r s4 ⟨hr, I4⟩ => ?_)
  subst hr
  exact wpAny_execs_nil ⟨σ3, H3, I4, qn⟩
 ·refine wpAny_passesOwn hp (thn (T.item X rfl rfl rfl hc i pins s3 σ3 H3 X.xe I3 (stat fr3) st3 go) fun r s4 ⟨u, hr, h4⟩ => ?_)
  subst hr
  refine wpAny_passesOwn hp (thn h4 fun _ s5 ⟨x, H5, I5, r5, y5, st5, fr5⟩ => ?_)
  have I5' := I5.pinned (stat fr5) (T.obj _ _ st5)
  refine wpAny_passesOwn hp (thn (hg _ s5 σ3 H5 x u _ I5' r5 (step x H5 y5)) fun _ s6 ⟨σ6, H6, I6, q6⟩ => ?_)
  refine wpAny_passesOwn hp (thn (hb _ s6 σ6 H6 _ I6 q6) fun f s7 q7 => ?_)
  have again : ∀ {σ7 : St} {H7 : Hp}, Inv X (pins ++ aE9 fp s5.heap) σ7 H7 s7 → N σ7 H7 → ∃ m, m < n ∧ ∃ i σ' H', Inv X pins σ' H' s7 ∧ tn i s7.heap ∧ (∀ b ∈ fp, H' b = none) ∧ W i m σ' H' := fun {σ7 H7} I7 n7 => by
   obtain ⟨m', hm, w7⟩ := hN σ7 H7 n7
   refine ⟨m', hm, i + 1, σ7, H7, I7.unpinned, T.keep _ _ _ st5 fun b hb o e => (I7.pin (b, o) (List.mem_append_right _ (List.mem_append_right _ (ac5 hb e)))).1, fun b hb => ?_, w7⟩
   obtain ⟨o, e, d⟩ := T.obj _ _ st5 b hb
   exact (I7.pin (b, o) (List.mem_append_right _ (List.mem_append_right _ (ac5 hb e)))).2.1
  cases f with
  | next => obtain ⟨σ7, H7, I7, n7⟩ := q7; exact again I7 n7
  | cont => obtain ⟨σ7, H7, I7, n7⟩ := q7; exact again I7 n7
  | brk => obtain ⟨σ7, H7, I7, q7⟩ := q7; exact ⟨σ7, H7, I7.unpinned, q7⟩
  | ret v => obtain ⟨x7, σ7, H7, I7, r7, q7⟩ := q7; exact ⟨x7, σ7, H7, I7.unpinned, r7, q7⟩
end
end L2
namespace L2
open PySem PySem.Spec PyProof.Rows
noncomputable abbrev R2 := V → V → Hp → VK → Prop
noncomputable def OpR (X : Cx) (f : Value → Value → Sem Value) (r : R2) : Prop :=
 ∀ (pins : List (Addr × Obj)) (s : Shared) (σ : St) (H : Hp) (x y : V) (v u : Value) (Q : VK), Inv X pins σ H s → O4 x v → O4 y u → r x y H Q →
  wpAny (model X.prog X.w) X.A (f v u) (EP X pins σ Q) X.xe s
noncomputable def UnR (X : Cx) (f : Value → Sem Value) (r : V → Hp → VK → Prop) : Prop :=
 ∀ (pins : List (Addr × Obj)) (s : Shared) (σ : St) (H : Hp) (x : V) (v : Value) (Q : VK), Inv X pins σ H s → O4 x v → r x H Q →
  wpAny (model X.prog X.w) X.A (f v) (EP X pins σ Q) X.xe s
noncomputable def Z7 (X : Cx) (f : Value) (r : List V → Hp → VK → Prop) : Prop :=
 ∀ (pins : List (Addr × Obj)) (s : Shared) (σ : St) (H : Hp) (xs : List V) (us : List Value) (Q : VK), Inv X pins σ H s → L7 xs us → r xs H Q →
  wpAny (model X.prog X.w) X.A (call f us) (EP X pins σ Q) X.xe s
noncomputable def cM6 (X : Cx) (r : V → Hp → (Bool → Hp → Prop) → Prop) : Prop :=
 ∀ (pins : List (Addr × Obj)) (s : Shared) (σ : St) (H : Hp) (x : V) (v : Value) (Q : Bool → Hp → Prop), Inv X pins σ H s → O4 x v → r x H Q →
  wpAny (model X.prog X.w) X.A (truthy v) (TP X pins σ Q) X.xe s
noncomputable def tOp (r : R2) (ta tb : TE) : TE := fun σ H Q => ta σ H fun x H1 => tb σ H1 fun y H2 => r x y H2 Q
noncomputable def tUn (r : V → Hp → VK → Prop) (ta : TE) : TE := fun σ H Q => ta σ H fun x H1 => r x H1 Q
noncomputable def rI (C : Int → Int → Prop) (g : Int → Int → V) : R2 := fun x y H Q => ∃ i j, x = .int i ∧ y = .int j ∧ C i j ∧ Q (g i j) H
noncomputable def rI0 (g : Int → Int → V) : R2 := fun x y H Q => ∃ i j, x = .int i ∧ y = .int j ∧ Q (g i j) H
noncomputable def rU (g : Int → V) : V → Hp → VK → Prop := fun x H Q => ∃ i, x = .int i ∧ Q (g i) H
section
variable {X : Cx} {a b c : Expr} {ta tb tc : TE} {pos : Pos}
theorem cA3 (ha : PE X a ta) (hb : PE X b tb) {pins : List (Addr × Obj)} {s : Shared} {σ : St} {H : Hp} {R : V → V → Hp → Prop} (I : Inv X pins σ H s)
  (h : ta σ H fun x H1 => tb σ H1 fun y H2 => R x y H2) {Q : Value → Shared → Prop} {f : Value → Value → Sem Value}
  (hf : ∀ v u s2 x y H2, Inv X pins σ H2 s2 → O4 x v → O4 y u → R x y H2 → wpAny (model X.prog X.w) X.A (f v u) Q X.xe s2) :
  wpAny (model X.prog X.w) X.A (eval a X.env) (fun v s₁ => wpAny (model X.prog X.w) X.A (eval b X.env) (fun u s₂ => wpAny (model X.prog X.w) X.A (f v u) Q X.xe s₂) X.xe s₁) X.xe s := by
 refine thn (ha pins s σ H _ I h) fun v s1 ⟨x, H1, I1, r1, q1⟩ => ?_
 refine thn (hb pins s1 σ H1 _ I1 q1) fun u s2 ⟨y, H2, I2, r2, q2⟩ => ?_
 exact hf v u s2 x y H2 I2 r1 r2 q2
theorem cg0 {op : Operator} {r : R2} (ho : OpR X (binaryOp op) r) (ha : PE X a ta) (hb : PE X b tb) : PE X (.BinOp a op b pos) (tOp r ta tb) := by
 intro pins s σ H Q I h
 exact wpAny_BinOp (cA3 ha hb I h fun v u s2 x y H2 I2 rx ry q => ho pins s2 σ H2 x y v u Q I2 rx ry q)
theorem cE5 {op : UnaryOp} {r : V → Hp → VK → Prop} (ho : UnR X (unaryOp op) r) (ha : PE X a ta) : PE X (.UnaryOp op a pos) (tUn r ta) := by
 intro pins s σ H Q I h
 exact UnaryOp_ (thn (ha pins s σ H _ I h) fun v s1 ⟨x, H1, I1, r1, q1⟩ => ho pins s1 σ H1 x v Q I1 r1 q1)
theorem opI {f : Value → Value → Sem Value} {C : Int → Int → Prop} {g : Int → Int → Int}
  (rule : ∀ (i j : Int) (t u : Tok) (s : Shared) (Q : Value → Shared → Prop) (E : Value → Shared → Prop), C i j → Q (.int (g i j) s.toks) { s with toks := s.toks + 1 } → wpAny (model X.prog X.w) X.A (f (.int i t) (.int j u)) Q E s) :
  OpR X f (rI C fun i j => .int (g i j)) := by
 intro pins s σ H x y v u Q I rx ry h
 obtain ⟨i, j, rfl, rfl, hc, q⟩ := h
 obtain ⟨t, rfl⟩ := rx
 obtain ⟨t', rfl⟩ := ry
 exact rule i j t t' s _ _ hc ⟨.int (g i j), H, I.tok _, ⟨_, rfl⟩, q⟩
theorem cF2 {f : Value → Value → Sem Value} {g : Int → Int → Int}
  (rule : ∀ (i j : Int) (t u : Tok) (s : Shared) (Q : Value → Shared → Prop) (E : Value → Shared → Prop), Q (.int (g i j) s.toks) { s with toks := s.toks + 1 } → wpAny (model X.prog X.w) X.A (f (.int i t) (.int j u)) Q E s) :
  OpR X f (rI0 fun i j => .int (g i j)) := by
 intro pins s σ H x y v u Q I rx ry h
 obtain ⟨i, j, rfl, rfl, q⟩ := h
 obtain ⟨t, rfl⟩ := rx
 obtain ⟨t', rfl⟩ := ry
 exact rule i j t t' s _ _ ⟨.int (g i j), H, I.tok _, ⟨_, rfl⟩, q⟩
theorem bX8 {f : Value → Value → Sem Value} {g : Int → Int → Bool}
  (rule : ∀ (i j : Int) (t u : Tok) (s : Shared) (Q : Value → Shared → Prop) (E : Value → Shared → Prop), Q (.bool (g i j)) s → wpAny (model X.prog X.w) X.A (f (.int i t) (.int j u)) Q E s) :
  OpR X f (rI0 fun i j => .bl (g i j)) := by
 intro pins s σ H x y v u Q I rx ry h
 obtain ⟨i, j, rfl, rfl, q⟩ := h
 obtain ⟨t, rfl⟩ := rx
 obtain ⟨t', rfl⟩ := ry
 exact rule i j t t' s _ _ ⟨.bl (g i j), H, I, rfl, q⟩
noncomputable def cM9 (i j : Int) : Prop := 0 ≤ j ∧ j ≤ 1000000 ∧ i.natAbs < 2 ^ 64
theorem bH9 : OpR X (binaryOp .Add) (rI0 fun i j => .int (i + j)) := cF2 fun _ _ _ _ _ _ _ q => add_int q
theorem cr3 : OpR X (binaryOp .Sub) (rI0 fun i j => .int (i - j)) := cF2 fun _ _ _ _ _ _ _ q => sub_int q
theorem cr5 : OpR X (binaryOp .Mod) (rI (fun _ j => 0 < j) fun i j => .int (i % j)) := opI fun i j _ _ _ _ _ hc q => by
 have h1 : (0 : Int) < j := hc
 exact mod_int' (by omega) (by rw [Int.fmod_eq_emod_of_nonneg i (by omega)]; exact q)
theorem cr4 : OpR X (binaryOp .Pow) (rI cM9 fun i j => .int (i ^ j.toNat)) := opI fun _ _ _ _ _ _ _ hc q => pow_int_small hc.1 hc.2.1 hc.2.2 q
theorem unI {f : Value → Sem Value} {g : Int → Int}
  (rule : ∀ (i : Int) (t : Tok) (s : Shared) (Q : Value → Shared → Prop) (E : Value → Shared → Prop), Q (.int (g i) s.toks) { s with toks := s.toks + 1 } → wpAny (model X.prog X.w) X.A (f (.int i t)) Q E s) :
  UnR X f (rU fun i => .int (g i)) := by
 intro pins s σ H x v Q I rx h
 obtain ⟨i, rfl, q⟩ := h
 obtain ⟨t, rfl⟩ := rx
 exact rule i t s _ _ ⟨.int (g i), H, I.tok _, ⟨_, rfl⟩, q⟩
theorem ci7 : UnR X (unaryOp .USub) (rU fun i => .int (-i)) := unI fun _ _ _ _ _ q => neg_int q
end
section
variable {X : Cx} {a b c : Expr} {ta tb tc : TE} {pos : Pos}
theorem aT0 {pins : List (Addr × Obj)} {σ : St} {H : Hp} {s : Shared} {Q : VK} {k k' : Bool} (I : Inv X pins σ H s) (q : Q (.bl k) H) (e : k = k') : EP X pins σ Q (.bool k') s := by
 subst e
 exact ⟨.bl k, H, I, rfl, q⟩
theorem cE8 : OpR X (compareOp .Lt) (rI0 fun i j => .bl (decide (i < j))) := bX8 fun _ _ _ _ _ _ _ q => lt_int q
theorem cE9 : OpR X (compareOp .LtE) (rI0 fun i j => .bl (decide (i ≤ j))) := bX8 fun _ _ _ _ _ _ _ q => le_int q
theorem cF0 : OpR X (compareOp .Gt) (rI0 fun i j => .bl (decide (j < i))) := bX8 fun _ _ _ _ _ _ _ q => gt_int q
theorem cF1 : OpR X (compareOp .GtE) (rI0 fun i j => .bl (decide (j ≤ i))) := bX8 fun _ _ _ _ _ _ _ q => ge_int q
theorem bt9 : OpR X (compareOp .In) (fun x y H Q => ∃ i j, x = .str i ∧ y = .str j ∧ Q (.bl (!(Builtin.Str.occurrences j i 0 j.length 1).isEmpty)) H) := by
 intro pins s σ H x y v u Q I rx ry h
 obtain ⟨i, j, rfl, rfl, q⟩ := h
 obtain ⟨t, rfl⟩ := rx
 obtain ⟨t', rfl⟩ := ry
 exact in_str (aT0 I q rfl)
theorem cr6 : OpR X (compareOp .Is) (fun x y H Q => y = .non ∧ Q (.bl (decide (x = .non))) H) := by
 intro pins s σ H x y v u Q I rx ry h
 obtain ⟨rfl, q⟩ := h
 cases ry
 refine is_none_gen (aT0 I q ?_)
 cases x <;> first
  | (cases rx; rfl)
  | (obtain ⟨t, rfl⟩ := rx; rfl)
theorem bX5 : OpR X (compareOp .IsNot) (fun x y H Q => y = .non ∧ Q (.bl (!decide (x = .non))) H) := by
 intro pins s σ H x y v u Q I rx ry h
 obtain ⟨rfl, q⟩ := h
 cases ry
 refine isnot_none_gen (aT0 I q ?_)
 cases x <;> first
  | (cases rx; rfl)
  | (obtain ⟨t, rfl⟩ := rx; rfl)
theorem aQ7 : OpR X (compareOp .NotIn) (fun x y H Q => ∃ i j, x = .str i ∧ y = .str j ∧ Q (.bl (!(!(Builtin.Str.occurrences j i 0 j.length 1).isEmpty))) H) := by
 intro pins s σ H x y v u Q I rx ry h
 obtain ⟨i, j, rfl, rfl, q⟩ := h
 obtain ⟨t, rfl⟩ := rx
 obtain ⟨t', rfl⟩ := ry
 exact notIn_str (aT0 I q rfl)
theorem bJ5 (b : Expr) {op : CmpOp} (h : op ≠ .In := by decide) (h2 : op ≠ .NotIn := by decide) : behindInMarks op b = false := by
 have e1 : (op == CmpOp.In) = false := by cases op <;> first | rfl | exact absurd rfl h
 have e2 : (op == CmpOp.NotIn) = false := by cases op <;> first | rfl | exact absurd rfl h2
 cases b <;> simp [behindInMarks, e1, e2]
theorem bX0 {op : CmpOp} {r : R2} (ho : OpR X (compareOp op) r) (ha : PE X a ta) (hb : PE X b tb) (hm : behindInMarks op b = false) : PE X (.Compare a [op] [b] pos) (tOp r ta tb) := by
 intro pins s σ H Q I h
 exact wpAny_Compare1 (cA3 ha hb I h fun v u s2 x y H2 I2 rx ry q => ho pins s2 σ H2 x y v u Q I2 rx ry q) hm
noncomputable def cf1 (t : TE) : TT := fun σ H Q => t σ H fun x H' => ∃ k, x = .bl k ∧ Q k H'
theorem bW0 {op : CmpOp} {r : R2} (ho : OpR X (compareOp op) r) (ha : PE X a ta) (hb : PE X b tb) (hm : behindInMarks op b = false) : PT X (.Compare a [op] [b] pos) (cf1 (tOp r ta tb)) := by
 intro pins s σ H Q I h
 refine wpAny_isTrue_Compare1 (thn (ha pins s σ H _ I h) fun v s1 ⟨x, H1, I1, r1, q1⟩ => thn (hb pins s1 σ H1 _ I1 q1) fun u s2 ⟨y, H2, I2, r2, q2⟩ =>
  thn (ho pins s2 σ H2 x y v u _ I2 r1 r2 q2) fun c s3 ⟨z, H3, I3, r3, k, e, q3⟩ => ?_) hm
 subst e
 cases r3
 exact wpAny_truthy_bool ⟨H3, I3, q3⟩
noncomputable def bF1 (r r' : R2) (ta tb tc : TE) : TE := fun σ H Q => ta σ H fun x H1 => tb σ H1 fun y H2 => r x y H2 fun z H3 => ∃ k, z = .bl k ∧
 (if k = true then tc σ H3 fun w' H4 => r' y w' H4 Q else Q (.bl false) H3)
theorem aW5 {op op' : CmpOp} {r r' : R2} (ho : OpR X (compareOp op) r) (ho' : OpR X (compareOp op') r') (ha : PE X a ta) (hb : PE X b tb) (hc : PE X c tc)
  (hm : lastMarks [op, op'] [b, c] = false := by with_unfolding_all rfl) : PE X (.Compare a [op, op'] [b, c] pos) (bF1 r r' ta tb tc) := by
 intro pins s σ H Q I h
 refine Compare_chain (thn (ha pins s σ H _ I h) fun v s1 ⟨x, H1, I1, r1, q1⟩ => chain_link (thn (hb pins s1 σ H1 _ I1 q1) fun u s2 ⟨y, H2, I2, r2, q2⟩ =>
  thn (ho pins s2 σ H2 x y v u _ I2 r1 r2 q2) fun d s3 ⟨z, H3, I3, r3, k, e, q3⟩ => ?_)) hm
 subst e
 cases r3
 refine wpAny_truthy_bool ?_
 cases k with
 | false => exact ite_ff ⟨.bl false, H3, I3, rfl, q3⟩
 | true => exact ite_tt (chain_last (thn (hc pins s3 σ H3 _ I3 q3) fun w' s4 ⟨z', H4, I4, r4, q4⟩ => ho' pins s4 σ H4 y z' u w' Q I4 r2 r4 q4))
theorem aW1 {op op' : CmpOp} {r r' : R2} (ho : OpR X (compareOp op) r) (ho' : OpR X (compareOp op') r') (ha : PE X a ta) (hb : PE X b tb) (hc : PE X c tc)
  (hm : lastMarks [op, op'] [b, c] = false := by with_unfolding_all rfl) : PT X (.Compare a [op, op'] [b, c] pos) (cf1 (bF1 r r' ta tb tc)) := by
 intro pins s σ H Q I h
 refine isTrue_chain (thn (ha pins s σ H _ I h) fun v s1 ⟨x, H1, I1, r1, q1⟩ => test_link (thn (hb pins s1 σ H1 _ I1 q1) fun u s2 ⟨y, H2, I2, r2, q2⟩ =>
  thn (ho pins s2 σ H2 x y v u _ I2 r1 r2 q2) fun d s3 ⟨z, H3, I3, r3, k, e, q3⟩ => ?_)) hm
 subst e
 cases r3
 refine wpAny_truthy_bool ?_
 cases k with
 | false =>
  obtain ⟨k', e', q'⟩ := q3
  cases e'
  exact ite_ff ⟨H3, I3, q'⟩
 | true =>
  refine ite_tt (test_last (thn (hc pins s3 σ H3 _ I3 q3) fun w' s4 ⟨z', H4, I4, r4, q4⟩ => thn (ho' pins s4 σ H4 y z' u w' _ I4 r2 r4 q4) fun d' s5 ⟨z2, H5, I5, r5, k2, e2, q5⟩ => ?_))
  subst e2
  cases r5
  exact wpAny_truthy_bool ⟨H5, I5, q5⟩
noncomputable def cJ1 (K : PySem.W.Frag) (x : V) (H : Hp) (k : Bool) : Prop :=
 match x with
 | .non => k = false
 | .bl b => k = b
 | .int i => k = (i != 0)
 | .str y => y.length ≤ sizeLine ∧ k = ((y.length : Int) != 0)
 | .byt y => y.size ≤ sizeLine ∧ k = ((y.size : Int) != 0)
 | .ref p => (∃ xs, SqL K H p xs ∧ k = !xs.isEmpty) ∨ (∃ xs, SqT K H p xs ∧ k = !xs.isEmpty) ∨ ∃ kvs, H p = some (.dK kvs) ∧ k = !kvs.isEmpty
 | _ => False
theorem bh8 {κ : Type} {kvs : List (κ × V)} {vs : List (κ × Value)} (r : KV kvs vs) : (!vs.isEmpty) = !kvs.isEmpty := by
 cases r <;> rfl
theorem aF8 {xs : List V} {its : List Value} (r : L7 xs its) : (!its.toArray.isEmpty) = !xs.isEmpty := by
 cases r <;> simp
theorem ax4 : (sizeLine : Nat) < 2 ^ 63 := by rw [sizeLine_eq]; decide
theorem cj0 : cM6 X (fun x H Q => ∃ k, cJ1 X.K x H k ∧ Q k H) := by
 intro pins s σ H x v Q I rx h
 obtain ⟨k, e, q⟩ := h
 have hl := ax4
 have hs : sizeLine = 16777216 := sizeLine_eq
 cases x with
 | non =>
  cases rx
  have e' : k = false := e
  subst e'
  exact truthy_none ⟨H, I, q⟩
 | bl b =>
  cases rx
  have e' : k = b := e
  subst e'
  exact wpAny_truthy_bool ⟨H, I, q⟩
 | int i =>
  obtain ⟨t, rfl⟩ := rx
  have e' : k = (i != 0) := e
  subst e'
  exact PySem.P.truthy_int ⟨H, I, q⟩
 | str y =>
  obtain ⟨t, rfl⟩ := rx
  obtain ⟨hy, e'⟩ : y.length ≤ sizeLine ∧ k = ((y.length : Int) != 0) := e
  subst e'
  exact PySem.P.truthy_str (by omega) ⟨H, I.tok _, q⟩
 | byt y =>
  obtain ⟨t, rfl⟩ := rx
  obtain ⟨hy, e'⟩ : y.size ≤ sizeLine ∧ k = ((y.size : Int) != 0) := e
  subst e'
  exact PySem.W.truthy_bytes (by omega) ⟨H, I.tok _, q⟩
 | ref p =>
  cases rx
  have e' : (∃ xs, SqL X.K H p xs ∧ k = !xs.isEmpty) ∨ (∃ xs, SqT X.K H p xs ∧ k = !xs.isEmpty) ∨ ∃ kvs, H p = some (.dK kvs) ∧ k = !kvs.isEmpty := e
  rcases e' with ⟨xs, hx, e'⟩ | ⟨xs, hx, e'⟩ | ⟨kvs, hx, e'⟩
  ·subst e'
   obtain ⟨its, r, pl, hz⟩ := I.list hx
   have hlen := r.length
   exact wpAny_truthy_list pl.isList (by simp only [List.size_toArray]; omega) ⟨H, I.tok _, by rw [aF8 r]; exact q⟩
  ·subst e'
   obtain ⟨its, r, pl, hz⟩ := I.tuple hx
   have hlen := r.length
   exact truthy_tuple pl (by simp only [List.size_toArray]; omega) ⟨H, I.tok _, by rw [aF8 r]; exact q⟩
  ·subst e'
   obtain ⟨hz, hS, vs, r, m⟩ : kvs.length ≤ sizeLine ∧ (p == sysModules) = false ∧ ∃ vs, KV kvs vs ∧ s.heap.DictOf (aR6 X.prog X.w) p vs := I.hok p _ hx
   have hlen : kvs.length = vs.length := Paired.length r
   exact wpAny_truthy_dict hS m (by omega) ⟨H, I.tok _, by rw [bh8 r]; exact q⟩
 | _ => exact (show False from e).elim
theorem bG6 (ha : PE X a ta) (he : ∀ whole, isTrue a X.env whole = (do let v ← whole; standAt a.pos; holding [v] (truthy v))) :
  PT X a (fun σ H Q => ta σ H fun x H' => ∃ k, cJ1 X.K x H' k ∧ Q k H') := by
 intro pins s σ H Q I h
 exact isTrue_plain (thn (ha pins s σ H _ I h) fun v s1 ⟨x, H1, I1, r1, q1⟩ => cj0 pins s1 σ H1 x v Q I1 r1 q1) (he _)
theorem bf5 : OpR X (binaryOp .Add) (fun x y H Q => ∃ i j, x = .str i ∧ y = .str j ∧ i.length + j.length ≤ sizeLine ∧ Q (.str (i ++ j)) H) := by
 intro pins s σ H x y v u Q I rx ry h
 obtain ⟨i, j, rfl, rfl, hz, q⟩ := h
 obtain ⟨t, rfl⟩ := rx
 obtain ⟨t', rfl⟩ := ry
 exact add_str (fun t' tk => ⟨.str (i ++ j), H, I.tok _, ⟨_, rfl⟩, q⟩) hz
theorem x5 {x : V} {us : List Value} (r : L7 [x] us) : ∃ u, us = [u] ∧ O4 x u := by
 cases r with
 | cons r1 r2 => cases r2; exact ⟨_, rfl, r1⟩
theorem bl9 {x y : V} {us : List Value} (r : L7 [x, y] us) : ∃ u w', us = [u, w'] ∧ O4 x u ∧ O4 y w' := by
 cases r with
 | cons r1 r2 =>
  cases r2 with
  | cons r3 r4 => cases r4; exact ⟨_, _, rfl, r1, r3⟩
theorem bR4 : Z7 X (.builtin "abs") (fun xs H Q => ∃ i, xs = [.int i] ∧ Q (.int (if i < 0 then -i else i)) H) := by
 intro pins s σ H xs us Q I r h
 obtain ⟨i, rfl, q⟩ := h
 obtain ⟨u, rfl, t, rfl⟩ := x5 r
 exact call_abs_int fun u tk => ⟨.int (if i < 0 then -i else i), H, I.tok _, ⟨_, rfl⟩, q⟩
theorem bA8 (hc : X.calm = true) : Z7 X (.builtin "max") (fun xs H Q => ∃ i j, xs = [.int i, .int j] ∧ Q (.int (if j > i then j else i)) H) := by
 intro pins s σ H xs us Q I r h
 obtain ⟨i, j, rfl, q⟩ := h
 obtain ⟨u, w', rfl, ⟨t, rfl⟩, ⟨t', rfl⟩⟩ := bl9 r
 refine max_two_ints (I.ok.hd hc) fun h' tk k => ⟨_, H, I.kept k, ?_, q⟩
 by_cases hj : j > i
 ·rw [if_pos hj, if_pos hj]; exact ⟨_, rfl⟩
 ·rw [if_neg hj, if_neg hj]; exact ⟨_, rfl⟩
theorem bA6 (hc : X.calm = true) : Z7 X (.builtin "min") (fun xs H Q => ∃ i j, xs = [.int i, .int j] ∧ Q (.int (if j < i then j else i)) H) := by
 intro pins s σ H xs us Q I r h
 obtain ⟨i, j, rfl, q⟩ := h
 obtain ⟨u, w', rfl, ⟨t, rfl⟩, ⟨t', rfl⟩⟩ := bl9 r
 refine min_two_ints (I.ok.hd hc) fun h' tk k => ⟨_, H, I.kept k, ?_, q⟩
 by_cases hj : j < i
 ·rw [if_pos hj, if_pos hj]; exact ⟨_, rfl⟩
 ·rw [if_neg hj, if_neg hj]; exact ⟨_, rfl⟩
theorem aN0 : Z7 X (.type "int") (fun xs H Q => (∃ i, xs = [.int i] ∧ Q (.int i) H) ∨ ∃ k, xs = [.bl k] ∧ Q (.int (if k then 1 else 0)) H) := by
 intro pins s σ H xs us Q I r h
 rcases h with ⟨i, rfl, q⟩ | ⟨k, rfl, q⟩
 ·obtain ⟨u, rfl, t, rfl⟩ := x5 r
  exact call_int_int ⟨.int i, H, I, ⟨_, rfl⟩, q⟩
 ·obtain ⟨u, rfl, r1⟩ := x5 r
  cases r1
  exact call_int_bool ⟨.int (if k then 1 else 0), H, I.tok _, ⟨_, rfl⟩, q⟩
theorem aT6 : Z7 X (.type "str") (fun xs H Q => ∃ i, xs = [.int i] ∧ i.natAbs.log2 < 1920 ∧ Q (.str (toString i)) H) := by
 intro pins s σ H xs us Q I r h
 obtain ⟨i, rfl, hz, q⟩ := h
 obtain ⟨u, rfl, t, rfl⟩ := x5 r
 exact PySem.P.str_of_int hz ⟨.str _, H, I.tok _, ⟨_, rfl⟩, q⟩
end
end L2
namespace L2
open PySem PySem.Spec PyProof.Rows
section
variable {prog : Program} {w : World} {A : Around} {E : Value → Shared → Prop} {s : Shared} {K : PySem.W.Frag} {x dx C f : Addr} {mA : Str → Option Value} {name : Str} {v : Value}
end
section
variable {P : Program} {w : World} {H H' : Hp} {h h' : Heap} {a C dx : Addr} {fs fs' : List (Str × V)}
end
section
variable {X : Cx} {pins : List (Addr × Obj)} {σ : St} {H : Hp} {s : Shared} {a C dx : Addr} {fs : List (Str × V)} {f : Str} {v : V} {A : Around} {E : Value → Shared → Prop}
end
section
variable {X : Cx} {o e value : Expr} {f : Str} {pos pos' tpos : Pos} {ta tv : TE}
end
section
variable {X : Cx} {pins : List (Addr × Obj)} {σ : St} {H : Hp} {s : Shared} {A : Around} {E : Value → Shared → Prop} {Q : Value → Shared → Prop} {c : Value} {b : Bool}
end
end L2
namespace L2
open PySem PySem.Spec PyProof.Rows
structure Room (k : Nat) (A : Around) : Prop where
 hd : A.handled = none
 dp : A.depth + 3 * k + 5 < recursionLimit
 un : A.units + 16 * k + 200 < cLine
theorem Room.mono {j k : Nat} {A : Around} (r : Room k A) (h : j ≤ k) : Room j A := ⟨r.hd, by have := r.dp; omega, by have := r.un; omega⟩
theorem Room.deeper {k : Nat} {A : Around} (r : Room (k + 1) A) (env : Env) : Room k (A.deeper env) :=
 ⟨r.hd, by have := r.dp; show A.depth + 1 + 3 * k + 5 < _; omega, by have := r.un; show A.units + 3 + 16 * k + 200 < _; omega⟩
theorem Room.depth {k : Nat} {A : Around} (r : Room k A) : A.depth < recursionLimit := by have := r.dp; omega
theorem Room.units {k : Nat} {A : Around} (r : Room k A) : A.units + 64 < cLine := by have := r.un; omega
noncomputable def cD1 : TA := fun _ H Q => Q [] H
noncomputable def cD4 (ta : TE) (tr : TA) : TA := fun σ H Q => ta σ H fun x H1 => tr σ H1 fun xs H2 => Q (x :: xs) H2
section
variable {X : Cx} {e : Expr} {es : List Expr} {te : TE} {t : TA} {pos : Pos}
theorem N8 : PA X [] cD1 := fun _ _ _ _ H Q I h => Calls.spliced_nil ⟨[], H, I, .nil, h⟩
theorem K4 (ha : PE X e te) (hr : PA X es t) (hs : starEach (e :: es) X.env = (false, eval e X.env) :: starEach es X.env := by rfl) : PA X (e :: es) (cD4 te t) := by
 intro pos pins s σ H Q I h
 rw [hs]
 show wpAny _ _ (spliced ((false, eval e X.env) :: backTo pos (starEach es X.env))) _ _ s
 refine Calls.spliced_cons (thn (ha pins s σ H _ I h) fun u s1 ⟨x, H1, I1, r1, q1⟩ => ?_)
 exact thn (hr pos pins s1 σ H1 _ I1 q1) fun us s2 ⟨xs, H2, I2, r2, q2⟩ => ⟨x :: xs, H2, I2, .cons r1 r2, q2⟩
noncomputable def cJ8 (t : TA) : TE := fun σ H Q => t σ H fun xs H1 => xs.length ≤ sizeLine ∧ ∀ p, H1 p = none → Q (.ref p) (upd H1 p (.tup xs))
noncomputable def cK4 (t : TA) : TE := fun σ H Q => t σ H fun xs H1 => xs.length ≤ sizeLine ∧ ∀ p, H1 p = none → Q (.ref p) (upd H1 p (.lst xs))
theorem cq4 {x1} (h : PA X es t) : PE X (.Tuple es x1 pos) (cJ8 t) := by
 intro pins s σ H Q I hq
 refine wpAny_Tuple_spliced (thn (h pos pins s σ H _ I hq) fun us s1 ⟨xs, H1, I1, r, z, q⟩ => ⟨by rw [← r.length]; exact z, ?_⟩)
 have hf : H1 s1.heap.objs.size = none := I1.hok.fresh (Nat.le_refl _)
 refine ⟨.ref s1.heap.objs.size, upd H1 s1.heap.objs.size (.tup xs), I1.laid (t' := s1.toks) (fun b u e => Heap.get?_push_of_some _ e) (Nat.le_refl _) ?_, rfl, q _ hf⟩
 exact ⟨z, us, r, ⟨_, Heap.get?_push_size _ rfl, rfl, _, rfl⟩⟩
theorem cr0 (h : PA X es t) : PE X (.List es pos) (cK4 t) := by
 intro pins s σ H Q I hq
 refine wpAny_List_spliced (thn (h pos pins s σ H _ I hq) fun us s1 ⟨xs, H1, I1, r, z, q⟩ => ⟨by rw [← r.length]; exact z, ?_⟩)
 have hf : H1 s1.heap.objs.size = none := I1.hok.fresh (Nat.le_refl _)
 refine ⟨.ref s1.heap.objs.size, upd H1 s1.heap.objs.size (.lst xs), I1.laid (t' := s1.toks) (fun b u e => Heap.get?_push_of_some _ e) (Nat.le_refl _) ?_, rfl, q _ hf⟩
 exact ⟨z, us, 0, r, Heap.get?_push_size _ rfl⟩
end
noncomputable abbrev Sp := List V → Hp → VK → XK → Prop
noncomputable abbrev CXT := List Env → Hp → Shared → XK → Value → Shared → Prop
structure Env0 (P : Program) (w : World) (K : PySem.W.Frag) (mg : Str → Option Value) (base : Heap) (A : Around) (outer : List Env) (s : Shared) (H : Hp) : Prop where
 frames : A.frames = some outer
 mod : Mod K mg base
 bs : ∀ b o, base.get? b = some o → s.heap.get? b = some o ∧ H b = none
 bsz : base.objs.size ≤ s.heap.objs.size
 funs : s.heap.FunFrames base outer
 frf : ∀ b ∈ frs outer, H b = none
 hok : HOk P w H s.heap
 bare : AllBare s.gens
noncomputable def CE (outer : List Env) (P : Program) (w : World) (H : Hp) (s : Shared) (Q : VK) (u : Value) (s' : Shared) : Prop :=
 ∃ v H', s'.os = s.os ∧ AllBare s'.gens ∧ Un (frs outer) [] H H' s.heap s'.heap ∧ HOk P w H' s'.heap ∧ O4 v u ∧ Q v H'
noncomputable def CR (CX : CXT) (outer : List Env) (P : Program) (w : World) (H : Hp) (s : Shared) (Q : VK) (E : XK) (r : Result) (s' : Shared) : Prop :=
 match r with
 | .ok (.ret u) => CE outer P w H s Q u s'
 | .ok _ => False
 | .error e => CX outer H s E e s'
structure FnOk (P : Program) (w : World) (K : PySem.W.Frag) (mg : Str → Option Value) (base : Heap) (CX : CXT) (k : Nat) (f : Addr) (fd : FuncData) (ps : List Str) (sp : Sp) : Prop where
 len : ∀ vs H Q E, sp vs H Q E → vs.length = ps.length
 run : ∀ (A : Around) (outer : List Env) (s : Shared) (H : Hp) (args : Args) (us : List Value) (vs : List V) (Q : VK) (E : XK), Room k A → Env0 P w K mg base A outer s H → BindsTo s fd args (ps.zip us) → L7 vs us → sp vs H Q E →
  codeAny (model P w) A (.call (.ref f) args) (CR CX outer P w H s Q E) s
theorem FnOk.mono {P : Program} {w : World} {K : PySem.W.Frag} {mg : Str → Option Value} {base : Heap} {CX : CXT} {j k : Nat} {f : Addr} {fd : FuncData} {ps : List Str} {sp : Sp} (F : FnOk P w K mg base CX j f fd ps sp) (h : j ≤ k) :
  FnOk P w K mg base CX k f fd ps sp := ⟨F.len, fun A outer s H args us vs Q E hr => F.run A outer s H args us vs Q E (hr.mono h)⟩
section
variable {X : Cx} {pins : List (Addr × Obj)} {σ : St} {H : Hp} {s s' : Shared}
theorem Inv.env0 (I : Inv X pins σ H s) : Env0 X.prog X.w X.K X.mg X.base X.A X.stack s H :=
 ⟨I.ok.frames, I.ok.mod, I.bs, Nat.le_trans I.ok.bsz I.sz, I.stack, I.stkFree, I.hok, I.bare⟩
theorem Inv.after {Q : VK} {u : Value} (I : Inv X pins σ H s) (h : CE X.stack X.prog X.w H s Q u s') : EP X pins σ Q u s' := by
 obtain ⟨v, H', os, bare, un, hok, r, q⟩ := h
 obtain ⟨hh, g, d, t, os'⟩ := s'
 obtain rfl : os' = s.os := os
 exact ⟨v, H', I.call (h' := hh) (g' := g) (d' := d) (t' := t) (ch := []) un hok bare (fun b z => absurd z (by simp)), r, q⟩
end
noncomputable def cf3 (sp : Sp) (dvs : List V) (E : XK) (t : TA) : TE := fun σ H Q => t σ H fun vs H1 => sp (vs ++ dvs) H1 Q E
noncomputable def c7 (K : PySem.W.Frag) (fd : FuncData) (ps : List Str) (ds : List Value) : Prop :=
 ∀ (s : Shared) (us : List Value), K.In s.heap → (us ++ ds).length = ps.length → BindsTo s fd ⟨us, []⟩ (ps.zip (us ++ ds))
theorem c7.all {K : PySem.W.Frag} {fd : FuncData} {ps : List Str} (h : ∀ us : List Value, us.length = ps.length → bindArgs fd ⟨us, []⟩ = pure (ps.zip us)) : c7 K fd ps [] := fun s us _ hl => by
 rw [List.append_nil] at hl ⊢
 exact .of_eq (h us hl)
noncomputable def aU7 (CX : CXT) (X : Cx) (E : XK) : Prop := ∀ (pins : List (Addr × Obj)) (σ : St) (H : Hp) (s : Shared) (e : Value) (s' : Shared), Inv X pins σ H s → CX X.stack H s E e s' → X.xe e s'
section
variable {X : Cx} {CX : CXT} {k : Nat} {f C : Addr} {fd : FuncData} {ps : List Str} {sp : Sp} {dvs : List V} {ds : List Value} {E : XK} {x m : Str} {p pos apos : Pos} {e o : Expr} {es : List Expr} {ta : TE} {t : TA}
theorem bG1 {pins : List (Addr × Obj)} {σ : St} {H : Hp} {s : Shared} {Q : VK} {us : List Value} {vs : List V} (F : FnOk X.prog X.w X.K X.mg X.base CX k f fd ps sp) (hr : Room k X.A) (hb : c7 X.K fd ps ds) (hd : L7 dvs ds) (hx : aU7 CX X E)
  (I : Inv X pins σ H s) (r : L7 vs us) (h : sp (vs ++ dvs) H Q E) : wpAny (model X.prog X.w) X.A (call (.ref f) us) (EP X pins σ Q) X.xe s := by
 have r2 : L7 (vs ++ dvs) (us ++ ds) := r.append hd
 have hl : (us ++ ds).length = ps.length := by rw [← r2.length]; exact F.len _ _ _ _ h
 refine wpAny_call (codeAny_mono (F.run X.A X.stack s H ⟨us, []⟩ (us ++ ds) (vs ++ dvs) Q E hr I.env0 (hb s us I.kIn hl) r2 h) fun r s' hq => ?_)
 cases r with
 | error e => exact hx pins σ H s e s' I hq
 | ok fl =>
  cases fl with
  | ret u => exact I.after hq
  | next => exact False.elim hq
  | brk => exact False.elim hq
  | cont => exact False.elim hq
theorem bX1 (F : FnOk X.prog X.w X.K X.mg X.base CX k f fd ps sp) (hr : Room k X.A) (hg : Gl X x) (hm : X.mg x = some (.ref f)) (hk : PySem.W.keepIn X.K (.ref f) = true) (hb : c7 X.K fd ps ds) (hd : L7 dvs ds) (hx : aU7 CX X E)
  (ha : PA X (e :: es) t) (hdb : (x == ("__debug__" : Str)) = false := by decide) (he : starEach (e :: es) X.env = (false, eval e X.env) :: starEach es X.env := by rfl) (hpl : (backTo pos (starEach es X.env)).any (·.1) = false := by rfl) :
  PE X (.Call (.Name x p) (e :: es) [] pos) (cf3 sp dvs E t) := by
 intro pins s σ H Q I h
 refine wpAny_Call_Name_kw (aR9 I hg hm ?_ hdb)
 refine PySem.W.callWith_K (h₀ := X.base) I.ok.mod.kin hk (thn (ha pos pins s σ H _ I h) fun us s1 ⟨vs, H1, I1, r, q⟩ => ⟨I1.kIn, ?_⟩) he hpl
 exact bG1 F hr hb hd hx I1 r q
theorem bH5 (F : FnOk X.prog X.w X.K X.mg X.base CX k f fd ps sp) (hr : Room k X.A) (hg : Gl X x) (hm : X.mg x = some (.ref f)) (hk : PySem.W.keepIn X.K (.ref f) = true) (hb : c7 X.K fd ps ds) (hd : L7 dvs ds) (hx : aU7 CX X E)
  (hdb : (x == ("__debug__" : Str)) = false := by decide) : PE X (.Call (.Name x p) [] [] pos) (cf3 sp dvs E cD1) := by
 intro pins s σ H Q I h
 refine wpAny_Call_Name_kw (aR9 I hg hm ?_ hdb)
 exact PySem.W.callWith_K0 I.kIn hk (bG1 (us := []) F hr hb hd hx I .nil h)
end
section
variable {X : Cx} {CX : CXT} {k : Nat} {f C : Addr} {fd : FuncData} {ps ks : List Str} {sp : Sp} {E : XK} {x m : Str} {p pos apos kpos : Pos} {e o : Expr} {es : List Expr} {kws : List Keyword} {te ta : TE} {t tk : TA} {nm : Option Str}
variable {g : List Value → List Value → List Value} {gV : List V → List V → List V}
end
structure FnScope (N P : List Str) (sc : Scope) : Prop where
 kind : sc.kind = .function
 co : sc.isCoroutine = false
 gen : sc.isGenerator = false
 nd : N.Nodup
 pre : N.take P.length = P
 par : ∀ x ∈ P, sc.names.lookup x = some .local ∨ sc.names.lookup x = some .cell
 nofree : ∀ y ∈ sc.names, y.2 ≠ .free
theorem aN1 {kindOf : Str → Option NameKind} {x : Str} : ∀ {binds : List (Str × Value)} {m : Str → Option Value}, (∀ v, (x, v) ∉ binds) → bindL kindOf binds m x = m x
 | [], _, _ => rfl
 | (n, v) :: r, m, h => by
  unfold bindL
  rw [aN1 fun w hw => h w (List.mem_cons_of_mem _ hw)]
  split
  ·have : x ≠ n := by rintro rfl; exact h v List.mem_cons_self
   simp [this]
  ·rfl
theorem aN3 {kindOf : Str → Option NameKind} {x : Str} : ∀ {binds : List (Str × Value)} {m : Str → Option Value}, (∀ v, (x, v) ∉ binds) → bindC kindOf binds m x = m x
 | [], _, _ => rfl
 | (n, v) :: r, m, h => by
  unfold bindC
  rw [aN3 fun w hw => h w (List.mem_cons_of_mem _ hw)]
  split
  ·rfl
  ·have : x ≠ n := by rintro rfl; exact h v List.mem_cons_self
   simp [this]
theorem aN2 {kindOf : Str → Option NameKind} {x : Str} {v : Value} : ∀ {P : List Str} {vs : List Value} {i : Nat} {m : Str → Option Value}, P.Nodup → P[i]? = some x → vs[i]? = some v → kindOf x = some .local →
  bindL kindOf (P.zip vs) m x = some v
 | [], _, _, _, _, h, _, _ => by simp at h
 | _ :: _, [], _, _, _, _, h, _ => by simp at h
 | p :: P, w :: vs, 0, m, nd, h1, h2, hk => by
  simp at h1 h2; subst h1; subst h2
  show bindL kindOf ((p, w) :: P.zip vs) m p = _
  unfold bindL
  rw [aN1 fun v hv => (List.nodup_cons.mp nd).1 (List.of_mem_zip hv).1, if_pos hk]
  simp
 | p :: P, w :: vs, i + 1, m, nd, h1, h2, hk => by
  show bindL kindOf ((p, w) :: P.zip vs) m x = _
  unfold bindL
  exact aN2 (i := i) (List.nodup_cons.mp nd).2 (by simpa using h1) (by simpa using h2) hk
theorem aN4 {kindOf : Str → Option NameKind} {x : Str} {v : Value} : ∀ {P : List Str} {vs : List Value} {i : Nat} {m : Str → Option Value}, P.Nodup → P[i]? = some x → vs[i]? = some v → kindOf x ≠ some .local →
  bindC kindOf (P.zip vs) m x = some v
 | [], _, _, _, _, h, _, _ => by simp at h
 | _ :: _, [], _, _, _, _, h, _ => by simp at h
 | p :: P, w :: vs, 0, m, nd, h1, h2, hk => by
  simp at h1 h2; subst h1; subst h2
  show bindC kindOf ((p, w) :: P.zip vs) m p = _
  unfold bindC
  rw [aN3 fun v hv => (List.nodup_cons.mp nd).1 (List.of_mem_zip hv).1, if_neg hk]
  simp
 | p :: P, w :: vs, i + 1, m, nd, h1, h2, hk => by
  show bindC kindOf ((p, w) :: P.zip vs) m x = _
  unfold bindC
  exact aN4 (i := i) (List.nodup_cons.mp nd).2 (by simpa using h1) (by simpa using h2) hk
noncomputable def x8 (N : List Str) (vs : List V) : St := vs.map some ++ List.replicate (N.length - vs.length) none
noncomputable def bj2 (CX : CXT) (P : Program) (w : World) (K : PySem.W.Frag) (mg : Str → Option Value) (base : Heap) (N : List Str) (qual : Str) (scope : Scope) (f : Addr) (cd : Value) (A : Around) (outer : List Env) (s : Shared) (H : Hp) (E : XK) : Cx where
 prog := P
 w := w
 K := K
 mg := mg
 base := base
 A := A.deeper (envOfC qual scope s.heap.objs.size f cd)
 N := N
 s₀ := s
 H₀ := H
 env := envOfC qual scope s.heap.objs.size f cd
 outer := outer
 stack := envOfC qual scope s.heap.objs.size f cd :: outer
 ex := []
 calm := true
 fn := fun _ => true
 pn := []
 xe := fun e s' => wpAny (model P w) (A.deeper (envOfC qual scope s.heap.objs.size f cd)) (leaving (envOfC qual scope s.heap.objs.size f cd) e) (fun _ s'' => CX outer H s E e s'') (fun e' s'' => CX outer H s E e' s'') s'
theorem ba7 {sc : Scope} {n : Nat} {x : Str} (h : sc.names.lookup x = some .cell) : ∃ c, (cellsFrom n sc.names []).lookup x = some c := by
 have q := PySem.W.cellsFrom_some sc.names n [] (.inl h)
 exact Option.isSome_iff_exists.mp q
theorem bx7 {CX : CXT} {P : Program} {w : World} {K : PySem.W.Frag} {mg : Str → Option Value} {base : Heap} {N ps : List Str} {qual : Str} {scope : Scope} {f : Addr} {cd : Value} {A : Around} {outer : List Env} {s s1 : Shared} {H : Hp} {E : XK} {us : List Value} {vs : List V}
  (S : FnScope N ps scope) (hd : A.handled = none) (e0 : Env0 P w K mg base A outer s H) (hl : vs.length = ps.length) (r : L7 vs us)
  (x : InCallC s s.heap.objs.size (bindL (envOfC qual scope s.heap.objs.size f cd).kindOf (ps.zip us) fun _ => none) (cellsFrom (s.heap.objs.size + 1) scope.names []) (bindC (envOfC qual scope s.heap.objs.size f cd).kindOf (ps.zip us) fun _ => none) s1) :
  Inv (bj2 CX P w K mg base N qual scope f cd A outer s H E) [] (x8 N vs) H s1 := by
 have hpl : ps.length ≤ N.length := by have := congrArg List.length S.pre; rw [List.length_take] at this; omega
 obtain ⟨h1, tk, rfl, hk⟩ := x.done
 have noA : ∀ b : Addr, b ∉ (bj2 CX P w K mg base N qual scope f cd A outer s H E).ex := fun b z => absurd (show b ∈ ([] : List Addr) from z) (by simp)
 refine ⟨⟨e0.mod, S.kind, rfl, rfl, Nat.le_refl _, fun y z c h1 h2 => ?_, fun y hy => ?_, fun y c _ h => ?_, fun _ => hd, Around.frames_deeper e0.frames, .inr ⟨rfl, rfl⟩, fun b z => absurd z (noA b), e0.bs, e0.bsz, fun b _ _ => noA b, fun b z => absurd z (noA b), e0.funs, e0.frf⟩,
  rfl, e0.bare, Un.kept hk, ⟨_, x.toInCall.ns, fun i y v h1 h2 h3 => ?_⟩, fun y c h => ⟨_, x.cell y c h⟩, e0.hok.fresh (Nat.le_refl _), fun y c h => ?_, fun p hp => absurd (show p ∈ ([] : List (Addr × Obj)) from hp) (by simp), e0.hok.kept hk, ?_⟩
 ·exact name_of_addr x.apart (PySem.mem_of_lookup h1) (PySem.mem_of_lookup h2)
 ·have hy : scope.names.lookup y = some .cell ∨ scope.names.lookup y = some .free := hy
  rcases hy with hy | hy
  ·exact ba7 hy
  ·exact absurd rfl (S.nofree _ (PySem.mem_of_lookup hy))
 ·exact Nat.le_of_lt (x.above y c (PySem.mem_of_lookup h))
 ·have hi : i < vs.length := by
   unfold x8 at h2
   by_cases hi : i < vs.length
   ·exact hi
   ·rw [List.getElem?_append_right (by simpa using hi)] at h2
    rw [List.getElem?_replicate] at h2
    split at h2 <;> cases h2
  have ha : vs[i]? = some v := by
   unfold x8 at h2
   rw [List.getElem?_append_left (by simpa using hi), List.getElem?_map] at h2
   cases e : vs[i]? with
   | none => rw [e] at h2; cases h2
   | some a => rw [e] at h2; cases h2; rfl
  obtain ⟨u, hu, rv⟩ := r.get ha
  have hp : ps[i]? = some y := by
   rw [← S.pre, List.getElem?_take_of_lt (by omega)]; exact h1
  have ndP : ps.Nodup := by rw [← S.pre]; exact S.nd.sublist (List.take_sublist _ _)
  refine ⟨u, rv, ?_⟩
  rcases S.par y (List.mem_of_getElem? hp) with k | k
  ·exact .inl ⟨k, aN2 ndP hp hu k⟩
  ·obtain ⟨c, e⟩ := ba7 (n := s.heap.objs.size + 1) k
   refine .inr ⟨.inl k, c, e, ?_⟩
   have q := x.cell y c e
   rw [aN4 ndP hp hu (by show scope.names.lookup y ≠ _; rw [k]; decide)] at q
   exact q
 ·exact e0.hok.fresh (Nat.le_of_lt (x.above y c (PySem.mem_of_lookup h)))
 ·unfold x8
  show _ = N.length
  rw [List.length_append, List.length_map, List.length_replicate]
  omega
theorem aZ0 {CX : CXT} {P : Program} {w : World} {K : PySem.W.Frag} {mg : Str → Option Value} {base : Heap} {k : Nat} {f : Addr} {name qual : Str} {params : Arguments} {body : List Stmt} {scope : Scope} {dV kV doc pm cdv ct oc : Value} {an od : Option Addr}
  {osl : Array (Option Value)} {N ps : List Str} {sp : Sp} (lk : K.lookup f = some ⟨oc, od, .func (PySem.W.fnOf name qual params body scope dV kV doc pm an cdv ct), osl⟩) (hcd : PySem.W.codeIn K cdv qual = true) (S : FnScope N ps scope)
  (len : ∀ vs H Q E, sp vs H Q E → vs.length = ps.length)
  (hbody : ∀ (A : Around) (outer : List Env) (s : Shared) (H : Hp) (vs : List V) (Q : VK) (E : XK), Room k (A.deeper (envOfC qual scope s.heap.objs.size f cdv)) → sp vs H Q E →
   ∃ t, PSs (bj2 CX P w K mg base N qual scope f cdv A outer s H E) body t ∧ t { nx := fun _ H' => Q .non H', rt := Q } (x8 N vs) H) :
  FnOk P w K mg base CX (k + 1) f (PySem.W.fnOf name qual params body scope dV kV doc pm an cdv ct) ps sp := by
 refine ⟨len, fun A outer s H args us vs Q E hr e0 hb r hsp => ?_⟩
 have hl := len _ _ _ _ hsp
 have KX : K.In s.heap := e0.mod.kin.keeps fun b o e => (e0.bs b o e).1
 have lim : s.heap.NoLimit := e0.mod.nolimit.keeps fun b o e => (e0.bs b o e).1
 have hkind : ∀ y ∈ ps.zip us, scope.names.lookup y.1 = some .local ∨ (scope.names.lookup y.1 = some .cell ∧ ((cellsFrom (s.heap.objs.size + 1) scope.names []).lookup y.1).isSome = true) := fun ⟨n, v⟩ hy => by
  rcases S.par n (List.of_mem_zip hy).1 with q | q
  ·exact .inl q
  ·exact .inr ⟨q, PySem.W.cellsFrom_some _ _ _ (.inl q)⟩
 refine codeAny_call_function hr.depth (KX _ _ lk) rfl S.co S.gen rfl (PySem.W.codeRec_of KX hcd) (hb _ _ _ _ ?_)
 refine wpAny_newFunctionEnv_cells S.kind hkind fun env he s1 x => ?_
 subst he
 refine ⟨lim.keeps x.toInCall.keep, codeAny_func ?_⟩
 obtain ⟨t, ht, hq⟩ := hbody A outer s H vs Q E (hr.deeper _) hsp
 have I : Inv (bj2 CX P w K mg base N qual scope f cdv A outer s H E) [] (x8 N vs) H s1 := bx7 S hr.hd e0 hl r x
 refine wpAny_mono (ht [] s1 (x8 N vs) H _ I hq) (fun fl s' hs => ?_) fun e s' hs => hs
 have fin : ∀ {σ' : St} {H' : Hp} {v : V} {u : Value}, Inv (bj2 CX P w K mg base N qual scope f cdv A outer s H E) [] σ' H' s' → O4 v u → Q v H' → CE outer P w H s Q u s' :=
  fun {σ' H' v u} J rv q => ⟨v, H', J.os, J.bare, J.base, J.hok, rv, q⟩
 cases fl with
 | ret u =>
  obtain ⟨v, σ', H', J, rv, q⟩ := hs
  exact fin J rv q
 | next =>
  obtain ⟨σ', H', J, q⟩ := hs
  exact fin (v := V.non) (u := Value.none) J rfl q
 | brk =>
  obtain ⟨_, _, _, q⟩ := hs
  exact False.elim q
 | cont =>
  obtain ⟨_, _, _, q⟩ := hs
  exact False.elim q
end L2
namespace L2
open PySem PySem.Spec PyProof.Rows
section
variable {X : Cx} {x : Str} {p pos : Pos} {e : Expr} {es : List Expr} {t : TA} {id T : String} {r : List V → Hp → VK → Prop}
noncomputable def tCB (r : List V → Hp → VK → Prop) (t : TA) : TE := fun σ H Q => t σ H fun vs H1 => r vs H1 Q
theorem U0 (hc : Z7 X (.builtin id) r) (hg : Gl X x) (hm : X.mg x = none) (hv : bootBuiltins x = some (.builtin id)) (ha : PA X (e :: es) t) (hn : x ≠ "__name__" := by decide) (hdb : (x == ("__debug__" : Str)) = false := by decide)
  (he : starEach (e :: es) X.env = (false, eval e X.env) :: starEach es X.env := by rfl) (hpl : (backTo pos (starEach es X.env)).any (·.1) = false := by rfl) : PE X (.Call (.Name x p) (e :: es) [] pos) (tCB r t) := by
 intro pins s σ H Q I h
 refine wpAny_Call_Name_kw (ao6 I hg hm hv ?_ hn hdb)
 exact PyProof.Rows.callWith_builtin1 (thn (ha pos pins s σ H _ I h) fun us s1 ⟨vs, H1, I1, r1, q1⟩ => hc pins s1 σ H1 vs us Q I1 r1 q1) he hpl
theorem j4 (hc : Z7 X (.type T) r) (hg : Gl X x) (hm : X.mg x = none) (hv : bootBuiltins x = some (.type T)) (ha : PA X (e :: es) t) (hn : x ≠ "__name__" := by decide) (hdb : (x == ("__debug__" : Str)) = false := by decide)
  (he : starEach (e :: es) X.env = (false, eval e X.env) :: starEach es X.env := by rfl) (hpl : (backTo pos (starEach es X.env)).any (·.1) = false := by rfl) : PE X (.Call (.Name x p) (e :: es) [] pos) (tCB r t) := by
 intro pins s σ H Q I h
 refine wpAny_Call_Name_kw (ao6 I hg hm hv ?_ hn hdb)
 exact PyProof.Rows.callWith_type1 (thn (ha pos pins s σ H _ I h) fun us s1 ⟨vs, H1, I1, r1, q1⟩ => hc pins s1 σ H1 vs us Q I1 r1 q1) he hpl
end
end L2
namespace HT
open PySem PyProof.Rows
section
open PySem.SeqAt
open PySem.AutoSeq1 (wpAny_loadPart')
open PySem.MeetsSeq PySem.MeetsSeq2 PySem.MeetsSeq3
end
section
variable {prog : Program} {w : World} {A : Around} {E : Value → Shared → Prop} {s : Shared}
theorem cat_tup {t b : Addr} {vs ws : List Value} {Q : Value → Shared → Prop} (ht : IsTup s.heap t vs.toArray) (hb : IsTup s.heap b ws.toArray) (hv : vs ≠ [])
  (h1 : ws = [] → Q (.ref t) s) (h2 : ws ≠ [] → Q (.ref s.heap.objs.size) { s with heap := s.heap.push { cls := .type "tuple", data := .seq (vs ++ ws).toArray } })
  (hsz : vs.length + ws.length ≤ sizeLine) : wpAny (model prog w) A (binaryOp .Add (.ref t) (.ref b)) Q E s := by
 obtain ⟨⟨cls, dd, data, sl⟩, ho, hc, n, hd⟩ := id ht
 obtain ⟨⟨cls2, dd2, data2, sl2⟩, ho2, hc2, n2, hd2⟩ := id hb
 simp only at hc hd hc2 hd2
 subst hc hd hc2 hd2
 have e : vs.toArray ++ ws.toArray = (vs ++ ws).toArray := by simp
 by_cases hw : ws = []
 ·exact concat_meets ⟨_, ho, rfl⟩ ⟨_, ho2, rfl⟩ noFill_tuple_add seq_tuple_add PySem.F.slot_tuple_add PySem.F.entry_tuple_add (PySem.F.args_tuple_add_2 _ _)
   (tuple_addW1 t b vs.toArray ws.toArray n n2 dd dd2 sl sl2 (by simpa using hv) (by simp [hw])) ⟨ho, ho2, h1 hw⟩
 ·refine concat_meets ⟨_, ho, rfl⟩ ⟨_, ho2, rfl⟩ noFill_tuple_add seq_tuple_add PySem.F.slot_tuple_add PySem.F.entry_tuple_add (PySem.F.args_tuple_add_2 _ _)
   (tuple_addW2 t b vs.toArray ws.toArray n n2 dd dd2 sl sl2 (by simpa using hv) (by simpa using hw) (by rw [List.size_toArray, List.size_toArray]; exact hsz)) ⟨ho, ho2, ?_⟩
  rw [e]
  exact h2 hw
noncomputable def sIx (n d : Nat) : Option Int → Nat
 | none => d
 | some v => if v < 0 then (v + (n : Int)).toNat else min v.toNat n
theorem sIx_nat (n d k : Nat) : sIx n d (some (k : Int)) = min k n := by
 show (if (k : Int) < 0 then ((k : Int) + (n : Int)).toNat else min (k : Int).toNat n) = min k n
 rw [if_neg (by omega), Int.toNat_natCast]
theorem cp2 (n d : Nat) (hd : d ≤ n) (o : Option Int) : sIx n d o ≤ n := by
 cases o with
 | none => exact hd
 | some v =>
  show (if v < 0 then (v + (n : Int)).toNat else min v.toNat n) ≤ n
  by_cases hv : v < 0
  ·rw [if_pos hv]; omega
  ·rw [if_neg hv]; exact Nat.min_le_right _ _
theorem bq7 (v : Int) (n d : Nat) : (if v < 0 then max (v + (n : Int)) 0 else min v (n : Int)) = ((sIx n d (some v) : Nat) : Int) := by
 show (if v < 0 then max (v + (n : Int)) 0 else min v (n : Int)) = (((if v < 0 then (v + (n : Int)).toNat else min v.toNat n) : Nat) : Int)
 by_cases hv : v < 0
 ·simp only [if_pos hv]; omega
 ·simp only [if_neg hv]; omega
theorem bl2 (lo hi : Option Int) (n : Nat) : Builtin.Slice.sliceAdjust lo hi 1 (n : Int) = (((sIx n 0 lo : Nat) : Int), ((sIx n n hi : Nat) : Int)) := by
 have h1 : ¬ ((1 : Int) < 0) := by omega
 unfold Builtin.Slice.sliceAdjust
 simp only [h1, if_false]
 refine Prod.ext ?_ ?_
 ·cases lo with
  | none => rfl
  | some v => exact bq7 v n 0
 ·cases hi with
  | none => rfl
  | some v => exact bq7 v n n
theorem bf3 (i j : Nat) : Builtin.Slice.slicePlaces (i : Int) (j : Int) 1 = j - i := by
 unfold Builtin.Slice.slicePlaces
 have h1 : (1 : Int) > 0 := by omega
 simp only [h1, if_true, Int.ediv_one]
 split <;> omega
theorem aD1 {v : Value} {o : Option Int} {Q : Option Int → Shared → Prop} (p : IsPart v o) (h : Q o s) : wpAny (model prog w) A (Builtin.Slice.slicePartIndex v) Q E s := by
 cases p with
 | none => exact slicePart_none h
 | int i t => exact slicePart_int h
theorem sliceApplied_gen {sl : Addr} {vl vu : Value} {lo hi : Option Int} {n : Nat} {Q : Int × Int × Nat → Shared → Prop} (hs : s.heap.IsSliceOf sl vl vu .none) (pl : IsPart vl lo) (pu : IsPart vu hi)
  (h : Q (((sIx n 0 lo : Nat) : Int), 1, sIx n n hi - sIx n 0 lo) s) : wpAny (model prog w) A (Builtin.Slice.sliceApplied (.ref sl) (pure (n : Int))) Q E s := by
 obtain ⟨os, hos, hcs, hds⟩ := id hs
 unfold Builtin.Slice.sliceApplied Builtin.Slice.sliceFields
 refine wpAny_bind (wpAny_bind (wpAny_field hos hds (x := vl) rfl (wpAny_bind (wpAny_field hos hds (x := vu) rfl (wpAny_bind (wpAny_field hos hds (x := .none) rfl (wpAny_pure ?_)))))))
 refine wpAny_bind (slicePart_none ?_)
 show wpAny _ _ (if ((1 : Int) == 0) = true then _ else _) _ _ s
 rw [if_neg (by decide)]
 refine wpAny_bind (aD1 pl (wpAny_bind (aD1 pu (wpAny_bind (wpAny_pure ?_)))))
 show wpAny _ _ (match Builtin.Slice.sliceAdjust lo hi 1 (n : Int) with | (lo, hi) => pure (lo, (1 : Int), Builtin.Slice.slicePlaces lo hi 1)) _ _ s
 rw [bl2 lo hi n]
 show wpAny _ _ (pure (((sIx n 0 lo : Nat) : Int), (1 : Int), Builtin.Slice.slicePlaces ((sIx n 0 lo : Nat) : Int) ((sIx n n hi : Nat) : Int) 1)) _ _ s
 rw [bf3]
 exact wpAny_pure h
theorem bH3 (xs : Array Value) (i k : Nat) : ((List.range k).filterMap fun (m : Nat) => xs[((i : Int) + (m : Int) * 1).toNat]?).toArray = ((xs.toList.drop i).take k).toArray := by
 have e : (fun (m : Nat) => xs[((i : Int) + (m : Int) * 1).toNat]?) = fun m => xs[i + m]? := by
  funext m
  have : ((i : Int) + (m : Int) * 1).toNat = i + m := by omega
  rw [this]
 rw [e]
 have := pick_run xs i k
 rw [List.filterMap_map] at this
 have e2 : ((fun x => xs[x]?) ∘ fun x => i + x) = fun m => xs[i + m]? := rfl
 rw [e2] at this
 rw [this]
theorem getItem_tuple_cut {t sl : Addr} {items : Array Value} {vl vu : Value} {lo hi : Option Int} {Q : Value → Shared → Prop} (ht : IsTup s.heap t items) (hs : s.heap.IsSliceOf sl vl vu .none) (pl : IsPart vl lo) (pu : IsPart vu hi)
  (hw : ¬ (sIx items.size 0 lo = 0 ∧ sIx items.size items.size hi = items.size))
  (h : Q (.ref s.heap.objs.size) { s with heap := s.heap.push { cls := .type "tuple", data := .seq ((items.toList.drop (sIx items.size 0 lo)).take (sIx items.size items.size hi - sIx items.size 0 lo)).toArray } })
  (hsz : items.size ≤ sizeLine) : wpAny (model prog w) A (getItem (.ref t) (.ref sl)) Q E s := by
 have htake : sizeOk (.seq ((items.toList.drop (sIx items.size 0 lo)).take (sIx items.size items.size hi - sIx items.size 0 lo)).toArray) := by
  show ((items.toList.drop (sIx items.size 0 lo)).take (sIx items.size items.size hi - sIx items.size 0 lo)).toArray.size ≤ sizeLine
  rw [List.size_toArray, List.length_take, List.length_drop, Array.length_toList]
  omega
 have hj : sIx items.size items.size hi ≤ items.size := cp2 _ _ (Nat.le_refl _) hi
 obtain ⟨os, hos, hcs, hds⟩ := id hs
 have hTs : s.TypeIs (.ref sl) "slice" := ⟨os, hos, hcs⟩
 unfold getItem
 try with_reducible refine wpAny_holding ?_
 first | refine wpAny_bind (wpAny_pure ?_) | skip
 refine wpAny_bind (wpAny_sequenceKey ht.typeIs (by decide) ?_)
 refine wpAny_bind (wpAny_callSpecial?_slot (name := Str.ofString "__getitem__") ht.typeIs PyProof.Rows.slot_tuple_getitem
  (wpAny_call_entry PyProof.Rows.slot_tuple_getitem ht.typeIs entry_tuple_getitem ?_ (args_tuple_getitem _ _)))
 show wpAny _ _ (Builtin.Tuple.tupleItemsOf (.ref t) >>= _) _ _ s
 refine wpAny_bind (tupleItemsOf_ ht ?_)
 refine wpAny_bind (wpAny_typeOf hTs ?_)
 rw [if_pos (by decide)]
 refine wpAny_bind (sliceApplied_gen hs pl pu ?_)
 have hno : ¬ ((((sIx items.size 0 lo : Nat) : Int) == 0 && (1 : Int) == 1 && (sIx items.size items.size hi - sIx items.size 0 lo) == items.size) = true) := by
  intro q
  rw [Bool.and_eq_true, Bool.and_eq_true] at q
  have q1 : ((sIx items.size 0 lo : Nat) : Int) = 0 := eq_of_beq q.1.1
  have q2 : sIx items.size items.size hi - sIx items.size 0 lo = items.size := eq_of_beq q.2
  exact hw ⟨by omega, by omega⟩
 show wpAny _ _ (if (((sIx items.size 0 lo : Nat) : Int) == 0 && (1 : Int) == 1 && (sIx items.size items.size hi - sIx items.size 0 lo) == items.size) = true then _ else _) _ _ s
 rw [if_neg hno, bH3]
 first
  | exact wpAny_bind (m := Builtin.Tuple.tupleExact _) (wpAny_newObj_type (wpAny_pure ⟨_, rfl, wpAny_pure h⟩) htake)
  | exact wpAny_bind (m := Builtin.Tuple.tupleExact _) (wpAny_newObj_type (wpAny_bind (wpAny_pure (wpAny_pure ⟨_, rfl, wpAny_pure h⟩))) htake)
  | exact wpAny_bind (wpAny_bind (m := Builtin.Tuple.tupleExact _) (wpAny_newObj_type (wpAny_pure (wpAny_pure ⟨_, rfl, wpAny_pure h⟩)) htake))
  | exact wpAny_bind (wpAny_bind (m := Builtin.Tuple.tupleExact _) (wpAny_newObj_type (wpAny_pure ⟨_, rfl, wpAny_pure h⟩) htake))
end
end HT
namespace L2
open PySem PySem.Spec PyProof.Rows
noncomputable abbrev TO := St → Hp → (Option Int → Hp → Prop) → Prop
noncomputable def PO (X : Cx) (e : Option Expr) (t : TO) : Prop :=
 ∀ (pins : List (Addr × Obj)) (s : Shared) (σ : St) (H : Hp) (Q : Option Int → Hp → Prop), Inv X pins σ H s → t σ H Q →
  wpAny (model X.prog X.w) X.A (evalPart e X.env) (fun u s' => ∃ o H', Inv X pins σ H' s' ∧ IsPart u o ∧ Q o H') X.xe s
noncomputable def bU9 : TO := fun _ H Q => Q none H
noncomputable def cC9 (t : TE) : TO := fun σ H Q => t σ H fun x H1 => ∃ i, x = .int i ∧ Q (some i) H1
section
variable {X : Cx} {e : Expr} {te : TE} {lo hi : Option Expr} {tl th : TO} {pos p2 : Pos}
theorem bW5 : PO X none bU9 := by
 intro pins s σ H Q I h
 rw [evalPart_none]
 exact wpAny_pure ⟨none, H, I, .none, h⟩
theorem bW4 (h : PE X e te) : PO X (some e) (cC9 te) := by
 intro pins s σ H Q I hw
 rw [evalPart_some]
 refine thn (h pins s σ H _ I hw) fun u s1 ⟨x, H1, I1, r1, q1⟩ => ?_
 obtain ⟨i, rfl, q⟩ := q1
 obtain ⟨t, rfl⟩ := r1
 exact ⟨some i, H1, I1, .int i t, q⟩
noncomputable def SlR (X : Cx) (r : V → Option Int → Option Int → Hp → VK → Prop) : Prop :=
 ∀ (pins : List (Addr × Obj)) (s : Shared) (σ : St) (H : Hp) (x : V) (v vl vu : Value) (lo hi : Option Int) (sl : Addr) (Q : VK), Inv X pins σ H s → O4 x v → s.heap.IsSliceOf sl vl vu .none → IsPart vl lo → IsPart vu hi → r x lo hi H Q →
  ∃ T id, typeLookup (.type T) "__getitem__" = pure (some (.builtin id)) ∧ s.TypeIs v T ∧ wpAny (model X.prog X.w) X.A (getItem v (.ref sl)) (EP X pins σ Q) X.xe s
theorem SlR.or {r r' : V → Option Int → Option Int → Hp → VK → Prop} (h : SlR X r) (h' : SlR X r') : SlR X (fun x lo hi H Q => r x lo hi H Q ∨ r' x lo hi H Q) := by
 intro pins s σ H x v vl vu lo hi sl Q I rx hs pl pu q
 rcases q with q | q
 ·exact h pins s σ H x v vl vu lo hi sl Q I rx hs pl pu q
 ·exact h' pins s σ H x v vl vu lo hi sl Q I rx hs pl pu q
noncomputable def tSl (r : V → Option Int → Option Int → Hp → VK → Prop) (te : TE) (tl th : TO) : TE := fun σ H Q => te σ H fun x H1 => tl σ H1 fun l H2 => th σ H2 fun u H3 => r x l u H3 Q
theorem aq5 {r : V → Option Int → Option Int → Hp → VK → Prop} (hr : SlR X r) (he : PE X e te) (hl : PO X lo tl) (hu : PO X hi th) : PE X (.Subscript e (.Slice lo hi none p2) pos) (tSl r te tl th) := by
 intro pins s σ H Q I h
 refine Subscript_ (thn (he pins s σ H _ I h) fun v s1 ⟨x, H1, I1, r1, q1⟩ => ?_)
 refine wpAny_Slice (thn (hl pins s1 σ H1 _ I1 q1) fun vl s2 ⟨l, H2, I2, pl, q2⟩ => thn (hu pins s2 σ H2 _ I2 q2) fun vu s3 ⟨u, H3, I3, pu, q3⟩ => ?_)
 rw [evalPart_none]
 refine wpAny_pure ?_
 have I4 : Inv X pins σ H3 { s3 with heap := s3.heap.push { cls := .type "slice", data := .fields #[vl, vu, .none] } } := I3.kept (t' := s3.toks) fun b ob q => Heap.get?_push_of_some _ q
 obtain ⟨T, id, hT, ht, hg⟩ := hr pins { s3 with heap := s3.heap.push { cls := .type "slice", data := .fields #[vl, vu, .none] } } σ H3 x v vl vu l u s3.heap.objs.size Q I4 r1 (Heap.IsSliceOf.new ..) pl pu q3
 show wpAny (model X.prog X.w) X.A (subscriptTail e (.Slice lo hi none p2) v (.ref s3.heap.objs.size)) (EP X pins σ Q) X.xe { s3 with heap := s3.heap.push { cls := .type "slice", data := .fields #[vl, vu, .none] } }
 exact tail_any (ops := [.ref s3.heap.objs.size, v]) ht hT hg (by with_unfolding_all rfl)
noncomputable def ba4 (xs : List V) (lo hi : Option Int) : List V := (xs.drop (HT.sIx xs.length 0 lo)).take (HT.sIx xs.length xs.length hi - HT.sIx xs.length 0 lo)
theorem az2 (xs : List V) (lo hi : Option Int) : (ba4 xs lo hi).length ≤ xs.length := by
 unfold ba4
 rw [List.length_take, List.length_drop]
 omega
noncomputable def cL0 (K : PySem.W.Frag) : V → Option Int → Option Int → Hp → VK → Prop := fun x lo hi H Q => ∃ a xs, x = .ref a ∧ SqT K H a xs ∧
 ¬ (HT.sIx xs.length 0 lo = 0 ∧ HT.sIx xs.length xs.length hi = xs.length) ∧ ∀ p, H p = none → Q (.ref p) (upd H p (.tup (ba4 xs lo hi)))
theorem cp1 : SlR X (cL0 X.K) := by
 intro pins s σ H x v vl vu lo hi sl Q I rx hs pl pu h
 obtain ⟨a, xs, rfl, hx, hw, q⟩ := h
 cases rx
 obtain ⟨its, r, ht, hz⟩ := I.tuple hx
 have hlen : its.toArray.size = xs.length := by rw [List.size_toArray]; exact r.length.symm
 refine ⟨"tuple", _, PyProof.Rows.slot_tuple_getitem.lookup, ht.typeIs, ?_⟩
 refine HT.getItem_tuple_cut ht hs pl pu (by rw [hlen]; exact hw) ?_ (by rw [hlen]; exact hz)
 rw [hlen]
 refine ⟨.ref s.heap.objs.size, _, I.laid (t' := s.toks) (o := .tup (ba4 xs lo hi)) (fun b ob q => Heap.get?_push_of_some _ q) (Nat.le_refl _) ?_, rfl, q _ (I.hok.fresh (Nat.le_refl _))⟩
 exact ⟨Nat.le_trans (az2 xs lo hi) hz, _, (r.drop (HT.sIx xs.length 0 lo)).take (HT.sIx xs.length xs.length hi - HT.sIx xs.length 0 lo), IsTup.new _ _⟩
noncomputable def cE2 (K : PySem.W.Frag) : R2 := fun x y H Q => ∃ a b xs ys, x = .ref a ∧ y = .ref b ∧ SqT K H a xs ∧ SqT K H b ys ∧ xs ≠ [] ∧ xs.length + ys.length ≤ sizeLine ∧
 (ys = [] → Q (.ref a) H) ∧ (ys ≠ [] → ∀ p, H p = none → Q (.ref p) (upd H p (.tup (xs ++ ys))))
theorem L7.nil_iff {xs : List V} {us : List Value} (r : L7 xs us) : us = [] ↔ xs = [] := by
 cases r with
 | nil => simp
 | cons _ _ => simp
theorem bX7 : OpR X (binaryOp .Add) (cE2 X.K) := by
 intro pins s σ H x y v u Q I rx ry h
 obtain ⟨a, b, xs, ys, rfl, rfl, ha, hb, hx, hz, q1, q2⟩ := h
 cases rx
 cases ry
 obtain ⟨its, r1, p1, _⟩ := I.tuple ha
 obtain ⟨its2, r2, p2, _⟩ := I.tuple hb
 refine HT.cat_tup p1 p2 (fun z => hx (r1.nil_iff.mp z)) (fun z => ⟨.ref a, H, I, rfl, q1 (r2.nil_iff.mp z)⟩) (fun z => ?_) (by rw [← r1.length, ← r2.length]; exact hz)
 refine ⟨.ref s.heap.objs.size, _, I.laid (t' := s.toks) (o := .tup (xs ++ ys)) (fun b ob q => Heap.get?_push_of_some _ q) (Nat.le_refl _) ?_, rfl, q2 (fun w => z (r2.nil_iff.mpr w)) _ (I.hok.fresh (Nat.le_refl _))⟩
 exact ⟨by rw [List.length_append]; exact hz, _, r1.append r2, IsTup.new _ _⟩
end
end L2
namespace L2
open PySem PySem.Spec PyProof.Rows
noncomputable def ixN (n : Nat) (i : Int) : Option Nat := if 0 ≤ i then (if i < n then some i.toNat else none) else if -(n : Int) ≤ i then some (i + n).toNat else none
noncomputable def atI {α : Type} (xs : List α) (i : Int) : Option α := (ixN xs.length i).bind fun j => xs[j]?
theorem cc7 {n : Nat} {i : Int} {j : Nat} (h : ixN n i = some j) : seqIndex? i n = some j ∧ j < n ∧ -(n : Int) ≤ i ∧ i < n := by
 unfold ixN at h
 by_cases h0 : 0 ≤ i
 ·rw [if_pos h0] at h
  by_cases h1 : i < n
  ·rw [if_pos h1] at h
   have e : i.toNat = j := Option.some.inj h
   exact ⟨by rw [seqIndex_of h0 h1, e], by omega, by omega, h1⟩
  ·rw [if_neg h1] at h; cases h
 ·rw [if_neg h0] at h
  by_cases h1 : -(n : Int) ≤ i
  ·rw [if_pos h1] at h
   have e : (i + n).toNat = j := Option.some.inj h
   exact ⟨by rw [seqIndex_neg (by omega) h1, e], by omega, h1, by omega⟩
  ·rw [if_neg h1] at h; cases h
theorem aU5 {α : Type} {xs : List α} {i : Int} {v : α} (h : atI xs i = some v) : ∃ j, seqIndex? i xs.length = some j ∧ xs[j]? = some v ∧ j < xs.length ∧ -(xs.length : Int) ≤ i ∧ i < xs.length := by
 unfold atI at h
 cases e : ixN xs.length i with
 | none => rw [e] at h; cases h
 | some j =>
  rw [e] at h
  obtain ⟨h1, h2, h3, h4⟩ := cc7 e
  exact ⟨j, h1, h, h2, h3, h4⟩
theorem ce8 {α : Type} {xs : List α} {j : Nat} {v : α} (h : xs[j]? = some v) : atI xs (j : Int) = some v := by
 have hj : j < xs.length := (List.getElem?_eq_some_iff.mp h).1
 have e : ixN xs.length (j : Int) = some j := by
  unfold ixN
  rw [if_pos (by omega), if_pos (by omega)]; simp
 unfold atI; rw [e]; exact h
noncomputable def aC2 (b : Expr) : Prop := ∀ o i, subscripted b false o i = operate [o, i] (getItem o i)
noncomputable def IxR (X : Cx) (r : R2) : Prop :=
 ∀ (value slice : Expr) (pins : List (Addr × Obj)) (s : Shared) (σ : St) (H : Hp) (x y : V) (v u : Value) (Q : VK), Inv X pins σ H s → O4 x v → O4 y u → r x y H Q →
  subscripted slice false v u = operate [v, u] (getItem v u) → wpAny (model X.prog X.w) X.A (subscriptTail value slice v u) (EP X pins σ Q) X.xe s
noncomputable def MtR (X : Cx) (id : String) (r : V → List V → Hp → VK → Prop) : Prop :=
 ∀ (pins : List (Addr × Obj)) (s : Shared) (σ : St) (H : Hp) (x : V) (xs : List V) (v : Value) (us : List Value) (Q : VK), Inv X pins σ H s → O4 x v → L7 xs us → r x xs H Q →
  wpAny (model X.prog X.w) X.A (call (.builtin id) (v :: us)) (EP X pins σ Q) X.xe s
section
variable {X : Cx} {a b : Expr} {ta tb : TE} {pos : Pos}
theorem IxR.or {r r' : R2} (h : IxR X r) (h' : IxR X r') : IxR X (fun x y H Q => r x y H Q ∨ r' x y H Q) := by
 intro value slice pins s σ H x y v u Q I rx ry q hs
 rcases q with q | q
 ·exact h value slice pins s σ H x y v u Q I rx ry q hs
 ·exact h' value slice pins s σ H x y v u Q I rx ry q hs
theorem cg1 {r : R2} (hr : IxR X r) (ha : PE X a ta) (hb : PE X b tb) (hs : aC2 b) : PE X (.Subscript a b pos) (tOp r ta tb) := by
 intro pins s σ H Q I h
 exact Subscript_ (cA3 ha hb I h fun v u s2 x y H2 I2 rx ry q => hr a b pins s2 σ H2 x y v u Q I2 rx ry q (hs _ _))
noncomputable def cE1 (K : PySem.W.Frag) : R2 := fun x y H Q => ∃ p xs i v, x = .ref p ∧ y = .int i ∧ SqL K H p xs ∧ atI xs i = some v ∧ Q v H
noncomputable def cD9 (K : PySem.W.Frag) : R2 := fun x y H Q => ∃ p xs i v, x = .ref p ∧ y = .int i ∧ SqT K H p xs ∧ atI xs i = some v ∧ Q v H
noncomputable def cE0 : R2 := fun x y H Q => ∃ z i c, x = .str z ∧ y = .int i ∧ z.length ≤ sizeLine ∧ atI z.cps.toList i = some c ∧ Q (.str ⟨#[c]⟩) H
theorem cc6 : IxR X (cE1 X.K) := by
 intro value slice pins s σ H x y v u Q I rx ry h hs
 obtain ⟨p, xs, i, z, rfl, rfl, hq, he, q⟩ := h
 cases rx
 obtain ⟨t, rfl⟩ := ry
 obtain ⟨its, r, pl, hz⟩ := I.list hq
 obtain ⟨j, h1, h2, h3, h4, h5⟩ := aU5 he
 obtain ⟨w, ew, rw'⟩ := r.get h2
 have hl := r.length
 have hn := ax4
 have fin : EP X pins σ Q w s := ⟨z, H, I, rw', q⟩
 by_cases h0 : 0 ≤ i
 ·have hj : i.toNat = j := by
   rw [seqIndex_of h0 h5] at h1
   exact Option.some.inj h1
  exact item_listR pl.isList h0 (by omega) (by rw [hj]; simpa using ew) fin hs
 ·have hj : (i + (its.toArray.size : Int)).toNat = j := by
   rw [seqIndex_neg (by omega) h4] at h1
   rw [List.size_toArray, ← hl]
   exact Option.some.inj h1
  exact subscriptTail_builtinR (x := w) pl.isList.typeIs slot_list_getitem.lookup
   (wpAny_getItem_list_neg (Q := fun r s' => r = w ∧ EP X pins σ Q r s') pl.isList (by omega) (by rw [List.size_toArray] <;> omega) (by omega) (by rw [hj]; simpa using ew) ⟨rfl, fin⟩) hs
theorem cy4 : IxR X (cD9 X.K) := by
 intro value slice pins s σ H x y v u Q I rx ry h hs
 obtain ⟨p, xs, i, z, rfl, rfl, hq, he, q⟩ := h
 cases rx
 obtain ⟨t, rfl⟩ := ry
 obtain ⟨its, r, pl, hz⟩ := I.tuple hq
 obtain ⟨j, h1, h2, h3, h4, h5⟩ := aU5 he
 obtain ⟨w, ew, rw'⟩ := r.get h2
 have hl := r.length
 have hn := ax4
 have fin : EP X pins σ Q w s := ⟨z, H, I, rw', q⟩
 exact subscriptTail_builtinR (x := w) pl.typeIs slot_tuple_getitem.lookup
  (getItem_tuple (j := j) (Q := fun r s' => r = w ∧ EP X pins σ Q r s') pl (by omega) (by omega) (by rw [List.size_toArray, ← hl]; exact h1) (by simpa using ew) ⟨rfl, fin⟩) hs
theorem cy5 : IxR X cE0 := by
 intro value slice pins s σ H x y v u Q I rx ry h hs
 obtain ⟨z, i, c, rfl, rfl, hz, he, q⟩ := h
 obtain ⟨t, rfl⟩ := rx
 obtain ⟨t', rfl⟩ := ry
 obtain ⟨j, h1, h2, h3, h4, h5⟩ := aU5 he
 have hl : z.cps.toList.length = z.length := by simp [Str.length]
 rw [hl] at h1 h4 h5
 have hn := ax4
 exact tail_any (typeIs_str s z t) slot_str_getitem.lookup (getItem_str (c := c) (by
  have e1 : decide (i < -(2 ^ 63 : Int)) = false := decide_eq_false (by omega)
  have e2 : decide (i ≥ 2 ^ 63) = false := decide_eq_false (by omega)
  rw [e1, e2, Bool.or_false]) (by rw [h1]; simpa using h2) ⟨.str ⟨#[c]⟩, H, I.tok _, ⟨_, rfl⟩, q⟩) hs
noncomputable def rIx (K : PySem.W.Frag) : R2 := fun x y H Q => cE1 K x y H Q ∨ cD9 K x y H Q ∨ cE0 x y H Q
theorem bN3 : IxR X (rIx X.K) := cc6.or (cy4.or cy5)
theorem ap9 (lo hi : Option Int) (n : Nat) : (sliceBounds lo hi none n).1 = ((HT.sIx n 0 lo : Nat) : Int) ∧ (sliceBounds lo hi none n).2.1 = ((HT.sIx n n hi : Nat) : Int) ∧ (sliceBounds lo hi none n).2.2 = 1 := by
 refine ⟨?_, ?_, rfl⟩
 ·cases lo with
  | none => simp [sliceBounds, HT.sIx]
  | some i =>
   simp only [sliceBounds, HT.sIx, Option.getD_none, show (1 : Int) > 0 by decide, if_true]
   by_cases h : i < 0
   ·simp only [h, if_true] <;> omega
   ·simp only [h, if_false] <;> omega
 ·cases hi with
  | none => simp [sliceBounds, HT.sIx]
  | some i =>
   simp only [sliceBounds, HT.sIx, Option.getD_none, show (1 : Int) > 0 by decide, if_true]
   by_cases h : i < 0
   ·simp only [h, if_true] <;> omega
   ·simp only [h, if_false] <;> omega
theorem aI1 (its : List Value) (lo hi : Option Int) : slicePick its.toArray lo hi none = ((its.drop (HT.sIx its.length 0 lo)).take (HT.sIx its.length its.length hi - HT.sIx its.length 0 lo)).toArray := by
 obtain ⟨h1, h2, h3⟩ := ap9 lo hi its.toArray.size
 unfold slicePick
 rw [h1, h2, h3]
 simp only [sliceRange_one, pick_run, List.size_toArray] <;> rfl
noncomputable def cL1 (K : PySem.W.Frag) : V → Option Int → Option Int → Hp → VK → Prop := fun x lo hi H Q => ∃ a xs, x = .ref a ∧ SqL K H a xs ∧ ∀ p, H p = none → Q (.ref p) (upd H p (.lst (ba4 xs lo hi)))
theorem bm4 : SlR X (cL1 X.K) := by
 intro pins s σ H x v vl vu lo hi sl Q I rx hs pl pu h
 obtain ⟨a, xs, rfl, hx, q⟩ := h
 cases rx
 obtain ⟨its, r, ht, hz⟩ := I.list hx
 have hlen := r.length
 refine ⟨"list", _, slot_list_getitem.lookup, ht.isList.typeIs, ?_⟩
 refine wpAny_getItem_list_slice ht.isList hs pl pu .none (by simp) ?_ (by rw [List.size_toArray] <;> omega)
 rw [aI1, ← hlen]
 refine ⟨.ref s.heap.objs.size, _, I.laid (t' := s.toks) (o := .lst (ba4 xs lo hi)) (fun b ob q => Heap.get?_push_of_some _ q) (Nat.le_refl _) ?_, rfl, q _ (I.hok.fresh (Nat.le_refl _))⟩
 exact ⟨Nat.le_trans (az2 xs lo hi) hz, _, 0, (r.drop (HT.sIx xs.length 0 lo)).take (HT.sIx xs.length xs.length hi - HT.sIx xs.length 0 lo), Heap.get?_push_size _ rfl⟩
noncomputable def am6 : V → Bool
 | .non => true
 | .bl _ => true
 | .int _ => true
 | .str _ => true
 | _ => false
noncomputable def eqV : V → V → Bool
 | .non, .non => true
 | .bl a, .bl b => a == b
 | .bl a, .int b => (if a then 1 else 0) == b
 | .int a, .bl b => a == (if b then 1 else 0)
 | .int a, .int b => a == b
 | .str a, .str b => a == b
 | _, _ => false
theorem cz2 {A : Around} {s : Shared} {y x : V} {u v : Value} (ry : O4 y u) (rx : O4 x v) (fy : am6 y = true) (fx : am6 x = true) : SeqAt.EqAt A s u v (eqV y x) := by
 cases y with
 | non =>
  cases ry
  cases x with
  | non => cases rx; exact SeqAt.EqAt.same _
  | bl b => cases rx; exact SeqAt.EqAt.none_bool b
  | int b => obtain ⟨t, rfl⟩ := rx; exact SeqAt.EqAt.none_int b t
  | str b => obtain ⟨t, rfl⟩ := rx; exact SeqAt.EqAt.none_str b t
  | _ => exact absurd (show false = true from fx) Bool.false_ne_true
 | bl a =>
  cases ry
  cases x with
  | non => cases rx; exact SeqAt.EqAt.bool_none a
  | bl b => cases rx; exact SeqAt.EqAt.bool_bool a b
  | int b => obtain ⟨t, rfl⟩ := rx; exact SeqAt.EqAt.bool_int a b t
  | str b => obtain ⟨t, rfl⟩ := rx; exact SeqAt.EqAt.bool_str a b t
  | _ => exact absurd (show false = true from fx) Bool.false_ne_true
 | int a =>
  obtain ⟨t', rfl⟩ := ry
  cases x with
  | non => cases rx; exact SeqAt.EqAt.int_none a t'
  | bl b => cases rx; exact SeqAt.EqAt.int_bool a t' b
  | int b => obtain ⟨t, rfl⟩ := rx; exact SeqAt.EqAt.int_int a t' b t
  | str b => obtain ⟨t, rfl⟩ := rx; exact SeqAt.EqAt.int_str a t' b t
  | _ => exact absurd (show false = true from fx) Bool.false_ne_true
 | str a =>
  obtain ⟨t', rfl⟩ := ry
  cases x with
  | non => cases rx; exact SeqAt.EqAt.str_none a t'
  | bl b => cases rx; exact SeqAt.EqAt.str_bool a t' b
  | int b => obtain ⟨t, rfl⟩ := rx; exact SeqAt.EqAt.str_int a t' b t
  | str b => obtain ⟨t, rfl⟩ := rx; exact SeqAt.EqAt.str_str a t' b t
  | _ => exact absurd (show false = true from fx) Bool.false_ne_true
 | _ => exact absurd (show false = true from fy) Bool.false_ne_true
noncomputable def eqU (x : V) (u : Value) : Bool := match u with
 | .none => eqV .non x
 | .bool b => eqV (.bl b) x
 | .int i _ => eqV (.int i) x
 | .str z _ => eqV (.str z) x
 | _ => false
theorem bP3 {x y : V} {u : Value} (r : O4 y u) (f : am6 y = true) : eqU x u = eqV y x := by
 cases y with
 | non => cases r; rfl
 | bl b => cases r; rfl
 | int i => obtain ⟨t, rfl⟩ := r; rfl
 | str z => obtain ⟨t, rfl⟩ := r; rfl
 | _ => exact absurd (show false = true from f) Bool.false_ne_true
theorem at7 {x : V} : ∀ {xs : List V} {us : List Value}, L7 xs us → xs.all am6 = true → us.any (eqU x) = xs.any fun y => eqV y x
 | _, _, .nil, _ => rfl
 | y :: xs, u :: us, .cons r t, f => by
  rw [List.all_cons, Bool.and_eq_true] at f
  rw [List.any_cons, List.any_cons, bP3 r f.1, at7 t f.2]
theorem ag7 {A : Around} {s : Shared} {x : V} {v : Value} (rx : O4 x v) (fx : am6 x = true) : ∀ {xs : List V} {us : List Value}, L7 xs us → xs.all am6 = true → ∀ u ∈ us, SeqAt.EqAt A s u v (eqU x u)
 | _, _, .nil, _ => fun u hu => by cases hu
 | y :: xs, u :: us, .cons r t, f => fun u' hu => by
  rw [List.all_cons, Bool.and_eq_true] at f
  rcases List.mem_cons.mp hu with rfl | hu
  ·rw [bP3 r f.1]; exact cz2 r rx f.1 fx
  ·exact ag7 rx fx t f.2 u' hu
noncomputable def inV (x : V) (xs : List V) : Bool := xs.any fun y => eqV y x
noncomputable def rIn (K : PySem.W.Frag) (neg : Bool) : R2 := fun x y H Q => ∃ p xs, y = .ref p ∧ (SqL K H p xs ∨ SqT K H p xs) ∧ am6 x = true ∧ xs.all am6 = true ∧ Q (.bl (if neg then !inV x xs else inV x xs)) H
theorem bu0 : OpR X (compareOp .In) (rIn X.K false) := by
 intro pins s σ H x y v u Q I rx ry h
 obtain ⟨p, xs, rfl, hq, fx, fs, q⟩ := h
 cases ry
 rcases hq with hq | hq
 ·obtain ⟨its, r, pl, hz⟩ := I.list hq
  refine SeqAt.in_listAt (eqU x) pl.isList (fun w hw => ag7 rx fx r fs w (by simpa using hw)) ⟨.bl _, H, I, rfl, ?_⟩
  rw [show its.toArray.any (eqU x) = its.any (eqU x) by simp, at7 r fs]
  exact q
 ·obtain ⟨its, r, pl, hz⟩ := I.tuple hq
  refine SeqAt.in_tupleAt (eqU x) pl (fun w hw => ag7 rx fx r fs w (by simpa using hw)) ⟨.bl _, H, I, rfl, ?_⟩
  rw [show its.toArray.any (eqU x) = its.any (eqU x) by simp, at7 r fs]
  exact q
theorem aQ8 : OpR X (compareOp .NotIn) (rIn X.K true) := by
 intro pins s σ H x y v u Q I rx ry h
 obtain ⟨p, xs, rfl, hq, fx, fs, q⟩ := h
 cases ry
 rcases hq with hq | hq
 ·obtain ⟨its, r, pl, hz⟩ := I.list hq
  refine SeqAt.notIn_listAt (eqU x) pl.isList (fun w hw => ag7 rx fx r fs w (by simpa using hw)) ⟨.bl _, H, I, rfl, ?_⟩
  rw [show its.toArray.any (eqU x) = its.any (eqU x) by simp, at7 r fs]
  exact q
 ·obtain ⟨its, r, pl, hz⟩ := I.tuple hq
  refine SeqAt.notIn_tupleAt (eqU x) pl (fun w hw => ag7 rx fx r fs w (by simpa using hw)) ⟨.bl _, H, I, rfl, ?_⟩
  rw [show its.toArray.any (eqU x) = its.any (eqU x) by simp, at7 r fs]
  exact q
theorem aT9 : Z7 X (.builtin "len") (fun xs H Q => ∃ p ys, xs = [.ref p] ∧ (SqL X.K H p ys ∨ SqT X.K H p ys) ∧ Q (.int ys.length) H) := by
 intro pins s σ H xs us Q I r h
 obtain ⟨p, ys, rfl, hq, q⟩ := h
 obtain ⟨u, rfl, rx⟩ := x5 r
 cases rx
 have hn := ax4
 rcases hq with hq | hq
 ·obtain ⟨its, r', pl, hz⟩ := I.list hq
  have hlen := r'.length
  exact Calls.call_len_list pl.isList (by simp only [List.size_toArray] <;> omega) ⟨.int ys.length, H, I.tok _, ⟨s.toks + 1, by rw [List.size_toArray, hlen]⟩, q⟩
 ·obtain ⟨its, r', pl, hz⟩ := I.tuple hq
  have hlen := r'.length
  exact len_tuple pl (by simp only [List.size_toArray] <;> omega) ⟨.int ys.length, H, I.tok _, ⟨s.toks + 1, by rw [List.size_toArray, hlen]⟩, q⟩
theorem aT8 : Z7 X (.builtin "len") (fun xs H Q => ∃ z, xs = [.str z] ∧ z.length ≤ sizeLine ∧ Q (.int z.length) H) := by
 intro pins s σ H xs us Q I r h
 obtain ⟨z, rfl, hz, q⟩ := h
 obtain ⟨u, rfl, t, rfl⟩ := x5 r
 have hn := ax4
 exact len_str (by omega) ⟨.int z.length, H, I.tok _, ⟨_, rfl⟩, q⟩
theorem aT7 : Z7 X (.type "list") (fun xs H Q => ∃ p ys, xs = [.ref p] ∧ (SqL X.K H p ys ∨ SqT X.K H p ys) ∧ ∀ l, H l = none → Q (.ref l) (upd H l (.lst ys))) := by
 intro pins s σ H xs us Q I r h
 obtain ⟨p, ys, rfl, hq, q⟩ := h
 obtain ⟨u, rfl, rx⟩ := x5 r
 cases rx
 have fin : ∀ (its : List Value), L7 ys its → ys.length ≤ sizeLine → ∀ (h' : Heap) (c' : Nat), (∀ b o', s.heap.get? b = some o' → h'.get? b = some o') →
   h'.get? s.heap.objs.size = some { cls := .type "list", dict := none, data := .seq its.toArray c', slots := #[] } → EP X pins σ Q (.ref s.heap.objs.size) { s with heap := h' } := fun its r' hz h' c' kp e =>
  ⟨.ref s.heap.objs.size, _, I.laid (t' := s.toks) kp (Nat.le_refl _) (show j9 X.prog X.w _ h' _ (.lst ys) from ⟨hz, its, c', r', e⟩), rfl, q _ (I.hok.fresh (Nat.le_refl _))⟩
 rcases hq with hq | hq
 ·obtain ⟨its, r', pl, hz⟩ := I.list hq
  have hlen := r'.length
  obtain ⟨o, ho, hc, n, hd⟩ := pl.isList
  exact call_list_seq p (.inl rfl) ho hc hd (fun h' c' kp e => fin its r' hz h' c' kp e) (by simp only [List.size_toArray] <;> omega)
 ·obtain ⟨its, r', pl, hz⟩ := I.tuple hq
  have hlen := r'.length
  obtain ⟨o, ho, hc, n, hd⟩ := pl
  exact call_list_seq p (.inr rfl) ho hc hd (fun h' c' kp e => fin its r' hz h' c' kp e) (by simp only [List.size_toArray] <;> omega)
theorem aK3 : Z7 X (.type "tuple") (fun xs H Q => ∃ p ys, xs = [.ref p] ∧ ((SqL X.K H p ys ∧ ∀ l, H l = none → Q (.ref l) (upd H l (.tup ys))) ∨ (SqT X.K H p ys ∧ Q (.ref p) H))) := by
 intro pins s σ H xs us Q I r h
 obtain ⟨p, ys, rfl, h⟩ := h
 obtain ⟨u, rfl, rx⟩ := x5 r
 cases rx
 rcases h with ⟨hq, q⟩ | ⟨hq, q⟩
 ·obtain ⟨its, r', pl, hz⟩ := I.list hq
  have hlen := r'.length
  refine call_tuple_list pl.isList (fun h' kp => ?_) (by simp only [List.size_toArray] <;> omega)
  have I1 : Inv X pins σ H { s with heap := h' } := I.kept (t' := s.toks) kp
  have I2 : Inv X pins σ (upd H h'.objs.size (.tup ys)) { s with heap := h'.push { cls := .type "tuple", data := .seq its.toArray } } :=
   I1.laid (t' := s.toks) (fun b o e => Heap.get?_push_of_some _ e) (Nat.le_refl _) (show j9 X.prog X.w _ _ _ (.tup ys) from ⟨hz, its, r', IsTup.new _ _⟩)
  exact ⟨.ref h'.objs.size, _, I2, rfl, q _ (I1.hok.fresh (Nat.le_refl _))⟩
 ·obtain ⟨its, r', pl, hz⟩ := I.tuple hq
  exact call_tuple_same pl ⟨.ref p, H, I, rfl, q⟩
noncomputable def tyV (K : PySem.W.Frag) (T : String) (x : V) (H : Hp) : Prop := match x with
 | .str _ => T = "str"
 | .int _ => T = "int"
 | .ref p => (T = "list" ∧ ∃ xs, SqL K H p xs) ∨ (T = "tuple" ∧ ∃ o, K.lookup p = some o ∧ o.cls = .type "tuple" ∧ o.dict = none) ∨
   (T = "dict" ∧ ((∃ kvs, H p = some (.dK kvs)) ∨ ∃ kvs, H p = some (.dT kvs))) ∨ (T = "set" ∧ ∃ S n, H p = some (.set S n))
 | _ => False
theorem ci8 {pins : List (Addr × Obj)} {σ : St} {H : Hp} {s : Shared} {T : String} {x : V} {v : Value} (I : Inv X pins σ H s) (r : O4 x v) (ty : tyV X.K T x H) :
  s.TypeIs v T ∧ ∀ a, v = .ref a → ∃ ob, s.heap.get? a = some ob ∧ ob.dict = none := by
 cases x with
 | str z =>
  obtain ⟨t, rfl⟩ := r
  cases (show T = "str" from ty)
  exact ⟨typeIs_str s z t, fun _ e => nomatch e⟩
 | int i =>
  obtain ⟨t, rfl⟩ := r
  cases (show T = "int" from ty)
  exact ⟨typeIs_int s i t, fun _ e => nomatch e⟩
 | ref p =>
  cases r
  rcases ty with ⟨rfl, xs, hq⟩ | ⟨rfl, o, hk, hc, hd⟩ | ⟨rfl, hk⟩ | ⟨rfl, S, n, hk⟩
  ·obtain ⟨its, _, pl, _⟩ := I.list hq
   refine ⟨pl.isList.typeIs, fun a e => ?_⟩
   cases e
   obtain ⟨o, n, e, c, hd, _⟩ := pl
   exact ⟨o, e, hd⟩
  ·refine ⟨⟨o, I.kIn p o hk, hc⟩, fun a e => ?_⟩
   cases e
   exact ⟨o, I.kIn _ o hk, hd⟩
  ·have z : ∃ o, s.heap.get? p = some o ∧ o.ExactDict := by
    rcases hk with ⟨kvs, hk⟩ | ⟨kvs, hk⟩
    ·obtain ⟨_, _, _, _, o, _, _, e, ex, _⟩ := I.hok p _ hk
     exact ⟨o, e, ex⟩
    ·obtain ⟨_, _, _, _, o, _, _, e, ex, _⟩ := I.hok p _ hk
     exact ⟨o, e, ex⟩
   obtain ⟨o, e, ex⟩ := z
   refine ⟨⟨o, e, ex.1⟩, fun a e2 => ?_⟩
   cases e2
   exact ⟨o, e, ex.2.1⟩
  ·obtain ⟨o, _, _, _, e, ex, _⟩ := I.hok p _ hk
   refine ⟨⟨o, e, ex.1⟩, fun a e2 => ?_⟩
   cases e2
   exact ⟨o, e, ex.2.1⟩
 | _ => exact False.elim ty
noncomputable def tBM (K : PySem.W.Frag) (T : String) (r : V → List V → Hp → VK → Prop) (to : TE) (t : TA) : TE := fun σ H Q => to σ H fun x H1 => tyV K T x H1 ∧ t σ H1 fun xs H2 => r x xs H2 Q
variable {o e : Expr} {es : List Expr} {to : TE} {t : TA} {name : Str} {apos cpos : Pos} {T id : String} {r : V → List V → Hp → VK → Prop}
theorem bn4 (pa : PlainAttrs T) (slot : Slot T name id) (hty : typeOf (.builtin id) = pure (.type "method_descriptor")) (hm : MtR X id r) (ho : PE X o to) (ha : PA X (e :: es) t)
  (hbase : attributeBase o name X.env (eval o X.env) = eval o X.env := by rfl)
  (hfew : ((backTo cpos (starEach (e :: es) X.env)).all (fun x => !x.1) && (backToKw cpos (keywordEach [] X.env)).all (fun x => x.1.isSome)
   && decide ((e :: es).length + ([] : List Keyword).length + (if ([] : List Keyword).isEmpty then 0 else 1) < 30)) = true := by rfl)
  (hline : (apos.endLine == cpos.line) = true := by rfl) (hs : starEach (e :: es) X.env = (false, eval e X.env) :: starEach es X.env := by rfl) (hplain : (backTo cpos (starEach es X.env)).any (·.1) = false := by rfl) :
  PE X (.Call (.Attribute o name apos) (e :: es) [] cpos) (tBM X.K T r to t) := by
 intro pins s σ H Q I h
 refine wpAny_Call_method_late hbase hfew hline rfl (thn (ho pins s σ H _ I h) fun v s1 ⟨x, H1, I1, r1, ty, q1⟩ => ?_)
 obtain ⟨h1, h2⟩ := ci8 I1 r1 ty
 refine ⟨T, id, pa, slot, hty, h1, h2, ?_⟩
 have hA := ha cpos pins s1 σ H1 _ I1 q1
 rw [hs] at hA ⊢
 refine Calls.callWith_builtin (by show (false || (backTo cpos (starEach es X.env)).any (·.1)) = false; rw [hplain] <;> rfl) (Calls.evalArgs_plain ?_)
 exact thn hA fun us s2 ⟨vs, H2, I2, r2, q2⟩ => hm pins s2 σ H2 x vs v us Q I2 r1 r2 q2
end
end L2
namespace L2
open PySem PySem.Spec PyProof.Rows
noncomputable def MtM (X : Cx) (id : String) (r : V → List V → Hp → VK → Prop) : Prop :=
 ∀ (pins : List (Addr × Obj)) (s : Shared) (σ : St) (H : Hp) (x : V) (xs : List V) (v : Value) (us : List Value) (Q : VK), Inv X pins σ H s → O4 x v → L7 xs us → r x xs H Q →
  wpAny (model X.prog X.w) X.A (call (.builtin id) (v :: us)) (EP X pins σ Q) X.xe s
theorem L7.one : ∀ {x : V} {us : List Value}, L7 [x] us → ∃ u, us = [u] ∧ O4 x u
 | _, _, .cons r .nil => ⟨_, rfl, r⟩
theorem L7.rep {xs : List V} {us : List Value} (h : L7 xs us) : ∀ k : Nat, L7 (List.replicate k xs).flatten (List.replicate k us).flatten
 | 0 => .nil
 | k + 1 => by
  rw [List.replicate_succ, List.replicate_succ, List.flatten_cons, List.flatten_cons]
  exact L7.append h (L7.rep h k)
theorem aM5 (its : List Value) : ∀ (k : Nat) (acc : List Value),
  List.foldl (fun x1 x2 => x1 ++ x2) acc.toArray (List.replicate k its.toArray) = (acc ++ (List.replicate k its).flatten).toArray
 | 0, acc => by simp
 | k + 1, acc => by
  have e : acc.toArray ++ its.toArray = (acc ++ its).toArray := by simp
  have e2 : (acc ++ its) ++ (List.replicate k its).flatten = acc ++ (List.replicate (k + 1) its).flatten := by
   rw [List.replicate_succ, List.flatten_cons, List.append_assoc]
  rw [← e2, ← aM5 its k (acc ++ its), ← e, List.replicate_succ, List.foldl_cons]
section
variable {X : Cx} {pins : List (Addr × Obj)} {σ : St} {H : Hp} {s : Shared} {l b : Addr} {xs ys zs : List V}
theorem Inv.lset {its its' : List Value} {n : Nat} {f : Array Value → Array Value} {t' : Nat} (I : Inv X pins σ H s) (hH : H l = some (.lst xs))
  (e : s.heap.get? l = some { cls := .type "list", data := .seq its.toArray n }) (hf : f its.toArray = its'.toArray) (hv : L7 ys its') (hz : ys.length ≤ sizeLine) :
  Inv X pins σ (upd H l (.lst ys)) { s with heap := s.heap.update l (Obj.mapSeq f), toks := t' } := by
 have q := PySem.IsL.update e f
 rw [hf] at q
 refine I.write (x := l) (e := l) (by rw [hH]; exact trivial) (.inl rfl) (fun b' u hb hu => (Heap.get?_update_other s.heap (Obj.mapSeq f) (Ne.symm hb)).trans hu) ⟨_, q⟩ ?_
 exact ⟨hz, its', _, hv, q⟩
theorem Inv.lnew {its : List Value} {t' : Nat} (I : Inv X pins σ H s) (hv : L7 ys its) (hz : ys.length ≤ sizeLine) :
  Inv X pins σ (upd H s.heap.objs.size (.lst ys)) { s with heap := s.heap.push { cls := .type "list", data := .seq its.toArray }, toks := t' } :=
 I.laid (fun _ _ q => Heap.get?_push_of_some _ q) (Nat.le_refl _) ⟨hz, its, 0, hv, Heap.get?_push_size _ rfl⟩
theorem Inv.fresh (I : Inv X pins σ H s) : H s.heap.objs.size = none := I.hok.fresh (Nat.le_refl _)
theorem Inv.lstM (I : Inv X pins σ H s) (hH : H l = some (.lst xs)) : xs.length ≤ sizeLine ∧ ∃ (its : List Value) (n : Nat), L7 xs its ∧ xs.length = its.length ∧ s.heap.get? l = some { cls := .type "list", data := .seq its.toArray n } := by
 obtain ⟨z, its, n, r, e⟩ := I.hok l _ hH
 exact ⟨z, its, n, r, r.length, e⟩
theorem ag5 {n : Nat} (h : n ≤ sizeLine) : Builtin.List.listTooLong n = false := by
 unfold Builtin.List.listTooLong
 exact decide_eq_false (by omega)
end
section
variable {X : Cx}
noncomputable def bV6 : V → List V → Hp → VK → Prop := fun x vs H Q => ∃ l xs y, x = .ref l ∧ vs = [y] ∧ H l = some (.lst xs) ∧ xs.length < sizeLine ∧ Q .non (upd H l (.lst (xs ++ [y])))
theorem aM0 : MtM X "list.append" bV6 := by
 intro pins s σ H x vs v us Q I rx rv h
 obtain ⟨l, xs, y, rfl, rfl, hH, hz, q⟩ := h
 cases rx
 obtain ⟨u, rfl, ru⟩ := rv.one
 obtain ⟨z, its, n, r, hl, e⟩ := I.lstM hH
 refine call_meets F.slot_list_append ⟨_, e, rfl⟩ F.entry_list_append (F.args_list_append_2 _ _) (PySem.list_append l its.toArray n u (by rw [List.size_toArray]; omega)) ⟨e, ?_⟩
 refine ⟨.non, _, I.lset (its' := its ++ [u]) hH e (by simp) (r.append (.cons ru .nil)) ?_, rfl, q⟩
 rw [List.length_append, List.length_singleton]
 omega
theorem aR8 {α : Type} (xs : List α) (k : Nat) : (List.replicate k xs).flatten.length = k * xs.length := by
 induction k with
 | zero => simp
 | succ k ih => rw [List.replicate_succ, List.flatten_cons, List.length_append, ih, Nat.succ_mul, Nat.add_comm]
end
section
variable {prog : Program} {w : World} {A : Around} {E : Value → Shared → Prop} {s : Shared}
theorem bs9 (its its2 : List Value) (a c : Nat) : its.toArray.extract 0 a ++ its2.toArray ++ its.toArray.extract c its.toArray.size = (its.take a ++ its2 ++ its.drop c).toArray := by
  apply Array.toList_inj.mp
  first
    | (simp
       exact List.take_of_length_le (by simp))
    | simp [List.take_of_length_le]
    | simp
set_option maxRecDepth 100000 in
end
section
variable {X : Cx}
end
end L2
namespace Att
open PySem PySem.W PySem.Calls PyProof.Rows
theorem az9 {P : Params} {h : Heap} : ∀ (ns : List Int) (vs : List Value), WellAll P h vs (ns.map WData.int) → IntsAre vs ns := by
 intro ns
 induction ns with
 | nil =>
  intro vs w
  rw [List.map_nil] at w
  cases w
  exact .nil
 | cons n ns ih =>
  intro vs w
  rw [List.map_cons] at w
  cases w with
  | cons a b =>
   cases a
   exact .cons _ _ (ih _ b)
theorem bt2 {l : OpenLaw} {n : Nat} (hn : l.most = some n) {P : Params} {h : Heap} {args : List WData} {vals : List Value}
  (hpre : l.row.toRowW.claim.pre args = true) (hwl : WellAll P h vals args) :
  ∃ a vs ns, vals = [Value.ref a] ∧ args = [WData.list (ns.map WData.int)] ∧ h.get? a = some { cls := .type "list", data := .seq vs.toArray } ∧ IntsAre vs ns ∧ ns.length ≤ n := by
 have hsh : WShape.hasAll [] args [.list .int] = true := (pre_splitW hpre).1
 have hc : l.pre.holds [] { args := args } = true := (pre_splitW hpre).2
 obtain ⟨d, r, rfl, h1, h2⟩ := hasAllW_cons hsh
 obtain rfl := hasAllW_nil h2
 obtain ⟨xs, rfl, h3⟩ := hasW_list h1
 obtain ⟨ns, rfl⟩ := items_int h3
 have hlen : ns.length ≤ n := by
  unfold OpenLaw.pre at hc
  have h4 : (WTm.not (.lt (.lit (.int (n : Int))) (.len (.arg 0)))).holds [] { args := [.list (ns.map .int)] } = true := by
   have h4 := (holds_andW hc).1
   rw [hn] at h4
   exact h4
  have h5 := condW_of h4 (w_not (w_lt w_lit (w_len_list (w_arg rfl))))
  rw [List.length_map] at h5
  refine Nat.le_of_not_lt fun q => ?_
  have q' : (n : Int) < ((ns.length : Nat) : Int) := by omega
  first
   | (rw [decide_eq_true q'] at h5; exact absurd h5 (by decide))
   | (simp at h5; omega)
 cases hwl with
 | cons w1 w2 =>
  cases w2
  cases w1 with
  | list ho hall => exact ⟨_, _, ns, rfl, rfl, ho, az9 ns _ hall, hlen⟩
theorem bt5 (l : OpenLaw) (args : List WData) : l.row.toRowW.claim.post args (.bool true) args = true :=
 postW_of (r := l.row.toRowW) (X := (true == true))
  (show WShape.has [] (.bool true) .bool = true by first | rfl | decide | simp [WShape.has, WShape.arms, WShape.armsAll])
  (show (WTm.eq .res (.lit (.bool true))).value [] { args := args, res := some (.bool true), after := args } = some (.bool (true == true)) from w_eq_bool (w_res rfl) w_lit) rfl
theorem attach_call {l : OpenLaw} {n : Nat} {q : Program} {loose : List Str} {XP : (Str → Option Value) → Heap → Prop} {YP : World → Heap → Prop} {d : DefRec}
  (hn : l.most = some n) (hdf : d.params.defaults = [])
  (call : ∀ (w : World) (s₀ s₁ : Shared) (mg mb : Str → Option Value) (fa : Addr) (o : Obj) (pm cd doc : Value) (a : Addr) (vs : List Value) (ns : List Int),
   Ground q loose [] XP w s₀ mg mb s₁.heap → YP w s₁.heap →
   s₁.heap.get? fa = some o → o.data = .func (docDef d.name d.params d.body d.scope pm cd doc) → s₁.heap.CodeRec cd d.name → mg d.name = some (.ref fa) →
   s₁.heap.get? a = some { cls := .type "list", data := .seq vs.toArray } → IntsAre vs ns → ns.length ≤ n → s₁.gens = #[] →
   codeAny (model l.prog w) callerA (.call (.ref fa) ⟨[.ref a], []⟩) (fun r s' => r = .ok (.ret (.bool true)) ∧ OldK s₁.heap s'.heap ∧ s'.os = s₁.os ∧ AllBare s'.gens) s₁) :
  WalkO q loose XP YP l.row.toRowW d [] (fun f vs => PySem.call f vs) := by
 intro w s₀ s₁ mg mb G Y fa o pm cd doc dV kV ho hd hcd hD hmg hg args vals as hpre hlay hrd hwl hlo
 obtain rfl : dV = .none := Dflts.none hD hdf
 obtain rfl : kV = .none := Dflts.noKw hD
 obtain ⟨a, vs, ns, rfl, rfl, hobj, hints, hlen⟩ := bt2 hn hpre hwl
 refine enter_call (codeAny_mono (call w s₀ s₁ mg mb fa o pm cd doc a vs ns G Y ho (fd_plain hd) hcd hmg hobj hints hlen hg) fun r s' hq => ?_)
 obtain ⟨rfl, h2, h3, h4⟩ := hq
 exact ⟨.inl ⟨.bool true, .bool true, [], rfl, fun _ => rfl, .bool true, bt5 l _, fun _ => ⟨List.Pairwise.nil, fun _ hm => (nomatch hm)⟩⟩, h2, h3, h4⟩
section
variable {prog : Program} {w : World} {A : Around} {E : Value → Shared → Prop} {s : Shared} {K : Frag}
end
end Att
namespace L2
open PySem PySem.Spec PyProof.Rows
theorem j0 : ∀ {vs : List Value} {ns : List Int}, IntsAre vs ns → L7 (ns.map V.int) vs
 | _, _, .nil => .nil
 | _, _, .cons n t h => .cons ⟨t, rfl⟩ (j0 h)
noncomputable def cB2 (H : Hp) : Prop := ∀ b, H b = none ∨ ∃ o xs, H b = some (.frz o (.lst xs))
theorem bK9 {P : Program} {w : World} {K : PySem.W.Frag} {mg mb : Str → Option Value} {CX : CXT} {k : Nat} {fa a : Addr} {fd : FuncData} {x : Str} {sp : Sp} {s₁ : Shared} {vs : List Value} {ns : List Int}
  (KX : K.In s₁.heap) (hns : s₁.heap.Ns mainGlobals mg) (hb : s₁.heap.Ns builtinsNs mb) (hbb : ∀ x : Str, x ≠ "__name__" → mb x = bootBuiltins x) (hlim : s₁.heap.NoLimit) (hg : s₁.gens = #[])
  (ha : s₁.heap.get? a = some { cls := .type "list", data := .seq vs.toArray }) (hi : IntsAre vs ns) (hl : ns.length ≤ sizeLine) (hr : Room k callerA)
  (F : ∀ base : Heap, K.In base → base.Ns mainGlobals mg → FnOk P w K mg base CX k fa fd [x] sp) (hbind : ∀ (s : Shared) (u : Value), BindsTo s fd ⟨[u], []⟩ [(x, u)])
  (hsp : ∀ H : Hp, cB2 H → SqL K H a (ns.map V.int) → sp [.ref a] H (fun v _ => v = .bl true) fun _ _ _ => False)
  (hCX : ∀ H e s', CX [] H s₁ (fun _ _ _ => False) e s' → False) :
  codeAny (model P w) callerA (.call (.ref fa) ⟨[.ref a], []⟩) (fun r s' => r = .ok (.ret (.bool true)) ∧ OldK s₁.heap s'.heap ∧ s'.os = s₁.os ∧ AllBare s'.gens) s₁ := by
 have rv := j0 hi
 have lenV := hi.length
 have core : ∀ H : Hp, cB2 H → SqL K H a (ns.map V.int) → HOk P w H s₁.heap → (∀ b, H b ≠ none → b = a) → (H a ≠ none → K.lookup a = none) →
   codeAny (model P w) callerA (.call (.ref fa) ⟨[.ref a], []⟩) (fun r s' => r = .ok (.ret (.bool true)) ∧ OldK s₁.heap s'.heap ∧ s'.os = s₁.os ∧ AllBare s'.gens) s₁ := by
  intro H hO hS hok hA hK
  have base_of : ∀ {b : Addr} {o : Obj}, s₁.heap.get? b = some o → H b = none → (aS7 s₁.heap H).get? b = some o := fun e n => bN7 e n
  have noA : ∀ {b : Addr} {o : Obj} {es : Array DictEntry} {ep : Nat}, s₁.heap.get? b = some o → o.data = .dict es ep → H b = none := fun {b o es ep} e d => by
   cases q : H b with
   | none => rfl
   | some u =>
    have e' : b = a := hA b (by rw [q]; simp)
    subst e'
    rw [ha] at e; cases e
    have d' : Data.seq vs.toArray _ = Data.dict es ep := d
    cases d'
  have nsK : ∀ {b : Addr} {m : Str → Option Value}, s₁.heap.Ns b m → (aS7 s₁.heap H).Ns b m := fun {b m} ⟨o, es, ep, e, d, r⟩ => ⟨o, es, ep, base_of e (noA e d), d, r⟩
  have hKb : K.In (aS7 s₁.heap H) := fun b o e => base_of (KX b o e) (by
   cases q : H b with
   | none => rfl
   | some u =>
    have e' : b = a := hA b (by rw [q]; simp)
    subst e'
    rw [hK (by rw [q]; simp)] at e; cases e)
  have hM : Mod K mg (aS7 s₁.heap H) := ⟨hKb, nsK hns, ⟨mb, nsK hb, hbb⟩, let ⟨mc, h1, h2⟩ := hlim; ⟨mc, nsK h1, h2⟩⟩
  have e0 : Env0 P w K mg (aS7 s₁.heap H) callerA [] s₁ H := ⟨rfl, hM, fun b o e => bX9 e, Nat.le_of_eq (bx8 _ _), trivial, fun b hb => absurd (show b ∈ ([] : List Addr) from hb) (by simp), hok, .of_eq hg⟩
  refine codeAny_mono ((F _ hKb (nsK hns)).run callerA [] s₁ H ⟨[.ref a], []⟩ [.ref a] [.ref a] _ _ hr e0 (hbind s₁ (.ref a)) (.cons rfl .nil) (hsp H hO hS)) fun r s' h => ?_
  cases r with
  | error e => exact (hCX H e s' h).elim
  | ok fl =>
   cases fl with
   | next => exact False.elim h
   | brk => exact False.elim h
   | cont => exact False.elim h
   | ret u =>
    obtain ⟨v, H', os, bare, un, hok', r', q⟩ := h
    have q' : v = .bl true := q
    subst q'
    obtain rfl : u = Value.bool true := r'
    refine ⟨rfl, OldK.of_keep fun b o e => ?_, os, bare⟩
    cases q : H b with
    | none => exact un.keep b o e q (by intro z; exact absurd (show b ∈ ([] : List Addr) from z) (by simp)) (by simp)
    | some u =>
     rcases hO b with z | ⟨ob, xs, z⟩
     ·rw [q] at z; cases z
     ·have z2 := un.frzs b ob _ z
      obtain ⟨e1, _⟩ := hok b _ z
      obtain ⟨e2, _⟩ := hok' b _ z2
      rw [e] at e1; cases e1
      exact e2
 cases hk : K.lookup a with
 | some o =>
  have e := KX a o hk
  rw [ha] at e
  cases e
  refine core (fun _ => none) (fun _ => .inl rfl) (.inr ⟨_, vs.toArray, _, hk, rfl, rfl, rfl, by rw [List.size_toArray, lenV]; exact hl, by simpa using rv⟩) (fun b u z => by have z' : (none : Option HO) = some u := z; cases z') (fun b z => absurd rfl z) fun z => absurd rfl z
 | none =>
  refine core (fun b => if b = a then some (.frz { cls := .type "list", data := .seq vs.toArray } (.lst (ns.map V.int))) else none) (fun b => ?_) (.inl (.inr ⟨{ cls := .type "list", data := .seq vs.toArray }, if_pos rfl⟩)) (fun b u z => ?_) (fun b z => ?_) fun _ => hk
  ·by_cases hb : b = a
   ·exact .inr ⟨_, _, if_pos hb⟩
   ·exact .inl (if_neg hb)
  ·by_cases hb : b = a
   ·have z' := (if_pos hb).symm.trans z
    cases z'
    subst hb
    exact ⟨ha, by rw [List.length_map]; exact hl, vs, _, rv, ha⟩
   ·have z' := (if_neg hb).symm.trans z
    cases z'
  ·by_cases hb : b = a
   ·exact hb
   ·exact absurd (if_neg hb) z
end L2
namespace L2
open PySem PySem.Spec PyProof.Rows
theorem bU6 {l : PySem.W.OpenLaw} {n k : Nat} {q : Program} {loose : List Str} {XP : (Str → Option Value) → Heap → Prop} {YP : World → Heap → Prop} {d : DefRec} {K : Params → PySem.W.Frag} {CX : World → CXT} {sp : World → Sp} {x : Str}
  (hn : l.most = some n) (hn2 : n ≤ sizeLine) (hdf : d.params.defaults = []) (hr : Room k callerA)
  (hY : ∀ (w : World) (h : Heap), YP w h → (K w.params).In h)
  (F : ∀ (w : World) (mg : Str → Option Value) (fa : Addr) (h : Heap), (K w.params).In h → h.Ns mainGlobals mg → mg d.name = some (.ref fa) →
   ∃ fd : FuncData, (∀ (s : Shared) (u : Value), BindsTo s fd ⟨[u], []⟩ [(x, u)]) ∧
    ∀ base : Heap, (K w.params).In base → base.Ns mainGlobals mg → FnOk l.prog w (K w.params) mg base (CX w) k fa fd [x] (sp w))
  (hsp : ∀ (w : World) (H : Hp) (a : Addr) (ns : List Int), ns.length ≤ n → cB2 H → SqL (K w.params) H a (ns.map V.int) → sp w [.ref a] H (fun v _ => v = .bl true) fun _ _ _ => False)
  (hCX : ∀ (w : World) (H : Hp) (s : Shared) (e : Value) (s' : Shared), CX w [] H s (fun _ _ _ => False) e s' → False) :
  PySem.W.WalkO q loose XP YP l.row.toRowW d [] (fun f vs => PySem.call f vs) := by
 refine Att.attach_call hn hdf fun w s₀ s₁ mg mb fa o pm cd doc a vs ns G Y ho hd hcd hmg hobj hints hlen hg => ?_
 have KX := hY w _ Y
 obtain ⟨fd, hb, hF⟩ := F w mg fa _ KX G.T.g hmg
 exact bK9 KX G.T.g G.T.b G.T.builtins G.T.nolimit hg hobj hints (Nat.le_trans hlen hn2) hr hF hb (fun H hO hS => hsp w H a ns hlen hO hS) fun H e s' => hCX w H s₁ e s'
end L2
namespace L2
open PySem PySem.Spec PyProof.Rows
noncomputable def g7 (s : Stmt) : Arguments := match s with
 | .FunctionDef _ a _ _ _ _ _ _ _ _ => a
 | _ => { posonlyargs := [], args := [], vararg := none, kwonlyargs := [], kw_defaults := [], kwarg := none, defaults := [] }
noncomputable def U7 (s : Stmt) : List Stmt := match s with
 | .FunctionDef _ _ b _ _ _ _ _ _ _ => b
 | _ => []
noncomputable def M9 (s : Stmt) : Scope := match s with
 | .FunctionDef _ _ _ _ _ _ sc _ _ _ => sc
 | _ => { kind := .function, names := [], isGenerator := false, isCoroutine := false }
noncomputable abbrev CX0 : CXT := fun _ _ _ _ _ _ => False
noncomputable abbrev E0 : XK := fun _ _ _ => False
theorem cg2 {X : Cx} : aU7 CX0 X E0 := fun _ _ _ _ _ _ _ h => h.elim
structure Fun (K : PySem.W.Frag) (x qual : Str) (st : Stmt) (f : Addr) (fd : FuncData) : Prop where
 ex : ∃ (oc : Value) (od : Option Addr) (kV doc pm : Value) (an : Option Addr) (cdv ct : Value) (osl : Array (Option Value)),
  fd = PySem.W.fnOf x qual (g7 st) (U7 st) (M9 st) .none kV doc pm an cdv ct ∧ K.lookup f = some ⟨oc, od, .func fd, osl⟩ ∧ PySem.W.codeIn K cdv qual = true
 kp : PySem.W.keepIn K (.ref f) = true
section
variable {P : Program} {w : World} {K : PySem.W.Frag} {mg : Str → Option Value} {base : Heap}
theorem Fun.ok {x qual : Str} {st : Stmt} {f : Addr} {fd : FuncData} {N ps : List Str} {k : Nat} {sp : Sp} (F : Fun K x qual st f fd) (S : FnScope N ps (M9 st)) (len : ∀ vs H Q E, sp vs H Q E → vs.length = ps.length)
  (hbody : ∀ (cdv : Value) (A : Around) (outer : List Env) (s : Shared) (H : Hp) (vs : List V) (Q : VK) (E : XK), Room k (A.deeper (envOfC qual (M9 st) s.heap.objs.size f cdv)) → sp vs H Q E →
   ∃ t, PSs (bj2 CX0 P w K mg base N qual (M9 st) f cdv A outer s H E).nox (U7 st) t ∧ t { nx := fun _ H' => Q .non H', rt := Q } (x8 N vs) H) : FnOk P w K mg base CX0 (k + 1) f fd ps sp := by
 obtain ⟨oc, od, kV, doc, pm, an, cdv, ct, osl, rfl, lk, hcd⟩ := F.ex
 refine aZ0 lk hcd S len fun A outer s H vs Q E hr hsp => ?_
 obtain ⟨t, h, q⟩ := hbody cdv A outer s H vs Q E hr hsp
 exact ⟨t, h.nox, q⟩
theorem cy9 {x qual : Str} {st : Stmt} {f : Addr} {oc : Value} {od an : Option Addr} {osl : Array (Option Value)} {kV doc pm cdv ct : Value} (l : K.lookup f = some ⟨oc, od, .func (PySem.W.fnOf x qual (g7 st) (U7 st) (M9 st) .none kV doc pm an cdv ct), osl⟩)
  (c : PySem.W.codeIn K cdv qual = true) (k : PySem.W.keepIn K (.ref f) = true) : Fun K x qual st f (PySem.W.fnOf x qual (g7 st) (U7 st) (M9 st) .none kV doc pm an cdv ct) := ⟨⟨oc, od, kV, doc, pm, an, cdv, ct, osl, rfl, l, c⟩, k⟩
end
theorem au5 {n : Nat} (h : n ≤ 1000) : n < sizeLine := Nat.lt_of_le_of_lt h (by decide)
section
variable {X : Cx}
theorem pv (i : Nat) {x : Str} {pos : Pos} (hN : X.N[i]? = some x := by rfl) (hv : Vis X.env.scope x := by first | exact Or.inl rfl | exact Or.inr (Or.inl rfl) | exact Or.inr (Or.inr rfl)) (hd : (x == ("__debug__" : Str)) = false := by decide)
  (hcd : (x == ("__classdict__" : Str)) = false := by decide) : PE X (.Name x pos) (cC8 i) := ao3 hN hv hd hcd
end
theorem aJ3 {A B : Prop} (h : B) : if false = true then A else B := by
 rw [if_neg Bool.false_ne_true]
 exact h
theorem aJ2 {A B : Prop} (h : A) : if true = true then A else B := by
 rw [if_pos rfl]
 exact h
noncomputable def M6 (H H' : Hp) : Prop := ∀ b o, H b = some o → H' b = some o
theorem M6.refl (H : Hp) : M6 H H := fun _ _ h => h
theorem M6.trans {H H1 H2 : Hp} (a : M6 H H1) (b : M6 H1 H2) : M6 H H2 := fun c o h => b c o (a c o h)
theorem M6.free {H H' : Hp} (e : M6 H H') {l : Addr} (h : H' l = Option.none) : H l = Option.none := by
 cases q : H l with
 | none => rfl
 | some o =>
  rw [e l o q] at h
  cases h
end L2
set_option maxHeartbeats 4000000
namespace G
theorem xbm {α β : Type} {o : Option α} {f : α → Option β} {b : β} (h : o.bind f = some b) : ∃ a, o = some a ∧ f a = some b := Option.bind_eq_some_iff.mp h
open PySem PySem.Spec PyProof.Rows L2
noncomputable abbrev D := PyData
mutual
noncomputable def Rep (K : PySem.W.Frag) (H : Hp) : D → V → Prop
 | .none, v => v = .non
 | .bool b, v => v = .bl b
 | .int i, v => v = .int i
 | .str x, v => v = .str x
 | .tuple ds, v => ∃ a vs, v = .ref a ∧ SqT K H a vs ∧ Reps K H ds vs
 | .list ds, v => ∃ a vs, v = .ref a ∧ SqL K H a vs ∧ Reps K H ds vs
 | .dict _, _ => False
noncomputable def Reps (K : PySem.W.Frag) (H : Hp) : List D → List V → Prop
 | [], vs => vs = []
 | d :: ds, vs => ∃ v r, vs = v :: r ∧ Rep K H d v ∧ Reps K H ds r
end
section
variable {K : PySem.W.Frag} {H H' H0 H1 H2 Hf Hf' Hf1 Hf2 : Hp}
theorem bm7 {a : Addr} {u : HO} (e : M6 H H') (h : Rd H a u) : Rd H' a u := by
 rcases h with h | ⟨o, h⟩
 ·exact .inl (e _ _ h)
 ·exact .inr ⟨o, e _ _ h⟩
theorem K3 {a : Addr} {xs : List V} (e : M6 H H') (h : SqT K H a xs) : SqT K H' a xs := h.imp (bm7 e) id
theorem M3 {a : Addr} {xs : List V} (e : M6 H H') (h : SqL K H a xs) : SqL K H' a xs := h.imp (bm7 e) id
mutual
theorem Rep.mono (e : M6 H H') : ∀ {d : D} {v : V}, Rep K H d v → Rep K H' d v
 | .none, _, h => h
 | .bool _, _, h => h
 | .int _, _, h => h
 | .str _, _, h => h
 | .tuple _, _, ⟨a, vs, h1, h2, h3⟩ => ⟨a, vs, h1, K3 e h2, Reps.mono e h3⟩
 | .list _, _, ⟨a, vs, h1, h2, h3⟩ => ⟨a, vs, h1, M3 e h2, Reps.mono e h3⟩
 | .dict _, _, h => h
theorem Reps.mono (e : M6 H H') : ∀ {ds : List D} {vs : List V}, Reps K H ds vs → Reps K H' ds vs
 | [], _, h => h
 | _ :: _, _, ⟨v, r, h1, h2, h3⟩ => ⟨v, r, h1, Rep.mono e h2, Reps.mono e h3⟩
end
theorem Reps.length : ∀ {ds : List D} {vs : List V}, Reps K H ds vs → vs.length = ds.length
 | [], _, h => by cases h; rfl
 | _ :: _, _, ⟨v, r, h1, h2, h3⟩ => by subst h1; simp [Reps.length h3]
theorem Reps.get : ∀ {ds : List D} {vs : List V} {i : Nat} {d : D}, Reps K H ds vs → ds[i]? = some d → ∃ v, vs[i]? = some v ∧ Rep K H d v
 | [], _, _, _, _, e => by simp at e
 | x :: _, _, 0, _, ⟨v, r, h1, h2, h3⟩, e => by subst h1; simp at e; subst e; exact ⟨v, rfl, h2⟩
 | x :: _, _, i + 1, _, ⟨v, r, h1, h2, h3⟩, e => by
  subst h1
  obtain ⟨u, q1, q2⟩ := Reps.get (i := i) h3 (by simpa using e)
  exact ⟨u, by simpa using q1, q2⟩
theorem Reps.append : ∀ {ds es : List D} {vs us : List V}, Reps K H ds vs → Reps K H es us → Reps K H (ds ++ es) (vs ++ us)
 | [], _, _, _, h, q => by cases h; exact q
 | _ :: _, _, _, _, ⟨v, r, h1, h2, h3⟩, q => by subst h1; exact ⟨v, r ++ _, rfl, h2, Reps.append h3 q⟩
theorem Reps.take : ∀ {ds : List D} {vs : List V} (n : Nat), Reps K H ds vs → Reps K H (ds.take n) (vs.take n)
 | [], _, n, h => by cases h; simp [Reps]
 | _ :: _, _, 0, h => by simp [Reps]
 | _ :: _, _, n + 1, ⟨v, r, h1, h2, h3⟩ => by subst h1; exact ⟨v, r.take n, rfl, h2, Reps.take n h3⟩
theorem Reps.drop : ∀ {ds : List D} {vs : List V} (n : Nat), Reps K H ds vs → Reps K H (ds.drop n) (vs.drop n)
 | [], _, n, h => by cases h; simp [Reps]
 | _ :: _, _, 0, h => h
 | _ :: _, _, n + 1, ⟨v, r, h1, h2, h3⟩ => by subst h1; exact Reps.drop n h3
theorem Reps.ints : ∀ (ns : List Int), Reps K H (ns.map PyData.int) (ns.map V.int)
 | [] => rfl
 | n :: r => ⟨.int n, r.map V.int, rfl, rfl, Reps.ints r⟩
theorem Reps.flatten {ds : List D} {vs : List V} (h : Reps K H ds vs) : ∀ k : Nat, Reps K H (List.replicate k ds).flatten (List.replicate k vs).flatten
 | 0 => rfl
 | k + 1 => by simp only [List.replicate_succ, List.flatten_cons]; exact h.append (Reps.flatten h k)
structure Grow (H Hf H' Hf' : Hp) : Prop where
 big : M6 H H'
 sub : M6 Hf' H'
 ext : M6 Hf Hf'
 new : ∀ b, Hf' b ≠ none → Hf b ≠ none ∨ H b = none
theorem Grow.refl (h : M6 Hf H) : Grow H Hf H Hf := ⟨M6.refl _, h, M6.refl _, fun _ h => .inl h⟩
theorem Grow.trans (a : Grow H Hf H1 Hf1) (b : Grow H1 Hf1 H2 Hf2) : Grow H Hf H2 Hf2 :=
 ⟨a.big.trans b.big, b.sub, a.ext.trans b.ext, fun x h => (b.new x h).elim (a.new x) fun z => .inr (a.big.free z)⟩
theorem L1 {p : Addr} {o : HO} (h : H p = none) : M6 H (upd H p o) := fun b u e => by rw [G9 (J3 e h)]; exact e
theorem Grow.laid {p : Addr} {o : HO} (s : M6 Hf H) (h : H p = none) : Grow H Hf (upd H p o) (upd Hf p o) := by
 refine ⟨L1 h, fun b u e => ?_, L1 (s.free h), fun b e => ?_⟩
 ·by_cases q : b = p
  ·subst q; rw [G8] at e; rw [G8]; exact e
  ·rw [G9 q] at e; rw [G9 q]; exact s b u e
 ·by_cases q : b = p
  ·subst q; exact .inr h
  ·rw [G9 q] at e; exact .inl e
theorem Grow.made {p : Addr} {o : HO} (s : M6 Hf H) (h : H p = none) : Grow H Hf (upd H p o) Hf :=
 ⟨L1 h, s.trans (L1 h), M6.refl _, fun _ e => .inl e⟩
theorem Grow.freeze {p : Addr} {o : HO} (g : Grow H Hf H1 Hf1) (h : H1 p = some o) (n : Hf1 p = none) (f : H p = none) : Grow H Hf H1 (upd Hf1 p o) := by
 refine ⟨g.big, fun b u e => ?_, g.ext.trans (L1 n), fun b e => ?_⟩
 ·by_cases q : b = p
  ·subst q; rw [G8] at e; rw [h]; exact e
  ·rw [G9 q] at e; exact g.sub b u e
 ·by_cases q : b = p
  ·subst q; exact .inr f
  ·rw [G9 q] at e; exact g.new b e
end
inductive B where
 | val (d : D)
 | own (ds : List D)
noncomputable abbrev Rho := List (Option B)
noncomputable def SB (K : PySem.W.Frag) (H0 H Hf : Hp) : B → V → Prop
 | .val d, v => Rep K Hf d v
 | .own ds, v => ∃ a vs, v = .ref a ∧ H a = some (.lst vs) ∧ Hf a = none ∧ H0 a = none ∧ Reps K Hf ds vs
structure Slots (K : PySem.W.Frag) (H0 : Hp) (ρ : Rho) (σ : L2.St) (H Hf : Hp) : Prop where
 len : ρ.length = σ.length
 is : ∀ (i : Nat) (b : B), ρ[i]? = some (some b) → ∃ v, σ[i]? = some (some v) ∧ SB K H0 H Hf b v
 apart : ∀ (i j : Nat) (ds es : List D) (a : Addr), ρ[i]? = some (some (.own ds)) → ρ[j]? = some (some (.own es)) → σ[i]? = some (some (V.ref a)) → σ[j]? = some (some (V.ref a)) → i = j
section
variable {K : PySem.W.Frag} {H H' H0 H1 H2 Hf Hf' Hf1 Hf2 : Hp} {ρ : Rho} {σ : L2.St}
theorem SB.grow {b : B} {v : V} (h : SB K H0 H Hf b v) (g : Grow H Hf H' Hf') : SB K H0 H' Hf' b v := by
 cases b with
 | val d => exact Rep.mono g.ext h
 | own ds =>
  obtain ⟨a, vs, e, h1, h2, h3, h4⟩ := h
  refine ⟨a, vs, e, g.big _ _ h1, ?_, h3, h4.mono g.ext⟩
  cases q : Hf' a with
  | none => rfl
  | some u =>
   rcases g.new a (by rw [q]; simp) with z | z
   ·exact absurd h2 z
   ·rw [h1] at z; cases z
theorem Slots.grow (s : Slots K H0 ρ σ H Hf) (g : Grow H Hf H' Hf') : Slots K H0 ρ σ H' Hf' :=
 ⟨s.len, fun i b e => let ⟨v, h1, h2⟩ := s.is i b e; ⟨v, h1, h2.grow g⟩, s.apart⟩
end
noncomputable abbrev DE := Rho → Option D
noncomputable def tJ (K : PySem.W.Frag) (ρ : Rho) (R : Hp → V → Hp → Hp → Prop) : TE := fun σ H Q => ∃ H0 Hf, M6 Hf H ∧ Slots K H0 ρ σ H Hf ∧ ∀ v H' Hf', Grow H Hf H' Hf' → R H v H' Hf' → Q v H'
noncomputable def JE (X : Cx) (e : Expr) (f : DE) : Prop := ∀ ρ d, f ρ = some d → PE X e (tJ X.K ρ fun _ v _ Hf => Rep X.K Hf d v)
noncomputable def Sq (K : PySem.W.Frag) : Bool → Hp → Addr → List V → Prop
 | true => SqT K
 | false => SqL K
noncomputable def RQ (K : PySem.W.Frag) (t : Bool) (ds : List D) (v : V) (H Hf : Hp) : Prop := ∃ a vs, v = .ref a ∧ Sq K t H a vs ∧ Reps K Hf ds vs
noncomputable def JQ (X : Cx) (e : Expr) (f : Rho → Option (Bool × List D)) : Prop := ∀ ρ t ds, f ρ = some (t, ds) → PE X e (tJ X.K ρ fun _ v H Hf => RQ X.K t ds v H Hf)
noncomputable def JN (X : Cx) (e : Expr) (f : Rho → Option (List D)) : Prop := ∀ ρ ds, f ρ = some ds → PE X e (tJ X.K ρ fun H v H' Hf' => ∃ a vs, v = .ref a ∧ H a = none ∧ H' a = some (.lst vs) ∧ Hf' a = none ∧ Reps X.K Hf' ds vs)
noncomputable def tJA (K : PySem.W.Frag) (ρ : Rho) (ds : List D) : TA := fun σ H Q => ∃ H0 Hf, M6 Hf H ∧ Slots K H0 ρ σ H Hf ∧ ∀ vs H' Hf', Grow H Hf H' Hf' → Reps K Hf' ds vs → Q vs H'
structure JA (X : Cx) (es : List Expr) (f : Rho → Option (List D)) : Prop where
 len : ∀ ρ ds, f ρ = some ds → ds.length = es.length
 run : ∀ ρ ds, f ρ = some ds → PA X es (tJA X.K ρ ds)
noncomputable def JT (X : Cx) (e : Expr) (f : Rho → Option Bool) : Prop := ∀ ρ c, f ρ = some c → PT X e (fun σ H Q => ∃ H0 Hf, M6 Hf H ∧ Slots X.K H0 ρ σ H Hf ∧ ∀ H' Hf', Grow H Hf H' Hf' → Q c H')
noncomputable def JW (X : Cx) (e : Expr) (f : Rho → Option Bool) : Prop := ∀ ρ c, f ρ = some c → PW X e (fun σ H Q => ∃ H0 Hf, M6 Hf H ∧ Slots X.K H0 ρ σ H Hf ∧ ∀ H' Hf', Grow H Hf H' Hf' → Q c H')
section
variable {X : Cx}
theorem G1 {e : Expr} {t t' : TE} (h : PE X e t) (i : ∀ σ H Q, t' σ H Q → t σ H Q) : PE X e t' := fun pins s σ H Q I q => h pins s σ H Q I (i σ H Q q)
theorem aQ3 {e : Expr} {t t' : TT} (h : PT X e t) (i : ∀ σ H Q, t' σ H Q → t σ H Q) : PT X e t' := fun pins s σ H Q I q => h pins s σ H Q I (i σ H Q q)
noncomputable def dC (d : D) : DE := fun _ => some d
noncomputable def A1 (i : Nat) : DE := fun ρ => match ρ[i]? with
 | some (some (.val d)) => some d
 | _ => none
noncomputable def A5 (i : Nat) : Rho → Option (Bool × List D) := fun ρ => match ρ[i]? with
 | some (some (.own ds)) => some (false, ds)
 | some (some (.val (.list ds))) => some (false, ds)
 | some (some (.val (.tuple ds))) => some (true, ds)
 | _ => none
noncomputable def ab9 : D → Option (Bool × List D)
 | .list ds => some (false, ds)
 | .tuple ds => some (true, ds)
 | _ => none
theorem bN0 {i : Int} {j : Nat} {pos : Pos} : JE X (.Constant (.int i) j pos) (dC (.int i)) := fun ρ d h => by
 cases h
 exact G1 cr1 fun σ H Q ⟨H0, Hf, s, sl, k⟩ => k _ H Hf (Grow.refl s) rfl
theorem cH3 {b : Bool} {j : Nat} {pos : Pos} : JE X (.Constant (.bool b) j pos) (dC (.bool b)) := fun ρ d h => by
 cases h
 exact G1 cE6 fun σ H Q ⟨H0, Hf, s, sl, k⟩ => k _ H Hf (Grow.refl s) rfl
theorem cx4 {j : Nat} {pos : Pos} : JE X (.Constant .none j pos) (dC .none) := fun ρ d h => by
 cases h
 exact G1 cq9 fun σ H Q ⟨H0, Hf, s, sl, k⟩ => k _ H Hf (Grow.refl s) rfl
theorem cw8 {x : Str} {j : Nat} {pos : Pos} : JE X (.Constant (.str x) j pos) (dC (.str x)) := fun ρ d h => by
 cases h
 exact G1 cq5 fun σ H Q ⟨H0, Hf, s, sl, k⟩ => k _ H Hf (Grow.refl s) rfl
theorem cw6 (i : Nat) {x : Str} {pos : Pos} (hN : X.N[i]? = some x := by rfl) (hv : Vis X.env.scope x := by first | exact Or.inl rfl | exact Or.inr (Or.inl rfl) | exact Or.inr (Or.inr rfl)) (hd : (x == ("__debug__" : Str)) = false := by decide)
  (hcd : (x == ("__classdict__" : Str)) = false := by decide) : JE X (.Name x pos) (A1 i) := fun ρ d h => by
 refine G1 (ao3 hN hv hd hcd) fun σ H Q ⟨H0, Hf, s, sl, k⟩ => ?_
 unfold A1 at h
 split at h
 ·rename_i d' e
  cases h
  obtain ⟨v, h1, h2⟩ := sl.is i _ e
  exact ⟨v, h1, k v H Hf (Grow.refl s) h2⟩
 ·cases h
theorem cv9 (i : Nat) {x : Str} {pos : Pos} (hN : X.N[i]? = some x := by rfl) (hv : Vis X.env.scope x := by first | exact Or.inl rfl | exact Or.inr (Or.inl rfl) | exact Or.inr (Or.inr rfl)) (hd : (x == ("__debug__" : Str)) = false := by decide)
  (hcd : (x == ("__classdict__" : Str)) = false := by decide) : JQ X (.Name x pos) (A5 i) := fun ρ t ds h => by
 refine G1 (ao3 hN hv hd hcd) fun σ H Q ⟨H0, Hf, s, sl, k⟩ => ?_
 unfold A5 at h
 split at h
 ·rename_i d' e
  cases h
  obtain ⟨v, h1, a, vs, rfl, h2, h3, h4, h5⟩ := sl.is i _ e
  exact ⟨_, h1, k _ H Hf (Grow.refl s) ⟨a, vs, rfl, SqL.of h2, h5⟩⟩
 ·rename_i d' e
  cases h
  obtain ⟨v, h1, a, vs, rfl, h2, h3⟩ := sl.is i _ e
  exact ⟨_, h1, k _ H Hf (Grow.refl s) ⟨a, vs, rfl, M3 s h2, h3⟩⟩
 ·rename_i d' e
  cases h
  obtain ⟨v, h1, a, vs, rfl, h2, h3⟩ := sl.is i _ e
  exact ⟨_, h1, k _ H Hf (Grow.refl s) ⟨a, vs, rfl, K3 s h2, h3⟩⟩
 ·cases h
theorem Rep.seq {K : PySem.W.Frag} {H Hf : Hp} {d : D} {v : V} {t : Bool} {ds : List D} (h : Rep K Hf d v) (s : M6 Hf H) (e : ab9 d = some (t, ds)) : RQ K t ds v H Hf := by
 cases d with
 | list xs => cases e; obtain ⟨a, vs, e1, e2, e3⟩ := h; exact ⟨a, vs, e1, M3 s e2, e3⟩
 | tuple xs => cases e; obtain ⟨a, vs, e1, e2, e3⟩ := h; exact ⟨a, vs, e1, K3 s e2, e3⟩
 | _ => cases e
noncomputable def qE (f : DE) : Rho → Option (Bool × List D) := fun ρ => (f ρ).bind ab9
theorem bL9 {e : Expr} {f : DE} (h : JE X e f) : JQ X e (qE f) := fun ρ t ds q => by
 obtain ⟨d, h1, h2⟩ := xbm q
 exact G1 (h ρ d h1) fun σ H Q ⟨H0, Hf, s, sl, k⟩ => ⟨H0, Hf, s, sl, fun v H' Hf' g r => k v H' Hf' g (r.seq g.sub h2)⟩
noncomputable def A3 : Rho → Option (List D) := fun _ => some []
noncomputable def A0 (f : DE) (g : Rho → Option (List D)) : Rho → Option (List D) := fun ρ => (f ρ).bind fun d => (g ρ).map fun ds => d :: ds
theorem cy3 : JA X [] A3 := ⟨fun ρ ds h => by cases h; rfl, fun ρ ds h pos pins s σ H Q I ⟨H0, Hf, ss, sl, k⟩ => by
 cases h
 exact N8 pos pins s σ H Q I (k [] H Hf (Grow.refl ss) rfl)⟩
theorem cc5 {e : Expr} {es : List Expr} {f : DE} {g : Rho → Option (List D)} (h : JE X e f) (r : JA X es g) (hs : starEach (e :: es) X.env = (false, eval e X.env) :: starEach es X.env := by rfl) : JA X (e :: es) (A0 f g) := by
 refine ⟨fun ρ ds q => ?_, fun ρ ds q => ?_⟩
 ·obtain ⟨d, h1, h2⟩ := xbm q
  obtain ⟨es', h3, h4⟩ := Option.map_eq_some_iff.mp h2
  subst h4
  simp [r.len ρ es' h3]
 ·obtain ⟨d, h1, h2⟩ := xbm q
  obtain ⟨es', h3, h4⟩ := Option.map_eq_some_iff.mp h2
  subst h4
  intro pos pins s σ H Q I ⟨H0, Hf, ss, sl, k⟩
  refine K4 (h ρ d h1) (r.run ρ es' h3) hs pos pins s σ H Q I ⟨H0, Hf, ss, sl, fun v H1 Hf1 g1 r1 => ⟨H0, Hf1, g1.sub, sl.grow g1, fun vs H2 Hf2 g2 r2 => ?_⟩⟩
  exact k (v :: vs) H2 Hf2 (g1.trans g2) ⟨v, vs, rfl, r1.mono g2.ext, r2⟩
noncomputable def J1 (f : Rho → Option (List D)) : DE := fun ρ => (f ρ).map PyData.tuple
theorem cw7 {es : List Expr} {f : Rho → Option (List D)} {k : Nat} {pos : Pos} (h : JA X es f) (hn : es.length ≤ 1000 := by decide) : JE X (.Tuple es k pos) (J1 f) := fun ρ d q => by
 obtain ⟨ds, h1, h2⟩ := Option.map_eq_some_iff.mp q
 subst h2
 refine G1 (cq4 fun pos pins s σ H Q I t => h.run ρ ds h1 pos pins s σ H Q I t) fun σ H Q ⟨H0, Hf, s, sl, k⟩ => ?_
 refine ⟨H0, Hf, s, sl, fun vs H1 Hf1 g r => ⟨?_, fun p hp => ?_⟩⟩
 ·rw [r.length, h.len ρ ds h1]; exact Nat.le_of_lt (au5 hn)
 ·exact k _ _ _ (g.trans (Grow.laid g.sub hp)) ⟨p, vs, rfl, SqT.of G8, r.mono (Grow.laid (o := .tup vs) g.sub hp).ext⟩
theorem cw1 {es : List Expr} {f : Rho → Option (List D)} {pos : Pos} (h : JA X es f) (hn : es.length ≤ 1000 := by decide) : JN X (.List es pos) f := fun ρ ds h1 => by
 refine G1 (cr0 fun pos pins s σ H Q I t => h.run ρ ds h1 pos pins s σ H Q I t) fun σ H Q ⟨H0, Hf, s, sl, k⟩ => ?_
 refine ⟨H0, Hf, s, sl, fun vs H1 Hf1 g r => ⟨?_, fun p hp => ?_⟩⟩
 ·rw [r.length, h.len ρ ds h1]; exact Nat.le_of_lt (au5 hn)
 ·exact k _ _ _ (g.trans (Grow.made g.sub hp)) ⟨p, vs, rfl, g.big.free hp, G8, g.sub.free hp, r⟩
noncomputable def T4 (f : Rho → Option (List D)) : DE := fun ρ => (f ρ).map PyData.list
theorem aF7 {e : Expr} {f : Rho → Option (List D)} (h : JN X e f) : JE X e (T4 f) := fun ρ d q => by
 obtain ⟨ds, h1, h2⟩ := Option.map_eq_some_iff.mp q
 subst h2
 refine G1 (h ρ ds h1) fun σ H Q ⟨H0, Hf, s, sl, k⟩ => ⟨H0, Hf, s, sl, fun v H' Hf' g ⟨a, vs, e1, e2, e3, e4, e5⟩ => ?_⟩
 subst e1
 exact k _ _ _ (g.freeze e3 e4 e2) ⟨a, vs, rfl, SqL.of G8, e5.mono (L1 e4)⟩
theorem bL8 {e : Expr} {f : Rho → Option (List D)} (h : JN X e f) : JQ X e (fun ρ => (f ρ).map fun ds => (false, ds)) := fun ρ t ds q => by
 obtain ⟨ds', h1, h2⟩ := Option.map_eq_some_iff.mp q
 cases h2
 refine G1 (h ρ ds h1) fun σ H Q ⟨H0, Hf, s, sl, k⟩ => ⟨H0, Hf, s, sl, fun v H' Hf' g ⟨a, vs, e1, e2, e3, e4, e5⟩ => ?_⟩
 subst e1
 exact k _ _ _ g ⟨a, vs, rfl, SqL.of e3, e5⟩
noncomputable def OpD (X : Cx) (F : Value → Value → Sem Value) (h : D → D → Option D) : Prop := ∀ x y z, h x y = some z →
 OpR X F fun vx vy H Q => ∃ Hf, M6 Hf H ∧ Rep X.K Hf x vx ∧ Rep X.K Hf y vy ∧ ∀ v H' Hf', Grow H Hf H' Hf' → Rep X.K Hf' z v → Q v H'
noncomputable def A4 (h : D → D → Option D) (f g : DE) : DE := fun ρ => (f ρ).bind fun x => (g ρ).bind fun y => h x y
theorem w9 {op : Operator} {h : D → D → Option D} {a b : Expr} {f g : DE} {pos : Pos} (o : OpD X (binaryOp op) h) (ha : JE X a f) (hb : JE X b g) : JE X (.BinOp a op b pos) (A4 h f g) := fun ρ d q => by
 obtain ⟨x, h1, q⟩ := xbm q
 obtain ⟨y, h2, h3⟩ := xbm q
 refine G1 (cg0 (o x y d h3) (ha ρ x h1) (hb ρ y h2)) fun σ H Q ⟨H0, Hf, s, sl, k⟩ => ?_
 refine ⟨H0, Hf, s, sl, fun v H1 Hf1 g1 r1 => ⟨H0, Hf1, g1.sub, sl.grow g1, fun u H2 Hf2 g2 r2 => ?_⟩⟩
 exact ⟨Hf2, g2.sub, r1.mono g2.ext, r2, fun w H3 Hf3 g3 r3 => k w H3 Hf3 ((g1.trans g2).trans g3) r3⟩
theorem cx9 {op : CmpOp} {h : D → D → Option D} {a b : Expr} {f g : DE} {pos : Pos} (o : OpD X (compareOp op) h) (ha : JE X a f) (hb : JE X b g) (hm : behindInMarks op b = false := by first | exact bJ5 _ | rfl) : JE X (.Compare a [op] [b] pos) (A4 h f g) := fun ρ d q => by
 obtain ⟨x, h1, q⟩ := xbm q
 obtain ⟨y, h2, h3⟩ := xbm q
 refine G1 (bX0 (o x y d h3) (ha ρ x h1) (hb ρ y h2) hm) fun σ H Q ⟨H0, Hf, s, sl, k⟩ => ?_
 refine ⟨H0, Hf, s, sl, fun v H1 Hf1 g1 r1 => ⟨H0, Hf1, g1.sub, sl.grow g1, fun u H2 Hf2 g2 r2 => ?_⟩⟩
 exact ⟨Hf2, g2.sub, r1.mono g2.ext, r2, fun w H3 Hf3 g3 r3 => k w H3 Hf3 ((g1.trans g2).trans g3) r3⟩
theorem OpR.imp {F : Value → Value → Sem Value} {r r' : R2} (h : OpR X F r) (i : ∀ x y H Q, r' x y H Q → r x y H Q) : OpR X F r' := fun pins s σ H x y v u Q I rx ry q => h pins s σ H x y v u Q I rx ry (i x y H Q q)
end
end G
namespace G
open PySem PySem.Spec PyProof.Rows L2
section
variable {X : Cx}
noncomputable def L0 (i : Int) : Prop := i.natAbs < 2 ^ 8000
instance : DecidablePred L0 := fun i => inferInstanceAs (Decidable (i.natAbs < 2 ^ 8000))
theorem L0.log {i : Int} (h : L0 i) (h0 : i.natAbs ≠ 0) : i.natAbs.log2 < 8000 := (Nat.log2_lt h0).mpr h
theorem L0.bits {i : Int} (h : L0 i) : Builtin.Int.intBits i ≤ 2 ^ 20 := by
 unfold Builtin.Int.intBits
 split
 ·exact Nat.zero_le _
 ·rename_i h0
  have := h.log (by simpa using h0)
  omega
theorem bX6 {X : Cx} : OpR X (binaryOp .Mult) (rI (fun i j => L0 i ∧ L0 j) fun i j => .int (i * j)) := opI fun _ _ _ _ _ _ _ hc q => mul_int q (PySem.IntMulOk.of_bits hc.1.bits hc.2.bits)
noncomputable def cJ0 (x y : D) : Option D := match x, y with
 | .int i, .int j => some (.int (i + j))
 | _, _ => none
noncomputable def ae3 (x y : D) : Option D := match x, y with
 | .int i, .int j => some (.int (i - j))
 | _, _ => none
noncomputable def ct2 (x y : D) : Option D := match x, y with
 | .int i, .int j => if L0 i ∧ L0 j then some (.int (i * j)) else none
 | _, _ => none
noncomputable def X7 (x y : D) : Option D := match x, y with
 | .int i, .int j => if 0 < j ∧ L0 j then some (.int (i / j)) else none
 | _, _ => none
noncomputable def U1 (x y : D) : Option D := match x, y with
 | .int i, .int j => if 0 < j then some (.int (i % j)) else none
 | _, _ => none
noncomputable def cq1 (x y : D) : Option D := match x, y with
 | .int i, .int j => if 0 ≤ j ∧ j ≤ 1000000 ∧ i.natAbs < 2 ^ 64 then some (.int (i ^ j.toNat)) else none
 | _, _ => none
theorem cL3 : OpD X (binaryOp .Add) cJ0 := fun x y z h => by
 unfold cJ0 at h
 split at h
 ·cases h
  exact OpR.imp bH9 fun vx vy H Q ⟨Hf, s, r1, r2, k⟩ => ⟨_, _, r1, r2, k _ H Hf (Grow.refl s) rfl⟩
 ·cases h
theorem cr8 : OpD X (binaryOp .Sub) ae3 := fun x y z h => by
 unfold ae3 at h
 split at h
 ·cases h
  exact OpR.imp cr3 fun vx vy H Q ⟨Hf, s, r1, r2, k⟩ => ⟨_, _, r1, r2, k _ H Hf (Grow.refl s) rfl⟩
 ·cases h
theorem cs0 : OpD X (binaryOp .Mult) ct2 := fun x y z h => by
 unfold ct2 at h
 split at h
 ·split at h
  ·rename_i c
   cases h
   exact OpR.imp bX6 fun vx vy H Q ⟨Hf, s, r1, r2, k⟩ => ⟨_, _, r1, r2, c, k _ H Hf (Grow.refl s) rfl⟩
  ·cases h
 ·cases h
theorem bu1 : OpR X (binaryOp .FloorDiv) (rI (fun _ j => 0 < j ∧ L0 j) fun i j => .int (i / j)) := opI fun i j _ _ s Q E hc q => by
 have e : i.fdiv j = i / j := Int.fdiv_eq_ediv_of_nonneg i (Int.le_of_lt hc.1)
 refine floordiv_int (by omega) (by rw [e]; exact q) (.inl (PyProof.noPylong_of_log2 ?_))
 have h2 := hc.2.log (by omega)
 omega
theorem cs4 : OpD X (binaryOp .FloorDiv) X7 := fun x y z h => by
 unfold X7 at h
 split at h
 ·split at h
  ·rename_i c
   cases h
   exact OpR.imp bu1 fun vx vy H Q ⟨Hf, s, r1, r2, k⟩ => ⟨_, _, r1, r2, c, k _ H Hf (Grow.refl s) rfl⟩
  ·cases h
 ·cases h
theorem cs1 : OpD X (binaryOp .Mod) U1 := fun x y z h => by
 unfold U1 at h
 split at h
 ·split at h
  ·rename_i c
   cases h
   exact OpR.imp cr5 fun vx vy H Q ⟨Hf, s, r1, r2, k⟩ => ⟨_, _, r1, r2, c, k _ H Hf (Grow.refl s) rfl⟩
  ·cases h
 ·cases h
theorem cr9 : OpD X (binaryOp .Pow) cq1 := fun x y z h => by
 unfold cq1 at h
 split at h
 ·split at h
  ·rename_i c
   cases h
   exact OpR.imp cr4 fun vx vy H Q ⟨Hf, s, r1, r2, k⟩ => ⟨_, _, r1, r2, c, k _ H Hf (Grow.refl s) rfl⟩
  ·cases h
 ·cases h
theorem bH8 : OpR X (binaryOp .Add) (fun x y H Q => ∃ a b ys, x = .ref a ∧ y = .ref b ∧ SqT X.K H a [] ∧ SqT X.K H b ys ∧ Q (.ref b) H) := by
 intro pins s σ H x y v u Q I rx ry h
 obtain ⟨a, b, ys, rfl, rfl, ha, hb, q⟩ := h
 cases rx
 cases ry
 obtain ⟨its, r1, p1, _⟩ := I.tuple ha
 obtain ⟨its2, r2, p2, _⟩ := I.tuple hb
 cases r1
 obtain ⟨⟨cls, dd, data, sl⟩, ho, hc, n, hd⟩ := id p1
 obtain ⟨⟨cls2, dd2, data2, sl2⟩, ho2, hc2, n2, hd2⟩ := id p2
 simp only at hc hd hc2 hd2
 subst hc hd hc2 hd2
 exact concat_meets ⟨_, ho, rfl⟩ ⟨_, ho2, rfl⟩ noFill_tuple_add seq_tuple_add PySem.F.slot_tuple_add PySem.F.entry_tuple_add (PySem.F.args_tuple_add_2 _ _)
   (tuple_addW0 a b _ its2.toArray n n2 dd dd2 sl sl2 (by rfl)) ⟨ho, ho2, ⟨.ref b, H, I, rfl, q⟩⟩
noncomputable def m9 (x y : D) : Option D := match x, y with
 | .tuple xs, .tuple ys => if xs.length + ys.length ≤ 16777216 then some (.tuple (xs ++ ys)) else none
 | .str a, .str b => if a.length + b.length ≤ 16777216 then some (.str (a ++ b)) else none
 | .int i, .int j => some (.int (i + j))
 | _, _ => none
theorem bI3 : OpD X (binaryOp .Add) m9 := fun x y z h => by
 unfold m9 at h
 split at h
 ·split at h
  ·rename_i xs ys c
   cases h
   cases xs with
   | nil =>
    refine OpR.imp bH8 fun vx vy H Q ⟨Hf, s, r1, r2, k⟩ => ?_
    obtain ⟨a, vs, rfl, h2, h3⟩ := r1
    obtain ⟨b, us, rfl, h5, h6⟩ := r2
    cases h3
    exact ⟨a, b, us, rfl, rfl, K3 s h2, K3 s h5, k _ H Hf (Grow.refl s) ⟨b, us, rfl, h5, h6⟩⟩
   | cons d0 ds0 =>
    refine OpR.imp bX7 fun vx vy H Q ⟨Hf, s, r1, r2, k⟩ => ?_
    obtain ⟨a, vs, rfl, h2, h3⟩ := r1
    obtain ⟨b, us, rfl, h5, h6⟩ := r2
    have l1 := h3.length
    have l2 := h6.length
    refine ⟨a, b, vs, us, rfl, rfl, K3 s h2, K3 s h5, ?_, by rw [sizeLine_eq]; omega, fun e => ?_, fun e p hp => ?_⟩
    ·intro e; subst e; simp at l1
    ·subst e
     have : ys = [] := by cases ys <;> simp_all
     subst this
     exact k _ H Hf (Grow.refl s) ⟨a, vs, rfl, h2, by rw [List.append_nil]; exact h3⟩
    ·exact k _ _ _ (Grow.laid s hp) ⟨p, vs ++ us, rfl, SqT.of G8, (h3.append h6).mono (L1 (s.free hp))⟩
  ·cases h
 ·split at h
  ·rename_i c
   cases h
   exact OpR.imp bf5 fun vx vy H Q ⟨Hf, s, r1, r2, k⟩ => ⟨_, _, r1, r2, by rw [sizeLine_eq]; exact c, k _ H Hf (Grow.refl s) rfl⟩
  ·cases h
 ·cases h
  exact OpR.imp bH9 fun vx vy H Q ⟨Hf, s, r1, r2, k⟩ => ⟨_, _, r1, r2, k _ H Hf (Grow.refl s) rfl⟩
 ·cases h
noncomputable def ltI (x y : D) : Option D := match x, y with
 | .int i, .int j => some (.bool (decide (i < j)))
 | _, _ => none
noncomputable def leI (x y : D) : Option D := match x, y with
 | .int i, .int j => some (.bool (decide (i ≤ j)))
 | _, _ => none
noncomputable def gtI (x y : D) : Option D := match x, y with
 | .int i, .int j => some (.bool (decide (j < i)))
 | _, _ => none
noncomputable def geI (x y : D) : Option D := match x, y with
 | .int i, .int j => some (.bool (decide (j ≤ i)))
 | _, _ => none
theorem cF4 : OpD X (compareOp .Lt) ltI := fun x y z h => by
 unfold ltI at h
 split at h
 ·cases h
  exact OpR.imp cE8 fun vx vy H Q ⟨Hf, s, r1, r2, k⟩ => ⟨_, _, r1, r2, k _ H Hf (Grow.refl s) rfl⟩
 ·cases h
theorem cF5 : OpD X (compareOp .LtE) leI := fun x y z h => by
 unfold leI at h
 split at h
 ·cases h
  exact OpR.imp cE9 fun vx vy H Q ⟨Hf, s, r1, r2, k⟩ => ⟨_, _, r1, r2, k _ H Hf (Grow.refl s) rfl⟩
 ·cases h
theorem cF8 : OpD X (compareOp .Gt) gtI := fun x y z h => by
 unfold gtI at h
 split at h
 ·cases h
  exact OpR.imp cF0 fun vx vy H Q ⟨Hf, s, r1, r2, k⟩ => ⟨_, _, r1, r2, k _ H Hf (Grow.refl s) rfl⟩
 ·cases h
theorem cF9 : OpD X (compareOp .GtE) geI := fun x y z h => by
 unfold geI at h
 split at h
 ·cases h
  exact OpR.imp cF1 fun vx vy H Q ⟨Hf, s, r1, r2, k⟩ => ⟨_, _, r1, r2, k _ H Hf (Grow.refl s) rfl⟩
 ·cases h
mutual
theorem Rep.reads {pins : List (Addr × Obj)} {σ : L2.St} {H : Hp} {s : Shared} (I : Inv X pins σ H s) : ∀ {d : D} {v : V} {u : Value}, Rep X.K H d v → O4 v u → ∃ as, Reads s.heap u d as
 | .none, _, _, h, r => by cases h; cases r; exact ⟨_, .none⟩
 | .bool b, _, _, h, r => by cases h; cases r; exact ⟨_, .bool b⟩
 | .int i, _, _, h, r => by cases h; obtain ⟨t, rfl⟩ := r; exact ⟨_, .int i t⟩
 | .str x, _, _, h, r => by cases h; obtain ⟨t, rfl⟩ := r; exact ⟨_, .str x t⟩
 | .tuple ds, _, _, ⟨a, vs, h1, h2, h3⟩, r => by
  subst h1; cases r
  obtain ⟨its, rv, ⟨o, ho, hc, n, hd⟩, _⟩ := I.tuple h2
  obtain ⟨as, q⟩ := Reps.reads I h3 rv
  exact ⟨_, .tuple ho hc hd (by simpa using q)⟩
 | .list ds, _, _, ⟨a, vs, h1, h2, h3⟩, r => by
  subst h1; cases r
  obtain ⟨its, rv, pl, _⟩ := I.list h2
  obtain ⟨o, ho, hc, n, hd⟩ := pl.isList
  obtain ⟨as, q⟩ := Reps.reads I h3 rv
  exact ⟨_, .list ho hc hd (by simpa using q)⟩
 | .dict _, _, _, h, _ => h.elim
theorem Reps.reads {pins : List (Addr × Obj)} {σ : L2.St} {H : Hp} {s : Shared} (I : Inv X pins σ H s) : ∀ {ds : List D} {vs : List V} {us : List Value}, Reps X.K H ds vs → L7 vs us → ∃ as, ReadsAll s.heap us ds as
 | [], _, _, h, r => by cases h; cases r; exact ⟨_, .nil⟩
 | d :: ds, _, _, ⟨v, vr, h1, h2, h3⟩, r => by
  subst h1
  cases r with
  | cons r1 r2 =>
   obtain ⟨as, q1⟩ := Rep.reads I h2 r1
   obtain ⟨bs, q2⟩ := Reps.reads I h3 r2
   exact ⟨_, .cons q1 q2⟩
end
noncomputable def eqD (x y : D) : Option D := if SeqAt.shaped x = true ∧ SeqAt.shaped y = true then some (.bool (PyData.eqv x y)) else none
noncomputable def neD (x y : D) : Option D := if SeqAt.shaped x = true ∧ SeqAt.shaped y = true then some (.bool (!PyData.eqv x y)) else none
theorem cG0 (hu : X.A.units + 64 < cLine) : OpD X (compareOp .Eq) eqD := fun x y z h => by
 unfold eqD at h
 split at h
 ·rename_i c
  cases h
  intro pins s σ H vx vy v u Q I rx ry ⟨Hf, ss, r1, r2, k⟩
  obtain ⟨as, q1⟩ := Rep.reads I (r1.mono ss) rx
  obtain ⟨bs, q2⟩ := Rep.reads I (r2.mono ss) ry
  exact eq_dataH q1 q2 c.1 c.2 hu ⟨.bl _, H, I, rfl, k _ H Hf (Grow.refl ss) rfl⟩
 ·cases h
theorem cF3 (hu : X.A.units + 64 < cLine) : OpD X (compareOp .NotEq) neD := fun x y z h => by
 unfold neD at h
 split at h
 ·rename_i c
  cases h
  intro pins s σ H vx vy v u Q I rx ry ⟨Hf, ss, r1, r2, k⟩
  obtain ⟨as, q1⟩ := Rep.reads I (r1.mono ss) rx
  obtain ⟨bs, q2⟩ := Rep.reads I (r2.mono ss) ry
  exact ne_dataH q1 q2 c.1 c.2 hu ⟨.bl _, H, I, rfl, k _ H Hf (Grow.refl ss) rfl⟩
 ·cases h
noncomputable def isN (x y : D) : Option D := match x, y with
 | .none, .none => some (.bool true)
 | .dict _, _ => none
 | _, .none => some (.bool false)
 | _, _ => none
theorem bm9 {K : PySem.W.Frag} {H : Hp} {d : D} {v : V} (h : Rep K H d v) : (decide (v = .non)) = (match d with | .none => true | _ => false) := by
 cases d with
 | none => cases h; rfl
 | bool b => cases h; rfl
 | int b => cases h; rfl
 | str b => cases h; rfl
 | tuple ds => obtain ⟨a, vs, rfl, _⟩ := h; rfl
 | list ds => obtain ⟨a, vs, rfl, _⟩ := h; rfl
 | dict ds => exact h.elim
theorem cs2 : OpD X (compareOp .Is) isN := fun x y z h => by
 refine OpR.imp cr6 fun vx vy H Q ⟨Hf, s, r1, r2, k⟩ => ?_
 have e := bm9 r1
 cases y <;> cases x <;> simp only [isN, Option.some.injEq, reduceCtorEq] at h <;>
  (subst h; simp only at e; rw [e]; exact ⟨r2, k _ H Hf (Grow.refl s) rfl⟩)
noncomputable def cs5 (x y : D) : Option D := match x, y with
 | .none, .none => some (.bool false)
 | .dict _, _ => none
 | _, .none => some (.bool true)
 | _, _ => none
theorem bY0 : OpD X (compareOp .IsNot) cs5 := fun x y z h => by
 refine OpR.imp bX5 fun vx vy H Q ⟨Hf, s, r1, r2, k⟩ => ?_
 have e := bm9 r1
 cases y <;> cases x <;> simp only [cs5, Option.some.injEq, reduceCtorEq] at h <;>
  (subst h; simp only at e; rw [e]; exact ⟨r2, k _ H Hf (Grow.refl s) rfl⟩)
noncomputable def M5 (h1 h2 : D → D → Option D) (f g k : DE) : DE := fun ρ => (f ρ).bind fun x => (g ρ).bind fun y => (h1 x y).bind fun z => match z with
 | .bool true => (k ρ).bind fun w => h2 y w
 | .bool false => some (.bool false)
 | _ => none
theorem bN1 {op op' : CmpOp} {h1 h2 : D → D → Option D} {a b c : Expr} {f g k : DE} {pos : Pos} (o1 : OpD X (compareOp op) h1) (o2 : OpD X (compareOp op') h2) (ha : JE X a f) (hb : JE X b g) (hc : JE X c k)
  (hm : lastMarks [op, op'] [b, c] = false := by with_unfolding_all rfl) : JE X (.Compare a [op, op'] [b, c] pos) (M5 h1 h2 f g k) := fun ρ d q => by
 obtain ⟨x, e1, q⟩ := xbm q
 obtain ⟨y, e2, q⟩ := xbm q
 obtain ⟨z, e3, q⟩ := xbm q
 split at q
 ·obtain ⟨w, e4, e5⟩ := xbm q
  refine G1 (aW5 (o1 x y _ e3) (o2 y w d e5) (ha ρ x e1) (hb ρ y e2) (hc ρ w e4) hm) fun σ H Q ⟨H0, Hf, s, sl, kk⟩ => ?_
  refine ⟨H0, Hf, s, sl, fun v H1 Hf1 g1 r1 => ⟨H0, Hf1, g1.sub, sl.grow g1, fun u H2 Hf2 g2 r2 => ⟨Hf2, g2.sub, r1.mono g2.ext, r2, fun z' H3 Hf3 g3 r3 => ?_⟩⟩⟩
  refine ⟨true, r3, aJ2 ⟨H0, Hf3, g3.sub, sl.grow ((g1.trans g2).trans g3), fun w' H4 Hf4 g4 r4 => ⟨Hf4, g4.sub, r2.mono (g3.trans g4).ext, r4, fun z2 H5 Hf5 g5 r5 => ?_⟩⟩⟩
  exact kk z2 H5 Hf5 ((((g1.trans g2).trans g3).trans g4).trans g5) r5
 ·cases q
  intro pins s σ H Q I ⟨H0, Hf, ss, sl, kk⟩
  refine aW5 (tc := fun _ _ _ => False) (r' := fun _ _ _ _ => False) (o1 x y _ e3) (fun _ _ _ _ _ _ _ _ _ _ _ _ h => h.elim) (ha ρ x e1) (hb ρ y e2) (fun _ _ _ _ _ _ h => h.elim) hm pins s σ H Q I ?_
  refine ⟨H0, Hf, ss, sl, fun v H1 Hf1 g1 r1 => ⟨H0, Hf1, g1.sub, sl.grow g1, fun u H2 Hf2 g2 r2 => ⟨Hf2, g2.sub, r1.mono g2.ext, r2, fun z' H3 Hf3 g3 r3 => ?_⟩⟩⟩
  exact ⟨false, r3, aJ3 (kk _ H3 Hf3 ((g1.trans g2).trans g3) rfl)⟩
 ·cases q
theorem cx2 {op : BoolOp} {a : Expr} {f : DE} {pos : Pos} (h : JE X a f) : JE X (.BoolOp op [a] pos) f := fun ρ d q => cq7 (h ρ d q)
noncomputable def aa2 (f g : DE) : DE := fun ρ => (f ρ).bind fun x => match x with
 | .bool true => g ρ
 | .bool false => some (.bool false)
 | _ => none
noncomputable def dOr (f g : DE) : DE := fun ρ => (f ρ).bind fun x => match x with
 | .bool true => some (.bool true)
 | .bool false => g ρ
 | _ => none
noncomputable def ae5 (f : DE) : DE := fun ρ => (f ρ).bind fun x => match x with
 | .bool c => some (.bool (!c))
 | _ => none
theorem cy0 {a b : Expr} {W0 : List Expr} {f g : DE} {pos : Pos} (ha : JE X a f) (hb : JE X (.BoolOp .And (b :: W0) pos) g) : JE X (.BoolOp .And (a :: b :: W0) pos) (aa2 f g) := fun ρ d q => by
 obtain ⟨x, e1, q⟩ := xbm q
 split at q
 ·refine G1 (bH6 (ha ρ _ e1) (hb ρ d q)) fun σ H Q ⟨H0, Hf, s, sl, k⟩ => ⟨H0, Hf, s, sl, fun v H1 Hf1 g1 r1 => ⟨true, r1, aJ2 ⟨H0, Hf1, g1.sub, sl.grow g1, fun u H2 Hf2 g2 r2 => k u H2 Hf2 (g1.trans g2) r2⟩⟩⟩
 ·cases q
  refine G1 (bH6 (tb := fun _ _ _ => False) (ha ρ _ e1) (fun _ _ _ _ _ _ h => h.elim)) fun σ H Q ⟨H0, Hf, s, sl, k⟩ => ⟨H0, Hf, s, sl, fun v H1 Hf1 g1 r1 => ⟨false, r1, aJ3 (k _ H1 Hf1 g1 rfl)⟩⟩
 ·cases q
theorem cH1 {a b : Expr} {W0 : List Expr} {f g : DE} {pos : Pos} (ha : JE X a f) (hb : JE X (.BoolOp .Or (b :: W0) pos) g) : JE X (.BoolOp .Or (a :: b :: W0) pos) (dOr f g) := fun ρ d q => by
 obtain ⟨x, e1, q⟩ := xbm q
 split at q
 ·cases q
  refine G1 (cf9 (tb := fun _ _ _ => False) (ha ρ _ e1) (fun _ _ _ _ _ _ h => h.elim)) fun σ H Q ⟨H0, Hf, s, sl, k⟩ => ⟨H0, Hf, s, sl, fun v H1 Hf1 g1 r1 => ⟨true, r1, aJ2 (k _ H1 Hf1 g1 rfl)⟩⟩
 ·refine G1 (cf9 (ha ρ _ e1) (hb ρ d q)) fun σ H Q ⟨H0, Hf, s, sl, k⟩ => ⟨H0, Hf, s, sl, fun v H1 Hf1 g1 r1 => ⟨false, r1, aJ3 ⟨H0, Hf1, g1.sub, sl.grow g1, fun u H2 Hf2 g2 r2 => k u H2 Hf2 (g1.trans g2) r2⟩⟩⟩
 ·cases q
theorem cx3 {a : Expr} {f : DE} {pos : Pos} (ha : JE X a f) : JE X (.UnaryOp .Not a pos) (ae5 f) := fun ρ d q => by
 obtain ⟨x, e1, q⟩ := xbm q
 split at q
 ·cases q
  exact G1 (cq8 (ha ρ _ e1)) fun σ H Q ⟨H0, Hf, s, sl, k⟩ => ⟨H0, Hf, s, sl, fun v H1 Hf1 g1 r1 => ⟨_, r1, k _ H1 Hf1 g1 rfl⟩⟩
 ·cases q
noncomputable def x6 : D → Option Bool
 | .none => some false
 | .bool b => some b
 | .int i => some (i != 0)
 | .str x => if x.length ≤ 16777216 then some ((x.length : Int) != 0) else none
 | .list ds => some (!ds.isEmpty)
 | .tuple ds => some (!ds.isEmpty)
 | .dict _ => none
noncomputable def S0 (f : DE) : Rho → Option Bool := fun ρ => (f ρ).bind x6
theorem cu7 {a : Expr} {f : DE} (ha : JE X a f) (he : ∀ whole, isTrue a X.env whole = (do let v ← whole; standAt a.pos; holding [v] (truthy v)) := by intro _; rfl) : JT X a (S0 f) := fun ρ c q => by
 obtain ⟨d, e1, e2⟩ := xbm q
 refine aQ3 (bG6 (ha ρ d e1) he) fun σ H Q ⟨H0, Hf, s, sl, k⟩ => ⟨H0, Hf, s, sl, fun v H1 Hf1 g1 r1 => ⟨c, ?_, k H1 Hf1 g1⟩⟩
 cases d with
 | none => cases e2; cases r1; rfl
 | bool b => cases e2; cases r1; rfl
 | int i => cases e2; cases r1; rfl
 | str x =>
  simp only [x6] at e2
  split at e2
  ·rename_i hx; cases e2; cases r1; exact ⟨by rw [sizeLine_eq]; exact hx, rfl⟩
  ·cases e2
 | list ds =>
  cases e2
  obtain ⟨a, vs, rfl, h2, h3⟩ := r1
  refine .inl ⟨vs, M3 g1.sub h2, ?_⟩
  have := h3.length
  cases ds <;> cases vs <;> simp_all
 | tuple ds =>
  cases e2
  obtain ⟨a, vs, rfl, h2, h3⟩ := r1
  refine .inr (.inl ⟨vs, K3 g1.sub h2, ?_⟩)
  have := h3.length
  cases ds <;> cases vs <;> simp_all
 | dict _ => cases e2
noncomputable def N9 : D → Option Bool
 | .bool b => some b
 | _ => none
noncomputable def tB2 (h : D → D → Option D) (f g : DE) : Rho → Option Bool := fun ρ => (A4 h f g ρ).bind N9
theorem br0 {d : D} {c : Bool} (h : N9 d = some c) : d = .bool c := by
 cases d <;> simp [N9] at h
 subst h; rfl
theorem cu9 {op : CmpOp} {h : D → D → Option D} {a b : Expr} {f g : DE} {pos : Pos} (o : OpD X (compareOp op) h) (ha : JE X a f) (hb : JE X b g) (hm : behindInMarks op b = false := by first | exact bJ5 _ | rfl) : JT X (.Compare a [op] [b] pos) (tB2 h f g) := fun ρ c q => by
 obtain ⟨d, q, e⟩ := xbm q
 obtain ⟨x, h1, q⟩ := xbm q
 obtain ⟨y, h2, h3⟩ := xbm q
 have := br0 e
 subst this
 refine aQ3 (bW0 (o x y _ h3) (ha ρ x h1) (hb ρ y h2) hm) fun σ H Q ⟨H0, Hf, s, sl, k⟩ => ?_
 refine ⟨H0, Hf, s, sl, fun v H1 Hf1 g1 r1 => ⟨H0, Hf1, g1.sub, sl.grow g1, fun u H2 Hf2 g2 r2 => ?_⟩⟩
 exact ⟨Hf2, g2.sub, r1.mono g2.ext, r2, fun w H3 Hf3 g3 r3 => ⟨c, r3, k H3 Hf3 ((g1.trans g2).trans g3)⟩⟩
noncomputable def V4 (f g : Rho → Option Bool) : Rho → Option Bool := fun ρ => (f ρ).bind fun c => if c then g ρ else some false
noncomputable def f6 (f g : Rho → Option Bool) : Rho → Option Bool := fun ρ => (f ρ).bind fun c => if c then some true else g ρ
noncomputable def O5 (f : Rho → Option Bool) : Rho → Option Bool := fun ρ => (f ρ).map fun c => !c
theorem aQ2 {e : Expr} {t t' : TT} (h : PW X e t) (i : ∀ σ H Q, t' σ H Q → t σ H Q) : PW X e t' := fun whole pins s σ H Q I q => h whole pins s σ H Q I (i σ H Q q)
theorem bL2 {e : Expr} {f : Rho → Option Bool} (h : JW X e f) : JT X e f := fun ρ c q => (h ρ c q).pt
theorem bZ8 {a : Expr} {f : Rho → Option Bool} {pos : Pos} (h : JT X a f) : JW X (.BoolOp .And [a] pos) f := fun ρ c q => bV7 (h ρ c q)
theorem cu3 {a : Expr} {f : Rho → Option Bool} {pos : Pos} (h : JT X a f) : JW X (.BoolOp .Or [a] pos) f := fun ρ c q => cp4 (h ρ c q)
theorem cu4 {a b : Expr} {W0 : List Expr} {f g : Rho → Option Bool} {pos : Pos} (ha : JT X a f) (hb : JW X (.BoolOp .And (b :: W0) pos) g) : JW X (.BoolOp .And (a :: b :: W0) pos) (V4 f g) := fun ρ c q => by
 obtain ⟨x, e1, q⟩ := xbm q
 cases x with
 | true => exact aQ2 (bG5 (ha ρ _ e1) (hb ρ c (by simpa using q))) fun σ H Q ⟨H0, Hf, s, sl, k⟩ => ⟨H0, Hf, s, sl, fun H1 Hf1 g1 => aJ2 ⟨H0, Hf1, g1.sub, sl.grow g1, fun H2 Hf2 g2 => k H2 Hf2 (g1.trans g2)⟩⟩
 | false =>
  have : c = false := by simpa using q.symm
  subst this
  exact aQ2 (bG5 (tB' := fun _ _ _ => False) (ha ρ _ e1) (fun _ _ _ _ _ _ _ h => h.elim)) fun σ H Q ⟨H0, Hf, s, sl, k⟩ => ⟨H0, Hf, s, sl, fun H1 Hf1 g1 => aJ3 (k H1 Hf1 g1)⟩
theorem cG7 {a b : Expr} {W0 : List Expr} {f g : Rho → Option Bool} {pos : Pos} (ha : JT X a f) (hb : JW X (.BoolOp .Or (b :: W0) pos) g) : JW X (.BoolOp .Or (a :: b :: W0) pos) (f6 f g) := fun ρ c q => by
 obtain ⟨x, e1, q⟩ := xbm q
 cases x with
 | false => exact aQ2 (cf6 (ha ρ _ e1) (hb ρ c (by simpa using q))) fun σ H Q ⟨H0, Hf, s, sl, k⟩ => ⟨H0, Hf, s, sl, fun H1 Hf1 g1 => aJ3 ⟨H0, Hf1, g1.sub, sl.grow g1, fun H2 Hf2 g2 => k H2 Hf2 (g1.trans g2)⟩⟩
 | true =>
  have : c = true := by simpa using q.symm
  subst this
  exact aQ2 (cf6 (tB' := fun _ _ _ => False) (ha ρ _ e1) (fun _ _ _ _ _ _ _ h => h.elim)) fun σ H Q ⟨H0, Hf, s, sl, k⟩ => ⟨H0, Hf, s, sl, fun H1 Hf1 g1 => aJ2 (k H1 Hf1 g1)⟩
theorem cu8 {a : Expr} {f : Rho → Option Bool} {pos : Pos} (ha : JT X a f) : JT X (.UnaryOp .Not a pos) (O5 f) := fun ρ c q => by
 obtain ⟨x, e1, e2⟩ := Option.map_eq_some_iff.mp q
 subst e2
 exact aQ3 (cp5 (ha ρ x e1)) fun σ H Q ⟨H0, Hf, s, sl, k⟩ => ⟨H0, Hf, s, sl, fun H1 Hf1 g1 => k H1 Hf1 g1⟩
noncomputable def as6 (t : Rho → Option Bool) (f g : DE) : DE := fun ρ => (t ρ).bind fun c => if c then f ρ else g ρ
theorem cx7 {c a b : Expr} {t : Rho → Option Bool} {f g : DE} {pos : Pos} (hc : JT X c t) (ha : JE X a f) (hb : JE X b g) : JE X (.IfExp c a b pos) (as6 t f g) := fun ρ d q => by
 obtain ⟨x, e1, q⟩ := xbm q
 cases x with
 | true => exact G1 (aW4 (tb := fun _ _ _ => False) (hc ρ _ e1) (ha ρ d (by simpa using q)) (fun _ _ _ _ _ _ h => h.elim)) fun σ H Q ⟨H0, Hf, s, sl, k⟩ => ⟨H0, Hf, s, sl, fun H1 Hf1 g1 => aJ2 ⟨H0, Hf1, g1.sub, sl.grow g1, fun u H2 Hf2 g2 r2 => k u H2 Hf2 (g1.trans g2) r2⟩⟩
 | false => exact G1 (aW4 (ta := fun _ _ _ => False) (hc ρ _ e1) (fun _ _ _ _ _ _ h => h.elim) (hb ρ d (by simpa using q))) fun σ H Q ⟨H0, Hf, s, sl, k⟩ => ⟨H0, Hf, s, sl, fun H1 Hf1 g1 => aJ3 ⟨H0, Hf1, g1.sub, sl.grow g1, fun u H2 Hf2 g2 r2 => k u H2 Hf2 (g1.trans g2) r2⟩⟩
noncomputable def dIx (f : Rho → Option (Bool × List D)) (g : DE) : DE := fun ρ => (f ρ).bind fun q => (g ρ).bind fun i => match i with
 | .int i => atI q.2 i
 | _ => none
theorem bV5 {K : PySem.W.Frag} {H : Hp} {ds : List D} {vs : List V} {i : Int} {d : D} (h : Reps K H ds vs) (e : atI ds i = some d) : ∃ v, atI vs i = some v ∧ Rep K H d v := by
 unfold atI at e ⊢
 rw [h.length]
 obtain ⟨j, h1, h2⟩ := xbm e
 obtain ⟨v, h3, h4⟩ := h.get h2
 exact ⟨v, by rw [h1]; exact h3, h4⟩
theorem cH2 {a b : Expr} {f : Rho → Option (Bool × List D)} {g : DE} {pos : Pos} (ha : JQ X a f) (hb : JE X b g) (hs : aC2 b := by intro _ _; rfl) : JE X (.Subscript a b pos) (dIx f g) := fun ρ d q => by
 obtain ⟨⟨t, ds⟩, h1, q⟩ := xbm q
 obtain ⟨y, h2, h3⟩ := xbm q
 split at h3
 ·refine G1 (cg1 bN3 (ha ρ t ds h1) (hb ρ _ h2) hs) fun σ H Q ⟨H0, Hf, s, sl, k⟩ => ?_
  refine ⟨H0, Hf, s, sl, fun v H1 Hf1 g1 ⟨p, vs, e1, e2, e3⟩ => ⟨H0, Hf1, g1.sub, sl.grow g1, fun u H2 Hf2 g2 r2 => ?_⟩⟩
  obtain ⟨w, q1, q2⟩ := bV5 (e3.mono g2.ext) h3
  cases t with
  | true => exact .inr (.inl ⟨p, vs, _, w, e1, r2, K3 g2.big e2, q1, k w H2 Hf2 (g1.trans g2) q2⟩)
  | false => exact .inl ⟨p, vs, _, w, e1, r2, M3 g2.big e2, q1, k w H2 Hf2 (g1.trans g2) q2⟩
 ·cases h3
noncomputable def al0 (xs : List D) (lo hi : Option Int) : List D := (xs.drop (HT.sIx xs.length 0 lo)).take (HT.sIx xs.length xs.length hi - HT.sIx xs.length 0 lo)
theorem aE4 {K : PySem.W.Frag} {H : Hp} {ds : List D} {vs : List V} (h : Reps K H ds vs) (lo hi : Option Int) : Reps K H (al0 ds lo hi) (ba4 vs lo hi) := by
 unfold al0 ba4
 rw [h.length]
 exact (h.drop _).take _
noncomputable def JO (X : Cx) (e : Option Expr) (f : Rho → Option (Option Int)) : Prop := ∀ ρ o, f ρ = some o → PO X e (fun σ H Q => ∃ H0 Hf, M6 Hf H ∧ Slots X.K H0 ρ σ H Hf ∧ ∀ H' Hf', Grow H Hf H' Hf' → Q o H')
noncomputable def O1 : Rho → Option (Option Int) := fun _ => some none
noncomputable def W8 : D → Option Int
 | .int i => some i
 | _ => none
noncomputable def L3 (f : DE) : Rho → Option (Option Int) := fun ρ => (f ρ).bind fun d => (W8 d).map some
theorem ca9 : JO X none O1 := fun ρ o q => by
 cases q
 intro pins s σ H Q I ⟨H0, Hf, ss, sl, k⟩
 exact bW5 pins s σ H Q I (k H Hf (Grow.refl ss))
theorem ca8 {e : Expr} {f : DE} (h : JE X e f) : JO X (some e) (L3 f) := fun ρ o q => by
 obtain ⟨d, e1, e2⟩ := xbm q
 obtain ⟨i, e3, e4⟩ := Option.map_eq_some_iff.mp e2
 subst e4
 cases d <;> simp [W8] at e3
 subst e3
 intro pins s σ H Q I ⟨H0, Hf, ss, sl, k⟩
 exact bW4 (h ρ _ e1) pins s σ H Q I ⟨H0, Hf, ss, sl, fun v H1 Hf1 g1 r1 => ⟨_, r1, k H1 Hf1 g1⟩⟩
noncomputable def aa1 (f : DE) (lo hi : Rho → Option (Option Int)) : DE := fun ρ => (f ρ).bind fun d => (lo ρ).bind fun l => (hi ρ).bind fun h => match d with
 | .tuple xs => some (.tuple (al0 xs l h))
 | _ => none
theorem ak9 {prog : Program} {w : World} {A : Around} {E : Value → Shared → Prop} {s : Shared} {t sl : Addr} {items : Array Value} {vl vu : Value} {lo hi : Option Int} {Q : Value → Shared → Prop} (ht : IsTup s.heap t items) (hs : s.heap.IsSliceOf sl vl vu .none) (pl : IsPart vl lo) (pu : IsPart vu hi)
  (hw : HT.sIx items.size 0 lo = 0 ∧ HT.sIx items.size items.size hi = items.size) (h : Q (.ref t) s) : wpAny (model prog w) A (getItem (.ref t) (.ref sl)) Q E s := by
 obtain ⟨os, hos, hcs, hds⟩ := id hs
 have hTs : s.TypeIs (.ref sl) "slice" := ⟨os, hos, hcs⟩
 unfold getItem
 try with_reducible refine wpAny_holding ?_
 first | refine wpAny_bind (wpAny_pure ?_) | skip
 refine wpAny_bind (wpAny_sequenceKey ht.typeIs (by decide) ?_)
 refine wpAny_bind (wpAny_callSpecial?_slot (name := Str.ofString "__getitem__") ht.typeIs PyProof.Rows.slot_tuple_getitem
  (wpAny_call_entry PyProof.Rows.slot_tuple_getitem ht.typeIs entry_tuple_getitem ?_ (args_tuple_getitem _ _)))
 show wpAny _ _ (Builtin.Tuple.tupleItemsOf (.ref t) >>= _) _ _ s
 refine wpAny_bind (tupleItemsOf_ ht ?_)
 refine wpAny_bind (wpAny_typeOf hTs ?_)
 rw [if_pos (by decide)]
 refine wpAny_bind (HT.sliceApplied_gen hs pl pu ?_)
 have hyes : ((((HT.sIx items.size 0 lo : Nat) : Int) == 0 && (1 : Int) == 1 && (HT.sIx items.size items.size hi - HT.sIx items.size 0 lo) == items.size) = true) := by
  rw [hw.1, hw.2]; simp
 show wpAny _ _ (if (((HT.sIx items.size 0 lo : Nat) : Int) == 0 && (1 : Int) == 1 && (HT.sIx items.size items.size hi - HT.sIx items.size 0 lo) == items.size) = true then _ else _) _ _ s
 rw [if_pos hyes]
 unfold Builtin.Tuple.tupleIsExact
 refine wpAny_bind (wpAny_bind (wpAny_typeOf ht.typeIs (wpAny_pure ?_)))
 rw [if_pos (by decide +kernel)]
 exact wpAny_bind (wpAny_rule (wpAny_pure ⟨_, rfl, wpAny_pure h⟩))
theorem aP0 : SlR X (fun x lo hi H Q => ∃ a xs, x = .ref a ∧ SqT X.K H a xs ∧ (HT.sIx xs.length 0 lo = 0 ∧ HT.sIx xs.length xs.length hi = xs.length) ∧ Q (.ref a) H) := by
 intro pins s σ H x v vl vu lo hi sl Q I rx hs pl pu h
 obtain ⟨a, xs, rfl, hx, hw, q⟩ := h
 cases rx
 obtain ⟨its, r, ht, hz⟩ := I.tuple hx
 have hlen : its.toArray.size = xs.length := by rw [List.size_toArray]; exact r.length.symm
 refine ⟨"tuple", _, PyProof.Rows.slot_tuple_getitem.lookup, ht.typeIs, ?_⟩
 exact ak9 ht hs pl pu (by rw [hlen]; exact hw) ⟨.ref a, H, I, rfl, q⟩
theorem bM6 {a : Expr} {lo hi : Option Expr} {f : DE} {l h : Rho → Option (Option Int)} {pos p2 : Pos} (ha : JE X a f) (hl : JO X lo l) (hh : JO X hi h) : JE X (.Subscript a (.Slice lo hi none p2) pos) (aa1 f l h) := fun ρ d q => by
 obtain ⟨x, e1, q⟩ := xbm q
 obtain ⟨y, e2, q⟩ := xbm q
 obtain ⟨z, e3, q⟩ := xbm q
 cases x with
 | tuple xs =>
  cases q
  refine G1 (aq5 (cp1.or aP0) (ha ρ _ e1) (hl ρ y e2) (hh ρ z e3)) fun σ H Q ⟨H0, Hf, s, sl, k⟩ => ?_
  refine ⟨H0, Hf, s, sl, fun v H1 Hf1 g1 ⟨p, vs, q1, q2, q3⟩ => ⟨H0, Hf1, g1.sub, sl.grow g1, fun H2 Hf2 g2 => ⟨H0, Hf2, g2.sub, sl.grow (g1.trans g2), fun H3 Hf3 g3 => ?_⟩⟩⟩
  subst q1
  have q2' := K3 (g2.trans g3).ext q2
  have q3' := q3.mono (g2.trans g3).ext
  by_cases c : HT.sIx vs.length 0 y = 0 ∧ HT.sIx vs.length vs.length z = vs.length
  ·refine .inr ⟨p, vs, rfl, K3 g3.sub q2', c, k _ H3 Hf3 ((g1.trans g2).trans g3) ⟨p, vs, rfl, q2', ?_⟩⟩
   have : al0 xs y z = xs := by
    unfold al0
    rw [← q3.length, c.1, c.2]
    simp [q3.length]
   rw [this]; exact q3'
  ·refine .inl ⟨p, vs, rfl, K3 g3.sub q2', c, fun p' hp => ?_⟩
   exact k _ _ _ (((g1.trans g2).trans g3).trans (Grow.laid g3.sub hp)) ⟨p', _, rfl, SqT.of G8, (aE4 q3' y z).mono (L1 (g3.sub.free hp))⟩
 | _ => cases q
end
end G
namespace G
open PySem PySem.Spec PyProof.Rows L2
section
variable {X : Cx}
theorem bj9 : bootBuiltins "len" = some (.builtin "len") := PySem.boot_len
theorem cA8 : bootBuiltins "all" = some (.builtin "all") := by decide +kernel
theorem cA7 : bootBuiltins "isinstance" = some (.builtin "isinstance") := by decide +kernel
theorem bk0 : bootBuiltins "int" = some (.type "int") := by decide +kernel
theorem ce1 : bootBuiltins "bool" = some (.type "bool") := by decide +kernel
theorem bS0 : bootBuiltins "str" = some (.type "str") := by decide +kernel
theorem br2 : bootBuiltins "list" = some (.type "list") := by decide +kernel
theorem ba9 : bootBuiltins "tuple" = some (.type "tuple") := by decide +kernel
theorem cA4 : bootBuiltins "zip" = some (.type "zip") := by decide +kernel
noncomputable def i5 (f : Rho → Option (Bool × List D)) : DE := fun ρ => (f ρ).map fun q => .int q.2.length
theorem bM8 {e : Expr} {f : Rho → Option (Bool × List D)} {p pos : Pos} (hg : Gl X "len") (hm : X.mg "len" = none) (h : JQ X e f) (he : starEach [e] X.env = [(false, eval e X.env)] := by rfl) : JE X (.Call (.Name "len" p) [e] [] pos) (i5 f) := fun ρ d q => by
 obtain ⟨⟨t, ds⟩, h1, h2⟩ := Option.map_eq_some_iff.mp q
 subst h2
 refine G1 (U0 aT9 hg hm bj9 (K4 (h ρ t ds h1) N8 he) (he := he)) fun σ H Q ⟨H0, Hf, s, sl, k⟩ => ?_
 refine ⟨H0, Hf, s, sl, fun v H1 Hf1 g1 ⟨a, vs, e1, e2, e3⟩ => ⟨a, vs, by rw [e1], ?_, ?_⟩⟩
 ·cases t with
  | true => exact .inr e2
  | false => exact .inl e2
 ·exact k _ H1 Hf1 g1 (by rw [e3.length]; rfl)
theorem bM4 {e : Expr} {f : Rho → Option (Bool × List D)} {p pos : Pos} (hg : Gl X "tuple") (hm : X.mg "tuple" = none) (h : JQ X e f) (hz : ∀ ρ ds, f ρ ≠ some (true, ds) ∨ True := by intros; exact .inr trivial) (he : starEach [e] X.env = [(false, eval e X.env)] := by rfl) :
  JE X (.Call (.Name "tuple" p) [e] [] pos) (fun ρ => (f ρ).bind fun q => if q.1 = true then none else some (.tuple q.2)) := fun ρ d q => by
 obtain ⟨⟨t, ds⟩, h1, h2⟩ := xbm q
 cases t with
 | true => simp at h2
 | false =>
  simp only [Bool.false_eq_true, if_false, Option.some.injEq] at h2
  subst h2
  refine G1 (j4 aK3 hg hm ba9 (K4 (h ρ false ds h1) N8 he) (he := he)) fun σ H Q ⟨H0, Hf, s, sl, k⟩ => ?_
  refine ⟨H0, Hf, s, sl, fun v H1 Hf1 g1 ⟨a, vs, e1, e2, e3⟩ => ⟨a, vs, by rw [e1], .inl ⟨e2, fun l hl => ?_⟩⟩⟩
  exact k _ _ _ (g1.trans (Grow.laid g1.sub hl)) ⟨l, vs, rfl, SqT.of G8, e3.mono (L1 (g1.sub.free hl))⟩
theorem cb0 {e : Expr} {f : Rho → Option (Bool × List D)} {p pos : Pos} (hg : Gl X "list") (hm : X.mg "list" = none) (h : JQ X e f) (he : starEach [e] X.env = [(false, eval e X.env)] := by rfl) : JN X (.Call (.Name "list" p) [e] [] pos) (fun ρ => (f ρ).map fun q => q.2) := fun ρ ds' q => by
 obtain ⟨⟨t, ds⟩, h1, h2⟩ := Option.map_eq_some_iff.mp q
 subst h2
 refine G1 (j4 aT7 hg hm br2 (K4 (h ρ t ds h1) N8 he) (he := he)) fun σ H Q ⟨H0, Hf, s, sl, k⟩ => ?_
 refine ⟨H0, Hf, s, sl, fun v H1 Hf1 g1 ⟨a, vs, e1, e2, e3⟩ => ⟨a, vs, by rw [e1], ?_, fun l hl => ?_⟩⟩
 ·cases t with
  | true => exact .inr e2
  | false => exact .inl e2
 ·exact k _ _ _ (g1.trans (Grow.made g1.sub hl)) ⟨l, vs, rfl, g1.big.free hl, G8, g1.sub.free hl, e3⟩
noncomputable def X8 (f : DE) : DE := fun ρ => (f ρ).bind fun d => match d with
 | .int i => some (.int i)
 | .bool b => some (.int (if b then 1 else 0))
 | _ => none
theorem bM9 {e : Expr} {f : DE} {p pos : Pos} (hg : Gl X "int") (hm : X.mg "int" = none) (h : JE X e f) (he : starEach [e] X.env = [(false, eval e X.env)] := by rfl) : JE X (.Call (.Name "int" p) [e] [] pos) (X8 f) := fun ρ d q => by
 obtain ⟨x, h1, h2⟩ := xbm q
 split at h2
 ·cases h2
  exact G1 (j4 aN0 hg hm bk0 (K4 (h ρ _ h1) N8 he) (he := he)) fun σ H Q ⟨H0, Hf, s, sl, k⟩ =>
   ⟨H0, Hf, s, sl, fun v H1 Hf1 g1 r => .inl ⟨_, by rw [show v = _ from r], k _ H1 Hf1 g1 rfl⟩⟩
 ·cases h2
  exact G1 (j4 aN0 hg hm bk0 (K4 (h ρ _ h1) N8 he) (he := he)) fun σ H Q ⟨H0, Hf, s, sl, k⟩ =>
   ⟨H0, Hf, s, sl, fun v H1 Hf1 g1 r => .inr ⟨_, by rw [show v = _ from r], k _ H1 Hf1 g1 rfl⟩⟩
 ·cases h2
noncomputable def cI4 (f : DE) : DE := fun ρ => (f ρ).bind fun d => match d with
 | .int i => if i.natAbs.log2 < 1920 then some (.str (toString i)) else none
 | _ => none
theorem bM5 {e : Expr} {f : DE} {p pos : Pos} (hg : Gl X "str") (hm : X.mg "str" = none) (h : JE X e f) (he : starEach [e] X.env = [(false, eval e X.env)] := by rfl) : JE X (.Call (.Name "str" p) [e] [] pos) (cI4 f) := fun ρ d q => by
 obtain ⟨x, h1, h2⟩ := xbm q
 split at h2
 ·split at h2
  ·rename_i c
   cases h2
   exact G1 (j4 aT6 hg hm bS0 (K4 (h ρ _ h1) N8 he) (he := he)) fun σ H Q ⟨H0, Hf, s, sl, k⟩ =>
    ⟨H0, Hf, s, sl, fun v H1 Hf1 g1 r => ⟨_, by rw [show v = _ from r], c, k _ H1 Hf1 g1 rfl⟩⟩
  ·cases h2
 ·cases h2
noncomputable def cB1 : List D → Option Bool
 | [] => some true
 | .bool b :: r => (cB1 r).map fun c => b && c
 | _ :: _ => none
theorem bb8 : ∀ {ds : List D} {c : Bool}, cB1 ds = some c → ∃ bs : List Bool, ds = bs.map PyData.bool ∧ c = bs.all id
 | [], c, h => by cases h; exact ⟨[], rfl, rfl⟩
 | .bool b :: r, c, h => by
  obtain ⟨c', h1, h2⟩ := Option.map_eq_some_iff.mp h
  obtain ⟨bs, h3, h4⟩ := bb8 h1
  exact ⟨b :: bs, by simp [h3], by simp [← h2, h4]⟩
theorem aE5 {K : PySem.W.Frag} {H : Hp} : ∀ {bs : List Bool} {vs : List V}, Reps K H (bs.map PyData.bool) vs → vs = bs.map V.bl
 | [], _, h => h
 | _ :: _, _, ⟨v, r, h1, h2, h3⟩ => by subst h1; rw [show v = _ from h2, aE5 h3]; rfl
theorem bB0 : Z7 X (.builtin "all") (fun xs H Q => X.calm = true ∧ ∃ (p : Addr) (bs : List Bool), xs = [.ref p] ∧ SqL X.K H p (bs.map V.bl) ∧ Q (.bl (bs.all id)) H) := by
 intro pins s σ H xs us Q I r h
 obtain ⟨hc, p, bs, rfl, hq, q⟩ := h
 obtain ⟨u, rfl, rx⟩ := x5 r
 cases rx
 obtain ⟨its, rv, pl, hz⟩ := I.list hq
 have hlen := rv.length
 have hh : X.A.in1.handled = none := I.ok.hd hc
 have hlt : p < s.heap.objs.size := by obtain ⟨_, e, _⟩ := pl.isList; exact Heap.lt_size e
 refine call_all_walk (wpAny_pyIter_list pl.isList ?_)
 refine ⟨s.heap.objs.size, _, _, _, _, _, fun i => (bs[i]?).getD false, rfl, Walks.list hh _ p (Nat.ne_of_lt hlt) its.toArray, ⟨⟨_, Heap.get?_push_size _ rfl, rfl, rfl⟩, pl.isList.at fun o e => Heap.get?_push_of_some _ e⟩, ?_, ?_⟩
 ·intro i v s' Q' E' hv hQ
  have hv' : its[i]? = some v := by simpa using hv
  have : ∃ b, bs[i]? = some b := by
   have : i < its.length := (List.getElem?_eq_some_iff.mp hv').1
   have : i < bs.length := by simpa using (by omega : i < (bs.map V.bl).length)
   exact ⟨bs[i], by simp [this]⟩
  obtain ⟨b, hb⟩ := this
  obtain ⟨u, hu, ru⟩ := rv.get (i := i) (x := .bl b) (by simp [hb])
  rw [hv'] at hu; cases hu
  cases ru
  exact wpAny_truthy_bool (by simpa [hb] using hQ)
 ·intro h' tk hk
  have e : ((List.range its.toArray.size).all fun i => (bs[i]?).getD false) = bs.all id := by
   have hn : its.toArray.size = bs.length := by simpa using hlen.symm
   rw [hn, Bool.eq_iff_iff]
   simp only [List.all_eq_true, List.mem_range, id]
   constructor
   ·intro h x hx
    obtain ⟨i, hi, rfl⟩ := List.mem_iff_getElem.mp hx
    simpa [hi] using h i hi
   ·intro h i hi
    simpa [hi] using h bs[i] (List.getElem_mem hi)
  rw [e]
  have I1 : Inv X pins σ H { s with heap := h', toks := tk } := by
   have I0 : Inv X pins σ H { s with heap := s.heap.push { cls := .type "list_iterator", data := .fields #[.ref p, rawInt 0] } } := I.kept (t' := s.toks) fun b o e => Heap.get?_push_of_some _ e
   refine I.kept (t' := tk) fun b o e => hk b o ?_ (Heap.get?_push_of_some _ e)
   intro hb
   have : b = s.heap.objs.size := by simpa using hb
   subst this
   exact absurd (Heap.lt_size e) (Nat.lt_irrefl _)
  exact ⟨.bl (bs.all id), H, I1, rfl, q⟩
noncomputable def ae7 (f : Rho → Option (Bool × List D)) : DE := fun ρ => (f ρ).bind fun q => if q.1 = true then none else (cB1 q.2).map PyData.bool
theorem cy1 {e : Expr} {f : Rho → Option (Bool × List D)} {p pos : Pos} (hg : Gl X "all") (hm : X.mg "all" = none) (h : JQ X e f) (hc : X.calm = true := by rfl) (he : starEach [e] X.env = [(false, eval e X.env)] := by rfl) : JE X (.Call (.Name "all" p) [e] [] pos) (ae7 f) := fun ρ d q => by
 obtain ⟨⟨t, ds⟩, h1, h2⟩ := xbm q
 cases t with
 | true => simp at h2
 | false =>
  simp only [Bool.false_eq_true, if_false] at h2
  obtain ⟨c, h3, h4⟩ := Option.map_eq_some_iff.mp h2
  subst h4
  obtain ⟨bs, h5, h6⟩ := bb8 h3
  subst h5 h6
  refine G1 (U0 bB0 hg hm cA8 (K4 (h ρ false _ h1) N8 he) (he := he)) fun σ H Q ⟨H0, Hf, s, sl, k⟩ => ?_
  refine ⟨H0, Hf, s, sl, fun v H1 Hf1 g1 ⟨a, vs, e1, e2, e3⟩ => ⟨hc, a, bs, by rw [e1], ?_, k _ H1 Hf1 g1 rfl⟩⟩
  rw [aE5 e3] at e2
  exact e2
noncomputable def z7 (T : String) (d : D) : Option Bool := match T, d with
 | "int", .int _ => some true
 | "int", .bool _ => some true
 | "int", .none => some false
 | "int", .str _ => some false
 | "int", .tuple _ => some false
 | "int", .list _ => some false
 | "bool", .int _ => some false
 | "bool", .bool _ => some true
 | "bool", .none => some false
 | "bool", .str _ => some false
 | "bool", .tuple _ => some false
 | "bool", .list _ => some false
 | "str", .int _ => some false
 | "str", .bool _ => some false
 | "str", .none => some false
 | "str", .str _ => some true
 | "str", .tuple _ => some false
 | "str", .list _ => some false
 | "tuple", .int _ => some false
 | "tuple", .bool _ => some false
 | "tuple", .none => some false
 | "tuple", .str _ => some false
 | "tuple", .tuple _ => some true
 | "tuple", .list _ => some false
 | "list", .int _ => some false
 | "list", .bool _ => some false
 | "list", .none => some false
 | "list", .str _ => some false
 | "list", .tuple _ => some false
 | "list", .list _ => some true
 | _, _ => none
noncomputable def tyD : D → String
 | .int _ => "int"
 | .bool _ => "bool"
 | .none => "NoneType"
 | .str _ => "str"
 | .tuple _ => "tuple"
 | .list _ => "list"
 | .dict _ => "dict"
theorem cc8 {K : PySem.W.Frag} {T : String} {d : D} {b : Bool} (h : z7 T d = some b) : PySem.W.kitOne K (.type (tyD d)) (.type T) = some b := by
 unfold z7 at h
 split at h <;> first
  | (cases h; rfl)
  | cases h
theorem bR3 {T : String} : Z7 X (.builtin "isinstance") (fun xs H Q => ∃ d x b, xs = [x, .ty T] ∧ Rep X.K H d x ∧ z7 T d = some b ∧ Q (.bl b) H) := by
 intro pins s σ H xs us Q I r h
 obtain ⟨d, x, b, rfl, hd, hb, q⟩ := h
 obtain ⟨u, c, rfl, rx, rc⟩ := bl9 r
 cases rc
 have e := cc8 (K := X.K) hb
 have fin : ∀ tk, EP X pins σ Q (.bool b) { s with toks := tk } := fun tk => ⟨.bl b, H, I.tok tk, rfl, q⟩
 cases d with
 | none => cases hd; cases rx; exact PySem.W.kia_one PySem.W.kitx_none I.kIn True.intro e (fun z => nomatch z) fin
 | bool y => cases hd; cases rx; exact PySem.W.kia_one PySem.W.kitx_bool I.kIn True.intro e (fun z => nomatch z) fin
 | int i => cases hd; obtain ⟨t, rfl⟩ := rx; exact PySem.W.kia_one PySem.W.kitx_int I.kIn True.intro e (fun z => nomatch z) fin
 | str i => cases hd; obtain ⟨t, rfl⟩ := rx; exact PySem.W.kia_one PySem.W.kitx_str I.kIn True.intro e (fun z => nomatch z) fin
 | tuple ds =>
  obtain ⟨a, vs, rfl, h2, h3⟩ := hd
  cases rx
  obtain ⟨its, rv, ⟨o, ho, hc, _⟩, _⟩ := I.tuple h2
  exact PySem.W.kia_one PySem.W.kitx_tuple I.kIn ⟨o, ho, hc⟩ e (fun z => nomatch z) fin
 | list ds =>
  obtain ⟨a, vs, rfl, h2, h3⟩ := hd
  cases rx
  obtain ⟨its, rv, pl, _⟩ := I.list h2
  obtain ⟨o, ho, hc, _⟩ := pl.isList
  exact PySem.W.kia_one PySem.W.kitx_list I.kIn ⟨o, ho, hc⟩ e (fun z => nomatch z) fin
 | dict ds => exact hd.elim
noncomputable def ae6 (T : String) (f : DE) : DE := fun ρ => (f ρ).bind fun d => (z7 T d).map PyData.bool
theorem cx6 {e : Expr} {f : DE} {x : Str} {T : String} {p p2 pos : Pos} (hg : Gl X "isinstance") (hm : X.mg "isinstance" = none) (hgT : Gl X x) (hmT : X.mg x = none) (hvT : bootBuiltins x = some (.type T)) (h : JE X e f)
  (hn : x ≠ "__name__" := by decide) (hd : (x == ("__debug__" : Str)) = false := by decide)
  (he : starEach [e, .Name x p2] X.env = (false, eval e X.env) :: starEach [.Name x p2] X.env := by rfl) (he2 : starEach [.Name x p2] X.env = [(false, eval (.Name x p2) X.env)] := by rfl) (hpl : (backTo pos (starEach [.Name x p2] X.env)).any (·.1) = false := by rfl) :
  JE X (.Call (.Name "isinstance" p) [e, .Name x p2] [] pos) (ae6 T f) := fun ρ d q => by
 obtain ⟨y, h1, h2⟩ := xbm q
 obtain ⟨b, h3, h4⟩ := Option.map_eq_some_iff.mp h2
 subst h4
 refine G1 (U0 (bR3 (T := T)) hg hm cA7 (K4 (h ρ y h1) (K4 (bX2 (v := .ty T) hgT hmT hvT rfl hn hd) N8 he2) he) (he := he) (hpl := hpl)) fun σ H Q ⟨H0, Hf, s, sl, k⟩ => ?_
 exact ⟨H0, Hf, s, sl, fun v H1 Hf1 g1 r => ⟨y, v, b, rfl, r.mono g1.sub, h3, k _ H1 Hf1 g1 rfl⟩⟩
noncomputable def spF (K : PySem.W.Frag) (n : Nat) (F : List D → Option D) : Sp := fun vs H Q _ => vs.length = n ∧ ∃ Hf ds d, M6 Hf H ∧ Reps K Hf ds vs ∧ F ds = some d ∧ ∀ v H' Hf', Grow H Hf H' Hf' → Rep K Hf' d v → Q v H'
noncomputable def A2 (F : List D → Option D) (f : Rho → Option (List D)) : DE := fun ρ => (f ρ).bind F
theorem cc4 {k : Nat} {f : Addr} {fd : FuncData} {ps : List Str} {n : Nat} {F : List D → Option D} {x : Str} {e : Expr} {es : List Expr} {g : Rho → Option (List D)} {p pos : Pos} (Fk : FnOk X.prog X.w X.K X.mg X.base CX0 k f fd ps (spF X.K n F)) (hr : Room k X.A) (hg : Gl X x) (hm : X.mg x = some (.ref f)) (hk : PySem.W.keepIn X.K (.ref f) = true) (hb : c7 X.K fd ps [])
  (ha : JA X (e :: es) g) (hn : (e :: es).length = n := by rfl) (hdb : (x == ("__debug__" : Str)) = false := by decide) (he : starEach (e :: es) X.env = (false, eval e X.env) :: starEach es X.env := by rfl) (hpl : (backTo pos (starEach es X.env)).any (·.1) = false := by rfl) :
  JE X (.Call (.Name x p) (e :: es) [] pos) (A2 F g) := fun ρ d q => by
 obtain ⟨ds, h1, h2⟩ := xbm q
 refine G1 (bX1 Fk hr hg hm hk hb .nil cg2 (fun pos pins s σ H Q I t => ha.run ρ ds h1 pos pins s σ H Q I t) hdb he hpl) fun σ H Q ⟨H0, Hf, s, sl, kk⟩ => ?_
 refine ⟨H0, Hf, s, sl, fun vs H1 Hf1 g1 r1 => ⟨?_, Hf1, ds, d, g1.sub, by rw [List.append_nil]; exact r1, h2, fun v H2 Hf2 g2 r2 => kk v H2 Hf2 (g1.trans g2) r2⟩⟩
 rw [List.append_nil, r1.length, ha.len ρ ds h1, hn]
inductive Fl where
 | nx (ρ : Rho)
 | rt (d : D)
 | bk (ρ : Rho)
 | ct (ρ : Rho)
noncomputable abbrev DS := Rho → Option Fl
structure At (K : PySem.W.Frag) (H0 Hf0 : Hp) (ρ : Rho) (σ : L2.St) (H Hf : Hp) : Prop where
 gr : Grow H0 Hf0 H Hf
 sl : Slots K H0 ρ σ H Hf
noncomputable def Fl.ends (K : PySem.W.Frag) (H0 Hf0 Hf : Hp) (En : Ends) : Fl → Prop
 | .nx ρ => ∀ σ' H' Hf', At K H0 Hf0 ρ σ' H' Hf' → M6 Hf Hf' → En.nx σ' H'
 | .bk ρ => ∀ σ' H' Hf', At K H0 Hf0 ρ σ' H' Hf' → M6 Hf Hf' → En.bk σ' H'
 | .ct ρ => ∀ σ' H' Hf', At K H0 Hf0 ρ σ' H' Hf' → M6 Hf Hf' → En.ct σ' H'
 | .rt d => ∀ v H' Hf', Grow H0 Hf0 H' Hf' → Rep K Hf' d v → En.rt v H'
noncomputable def tJS (K : PySem.W.Frag) (H0 Hf0 : Hp) (ρ : Rho) (fl : Fl) : TS := fun En σ H => ∃ Hf, At K H0 Hf0 ρ σ H Hf ∧ fl.ends K H0 Hf0 Hf En
noncomputable def JS (X : Cx) (st : Stmt) (f : DS) : Prop := ∀ ρ fl, f ρ = some fl → ∀ H0 Hf0, PS X st (tJS X.K H0 Hf0 ρ fl)
noncomputable def JSs (X : Cx) (sts : List Stmt) (f : DS) : Prop := ∀ ρ fl, f ρ = some fl → ∀ H0 Hf0, PSs X sts (tJS X.K H0 Hf0 ρ fl)
theorem R4 {st : Stmt} {t t' : TS} (h : PS X st t) (i : ∀ En σ H, t' En σ H → t En σ H) : PS X st t' := fun pins s σ H En I q => h pins s σ H En I (i En σ H q)
theorem aq3 {st : List Stmt} {t t' : TS} (h : PSs X st t) (i : ∀ En σ H, t' En σ H → t En σ H) : PSs X st t' := fun pins s σ H En I q => h pins s σ H En I (i En σ H q)
theorem At.grow {K : PySem.W.Frag} {H0 Hf0 H Hf H' Hf' : Hp} {ρ : Rho} {σ : L2.St} (a : At K H0 Hf0 ρ σ H Hf) (g : Grow H Hf H' Hf') : At K H0 Hf0 ρ σ H' Hf' := ⟨a.gr.trans g, a.sl.grow g⟩
theorem Fl.ends_mono {K : PySem.W.Frag} {H0 Hf0 Hf Hf' : Hp} {En : Ends} {fl : Fl} (h : fl.ends K H0 Hf0 Hf En) (e : M6 Hf Hf') : fl.ends K H0 Hf0 Hf' En := by
 cases fl with
 | nx ρ => exact fun σ' H' Hf'' a s => h σ' H' Hf'' a (e.trans s)
 | bk ρ => exact fun σ' H' Hf'' a s => h σ' H' Hf'' a (e.trans s)
 | ct ρ => exact fun σ' H' Hf'' a s => h σ' H' Hf'' a (e.trans s)
 | rt d => exact h
noncomputable def J2 : DS := fun ρ => some (.nx ρ)
noncomputable def A6 (f g : DS) : DS := fun ρ => (f ρ).bind fun fl => match fl with
 | .nx ρ' => g ρ'
 | fl => some fl
theorem ca2 : JSs X [] J2 := fun ρ fl q H0 Hf0 => by
 cases q
 exact aq3 bW2 fun En σ H ⟨Hf, a, e⟩ => e σ H Hf a (M6.refl _)
theorem bL4 {st : Stmt} {sts : List Stmt} {f g : DS} (h1 : JS X st f) (h2 : JSs X sts g) : JSs X (st :: sts) (A6 f g) := fun ρ fl q H0 Hf0 => by
 obtain ⟨fl1, e1, q⟩ := xbm q
 cases fl1 with
 | nx ρ' =>
  refine aq3 (aq4 (h1 ρ _ e1 H0 Hf0) (h2 ρ' fl q H0 Hf0)) fun En σ H ⟨Hf, a, e⟩ => ⟨Hf, a, fun σ' H' Hf' a' s' => ⟨Hf', a', Fl.ends_mono e s'⟩⟩
 | rt d => cases q; exact aq3 (aq4 (h1 ρ _ e1 H0 Hf0) y6) fun En σ H ⟨Hf, a, e⟩ => ⟨Hf, a, e⟩
 | bk ρ' => cases q; exact aq3 (aq4 (h1 ρ _ e1 H0 Hf0) y6) fun En σ H ⟨Hf, a, e⟩ => ⟨Hf, a, e⟩
 | ct ρ' => cases q; exact aq3 (aq4 (h1 ρ _ e1 H0 Hf0) y6) fun En σ H ⟨Hf, a, e⟩ => ⟨Hf, a, e⟩
theorem ca1 {st : Stmt} {f : DS} (h1 : JS X st f) : JSs X [st] f := fun ρ fl q H0 Hf0 => bW1 (h1 ρ fl q H0 Hf0)
noncomputable def B2 (f : DE) : DS := fun ρ => (f ρ).map Fl.rt
theorem cv1 {e : Expr} {f : DE} {pos : Pos} (h : JE X e f) : JS X (.Return (some e) pos) (B2 f) := fun ρ fl q H0 Hf0 => by
 obtain ⟨d, e1, e2⟩ := Option.map_eq_some_iff.mp q
 subst e2
 exact R4 (cp7 (h ρ d e1)) fun En σ H ⟨Hf, a, e⟩ => ⟨H0, Hf, a.gr.sub, a.sl, fun v H' Hf' g r => e v H' Hf' (a.gr.trans g) r⟩
noncomputable def sIf (t : Rho → Option Bool) (f g : DS) : DS := fun ρ => (t ρ).bind fun c => if c then f ρ else g ρ
theorem cG9 {c : Expr} {a b : List Stmt} {t : Rho → Option Bool} {f g : DS} {pos : Pos} (hc : JT X c t) (ha : JSs X a f) (hb : JSs X b g) : JS X (.If c a b pos) (sIf t f g) := fun ρ fl q H0 Hf0 => by
 obtain ⟨x, e1, q⟩ := xbm q
 cases x with
 | true =>
  refine R4 (cf7 (hc ρ _ e1) (ha ρ fl (by simpa using q) H0 Hf0) y6) fun En σ H ⟨Hf, a, e⟩ => ⟨H0, Hf, a.gr.sub, a.sl, fun H' Hf' g => aJ2 ⟨Hf', a.grow g, Fl.ends_mono e g.ext⟩⟩
 | false =>
  refine R4 (cf7 (hc ρ _ e1) y6 (hb ρ fl (by simpa using q) H0 Hf0)) fun En σ H ⟨Hf, a, e⟩ => ⟨H0, Hf, a.gr.sub, a.sl, fun H' Hf' g => aJ3 ⟨Hf', a.grow g, Fl.ends_mono e g.ext⟩⟩
theorem Slots.set {K : PySem.W.Frag} {H0 H Hf : Hp} {ρ : Rho} {σ : L2.St} {i : Nat} {d : D} {v : V} (s : Slots K H0 ρ σ H Hf) (r : Rep K Hf d v) : Slots K H0 (ρ.set i (some (.val d))) (σ.set i (some v)) H Hf := by
 refine ⟨by simp [s.len], fun j b e => ?_, fun j k ds es a h1 h2 h3 h4 => ?_⟩
 ·by_cases q : i = j
  ·subst q
   have hi : i < ρ.length := by
    have := (List.getElem?_eq_some_iff.mp e).1
    simpa using this
   have hi' : i < σ.length := by rw [← s.len]; exact hi
   rw [List.getElem?_set_self hi] at e
   cases e
   exact ⟨v, List.getElem?_set_self hi', r⟩
  ·rw [List.getElem?_set_ne q] at e
   obtain ⟨u, h1, h2⟩ := s.is j b e
   exact ⟨u, by rw [List.getElem?_set_ne q]; exact h1, h2⟩
 ·have hj : i ≠ j := by
   intro q; subst q
   have hi : i < ρ.length := by
    have := (List.getElem?_eq_some_iff.mp h1).1
    simpa using this
   rw [List.getElem?_set_self hi] at h1
   cases h1
  have hk : i ≠ k := by
   intro q; subst q
   have hi : i < ρ.length := by
    have := (List.getElem?_eq_some_iff.mp h2).1
    simpa using this
   rw [List.getElem?_set_self hi] at h2
   cases h2
  rw [List.getElem?_set_ne hj] at h1 h3
  rw [List.getElem?_set_ne hk] at h2 h4
  exact s.apart j k ds es a h1 h2 h3 h4
noncomputable def B3 (i : Nat) (f : DE) : DS := fun ρ => (f ρ).map fun d => .nx (ρ.set i (some (.val d)))
theorem bL6 (i : Nat) {x : Str} {e : Expr} {f : DE} {pos pos' : Pos} (hN : X.N.Nodup) (h : JE X e f) (hi : X.N[i]? = some x := by rfl) (hx : Loc X.env.scope x := by first | exact Or.inl rfl | exact Or.inr rfl)
  (hs : swapsWith e (some (.Name x pos')) pos.line X.env = pure false := by rfl) (hf : X.fn x = true ∨ X.env.scope.names.lookup x = some .local := by first | exact .inl rfl | exact .inr rfl) : JS X (.Assign [.Name x pos'] e pos) (B3 i f) := fun ρ fl q H0 Hf0 => by
 obtain ⟨d, e1, e2⟩ := Option.map_eq_some_iff.mp q
 subst e2
 exact R4 (bG8 hN hi hx (h ρ d e1) hs hf) fun En σ H ⟨Hf, a, e⟩ => ⟨H0, Hf, a.gr.sub, a.sl, fun v H' Hf' g r => e _ H' Hf' ⟨a.gr.trans g, (a.sl.grow g).set r⟩ g.ext⟩
noncomputable def bG0 (i j : Nat) (f : Rho → Option (List D)) : DS := fun ρ => (f ρ).bind fun ds => match ds with
 | [a, b] => some (.nx ((ρ.set i (some (.val a))).set j (some (.val b))))
 | _ => none
end
end G
namespace G
open PySem PySem.Spec PyProof.Rows L2
theorem bA2 {prog : Program} {w : World} {A : Around} {R : Result → Shared → Prop} {s : Shared} {elt target iter : Expr} {ifs : List Expr} {scope : Scope} {pos : Pos} {it acc : Value} {env : Env} (I : Nat → Shared → Prop)
  (turn : ∀ n s, I n s → wpAny (model prog w) A (pyNext it) (fun r s1 => match r with
   | none => R (.ok .next) s1
   | some v => wpAny (model prog w) A (letOwnedTupleGo target it v) (fun _ s1' => wpAny (model prog w) A (assign target env v) (fun _ s2 =>
     wpAny (model prog w) A (forIn ifs true fun c r => if r = true then do let ok ← isTrue c env (eval c env); pure (ForInStep.yield ok) else pure (ForInStep.yield r)) (fun ok s3 =>
      if ok = true then wpAny (model prog w) A (eval elt env) (fun x s4 =>
       wpAny (model prog w) A (call (.builtin "list.append") [acc, x]) (fun _ s5 => ∃ m, m < n ∧ I m s5) (fun _ _ => False) s4) (fun _ _ => False) s3
      else ∃ m, m < n ∧ I m s3) (fun _ _ => False) s2) (fun _ _ => False) s1') (fun _ _ => False) s1) (fun _ _ => False) s)
  (n : Nat) (h : I n s) :
  codeAny (model prog w) A (.compLoop (.ListComp elt [⟨target, iter, ifs, 0⟩] scope pos) 0 it acc env) R s := by
 refine codeAny_loop rfl I (fun n s hI => ?_) n h
 show wpAny _ A ((compTurn (.ListComp elt [⟨target, iter, ifs, 0⟩] scope pos) 0 it acc env).onRaise (fun x => do noteFrame x env; theTreesLotGoes x)) _ _ s
 refine wpAny_noted ?_
 rw [compTurn_list]
 refine wpAny_bind (wpAny_standAt (wpAny_bind (wpAny_mono (turn n s hI) (fun r s1 h1 => ?_) fun _ _ h' => h'.elim)))
 cases r with
 | none => exact wpAny_pure h1
 | some v =>
  refine wpAny_bind (wpAny_mono h1 (fun _ s1' h1' => ?_) fun _ _ h' => h'.elim)
  refine wpAny_bind (wpAny_mono h1' (fun _ s2 h2 => wpAny_bind (wpAny_mono h2 (fun ok s3 h3 => ?_) fun _ _ h' => h'.elim)) fun _ _ h' => h'.elim)
  cases ok with
  | false => exact wpAny_pure ⟨rfl, h3⟩
  | true =>
   exact wpAny_bind (wpAny_bind (wpAny_mono h3 (fun x s4 h4 => wpAny_bind (wpAny_mono h4 (fun _ s5 h5 => wpAny_pure (wpAny_pure ⟨rfl, h5⟩)) fun _ _ h' => h'.elim)) fun _ _ h' => h'.elim))
noncomputable def T9 (cells : List (Str × Addr)) : List (Str × NameKind) → List (Str × Addr) → List (Str × Addr)
 | [], cs => cs
 | (n, k) :: r, cs => if (k == NameKind.free) = true then T9 cells r ((n, (cells.lookup n).getD 0) :: cs) else T9 cells r cs
theorem aG5 {env : Env} : ∀ (names : List (Str × NameKind)) (cs : List (Str × Addr)), (∀ y ∈ names, y.2 = .free → ∃ c, env.cells.lookup y.1 = some c) →
  (forIn names cs fun (x : Str × NameKind) (r : List (Str × Addr)) => if (x.2 == NameKind.free) = true then do let a ← cellOf env x.1; pure (ForInStep.yield ((x.1, a) :: r)) else pure (ForInStep.yield r) : Sem (List (Str × Addr))) = pure (T9 env.cells names cs)
 | [], cs, _ => rfl
 | (n, k) :: r, cs, h => by
  rw [List.forIn_cons]
  have hr : ∀ y ∈ r, y.2 = .free → ∃ c, env.cells.lookup y.1 = some c := fun y hy => h y (List.mem_cons_of_mem _ hy)
  by_cases hk : (k == NameKind.free) = true
  ·obtain ⟨c, hc⟩ := h (n, k) List.mem_cons_self (by simpa using hk)
   have hc' : env.cells.lookup n = some c := hc
   simp only [hk, if_true]
   have e : cellOf env n = pure c := by unfold cellOf; rw [hc']
   rw [e]
   show (forIn r ((n, c) :: cs) _ : Sem _) = _
   rw [aG5 r _ hr]
   simp only [T9, hk, if_true, hc', Option.getD_some]
  ·have hk' : (k == NameKind.free) = false := by simpa using hk
   simp only [hk', Bool.false_eq_true, if_false]
   show (forIn r cs _ : Sem _) = _
   rw [aG5 r _ hr]
   simp only [T9, hk', Bool.false_eq_true, if_false]
theorem ce0 {scope : Scope} {env : Env} (h : ∀ y ∈ scope.names, y.2 = .free → ∃ c, env.cells.lookup y.1 = some c) : closureFor scope env = pure (T9 env.cells scope.names []) := by
 have := aG5 (env := env) scope.names [] h
 unfold closureFor
 exact congrArg (fun z => z >>= fun cs => pure cs) this
theorem as7 {cells : List (Str × Addr)} : ∀ {names : List (Str × NameKind)} {cs : List (Str × Addr)} {x : Str} {c : Addr}, (x, c) ∈ T9 cells names cs → (x, c) ∈ cs ∨ ((x, NameKind.free) ∈ names ∧ c = (cells.lookup x).getD 0)
 | [], cs, x, c, h => .inl h
 | (n, k) :: r, cs, x, c, h => by
  unfold T9 at h
  split at h
  ·rename_i hk
   rcases as7 h with q | ⟨q1, q2⟩
   ·rcases List.mem_cons.mp q with q | q
    ·cases q
     have : k = .free := by simpa using hk
     subst this
     exact .inr ⟨List.mem_cons_self, rfl⟩
    ·exact .inl q
   ·exact .inr ⟨List.mem_cons_of_mem _ q1, q2⟩
  ·rcases as7 h with q | ⟨q1, q2⟩
   ·exact .inl q
   ·exact .inr ⟨List.mem_cons_of_mem _ q1, q2⟩
theorem aa3 {cells : List (Str × Addr)} : ∀ {names : List (Str × NameKind)} {cs : List (Str × Addr)} {x : Str}, ((x, NameKind.free) ∈ names ∨ ∃ c, (x, c) ∈ cs) → ∃ c, (x, c) ∈ T9 cells names cs
 | [], cs, x, h => by
  rcases h with h | h
  ·cases h
  ·exact h
 | (n, k) :: r, cs, x, h => by
  unfold T9
  rcases h with h | ⟨c, h⟩
  ·rcases List.mem_cons.mp h with q | q
   ·cases q
    rw [if_pos (by rfl)]
    exact aa3 (.inr ⟨_, List.mem_cons_self⟩)
   ·split
    ·exact aa3 (.inl q)
    ·exact aa3 (.inl q)
  ·split
   ·exact aa3 (.inr ⟨c, List.mem_cons_of_mem _ h⟩)
   ·exact aa3 (.inr ⟨c, h⟩)
theorem ao5 {l : List (Str × Addr)} {x : Str} {c : Addr} (h : (x, c) ∈ l) : ∃ c', l.lookup x = some c' := by
 induction l with
 | nil => cases h
 | cons p r ih =>
  obtain ⟨n, a⟩ := p
  rw [List.lookup_cons]
  cases e : x == n with
  | true => exact ⟨a, rfl⟩
  | false =>
   rcases List.mem_cons.mp h with q | q
   ·cases q; simp at e
   ·exact ih q
theorem aq2 {scope : Scope} {env : Env} {x : Str} {k : NameKind} : (relabel scope env).names.lookup x = some k → ∃ k0, scope.names.lookup x = some k0 ∧ (k = k0 ∨ k0 = .free) := by
 unfold relabel
 simp only
 generalize scope.names = names
 induction names with
 | nil => intro h; simp at h
 | cons p r ih =>
  obtain ⟨n, k1⟩ := p
  intro h
  rw [List.map_cons] at h
  by_cases hc : (k1 == NameKind.free && env.scope.kind == .function && env.kindOf n == some .cell) = true
  ·simp only [hc, if_true, List.lookup_cons] at h
   rw [List.lookup_cons]
   cases e : x == n with
   | true =>
    rw [e] at h
    rw [Bool.and_eq_true, Bool.and_eq_true] at hc
    exact ⟨k1, rfl, .inr (by simpa using hc.1.1)⟩
   | false => rw [e] at h; exact ih h
  ·have hc' : (k1 == NameKind.free && env.scope.kind == .function && env.kindOf n == some .cell) = false := by simpa using hc
   simp only [hc', Bool.false_eq_true, if_false, List.lookup_cons] at h
   rw [List.lookup_cons]
   cases e : x == n with
   | true => rw [e] at h; cases h; exact ⟨_, rfl, .inl rfl⟩
   | false => rw [e] at h; exact ih h
theorem aP9 {scope : Scope} {env : Env} {x : Str} : scope.names.lookup x = some .free → (relabel scope env).names.lookup x = some .cell ∨ (relabel scope env).names.lookup x = some .free := by
 unfold relabel
 simp only
 generalize scope.names = names
 induction names with
 | nil => intro h; simp at h
 | cons p r ih =>
  obtain ⟨n, k1⟩ := p
  intro h
  rw [List.lookup_cons] at h
  rw [List.map_cons]
  cases e : x == n with
  | true =>
   rw [e] at h
   cases h
   have en : x = n := by simpa using e
   subst en
   by_cases hc : (NameKind.free == NameKind.free && env.scope.kind == .function && env.kindOf x == some .cell) = true
   ·simp only [hc, if_true, List.lookup_cons, e]; exact .inl trivial
   ·have hc' : (NameKind.free == NameKind.free && env.scope.kind == .function && env.kindOf x == some .cell) = false := by simpa using hc
    simp only [hc', Bool.false_eq_true, if_false, List.lookup_cons, e]; exact .inr trivial
  | false =>
   rw [e] at h
   by_cases hc : (k1 == NameKind.free && env.scope.kind == .function && env.kindOf n == some .cell) = true
   ·simp only [hc, if_true, List.lookup_cons, e]; exact ih h
   ·have hc' : (k1 == NameKind.free && env.scope.kind == .function && env.kindOf n == some .cell) = false := by simpa using hc
    simp only [hc', Bool.false_eq_true, if_false, List.lookup_cons, e]; exact ih h
noncomputable def M0 (X : Cx) (N' : List Str) (scope : Scope) (C : Addr) (s₀ : Shared) (H₀ : Hp) (ex : List Addr) : Cx where
 prog := X.prog
 w := X.w
 K := X.K
 mg := X.mg
 base := X.base
 A := X.A
 N := N'
 s₀ := s₀
 H₀ := H₀
 env := compEnvC scope (T9 X.env.cells scope.names []) C X.env
 outer := X.stack
 stack := X.stack
 ex := ex
 fn := fun _ => false
 calm := X.calm
 pn := []
 xe := fun _ _ => False
structure CompSc (X : Cx) (N' : List Str) (n : Nat) (caps : List Nat) (scope : Scope) : Prop where
 kind : scope.kind = .function
 cell : ∀ y ∈ scope.names, y.2 ≠ .cell
 loc : ∀ y ∈ scope.names, y.2 = .local → scope.names.lookup y.1 = some .local
 free : ∀ y ∈ scope.names, y.2 = .free → X.env.scope.names.lookup y.1 = some .cell ∨ X.env.scope.names.lookup y.1 = some .free
 len : N'.length = n + caps.length
 cap : ∀ (i j : Nat), caps[i]? = some j → ∃ x, X.N[j]? = some x ∧ N'[n + i]? = some x ∧ scope.names.lookup x = some .free
section
variable {X : Cx} {N' : List Str} {n : Nat} {caps : List Nat} {scope : Scope}
theorem V0 {l : List (Str × NameKind)} {x : Str} {k : NameKind} (h : l.lookup x = some k) : (x, k) ∈ l := PySem.mem_of_lookup h
noncomputable def aK2 (n : Nat) (caps : List Nat) (σ : L2.St) : L2.St := List.replicate n none ++ caps.map fun j => (σ[j]?).join
theorem bj4 {pins : List (Addr × Obj)} {σ : L2.St} {H : Hp} {s : Shared} {h1 : Heap} {tk : Nat} {fp : List Addr} {m : Str → Option Value} (S : CompSc X N' n caps scope) (I : Inv X pins σ H s) (hf : ∀ b ∈ fp, ay3 X pins H b) (hlt : ∀ b ∈ fp, b < s.heap.objs.size)
  (hns : h1.Ns s.heap.objs.size m) (hk : ∀ b o, s.heap.get? b = some o → h1.get? b = some o) :
  Inv (M0 X N' scope s.heap.objs.size s H fp) [] (aK2 n caps σ) H { s with heap := h1, toks := tk } := by
 have cl_of : ∀ x c, (T9 X.env.cells scope.names []).lookup x = some c → X.env.cells.lookup x = some c := fun x c h => by
  have hm := PySem.mem_of_lookup h
  rcases as7 hm with q | ⟨q1, q2⟩
  ·cases q
  ·obtain ⟨c', hc'⟩ := I.ok.has x (S.free _ q1 rfl)
   rw [hc'] at q2
   rw [hc', q2]; rfl
 have cl_has : ∀ x, (x, NameKind.free) ∈ scope.names → ∃ c, (T9 X.env.cells scope.names []).lookup x = some c := fun x h => by
  obtain ⟨c, hc⟩ := aa3 (cells := X.env.cells) (cs := []) (.inl h)
  exact ao5 hc
 have kind_free : ∀ x, ((relabel scope X.env).names.lookup x = some .cell ∨ (relabel scope X.env).names.lookup x = some .free) → (x, NameKind.free) ∈ scope.names := fun x h => by
  rcases h with h | h
  ·obtain ⟨k0, e1, e2⟩ := aq2 h
   rcases e2 with e2 | e2
   ·subst e2; exact absurd rfl (S.cell _ (V0 e1))
   ·subst e2; exact V0 e1
  ·obtain ⟨k0, e1, e2⟩ := aq2 h
   rcases e2 with e2 | e2
   ·subst e2; exact V0 e1
   ·subst e2; exact V0 e1
 have cell_lt : ∀ x c, X.env.cells.lookup x = some c → c < s.heap.objs.size := fun x c e => by
  obtain ⟨v, q⟩ := I.cell x c e
  exact q.lt
 have ok : (M0 X N' scope s.heap.objs.size s H fp).Ok := by
  refine ⟨I.ok.mod, S.kind, I.ok.glob, I.ok.blt, Nat.le_refl _, fun x y c e1 e2 => I.ok.inj x y c (cl_of x c e1) (cl_of y c e2), fun x hx => cl_has x (kind_free x hx), fun x c e _ => (Bool.false_ne_true e).elim, I.ok.hd, I.ok.frames, .inl rfl, fun b hb => ⟨Nat.ne_of_lt (hlt b hb), fun x c e => (hf b hb).2.2.2.2.1 x c (cl_of x c e)⟩,
   I.bs, Nat.le_trans I.ok.bsz I.sz, fun b o e hb => ?_, fun b hb hb2 => ?_, I.stack, I.stkFree⟩
  ·rcases (hf b hb).2.2.2.1 with z | z
   ·exact I.ok.noex b o e z
   ·exact absurd (Nat.lt_of_lt_of_le (Heap.lt_size e) (Nat.le_trans I.ok.bsz z)) (Nat.lt_irrefl _)
  ·rcases List.mem_cons.mp (I.stkSub b hb2) with z | z
   ·exact (hf b hb).2.1 z
   ·exact (hf b hb).2.2.1 z
 refine ⟨ok, rfl, I.bare, Un.kept hk, ⟨m, hns, fun i x v e1 e2 e3 => ?_⟩, fun x c e => ?_, I.hok.fresh (Nat.le_refl _), fun x c e => I.freeC x c (cl_of x c e), fun p hp => absurd (show p ∈ ([] : List (Addr × Obj)) from hp) (by simp), I.hok.kept hk, ?_⟩
 ·have hi : n ≤ i := by
   rcases Nat.lt_or_ge i n with h | h
   ·unfold aK2 at e2
    rw [List.getElem?_append_left (by simpa using h), List.getElem?_replicate, if_pos h] at e2
    cases e2
   ·exact h
  unfold aK2 at e2
  rw [List.getElem?_append_right (by simpa using hi), List.getElem?_map] at e2
  simp only [List.length_replicate] at e2
  cases hj : caps[i - n]? with
  | none => rw [hj] at e2; cases e2
  | some j =>
   rw [hj] at e2
   have e2' : (σ[j]?).join = some v := by simpa using e2
   have e2'' : σ[j]? = some (some v) := by
    cases q : σ[j]? with
    | none => rw [q] at e2'; cases e2'
    | some o => rw [q] at e2'; simp at e2'; rw [e2']
   obtain ⟨y, q1, q2, q3⟩ := S.cap _ _ hj
   have : y = x := by
    have e1' : N'[i]? = some x := e1
    rw [show n + (i - n) = i by omega, e1'] at q2
    cases q2; rfl
   subst this
   obtain ⟨m0, hn0, hl0⟩ := I.loc
   have hv : Vis X.env.scope y := by
    rcases S.free _ (V0 q3) rfl with z | z
    ·exact .inr (.inl z)
    ·exact .inr (.inr z)
   obtain ⟨u, ru, lk⟩ := hl0 j y v q1 e2'' hv
   refine ⟨u, ru, .inr ⟨aP9 q3, ?_⟩⟩
   rcases lk with ⟨lk, _⟩ | ⟨_, c, hc, hcell⟩
   ·rcases S.free _ (V0 q3) rfl with z | z
    ·have : X.env.scope.names.lookup y = some .local := lk
     rw [z] at this; cases this
    ·have : X.env.scope.names.lookup y = some .local := lk
     rw [z] at this; cases this
   ·obtain ⟨c', hc'⟩ := cl_has y (V0 q3)
    have := cl_of y c' hc'
    rw [hc] at this; cases this
    obtain ⟨o, ho, hd⟩ := hcell
    exact ⟨c, hc', o, hk c o ho, hd⟩
 ·obtain ⟨v, o, ho, hd⟩ := I.cell x c (cl_of x c e)
  exact ⟨v, o, hk c o ho, hd⟩
 ·show (aK2 n caps σ).length = N'.length
  unfold aK2
  rw [S.len]; simp
theorem aM8 {pins : List (Addr × Obj)} {σ σ' : L2.St} {H H' : Hp} {s s' : Shared} {h' : Heap} {fp : List Addr} (I : Inv X pins σ H s) (hf : ∀ b ∈ fp, ay3 X pins H b)
  (I' : Inv (M0 X N' scope s.heap.objs.size s H fp) [] σ' H' s') (sb : Heap.SameBut s.heap.objs.size s'.heap h') : Inv X pins σ H' { s' with heap := h' } := by
 have ne : ∀ b o, s.heap.get? b = some o → b ≠ s.heap.objs.size := fun b o e => Nat.ne_of_lt (Heap.lt_size e)
 refine I.call' (s' := { s' with heap := h' }) (ch := fp) I'.os ?_ ?_ I'.bare fun b hb => ⟨(hf b hb).2.2.2.1, (hf b hb).2.1, (hf b hb).2.2.2.2.1, (hf b hb).2.2.2.2.2⟩
 ·refine ⟨fun b o e n hb hx => sb.extBut b o (ne b o e) (I'.base.keep b o e n hb hx), fun b o e n hb hx => ?_, I'.base.free, fun b o e hx => ?_, I'.base.tups, I'.base.frzs, I'.base.tbls⟩
  ·obtain ⟨sl, q⟩ := I'.base.slot b o e n hb hx
   exact ⟨sl, sb.extBut b _ (ne b o e) q⟩
  ·obtain ⟨o', q⟩ := I'.base.there b o e hx
   exact ⟨o', sb.extBut b _ (ne b o e) q⟩
 ·intro b u e
  have nC : ∀ c v, H' c = some v → c ≠ s.heap.objs.size := fun c v q z => by
   have := I'.free
   have z' : H' c = none := by rw [z]; exact this
   rw [z'] at q; cases q
  refine (I'.hok b u e).stay (fun c v hc q => sb.extBut c v ?_ q) (fun _ q => q) fun _ _ q => q
  rcases hc with z | z
  ·rw [z]; exact nC b u e
  ·exact nC c _ z
noncomputable def PTs (X : Cx) (ifs : List Expr) (t : TT) : Prop :=
 ∀ (pins : List (Addr × Obj)) (s : Shared) (σ : L2.St) (H : Hp) (Q : Bool → Hp → Prop), Inv X pins σ H s → t σ H Q →
  wpAny (model X.prog X.w) X.A (forIn ifs true fun c r => if r = true then do let ok ← isTrue c X.env (eval c X.env); pure (ForInStep.yield ok) else pure (ForInStep.yield r)) (TP X pins σ Q) X.xe s
theorem bV9 : PTs X [] (fun _ H Q => Q true H) := fun pins s σ H Q I h => wpAny_tests_nil ⟨H, I, h⟩
theorem bV8 {c : Expr} {t : TT} (h : PT X c t) : PTs X [c] t := fun pins s σ H Q I q => wpAny_tests_one (h pins s σ H Q I q)
noncomputable def bF0 (n : Nat) (caps : List Nat) (wi : TI) (g : TG) (tc : TT) (te : TE) : TE := fun σ H Q => wi σ H fun J H1 => ∀ Dd, H1 Dd = none → ∃ W : Nat → Nat → List V → L2.St → Hp → Prop,
 (∃ m, W 0 m [] (aK2 n caps σ) (upd H1 Dd (.lst []))) ∧
 ∀ i m ys σ' H', W i m ys σ' H' →
  (J.stop i H' ∧ Q (.ref Dd) H') ∨
  (J.go i H' ∧ ∀ x H2, J.yld i H' x H2 → g x σ' H2 fun σ3 H3 => tc σ3 H3 fun b H4 =>
   if b = true then te σ3 H4 fun y H5 => H5 Dd = some (.lst ys) ∧ ys.length < sizeLine ∧ ∃ m', m' < m ∧ W (i + 1) m' (ys ++ [y]) σ3 (upd H5 Dd (.lst (ys ++ [y])))
   else ∃ m', m' < m ∧ W (i + 1) m' ys σ3 H4)
theorem ba5 {elt tgt iter : Expr} {ifs : List Expr} {pos : Pos} {wi : TI} {g : TG} {tc : TT} {te : TE} {RR : Value → Addr → Result → Shared → Prop} {E : Value → Shared → Prop} (S : CompSc X N' n caps scope) (hx : ∀ e s, X.xe e s → False) (hc : X.calm = true)
  (hi : PI X tgt iter wi) (hg : ∀ C s0 H0 ex, PG (M0 X N' scope C s0 H0 ex) tgt g) (ht : ∀ C s0 H0 ex, PTs (M0 X N' scope C s0 H0 ex) ifs tc) (he : ∀ C s0 H0 ex, PE (M0 X N' scope C s0 H0 ex) elt te)
  {pins : List (Addr × Obj)} {s : Shared} {σ : L2.St} {H : Hp} {Q : VK} (I : Inv X pins σ H s) (h : bF0 n caps wi g tc te σ H Q)
  (hRR : ∀ D C r s', r = .ok .next → (∃ m, s'.heap.Ns C m ∧ ∀ h', Heap.SameBut C s'.heap h' → ∃ H', Inv X pins σ H' { s' with heap := h' } ∧ Q (.ref D) H') →
   (∃ s2 fp σ' H2 H', s2.heap.objs.size = C ∧ Inv X pins σ H2 s2 ∧ (∀ b ∈ fp, ay3 X pins H2 b) ∧ Inv (M0 X N' scope s2.heap.objs.size s2 H2 fp) [] σ' H' s' ∧ Q (.ref D) H') → RR (.ref D) C r s') :
  wpAny (model X.prog X.w) X.A (eval iter X.env) (fun x s₁ => wpAny (model X.prog X.w) X.A (pyIter x) (fun it s₂ => wpAny (model X.prog X.w) X.A (newList []) (fun acc s₃ =>
   wpAny (model X.prog X.w) X.A (newFunctionEnv scope X.env.globals (T9 X.env.cells scope.names []) [] X.env.qual none .none (some X.env)) (fun cenv s₄ =>
    codeAny (model X.prog X.w) X.A (.compStart (.ListComp elt [⟨tgt, iter, ifs, 0⟩] scope pos) 0 it acc { cenv with scope := relabel scope X.env }) (RR acc cenv.locals) s₄) E s₃) E s₂) E s₁) E s := by
 refine wpAny_mono (hi pins s σ H _ I h) (fun v s1 h1 => wpAny_mono h1 (fun itv s2 h2 => ?_) fun _ _ z => (hx _ _ z).elim) fun _ _ z => (hx _ _ z).elim
 obtain ⟨it, fp, tn, J, H2, e, I2, T, st2, f2, R⟩ := h2
 subst e
 refine wpAny_newObj_type (wpAny_newFunctionEnv S.cell (by intro y hy; simp at hy) (fun h₁ hns₁ hsb₁ => ?_) S.kind)
 dsimp only at hns₁ hsb₁ ⊢
 obtain ⟨W, ⟨m0, w0⟩, turn⟩ := R s2.heap.objs.size (I2.hok.fresh (Nat.le_refl _))
 have lt2 : ∀ b ∈ fp, b < s2.heap.objs.size := fun b hb => by
  obtain ⟨o, ho, _⟩ := T.obj _ _ st2 b hb
  exact Heap.lt_size ho
 have I3 : Inv X pins σ (upd H2 s2.heap.objs.size (.lst [])) { s2 with heap := s2.heap.push { cls := .type "list", dict := none, data := .seq ([] : List Value).toArray } } :=
  I2.laid (t' := s2.toks) (fun b u e => Heap.get?_push_of_some _ e) (Nat.le_refl _) ⟨Nat.zero_le _, [], 0, .nil, Heap.get?_push_size _ rfl⟩
 generalize hs3 : ({ s2 with heap := s2.heap.push { cls := .type "list", dict := none, data := .seq ([] : List Value).toArray } } : Shared) = s3 at I3
 have es3 : s3.heap = s2.heap.push { cls := .type "list", dict := none, data := .seq ([] : List Value).toArray } := by rw [← hs3]
 rw [← es3] at hns₁ hsb₁ ⊢
 have keep3 : ∀ b o, s3.heap.get? b = some o → h₁.get? b = some o := fun b o e => hsb₁.extBut b o (Nat.ne_of_lt (Heap.lt_size e)) (Heap.get?_push_of_some _ e)
 have lt3 : ∀ b ∈ fp, b < s3.heap.objs.size := fun b hb => by rw [es3, Heap.size_push]; exact Nat.lt_succ_of_lt (lt2 b hb)
 have f3 : ∀ b ∈ fp, ay3 X pins (upd H2 s2.heap.objs.size (.lst [])) b := fun b hb => ⟨by rw [G9 (Nat.ne_of_lt (lt2 b hb))]; exact (f2 b hb).1, (f2 b hb).2⟩
 generalize hH3 : upd H2 s2.heap.objs.size (HO.lst []) = H3 at I3 f3 w0
 have fin3 : ∀ {σ' : L2.St} {H' : Hp} {pl : List (Addr × Obj)}, (∀ b ∈ fp, H' b = none) → (∀ p ∈ pl, False) → ∀ b ∈ fp, ay3 (M0 X N' scope s3.heap.objs.size s3 H3 fp) pl H' b := fun {σ' H' pl} hn hp b hb => by
  refine ⟨hn b hb, Nat.ne_of_lt (lt3 b hb), fun z => ?_, .inl hb, fun x c e => ?_, fun p hp' => ?_⟩
  ·rcases List.mem_cons.mp (I3.stkSub b z) with z | z
   ·exact (f3 b hb).2.1 z
   ·exact (f3 b hb).2.2.1 z
  ·have hm := PySem.mem_of_lookup e
   rcases as7 hm with q | ⟨q1, q2⟩
   ·cases q
   ·obtain ⟨c', hc'⟩ := I3.ok.has x (S.free _ q1 rfl)
    rw [hc'] at q2
    have q2' : c = c' := q2
    subst q2'
    exact (f3 b hb).2.2.2.2.1 x c hc'
  ·exact (hp p (by simpa [M0] using hp')).elim
 have toks : ∃ tk, ({ s2 with heap := h₁, toks := s2.toks + ([] : List (Str × Value)).length } : Shared) = { s3 with heap := h₁, toks := tk } := ⟨s2.toks, by rw [← hs3]; rfl⟩
 obtain ⟨tk, htk⟩ := toks
 have st4 : tn 0 h₁ := T.keep 0 s2.heap h₁ st2 fun b hb o e => keep3 b o (by rw [es3]; exact Heap.get?_push_of_some _ e)
 have I4 : Inv (M0 X N' scope s3.heap.objs.size s3 H3 fp) [] (aK2 n caps σ) H3 { s3 with heap := h₁, toks := tk } := bj4 S I3 f3 lt3 hns₁ keep3
 have loop : codeAny (model X.prog X.w) X.A (.compLoop (.ListComp elt [⟨tgt, iter, ifs, 0⟩] scope pos) 0 (.ref it) (.ref s2.heap.objs.size) (compEnvC scope (T9 X.env.cells scope.names []) s3.heap.objs.size X.env)) (RR (.ref s2.heap.objs.size) s3.heap.objs.size) { s3 with heap := h₁, toks := tk } := by
  refine bA2 (fun k s' => ∃ i ys σ' H', Inv (M0 X N' scope s3.heap.objs.size s3 H3 fp) [] σ' H' s' ∧ tn i s'.heap ∧ (∀ b ∈ fp, H' b = none) ∧ W i k ys σ' H') ?_ m0 ⟨0, [], _, H3, I4, st4, fun b hb => (f3 b hb).1, w0⟩
  rintro k s5 ⟨i, ys, σ5, H5, I5, st5, fr5, w5⟩
  have pz : ∀ p ∈ ([] : List (Addr × Obj)), False := fun p hp => by cases hp
  rcases turn i k ys σ5 H5 w5 with ⟨stop, qn⟩ | ⟨go, step⟩
  ·refine wpAny_mono (T.done (M0 X N' scope s3.heap.objs.size s3 H3 fp) rfl rfl rfl hc i [] s5 σ5 H5 (fun _ _ => False) I5 (fin3 (σ' := σ5) fr5 pz) st5 stop) (fun r s6 ⟨hr, I6⟩ => ?_) fun _ _ z => z
   subst hr
   obtain ⟨m6, hn6, _⟩ := I6.loc
   refine hRR _ _ _ s6 rfl ⟨m6, hn6, fun h' sb => ⟨H5, aM8 I3 f3 I6 sb, qn⟩⟩ ⟨s3, fp, σ5, H3, H5, rfl, I3, f3, I6, qn⟩
  ·refine wpAny_mono (T.item (M0 X N' scope s3.heap.objs.size s3 H3 fp) rfl rfl rfl hc i [] s5 σ5 H5 (fun _ _ => False) I5 (fin3 (σ' := σ5) fr5 pz) st5 go) (fun r s6 ⟨u, hr, h6⟩ => ?_) fun _ _ z => z
   subst hr
   refine wpAny_mono h6 (fun _ s7 ⟨x, H7, I7, r7, y7, st7, fr7⟩ => ?_) fun _ _ z => z
   have I7' := I7.pinned (fin3 (σ' := σ5) fr7 pz) (T.obj _ _ st7)
   refine wpAny_mono (hg _ _ _ _ _ s7 σ5 H7 x u _ I7' r7 (step x H7 y7)) (fun _ s8 ⟨σ8, H8, I8, q8⟩ => ?_) fun _ _ z => z
   refine wpAny_mono (ht _ _ _ _ _ s8 σ8 H8 _ I8 q8) (fun ok s9 ⟨H9, I9, q9⟩ => ?_) fun _ _ z => z
   have again : ∀ {σ' : L2.St} {H' : Hp} {s' : Shared}, Inv (M0 X N' scope s3.heap.objs.size s3 H3 fp) ([] ++ aE9 fp s7.heap) σ' H' s' → Inv (M0 X N' scope s3.heap.objs.size s3 H3 fp) [] σ' H' s' ∧ tn (i + 1) s'.heap ∧ ∀ b ∈ fp, H' b = none := fun {σ' H' s'} I' => by
    refine ⟨I'.unpinned, T.keep _ _ _ st7 fun b hb o e => (I'.pin (b, o) (List.mem_append_right _ (List.mem_append_right _ (ac5 hb e)))).1, fun b hb => ?_⟩
    obtain ⟨o, e, d⟩ := T.obj _ _ st7 b hb
    exact (I'.pin (b, o) (List.mem_append_right _ (List.mem_append_right _ (ac5 hb e)))).2.1
   cases ok with
   | false =>
    rw [if_neg Bool.false_ne_true] at q9 ⊢
    obtain ⟨m', hm, w'⟩ := q9
    obtain ⟨a1, a2, a3⟩ := again I9
    exact ⟨m', hm, i + 1, ys, σ8, H9, a1, a2, a3, w'⟩
   | true =>
    rw [if_pos rfl] at q9 ⊢
    refine wpAny_mono (he _ _ _ _ _ s9 σ8 H9 _ I9 q9) (fun y s10 ⟨vy, H10, I10, r10, q10, z10, m', hm, w'⟩ => ?_) fun _ _ z => z
    refine wpAny_mono (aM0 (X := M0 X N' scope s3.heap.objs.size s3 H3 fp) _ s10 σ8 H10 (.ref s2.heap.objs.size) [vy] _ _ (fun v H' => v = .non ∧ H' = upd H10 s2.heap.objs.size (.lst (ys ++ [vy]))) I10 rfl (.cons r10 .nil) ⟨_, ys, vy, rfl, rfl, q10, z10, rfl, rfl⟩) (fun _ s11 ⟨v11, H11, I11, r11, e11, e12⟩ => ?_) fun _ _ z => z
    subst e12
    obtain ⟨a1, a2, a3⟩ := again I11
    exact ⟨m', hm, i + 1, ys ++ [vy], σ8, _, a1, a2, a3, w'⟩
 show codeAny (model X.prog X.w) X.A _ _ ({ s2 with heap := h₁, toks := s2.toks + ([] : List (Str × Value)).length } : Shared)
 rw [htk]
 exact codeAny_compStart_list loop (T.self _ _ _ _ _ st4 loop)
end
end G
namespace G
open PySem PySem.Spec PyProof.Rows L2
section
variable {X : Cx}
noncomputable def tgJ (K : PySem.W.Frag) (f : D → Rho → Option Rho) : TG := fun v σ H Q => ∃ d ρ ρ' H0 Hf, f d ρ = some ρ' ∧ M6 Hf H ∧ Slots K H0 ρ σ H Hf ∧ Rep K Hf d v ∧ ∀ σ', Slots K H0 ρ' σ' H Hf → Q σ' H
noncomputable def JG (X : Cx) (tg : Expr) (f : D → Rho → Option Rho) : Prop := PG X tg (tgJ X.K f)
noncomputable def cJ7 (K : PySem.W.Frag) (f : List D → Rho → Option Rho) : TGs := fun vs σ H Q => ∃ ds ρ ρ' H0 Hf, f ds ρ = some ρ' ∧ M6 Hf H ∧ Slots K H0 ρ σ H Hf ∧ Reps K Hf ds vs ∧ ∀ σ', Slots K H0 ρ' σ' H Hf → Q σ' H
noncomputable def JGs (X : Cx) (tg : List Expr) (f : List D → Rho → Option Rho) : Prop := PGs X tg (cJ7 X.K f)
noncomputable def A8 (i : Nat) : D → Rho → Option Rho := fun d ρ => some (ρ.set i (some (.val d)))
theorem cb5 (i : Nat) {x : Str} {pos : Pos} (hN : X.N.Nodup) (hi : X.N[i]? = some x := by rfl) (hx : Loc X.env.scope x := by first | exact Or.inl rfl | exact Or.inr rfl) (hf : X.fn x = true ∨ X.env.scope.names.lookup x = some .local := by first | exact .inl rfl | exact .inr rfl) : JG X (.Name x pos) (A8 i) := by
 intro pins s σ H v u Q I r ⟨d, ρ, ρ', H0, Hf, e, ss, sl, rp, k⟩
 cases e
 exact bW8 hN hi hx hf pins s σ H v u Q I r (k _ (sl.set rp))
noncomputable def L5 : List D → Rho → Option Rho := fun ds ρ => match ds with
 | [] => some ρ
 | _ => none
noncomputable def B0 (f : D → Rho → Option Rho) (g : List D → Rho → Option Rho) : List D → Rho → Option Rho := fun ds ρ => match ds with
 | d :: r => (f d ρ).bind fun ρ' => g r ρ'
 | [] => none
theorem cb4 : JGs X [] L5 := by
 intro pins s σ H vs us Q I r ⟨ds, ρ, ρ', H0, Hf, e, ss, sl, rp, k⟩
 cases ds with
 | nil => cases e; exact bW7 pins s σ H vs us Q I r ⟨rp, k _ sl⟩
 | cons d ds => cases e
theorem bM3 {e : Expr} {es : List Expr} {f : D → Rho → Option Rho} {g : List D → Rho → Option Rho} (h1 : JG X e f) (h2 : JGs X es g) (hs : (assignEach (e :: es) X.env).map (·.2) = assign e X.env :: (assignEach es X.env).map (·.2) := by rfl) : JGs X (e :: es) (B0 f g) := by
 intro pins s σ H vs us Q I r ⟨ds, ρ, ρ', H0, Hf, e, ss, sl, rp, k⟩
 cases ds with
 | nil => cases e
 | cons d ds =>
  obtain ⟨ρ1, e1, e2⟩ := xbm e
  obtain ⟨v, vr, rfl, q1, q2⟩ := rp
  exact bH4 h1 h2 hs pins s σ H _ us Q I r ⟨v, vr, rfl, d, ρ, ρ1, H0, Hf, e1, ss, sl, q1, fun σ' sl' => ⟨ds, ρ1, ρ', H0, Hf, e2, ss, sl', q2, k⟩⟩
noncomputable def K6 (n : Nat) (g : List D → Rho → Option Rho) : D → Rho → Option Rho := fun d ρ => match d with
 | .tuple ds => if ds.length = n then g ds ρ else none
 | _ => none
theorem cw5 {es : List Expr} {k n : Nat} {pos : Pos} {g : List D → Rho → Option Rho} (h : JGs X es g) (hc : X.calm = true := by rfl) (hn : (assignEach es X.env).length = n := by rfl) (hst : (assignEach es X.env).findIdx? (·.1) = none := by rfl) : JG X (.Tuple es k pos) (K6 n g) := by
 intro pins s σ H v u Q I r ⟨d, ρ, ρ', H0, Hf, e, ss, sl, rp, kk⟩
 cases d with
 | tuple ds =>
  simp only [K6] at e
  split at e
  ·rename_i hl
   obtain ⟨a, vs, rfl, q1, q2⟩ := rp
   exact cq3 hc h hn hst pins s σ H _ u Q I r ⟨a, vs, rfl, K3 ss q1, by rw [q2.length, hl], ds, ρ, ρ', H0, Hf, e, ss, sl, q2, kk⟩
  ·cases e
 | _ => cases e
noncomputable def aU6 (K : PySem.W.Frag) (J : It) (ds : List D) (Hf1 : Hp) : Prop := ∀ (i : Nat) (H Hf : Hp), M6 Hf1 Hf → M6 Hf H → (ds.length ≤ i → J.stop i H) ∧ ∀ d, ds[i]? = some d → J.go i H ∧ ∀ x H', J.yld i H x H' → ∃ Hf', Grow H Hf H' Hf' ∧ Rep K Hf' d x
noncomputable def tiJ (K : PySem.W.Frag) (ρ : Rho) (ds : List D) : TI := fun σ H R => ∃ H0 Hf, M6 Hf H ∧ Slots K H0 ρ σ H Hf ∧ ∀ J H' Hf', Grow H Hf H' Hf' → aU6 K J ds Hf' → R J H'
noncomputable def JI (X : Cx) (tg iter : Expr) (f : Rho → Option (List D)) : Prop := ∀ ρ ds, f ρ = some ds → PI X tg iter (tiJ X.K ρ ds)
theorem aQ6 {tg iter : Expr} {t t' : TI} (h : PI X tg iter t) (i : ∀ σ H R, t' σ H R → t σ H R) : PI X tg iter t' := fun pins s σ H R I q => h pins s σ H R I (i σ H R q)
noncomputable def L4 (f : DE) : Rho → Option (List D) := fun ρ => (f ρ).bind fun d => match d with
 | .list ds => some ds
 | .tuple ds => some ds
 | _ => none
theorem bh6 {tg e : Expr} {f : DE} (h : JE X e f) : JI X tg e (L4 f) := fun ρ ds q => by
 obtain ⟨d, e1, e2⟩ := xbm q
 cases d with
 | list xs =>
  cases e2
  refine aQ6 (bW6 (h ρ _ e1)) fun σ H R ⟨H0, Hf, s, sl, k⟩ => ⟨H0, Hf, s, sl, fun v H1 Hf1 g1 ⟨a, vs, h1, h2, h3⟩ => ⟨a, h1, ⟨vs, M3 g1.sub h2⟩, k _ H1 Hf1 g1 ?_⟩⟩
  intro i H' Hf' sa sb
  have q' : SqL X.K H' a vs := M3 (sa.trans sb) h2
  refine ⟨fun hi => ⟨vs, q', by rw [h3.length]; exact hi⟩, fun d hd => ?_⟩
  obtain ⟨v, w1, w2⟩ := h3.get hd
  refine ⟨⟨vs, v, q', w1⟩, fun x H'' hy => ?_⟩
  obtain ⟨rfl, hy⟩ := hy
  have := hy vs q'
  rw [w1] at this; cases this
  exact ⟨Hf', Grow.refl sb, w2.mono sa⟩
 | tuple xs =>
  cases e2
  refine aQ6 (cq2 (h ρ _ e1)) fun σ H R ⟨H0, Hf, s, sl, k⟩ => ⟨H0, Hf, s, sl, fun v H1 Hf1 g1 ⟨a, vs, h1, h2, h3⟩ => ⟨a, h1, ⟨vs, K3 g1.sub h2⟩, k _ H1 Hf1 g1 ?_⟩⟩
  intro i H' Hf' sa sb
  have q' : SqT X.K H' a vs := K3 (sa.trans sb) h2
  refine ⟨fun hi => ⟨vs, q', by rw [h3.length]; exact hi⟩, fun d hd => ?_⟩
  obtain ⟨v, w1, w2⟩ := h3.get hd
  refine ⟨⟨vs, v, q', w1⟩, fun x H'' hy => ?_⟩
  obtain ⟨rfl, hy⟩ := hy
  have := hy vs q'
  rw [w1] at this; cases this
  exact ⟨Hf', Grow.refl sb, w2.mono sa⟩
 | _ => cases e2
noncomputable def w6 (lo hi : Int) : List D := (List.range (hi - lo).toNat).map fun (i : Nat) => PyData.int (lo + i)
theorem ap6 {K : PySem.W.Frag} {lo hi : Int} {Hf1 : Hp} : aU6 K (Itr lo (hi - lo).toNat) (w6 lo hi) Hf1 := by
 intro i H Hf sa sb
 have hl : (w6 lo hi).length = (hi - lo).toNat := by simp [w6]
 refine ⟨fun h => by rw [hl] at h; exact h, fun d hd => ?_⟩
 have hi' : i < (hi - lo).toNat := by
  have := (List.getElem?_eq_some_iff.mp hd).1
  rw [hl] at this; exact this
 refine ⟨hi', fun x H' hy => ?_⟩
 obtain ⟨e1, e2⟩ := hy
 subst e1 e2
 have : d = .int (lo + i) := by
  have : (w6 lo hi)[i]? = some (.int (lo + i)) := by simp [w6, hi']
  rw [hd] at this; cases this; rfl
 subst this
 exact ⟨Hf, Grow.refl sb, rfl⟩
noncomputable def L6 (f : DE) : Rho → Option (List D) := fun ρ => (f ρ).bind fun d => match d with
 | .int j => if -(2 ^ 62) ≤ j ∧ j < 2 ^ 62 then some (w6 0 j) else none
 | _ => none
theorem bx5 {tg e : Expr} {f : DE} {p pos : Pos} (hg : Gl X "range") (hm : X.mg "range" = none) (h : JE X e f) (hs : starEach [e] X.env = [(false, eval e X.env)] := by rfl) : JI X tg (.Call (.Name "range" p) [e] [] pos) (L6 f) := fun ρ ds q => by
 obtain ⟨d, e1, e2⟩ := xbm q
 split at e2
 ·split at e2
  ·rename_i j c
   cases e2
   refine aQ6 (bt8 hg hm (K4 (h ρ _ e1) N8 hs) hs) fun σ H R ⟨H0, Hf, s, sl, k⟩ => ⟨H0, Hf, s, sl, fun v H1 Hf1 g1 r => ⟨j, by rw [show v = _ from r], c.1, c.2, k _ H1 Hf1 g1 ?_⟩⟩
   have := ap6 (K := X.K) (lo := 0) (hi := j) (Hf1 := Hf1)
   rw [Int.sub_zero] at this
   exact this
  ·cases e2
 ·cases e2
noncomputable def ch3 (f g : DE) : Rho → Option (List D) := fun ρ => (f ρ).bind fun d => (g ρ).bind fun e => match d, e with
 | .int i, .int j => if (-(2 ^ 62) ≤ i ∧ i < 2 ^ 62) ∧ -(2 ^ 62) ≤ j ∧ j < 2 ^ 62 then some (w6 i j) else none
 | _, _ => none
theorem bx4 {tg a b : Expr} {f g : DE} {p pos : Pos} (hg : Gl X "range") (hm : X.mg "range" = none) (ha : JE X a f) (hb : JE X b g) (hs : starEach [a, b] X.env = [(false, eval a X.env), (false, eval b X.env)] := by rfl) (hs2 : starEach [b] X.env = [(false, eval b X.env)] := by rfl) :
  JI X tg (.Call (.Name "range" p) [a, b] [] pos) (ch3 f g) := fun ρ ds q => by
 obtain ⟨d, e1, q⟩ := xbm q
 obtain ⟨e, e2, q⟩ := xbm q
 split at q
 ·split at q
  ·rename_i c
   cases q
   refine aQ6 (bt7 hg hm (K4 (ha ρ _ e1) (K4 (hb ρ _ e2) N8 hs2) (by rw [hs, hs2])) hs hs2) fun σ H R ⟨H0, Hf, s, sl, k⟩ => ⟨H0, Hf, s, sl, fun v H1 Hf1 g1 r => ⟨H0, Hf1, g1.sub, sl.grow g1, fun u H2 Hf2 g2 r2 => ⟨_, _, by rw [show v = _ from r, show u = _ from r2], ⟨c.1.1, c.1.2, c.2.1, c.2.2⟩, k _ H2 Hf2 (g1.trans g2) ap6⟩⟩⟩
  ·cases q
 ·cases q
theorem Grow.nofr {H Hf H' Hf' : Hp} {a : Addr} {o : HO} (g : Grow H Hf H' Hf') (h : H a = some o) (n : Hf a = none) : Hf' a = none := by
 cases q : Hf' a with
 | none => rfl
 | some u =>
  rcases g.new a (by rw [q]; simp) with z | z
  ·exact absurd n z
  ·rw [h] at z; cases z
noncomputable def n5 (n : Nat) (caps : List Nat) (ρ : Rho) : Rho := List.replicate n none ++ caps.map fun j => match ρ[j]? with
 | some (some (.val d)) => some (.val d)
 | _ => none
noncomputable def P5 (g : D → Rho → Option Rho) (c : Rho → Option Bool) (e : DE) : List D → Rho → Option (List D)
 | [], _ => some []
 | d :: ds, ρ => (g d ρ).bind fun ρ1 => (c ρ1).bind fun b => if b then (e ρ1).bind fun y => (P5 g c e ds ρ1).map fun r => y :: r else P5 g c e ds ρ1
noncomputable def D6 (n : Nat) (caps : List Nat) (src : Rho → Option (List D)) (g : D → Rho → Option Rho) (c : Rho → Option Bool) (e : DE) : Rho → Option (List D) := fun ρ => (src ρ).bind fun ds => if ds.length ≤ 16777216 then P5 g c e ds (n5 n caps ρ) else none
noncomputable def aL3 (K : PySem.W.Frag) (c : Rho → Option Bool) : TT := fun σ H Q => ∃ ρ b, c ρ = some b ∧ ∃ H0 Hf, M6 Hf H ∧ Slots K H0 ρ σ H Hf ∧ ∀ H' Hf', Grow H Hf H' Hf' → Q b H'
noncomputable def bm0 (K : PySem.W.Frag) (e : DE) : TE := fun σ H Q => ∃ ρ d, e ρ = some d ∧ tJ K ρ (fun _ v _ Hf => Rep K Hf d v) σ H Q
noncomputable def JTs (X : Cx) (ifs : List Expr) (c : Rho → Option Bool) : Prop := PTs X ifs (aL3 X.K c)
noncomputable def G0 : Rho → Option Bool := fun _ => some true
theorem ca0 : JTs X [] G0 := fun pins s σ H Q I ⟨ρ, b, e, H0, Hf, ss, sl, k⟩ => by
 cases e
 exact bV9 pins s σ H Q I (k H Hf (Grow.refl ss))
theorem bZ9 {e : Expr} {c : Rho → Option Bool} (h : JT X e c) : JTs X [e] c := fun pins s σ H Q I ⟨ρ, b, e, H0, Hf, ss, sl, k⟩ => bV8 (h ρ b e) pins s σ H Q I ⟨H0, Hf, ss, sl, k⟩
theorem bj7 {K : PySem.W.Frag} {n : Nat} {caps : List Nat} {H0 H H1 H' Hf : Hp} {ρ : Rho} {σ : L2.St} (sl : Slots K H0 ρ σ H Hf) : Slots K H1 (n5 n caps ρ) (aK2 n caps σ) H' Hf := by
 have noown : ∀ (i : Nat) (ds : List D), (n5 n caps ρ)[i]? ≠ some (some (.own ds)) := fun i ds h => by
  unfold n5 at h
  rcases Nat.lt_or_ge i n with q | q
  ·rw [List.getElem?_append_left (by simpa using q), List.getElem?_replicate, if_pos q] at h; cases h
  ·rw [List.getElem?_append_right (by simpa using q), List.getElem?_map] at h
   cases hj : caps[i - (List.replicate n (none : Option B)).length]? with
   | none => rw [hj] at h; cases h
   | some j =>
    rw [hj] at h
    simp only [Option.map_some, Option.some.injEq] at h
    split at h <;> cases h
 refine ⟨by simp [n5, aK2], fun i b e => ?_, fun i j ds es a h1 => (noown i ds h1).elim⟩
 unfold n5 at e
 unfold aK2
 rcases Nat.lt_or_ge i n with q | q
 ·rw [List.getElem?_append_left (by simpa using q), List.getElem?_replicate, if_pos q] at e; cases e
 ·rw [List.getElem?_append_right (by simpa using q), List.getElem?_map] at e
  rw [List.getElem?_append_right (by simpa using q), List.getElem?_map]
  simp only [List.length_replicate] at e ⊢
  cases hj : caps[i - n]? with
  | none => rw [hj] at e; cases e
  | some j =>
   rw [hj] at e
   simp only [Option.map_some, Option.some.injEq] at e ⊢
   split at e
   ·rename_i d hd
    cases e
    obtain ⟨v, h1, h2⟩ := sl.is j _ hd
    exact ⟨v, by rw [h1]; rfl, h2⟩
   ·cases e
theorem ap3 {K : PySem.W.Frag} {n : Nat} {caps : List Nat} {ρ : Rho} {src : Rho → Option (List D)} {g : D → Rho → Option Rho} {c : Rho → Option Bool} {e : DE} {out : List D} (h : D6 n caps src g c e ρ = some out) :
  ∃ ds, src ρ = some ds ∧ ∀ σ H Q, tJ K ρ (fun H v H' Hf' => ∃ a vs, v = .ref a ∧ H a = none ∧ H' a = some (.lst vs) ∧ Hf' a = none ∧ Reps K Hf' out vs) σ H Q → bF0 n caps (tiJ K ρ ds) (tgJ K g) (aL3 K c) (bm0 K e) σ H Q := by
 obtain ⟨ds, e1, e2⟩ := xbm h
 split at e2
 ·rename_i hz
  refine ⟨ds, e1, fun σ H Q ⟨H0, Hf, s, sl, k⟩ => ⟨H0, Hf, s, sl, fun J H1 Hf1 g1 Y Dd hD => ?_⟩⟩
  refine ⟨fun i m ys σ' H' => m = ds.length - i ∧ i ≤ ds.length ∧ ∃ Hf' ρ' o1 o2, Grow H1 Hf1 H' Hf' ∧ H' Dd = some (.lst ys) ∧ Hf' Dd = none ∧ Slots K (upd H1 Dd (.lst [])) ρ' σ' H' Hf' ∧ Reps K Hf' o1 ys ∧ o1.length ≤ i ∧ P5 g c e (ds.drop i) ρ' = some o2 ∧ o1 ++ o2 = out,
   ⟨ds.length, by simp, Nat.zero_le _, Hf1, n5 n caps ρ, [], out, Grow.made g1.sub hD, G8, g1.sub.free hD, bj7 (sl.grow g1), rfl, Nat.le_refl _, by simpa using e2, rfl⟩, ?_⟩
  rintro i m ys σ' H' ⟨rfl, hi, Hf', ρ', o1, o2, gr, hd1, hd2, sl', rp, ho, ec, eo⟩
  obtain ⟨Ys, Yg⟩ := Y i H' Hf' gr.ext gr.sub
  rcases Nat.lt_or_ge i ds.length with hlt | hge
  ·right
   obtain ⟨go, yl⟩ := Yg ds[i] (by simp [hlt])
   refine ⟨go, fun x H2 hy => ?_⟩
   obtain ⟨Hf2, g2, r2⟩ := yl x H2 hy
   rw [List.drop_eq_getElem_cons hlt] at ec
   obtain ⟨ρ1, c1, ec⟩ := xbm ec
   obtain ⟨b, c2, ec⟩ := xbm ec
   refine ⟨ds[i], ρ', ρ1, _, Hf2, c1, g2.sub, sl'.grow g2, r2, fun σ3 sl3 => ⟨ρ1, b, c2, _, Hf2, g2.sub, sl3, fun H4 Hf4 g4 => ?_⟩⟩
   have gr4 := (gr.trans g2).trans g4
   have hd4 : H4 Dd = some (.lst ys) := g4.big _ _ (g2.big _ _ hd1)
   have hf4 : Hf4 Dd = none := (g2.trans g4).nofr hd1 hd2
   have rp4 := rp.mono (g2.trans g4).ext
   cases b with
   | false =>
    rw [if_neg Bool.false_ne_true] at ec
    refine aJ3 ?_
    exact ⟨ds.length - (i + 1), by omega, rfl, hlt, Hf4, ρ1, o1, o2, gr4, hd4, hf4, sl3.grow g4, rp4, by omega, ec, eo⟩
   | true =>
    rw [if_pos rfl] at ec
    refine aJ2 ?_
    obtain ⟨y, c3, ec⟩ := xbm ec
    obtain ⟨o3, c4, rfl⟩ := Option.map_eq_some_iff.mp ec
    refine ⟨ρ1, y, c3, _, Hf4, g4.sub, sl3.grow g4, fun v H5 Hf5 g5 r5 => ⟨g5.big _ _ hd4, ?_, ?_⟩⟩
    ·rw [rp.length, sizeLine_eq]; omega
    ·have hf5 : Hf5 Dd = none := g5.nofr hd4 hf4
     have gr5 := gr4.trans g5
     refine ⟨ds.length - (i + 1), by omega, rfl, hlt, Hf5, ρ1, o1 ++ [y], o3, ⟨fun b u q => ?_, fun b u q => ?_, gr5.ext, gr5.new⟩, G8, hf5, ?_, (rp4.mono g5.ext).append ⟨v, [], rfl, r5, rfl⟩, by simp; omega, c4, by simp [← eo]⟩
     ·rw [G9 (J3 q hD)]; exact gr5.big b u q
     ·rw [G9 (J3 q hf5)]; exact gr5.sub b u q
     ·have sl5 := (sl3.grow g4).grow g5
      refine ⟨sl5.len, fun j bb q => ?_, sl5.apart⟩
      obtain ⟨w, q1, q2⟩ := sl5.is j bb q
      refine ⟨w, q1, ?_⟩
      cases bb with
      | val d => exact q2
      | own dd =>
       obtain ⟨a, vs, z1, z2, z3, z4, z5⟩ := q2
       have ne : a ≠ Dd := fun z => by rw [z, G8] at z4; cases z4
       exact ⟨a, vs, z1, by rw [G9 ne]; exact z2, z3, z4, z5⟩
  ·left
   have : i = ds.length := by omega
   subst this
   rw [List.drop_length] at ec
   cases ec
   rw [List.append_nil] at eo
   subst eo
   exact ⟨Ys (Nat.le_refl _), k _ H' Hf' (g1.trans gr) ⟨Dd, ys, rfl, g1.big.free hD, hd1, hd2, rp⟩⟩
 ·cases e2
end
end G
namespace G
open PySem PySem.Spec PyProof.Rows L2
section
variable {X : Cx}
noncomputable def aC0 (N N' : List Str) (n : Nat) (caps : List Nat) (sc scope : Scope) : Bool :=
 (match scope.kind with | .function => true | _ => false) &&
 (scope.names.all fun y => (match y.2 with | .cell => false | .local => scope.names.lookup y.1 == some .local | .free => sc.names.lookup y.1 == some .cell || sc.names.lookup y.1 == some .free | _ => true)) &&
 (N'.length == n + caps.length) &&
 ((List.range caps.length).all fun i => match caps[i]? with
  | some j => (match N[j]? with | some x => N'[n + i]? == some x && scope.names.lookup x == some .free | none => false)
  | none => true)
theorem bA3 {N N' : List Str} {n : Nat} {caps : List Nat} {sc scope : Scope} (h : aC0 N N' n caps sc scope = true) (hN : X.N = N) (hS : X.env.scope = sc) : CompSc X N' n caps scope := by
 subst hN hS
 unfold aC0 at h
 simp only [Bool.and_eq_true, List.all_eq_true] at h
 obtain ⟨⟨⟨h1, h2⟩, h3⟩, h4⟩ := h
 refine ⟨?_, fun y hy e => ?_, fun y hy e => ?_, fun y hy e => ?_, by simpa using h3, fun i j e => ?_⟩
 ·cases q : scope.kind <;> rw [q] at h1 <;> first | rfl | cases h1
 ·have := h2 y hy
  rw [e] at this; cases this
 ·have := h2 y hy
  rw [e] at this; simpa using this
 ·have := h2 y hy
  rw [e] at this; simpa using this
 ·have hi : i < caps.length := (List.getElem?_eq_some_iff.mp e).1
  have := h4 i (by simpa using hi)
  rw [e] at this
  simp only at this
  cases q : X.N[j]? with
  | none => rw [q] at this; cases this
  | some x =>
   rw [q] at this
   simp only [Bool.and_eq_true] at this
   exact ⟨x, rfl, by simpa using this.1, by simpa using this.2⟩
theorem bq6 {N' : List Str} {n : Nat} {caps : List Nat} {scope : Scope} {pins : List (Addr × Obj)} {σ : L2.St} {H : Hp} {s : Shared} (S : CompSc X N' n caps scope) (I : Inv X pins σ H s) : closureFor scope X.env = pure (T9 X.env.cells scope.names []) :=
 ce0 fun y hy e => I.ok.has y.1 (S.free y hy e)
theorem cb1 {N' : List Str} {n : Nat} {caps : List Nat} {scope : Scope} {elt tgt iter : Expr} {ifs : List Expr} {pos : Pos} {src : Rho → Option (List D)} {g : D → Rho → Option Rho} {c : Rho → Option Bool} {e : DE} (S : CompSc X N' n caps scope) (hx : ∀ e s, X.xe e s → False)
  (hi : JI X tgt iter src) (hg : ∀ C s0 H0 ex, JG (M0 X N' scope C s0 H0 ex) tgt g) (ht : ∀ C s0 H0 ex, JTs (M0 X N' scope C s0 H0 ex) ifs c) (he : ∀ C s0 H0 ex, JE (M0 X N' scope C s0 H0 ex) elt e)
  (hc : X.calm = true := by rfl) (hs : ∀ x, foldedSetIterable iter X.env x = pure x := by intro _; rfl) : JN X (.ListComp elt [⟨tgt, iter, ifs, 0⟩] scope pos) (D6 n caps src g c e) := by
 intro ρ out h
 obtain ⟨ds, e1, k⟩ := ap3 (K := X.K) h
 intro pins s σ H Q I t
 rw [eval_ListComp]
 refine wpAny_comprehension_free (use := none) rfl hs (bq6 S I) S.kind S.loc (ba5 (RR := fun acc C => compPost (model X.prog X.w) X.A X.xe none (EP X pins σ Q) acc C) S hx hc (hi ρ ds e1) (g := tgJ X.K g) (tc := aL3 X.K c) (te := bm0 X.K e) hg ht (fun C s0 H0 ex pins s σ H Q I ⟨ρ, d, e, t⟩ => he C s0 H0 ex ρ d e pins s σ H Q I t) I (k σ H Q t) ?_)
 intro Dd C r s' hr ⟨m, hn, kk⟩ _
 subst hr
 exact ⟨m, hn, fun h' sb => let ⟨H', I', q⟩ := kk h' sb; ⟨.ref Dd, H', I', rfl, q⟩⟩
theorem aE7 {N' : List Str} {n : Nat} {caps : List Nat} {scope : Scope} {elt tgt iter : Expr} {ifs : List Expr} {pos pos' spos : Pos} {i : Nat} {x : Str} {wi : TI} {g : TG} {tc : TT} {te : TE} (S : CompSc X N' n caps scope) (hx : ∀ e s, X.xe e s → False) (hc : X.calm = true)
  (hN : X.N.Nodup) (hi : X.N[i]? = some x) (hl : X.env.scope.names.lookup x = some .local) (hsrc : PI X tgt iter wi) (hg : ∀ C s0 H0 ex, PG (M0 X N' scope C s0 H0 ex) tgt g) (ht : ∀ C s0 H0 ex, PTs (M0 X N' scope C s0 H0 ex) ifs tc) (he : ∀ C s0 H0 ex, PE (M0 X N' scope C s0 H0 ex) elt te)
  (hsw : swapsWith (.ListComp elt [⟨tgt, iter, ifs, 0⟩] scope pos) (some (.Name x pos')) spos.line X.env = pure true) (hs : ∀ x, foldedSetIterable iter X.env x = pure x) :
  PS X (.Assign [.Name x pos'] (.ListComp elt [⟨tgt, iter, ifs, 0⟩] scope pos) spos) (fun En σ H => bF0 n caps wi g tc te σ H fun v H' => En.nx (σ.set i (some v)) H') := by
 intro pins s σ H En I h
 rw [exec_Assign_Name_used _ _ _ _ hsw]
 refine wpAny_bind (wpAny_standAt (wpAny_bind ?_))
 show wpAny _ X.A (do let _ ← comprehension (.ListComp elt [⟨tgt, iter, ifs, 0⟩] scope pos) scope X.env _ (newList []) false (eval iter X.env) (some (assign (.Name x pos') X.env))) _ _ s
 refine wpAny_bind (wpAny_mono (wpAny_comprehension_free (use := some (assign (.Name x pos') X.env)) (Q := fun _ s' => SP X pins En .next s') rfl hs (bq6 S I) S.kind S.loc
  (ba5 (RR := fun acc C => compPost (model X.prog X.w) X.A X.xe (some (assign (.Name x pos') X.env)) (fun _ s' => SP X pins En .next s') acc C) S hx hc hsrc hg ht he I h ?_)) (fun _ s' hq => wpAny_pure (wpAny_pure hq)) fun _ _ z => z)
 intro Dd C r s' hr _ ⟨s2, fp, σ', H2, H', eC, I2, f2, I', q⟩
 subst hr eC
 have IX : Inv X pins σ H' s' := aM8 (h' := s'.heap) I2 f2 I' (Heap.SameBut.refl ..)
 obtain ⟨mC, hnC, _⟩ := I'.loc
 have hCL : s2.heap.objs.size ≠ X.env.locals := fun z => by
  have := I2.lt
  rw [← z] at this
  exact Nat.lt_irrefl _ this
 show wpAny _ X.A (assign (.Name x pos') X.env (.ref Dd)) _ _ _
 refine wpAny_assign_Name (aL5 (v := .ref Dd) IX hN hi (.inl hl) rfl (fun s3 I3 ⟨a, sb, ha⟩ => ?_) (.inr hl))
 have hCa : s2.heap.objs.size ≠ a := fun z => by
  rcases ha with ha | ha
  ·exact hCL (z.trans ha)
  ·obtain ⟨v, q'⟩ := I2.cell x a ha
   have := q'.lt
   rw [← z] at this
   exact Nat.lt_irrefl _ this
 refine ⟨mC, hnC.sameBut sb hCa, fun h' sb' => ?_⟩
 refine ⟨_, H', I3.turned (t' := s3.toks) (it := s2.heap.objs.size) (fun b o hb e => sb'.extBut b o hb e) I'.free hCL (.inr I2.sz) (fun y c e z => ?_) (fun p hp z => ?_), q⟩
 ·obtain ⟨v, q'⟩ := I2.cell y c e
  have := q'.lt
  rw [z] at this
  exact Nat.lt_irrefl _ this
 ·have := Heap.lt_size (I2.pin p hp).1
  rw [z] at this
  exact Nat.lt_irrefl _ this
noncomputable def N5 (i : Nat) (f : Rho → Option (List D)) : DS := fun ρ => (f ρ).map fun ds => .nx (ρ.set i (some (.val (.list ds))))
theorem ca6 (i : Nat) {N' : List Str} {n : Nat} {caps : List Nat} {scope : Scope} {elt tgt iter : Expr} {ifs : List Expr} {pos pos' spos : Pos} {x : Str} {src : Rho → Option (List D)} {g : D → Rho → Option Rho} {c : Rho → Option Bool} {e : DE} (hN : X.N.Nodup) (S : CompSc X N' n caps scope) (hx : ∀ e s, X.xe e s → False)
  (hi : JI X tgt iter src) (hg : ∀ C s0 H0 ex, JG (M0 X N' scope C s0 H0 ex) tgt g) (ht : ∀ C s0 H0 ex, JTs (M0 X N' scope C s0 H0 ex) ifs c) (he : ∀ C s0 H0 ex, JE (M0 X N' scope C s0 H0 ex) elt e)
  (hi2 : X.N[i]? = some x := by rfl) (hl : X.env.scope.names.lookup x = some .local := by rfl) (hsw : swapsWith (.ListComp elt [⟨tgt, iter, ifs, 0⟩] scope pos) (some (.Name x pos')) spos.line X.env = pure true := by rfl)
  (hc : X.calm = true := by rfl) (hs : ∀ x, foldedSetIterable iter X.env x = pure x := by intro _; rfl) : JS X (.Assign [.Name x pos'] (.ListComp elt [⟨tgt, iter, ifs, 0⟩] scope pos) spos) (N5 i (D6 n caps src g c e)) := fun ρ fl q H0 Hf0 => by
 obtain ⟨out, e1, e2⟩ := Option.map_eq_some_iff.mp q
 subst e2
 obtain ⟨ds, e3, k⟩ := ap3 (K := X.K) e1
 refine R4 (aE7 S hx hc hN hi2 hl (hi ρ ds e3) (g := tgJ X.K g) (tc := aL3 X.K c) (te := bm0 X.K e) hg ht (fun C s0 H0 ex pins s σ H Q I ⟨ρ, d, e, t⟩ => he C s0 H0 ex ρ d e pins s σ H Q I t) hsw hs) fun En σ H ⟨Hf, a, ee⟩ => k σ H _ ⟨H0, Hf, a.gr.sub, a.sl, fun v H' Hf' gg ⟨p, vs, z1, z2, z3, z4, z5⟩ => ?_⟩
 subst z1
 have g2 := gg.freeze z3 z4 z2
 exact ee _ H' _ ⟨a.gr.trans g2, (a.sl.grow g2).set ⟨p, vs, rfl, SqL.of G8, z5.mono (L1 z4)⟩⟩ g2.ext
theorem cv2 {i j : Nat} {x y : Str} {a b : Expr} {f : Rho → Option (List D)} {px py pt : Pos} {kt k2 pt2} {pos : Pos} (hN : X.N.Nodup) (ha : JA X [a, b] f) (hw : swappedStores [.Tuple [.Name x px, .Name y py] kt pt] (.Tuple [a, b] k2 pt2) X.env = pure (some [x, y])) (hij : i ≠ j)
  (hi : X.N[i]? = some x := by rfl) (hj : X.N[j]? = some y := by rfl) (hx : X.env.scope.names.lookup x = some .local := by rfl) (hy : X.env.scope.names.lookup y = some .local := by rfl) (hc : X.calm = true := by rfl)
  (hs : swapsWithSole [.Tuple [.Name x px, .Name y py] kt pt] (.Tuple [a, b] k2 pt2) pos.line X.env = pure false := by rfl) : JS X (.Assign [.Tuple [.Name x px, .Name y py] kt pt] (.Tuple [a, b] k2 pt2) pos) (bG0 i j f) := fun ρ fl q H0 Hf0 => by
 obtain ⟨ds, e1, e2⟩ := xbm q
 split at e2
 ·cases e2
  refine R4 (cp8 hc hN hi hj hij hx hy (fun pos pins s σ H Q I t => ha.run ρ _ e1 pos pins s σ H Q I t) hw hs) fun En σ H ⟨Hf, at', e⟩ => ⟨H0, Hf, at'.gr.sub, at'.sl, fun vs H' Hf' gg rp => ?_⟩
  obtain ⟨v, r, rfl, r1, w, r', rfl, r2, r3⟩ := rp
  cases r3
  exact ⟨v, w, rfl, e _ H' Hf' ⟨at'.gr.trans gg, ((at'.sl.grow gg).set r1).set r2⟩ gg.ext⟩
 ·cases e2
noncomputable def V9 (f : DE) (g : D → Rho → Option Rho) : DS := fun ρ => (f ρ).bind fun d => (g d ρ).map Fl.nx
theorem bL7 {tg e : Expr} {f : DE} {g : D → Rho → Option Rho} {pos : Pos} (he : JE X e f) (hg : JG X tg g) (hs : swapsWithSole [tg] e pos.line X.env = pure false := by rfl) (hw : swappedStores [tg] e X.env = pure none := by rfl)
  (h1 : (assignEach [tg] X.env).map (·.2) = [assign tg X.env] := by rfl) : JS X (.Assign [tg] e pos) (V9 f g) := fun ρ fl q H0 Hf0 => by
 obtain ⟨d, e1, e2⟩ := xbm q
 obtain ⟨ρ', e3, e4⟩ := Option.map_eq_some_iff.mp e2
 subst e4
 exact R4 (cq0 (he ρ d e1) hg hs hw h1) fun En σ H ⟨Hf, a, ee⟩ => ⟨H0, Hf, a.gr.sub, a.sl, fun v H' Hf' gg r => ⟨d, ρ, ρ', H0, Hf', e3, gg.sub, a.sl.grow gg, r, fun σ' sl' => ee σ' H' Hf' ⟨a.gr.trans gg, sl'⟩ gg.ext⟩⟩
noncomputable def X3 (i : Nat) (f : Rho → Option (List D)) : DS := fun ρ => (f ρ).map fun ds => .nx (ρ.set i (some (.own ds)))
theorem Slots.setOwn {K : PySem.W.Frag} {H0 H H' Hf Hf' : Hp} {ρ : Rho} {σ : L2.St} {i : Nat} {ds : List D} {a : Addr} {vs : List V} (s : Slots K H0 ρ σ H Hf) (g : Grow H Hf H' Hf') (n0 : H0 a = none) (n : H a = none) (h : H' a = some (.lst vs)) (nf : Hf' a = none) (r : Reps K Hf' ds vs) :
  Slots K H0 (ρ.set i (some (.own ds))) (σ.set i (some (.ref a))) H' Hf' := by
 have s' := s.grow g
 have old : ∀ (j : Nat) (es : List D), i ≠ j → ρ[j]? = some (some (.own es)) → σ[j]? ≠ some (some (.ref a)) := fun j es hj e z => by
  obtain ⟨v, h1, b, us, e1, h2, _⟩ := s.is j _ e
  rw [z] at h1; cases h1; cases e1
  rw [n] at h2; cases h2
 refine ⟨by simp [s.len], fun j b e => ?_, fun j k ds1 es b h1 h2 h3 h4 => ?_⟩
 ·by_cases q : i = j
  ·subst q
   have hi : i < ρ.length := by simpa using (List.getElem?_eq_some_iff.mp e).1
   have hi' : i < σ.length := by rw [← s.len]; exact hi
   rw [List.getElem?_set_self hi] at e
   cases e
   exact ⟨_, List.getElem?_set_self hi', a, vs, rfl, h, nf, n0, r⟩
  ·rw [List.getElem?_set_ne q] at e
   obtain ⟨u, h1, h2⟩ := s'.is j b e
   exact ⟨u, by rw [List.getElem?_set_ne q]; exact h1, h2⟩
 ·by_cases qj : i = j
  ·by_cases qk : i = k
   ·rw [← qj, ← qk]
   ·subst qj
    have hi : i < ρ.length := by simpa using (List.getElem?_eq_some_iff.mp h1).1
    rw [List.getElem?_set_self (by rw [← s.len]; exact hi)] at h3
    rw [List.getElem?_set_ne qk] at h2 h4
    cases h3
    exact (old k es qk h2 h4).elim
  ·rw [List.getElem?_set_ne qj] at h1 h3
   by_cases qk : i = k
   ·subst qk
    have hi : i < ρ.length := by simpa using (List.getElem?_eq_some_iff.mp h2).1
    rw [List.getElem?_set_self (by rw [← s.len]; exact hi)] at h4
    cases h4
    exact (old j ds1 qj h1 h3).elim
   ·rw [List.getElem?_set_ne qk] at h2 h4
    exact s.apart j k ds1 es b h1 h2 h3 h4
theorem cv3 (i : Nat) {x : Str} {e : Expr} {f : Rho → Option (List D)} {pos pos' : Pos} (hN : X.N.Nodup) (h : JN X e f) (hi : X.N[i]? = some x := by rfl) (hx : Loc X.env.scope x := by first | exact Or.inl rfl | exact Or.inr rfl)
  (hs : swapsWith e (some (.Name x pos')) pos.line X.env = pure false := by rfl) (hf : X.fn x = true ∨ X.env.scope.names.lookup x = some .local := by first | exact .inl rfl | exact .inr rfl) : JS X (.Assign [.Name x pos'] e pos) (X3 i f) := fun ρ fl q H0 Hf0 => by
 obtain ⟨ds, e1, e2⟩ := Option.map_eq_some_iff.mp q
 subst e2
 refine R4 (bG8 hN hi hx (h ρ ds e1) hs hf) fun En σ H ⟨Hf, a, e⟩ => ⟨H0, Hf, a.gr.sub, a.sl, fun v H' Hf' g ⟨p, vs, z1, z2, z3, z4, z5⟩ => ?_⟩
 subst z1
 exact e _ H' Hf' ⟨a.gr.trans g, a.sl.setOwn g (a.gr.big.free z2) z2 z3 z4 z5⟩ g.ext
noncomputable def R3 (i : Nat) (f : DE) : DS := fun ρ => match ρ[i]? with
 | some (some (.own ds)) => if ds.length < 16777216 then (f ρ).map fun d => .nx (ρ.set i (some (.own (ds ++ [d])))) else none
 | _ => none
theorem cv8 (i : Nat) {x : Str} {e : Expr} {f : DE} {p apos cpos pos : Pos} (h : JE X e f) (hN : X.N[i]? = some x := by rfl) (hv : Vis X.env.scope x := by first | exact Or.inl rfl | exact Or.inr (Or.inl rfl) | exact Or.inr (Or.inr rfl)) (hd : (x == ("__debug__" : Str)) = false := by decide)
  (hcd : (x == ("__classdict__" : Str)) = false := by decide) (hbase : attributeBase (.Name x p) "append" X.env (eval (.Name x p) X.env) = eval (.Name x p) X.env := by rfl)
  (hfew : ((backTo cpos (starEach [e] X.env)).all (fun x => !x.1) && (backToKw cpos (keywordEach [] X.env)).all (fun x => x.1.isSome)
   && decide (([e] : List Expr).length + ([] : List Keyword).length + (if ([] : List Keyword).isEmpty then 0 else 1) < 30)) = true := by rfl)
  (hline : (apos.endLine == cpos.line) = true := by rfl) (hs : starEach [e] X.env = [(false, eval e X.env)] := by rfl) (hsw : swapsWith (.Call (.Attribute (.Name x p) "append" apos) [e] [] cpos) none pos.line X.env = pure false := by rfl) :
  JS X (.Expr (.Call (.Attribute (.Name x p) "append" apos) [e] [] cpos) pos) (R3 i f) := fun ρ fl q H0 Hf0 => by
 unfold R3 at q
 split at q
 ·rename_i ds eo
  split at q
  ·rename_i hz
   obtain ⟨d, e1, e2⟩ := Option.map_eq_some_iff.mp q
   subst e2
   refine R4 (aQ4 (bn4 PySem.F.plainAttrs_list PySem.F.slot_list_append PySem.F.type_list_append aM0 (ao3 hN hv hd hcd) (K4 (h ρ d e1) N8 hs) hbase hfew hline hs) hsw) fun En σ H ⟨Hf, a, ee⟩ => ?_
   obtain ⟨v, h1, b, vs, rfl, h2, h3, h4, h5⟩ := a.sl.is i _ eo
   refine ⟨_, h1, .inl ⟨rfl, vs, SqL.of h2⟩, H0, Hf, a.gr.sub, a.sl, fun w H' Hf' gg r => ?_⟩
   have hb : H' b = some (.lst vs) := gg.big _ _ h2
   have hfb : Hf' b = none := gg.nofr h2 h3
   have g2 := a.gr.trans gg
   have sl2 := a.sl.grow gg
   refine ⟨b, vs, w, rfl, rfl, hb, by rw [h5.length, sizeLine_eq]; exact hz, ee _ _ Hf' ⟨⟨fun c u z => ?_, fun c u z => ?_, g2.ext, g2.new⟩, ?_⟩ gg.ext⟩
   ·rw [G9 (J3 z h4)]; exact g2.big c u z
   ·rw [G9 (J3 z hfb)]; exact g2.sub c u z
   ·refine ⟨by simpa using sl2.len, fun j bb z => ?_, fun j k ds1 es c q1 q2 q3 q4 => ?_⟩
    ·by_cases qj : i = j
     ·subst qj
      have hi : i < ρ.length := (List.getElem?_eq_some_iff.mp eo).1
      rw [List.getElem?_set_self hi] at z
      cases z
      exact ⟨_, h1, b, vs ++ [w], rfl, G8, hfb, h4, (h5.mono gg.ext).append ⟨w, [], rfl, r, rfl⟩⟩
     ·rw [List.getElem?_set_ne qj] at z
      obtain ⟨u, z1, z2⟩ := sl2.is j bb z
      refine ⟨u, z1, ?_⟩
      cases bb with
      | val d => exact z2
      | own dd =>
       obtain ⟨a', vs', y1, y2, y3, y4, y5⟩ := z2
       have ne : a' ≠ b := fun zz => by
        subst zz y1
        exact qj (a.sl.apart i j ds dd a' eo z h1 z1)
       exact ⟨a', vs', y1, by rw [G9 ne]; exact y2, y3, y4, y5⟩
    ·have q1' : ∃ dd, ρ[j]? = some (some (.own dd)) := by
      by_cases qj : i = j
      ·subst qj; exact ⟨ds, eo⟩
      ·rw [List.getElem?_set_ne qj] at q1; exact ⟨_, q1⟩
     have q2' : ∃ dd, ρ[k]? = some (some (.own dd)) := by
      by_cases qj : i = k
      ·subst qj; exact ⟨ds, eo⟩
      ·rw [List.getElem?_set_ne qj] at q2; exact ⟨_, q2⟩
     obtain ⟨d1, q1'⟩ := q1'
     obtain ⟨d2, q2'⟩ := q2'
     exact a.sl.apart j k d1 d2 c q1' q2' q3 q4
  ·cases q
 ·cases q
noncomputable def frz (i : Nat) (ρ : Rho) : Rho := match ρ[i]? with
 | some (some (.own ds)) => ρ.set i (some (.val (.list ds)))
 | _ => ρ
theorem cz0 {K : PySem.W.Frag} {H0 Hf0 H Hf : Hp} {ρ : Rho} {σ : L2.St} (i : Nat) (a : At K H0 Hf0 ρ σ H Hf) : ∃ Hf', M6 Hf Hf' ∧ At K H0 Hf0 (frz i ρ) σ H Hf' := by
 unfold frz
 split
 ·rename_i ds eo
  obtain ⟨v, h1, b, vs, rfl, h2, h3, h4, h5⟩ := a.sl.is i _ eo
  have g : Grow H0 Hf0 H (upd Hf b (.lst vs)) := a.gr.freeze h2 h3 h4
  refine ⟨upd Hf b (.lst vs), L1 h3, g, ⟨by simpa using a.sl.len, fun j bb z => ?_, fun j k ds1 es c q1 q2 q3 q4 => ?_⟩⟩
  ·have hi : i < ρ.length := (List.getElem?_eq_some_iff.mp eo).1
   by_cases qj : i = j
   ·subst qj
    rw [List.getElem?_set_self hi] at z
    cases z
    exact ⟨_, h1, b, vs, rfl, SqL.of G8, h5.mono (L1 h3)⟩
   ·rw [List.getElem?_set_ne qj] at z
    obtain ⟨u, z1, z2⟩ := a.sl.is j bb z
    refine ⟨u, z1, ?_⟩
    cases bb with
    | val d => exact Rep.mono (L1 h3) z2
    | own dd =>
     obtain ⟨a', vs', y1, y2, y3, y4, y5⟩ := z2
     have ne : a' ≠ b := fun zz => by
      subst zz y1
      exact qj (a.sl.apart i j ds dd a' eo z h1 z1)
     exact ⟨a', vs', y1, y2, by rw [G9 ne]; exact y3, y4, y5.mono (L1 h3)⟩
  ·have hi : i < ρ.length := (List.getElem?_eq_some_iff.mp eo).1
   have qj : i ≠ j := fun z => by subst z; rw [List.getElem?_set_self hi] at q1; cases q1
   have qk : i ≠ k := fun z => by subst z; rw [List.getElem?_set_self hi] at q2; cases q2
   rw [List.getElem?_set_ne qj] at q1
   rw [List.getElem?_set_ne qk] at q2
   exact a.sl.apart j k ds1 es c q1 q2 q3 q4
 ·exact ⟨Hf, M6.refl _, a⟩
noncomputable def aw6 (i : Nat) (f : DS) : DS := fun ρ => f (frz i ρ)
theorem cv4 (i : Nat) {st : Stmt} {f : DS} (h : JS X st f) : JS X st (aw6 i f) := fun ρ fl q H0 Hf0 => R4 (h (frz i ρ) fl q H0 Hf0) fun En σ H ⟨Hf, a, e⟩ => by
 obtain ⟨Hf', s, a'⟩ := cz0 i a
 exact ⟨Hf', a', Fl.ends_mono e s⟩
noncomputable def cC6 (K : PySem.W.Frag) (H0 Hf0 : Hp) (f : DS) : TS := fun En σ H => ∃ ρ fl, f ρ = some fl ∧ tJS K H0 Hf0 ρ fl En σ H
theorem bn0 {sts : List Stmt} {f : DS} {H0 Hf0 : Hp} (h : JSs X sts f) : PSs X sts (cC6 X.K H0 Hf0 f) := fun pins s σ H En I ⟨ρ, fl, e, t⟩ => h ρ fl e H0 Hf0 pins s σ H En I t
theorem cp6 {e : Expr} {c : Rho → Option Bool} (h : JT X e c) : PT X e (aL3 X.K c) := fun pins s σ H Q I ⟨ρ, b, e, t⟩ => h ρ b e pins s σ H Q I t
noncomputable def Z4 (t : Rho → Option Bool) (f : DS) : Nat → DS
 | 0 => fun _ => none
 | n + 1 => fun ρ => (t ρ).bind fun c => if c then (f ρ).bind fun fl => match fl with
   | .nx ρ' => Z4 t f n ρ'
   | .ct ρ' => Z4 t f n ρ'
   | .bk ρ' => some (.nx ρ')
   | .rt d => some (.rt d)
  else some (.nx ρ)
theorem ao9 {t : Rho → Option Bool} {f : DS} : ∀ {n : Nat} {ρ : Rho} {fl : Fl}, Z4 t f n ρ = some fl → Z4 t f (n + 1) ρ = some fl
 | 0, _, _, h => by cases h
 | n + 1, ρ, fl, h => by
  obtain ⟨c, e1, h⟩ := xbm h
  show (t ρ).bind _ = _
  rw [e1]
  cases c with
  | false => exact h
  | true =>
   obtain ⟨fl1, e2, h⟩ := xbm h
   show (f ρ).bind _ = _
   rw [e2]
   cases fl1 with
   | nx ρ' => exact ao9 (n := n) h
   | ct ρ' => exact ao9 (n := n) h
   | bk ρ' => exact h
   | rt d => exact h
theorem aY7 {t : Rho → Option Bool} {f : DS} {n m : Nat} {ρ : Rho} {fl : Fl} (h : Z4 t f n ρ = some fl) (l : n ≤ m) : Z4 t f m ρ = some fl := by
 induction l with
 | refl => exact h
 | step _ ih => exact ao9 ih
open Classical in
noncomputable def ac4 (t : Rho → Option Bool) (f : DS) : DS := fun ρ => if h : ∃ fl n, Z4 t f n ρ = some fl then some h.choose else none
theorem aL6 {t : Rho → Option Bool} {f : DS} {n : Nat} {ρ : Rho} {fl : Fl} (h : Z4 t f n ρ = some fl) : ac4 t f ρ = some fl := by
 have hx : ∃ fl n, Z4 t f n ρ = some fl := ⟨fl, n, h⟩
 unfold ac4
 rw [dif_pos hx]
 obtain ⟨m, hm⟩ := hx.choose_spec
 have h1 := aY7 h (Nat.le_max_left n m)
 have h2 := aY7 hm (Nat.le_max_right n m)
 rw [h1] at h2
 exact h2.symm
theorem bu2 {t : Rho → Option Bool} {f : DS} {ρ : Rho} {fl : Fl} (h : ac4 t f ρ = some fl) : ∃ n, Z4 t f n ρ = some fl := by
 unfold ac4 at h
 split at h
 ·rename_i hx
  cases h
  exact hx.choose_spec
 ·cases h
theorem bL5 {c : Expr} {body : List Stmt} {t : Rho → Option Bool} {f : DS} {pos : Pos} (hc : JT X c t) (hb : JSs X body f) (hp : PassesOwn (model X.prog X.w) X.A X.env X.xe := by exact PassesOwn.never) : JS X (.While c body [] pos) (ac4 t f) := fun ρ fl q H0 Hf0 => by
 obtain ⟨n, hn⟩ := bu2 q
 refine R4 (bG7 hp (cp6 hc) (bn0 (H0 := H0) (Hf0 := Hf0) hb)) fun En σ H ⟨Hf, a, e⟩ => ?_
 refine ⟨fun m σ H => ∃ Hf' ρ', At X.K H0 Hf0 ρ' σ H Hf' ∧ M6 Hf Hf' ∧ Z4 t f m ρ' = some fl, ⟨n, Hf, ρ, a, M6.refl _, hn⟩, ?_⟩
 rintro m σ' H' ⟨Hf', ρ', a', s', hm⟩
 cases m with
 | zero => cases hm
 | succ m =>
  obtain ⟨b, e1, hm⟩ := xbm hm
  refine ⟨ρ', b, e1, H0, Hf', a'.gr.sub, a'.sl, fun H2 Hf2 g2 => ?_⟩
  have a2 := a'.grow g2
  have s2 := s'.trans g2.ext
  cases b with
  | false =>
   have : fl = .nx ρ' := by simpa using hm.symm
   subst this
   exact aJ3 (e σ' H2 Hf2 a2 s2)
  | true =>
   obtain ⟨fl1, e2, hm⟩ := xbm (show (f ρ').bind _ = some fl from hm)
   refine aJ2 ⟨fun σ3 H3 => ∃ m', m' < m + 1 ∧ ∃ Hf' ρ', At X.K H0 Hf0 ρ' σ3 H3 Hf' ∧ M6 Hf Hf' ∧ Z4 t f m' ρ' = some fl, fun σ3 H3 z => z, ρ', fl1, e2, Hf2, a2, ?_⟩
   cases fl1 with
   | nx ρ3 => exact fun σ3 H3 Hf3 a3 s3 => ⟨m, Nat.lt_succ_self _, Hf3, ρ3, a3, s2.trans s3, hm⟩
   | ct ρ3 => exact fun σ3 H3 Hf3 a3 s3 => ⟨m, Nat.lt_succ_self _, Hf3, ρ3, a3, s2.trans s3, hm⟩
   | bk ρ3 =>
    cases hm
    exact fun σ3 H3 Hf3 a3 s3 => e σ3 H3 Hf3 a3 (s2.trans s3)
   | rt d =>
    cases hm
    exact e
noncomputable def X6 (g : D → Rho → Option Rho) (f : DS) : List D → DS
 | [] => fun ρ => some (.nx ρ)
 | d :: ds => fun ρ => (g d ρ).bind fun ρ1 => (f ρ1).bind fun fl => match fl with
   | .nx ρ' => X6 g f ds ρ'
   | .ct ρ' => X6 g f ds ρ'
   | .bk ρ' => some (.nx ρ')
   | .rt d => some (.rt d)
noncomputable def P8 (src : Rho → Option (List D)) (g : D → Rho → Option Rho) (f : DS) : DS := fun ρ => (src ρ).bind fun ds => X6 g f ds ρ
theorem cv5 {tg iter : Expr} {body : List Stmt} {src : Rho → Option (List D)} {g : D → Rho → Option Rho} {f : DS} {pos : Pos} (hi : JI X tg iter src) (hg : JG X tg g) (hb : JSs X body f) (hp : PassesOwn (model X.prog X.w) X.A X.env X.xe := by exact PassesOwn.never) (hc : X.calm = true := by rfl)
  (hs : ∀ x, foldedSetIterable iter X.env x = pure x := by intro _; rfl) : JS X (.For tg iter body [] pos) (P8 src g f) := fun ρ fl q H0 Hf0 => by
 obtain ⟨ds, e1, e2⟩ := xbm q
 refine R4 (cp9 hp hc (hi ρ ds e1) hg (bn0 (H0 := H0) (Hf0 := Hf0) hb) hs) fun En σ H ⟨Hf, a, e⟩ => ⟨H0, Hf, a.gr.sub, a.sl, fun J H1 Hf1 g1 Y => ?_⟩
 refine ⟨fun i m σ H => m = ds.length - i ∧ i ≤ ds.length ∧ ∃ Hf' ρ', At X.K H0 Hf0 ρ' σ H Hf' ∧ M6 Hf1 Hf' ∧ X6 g f (ds.drop i) ρ' = some fl, ⟨ds.length, by simp, Nat.zero_le _, Hf1, ρ, a.grow g1, M6.refl _, by simpa using e2⟩, ?_⟩
 rintro i m σ' H' ⟨rfl, hi, Hf', ρ', a', s', hm⟩
 obtain ⟨Ys, Yg⟩ := Y i H' Hf' s' a'.gr.sub
 rcases Nat.lt_or_ge i ds.length with hlt | hge
 ·right
  obtain ⟨go, yl⟩ := Yg ds[i] (by simp [hlt])
  rw [List.drop_eq_getElem_cons hlt] at hm
  obtain ⟨ρ1, c1, hm⟩ := xbm hm
  obtain ⟨fl1, c2, hm⟩ := xbm hm
  refine ⟨go, fun σ3 H3 => ∃ m', m' < ds.length - i ∧ m' = ds.length - (i + 1) ∧ i + 1 ≤ ds.length ∧ ∃ Hf' ρ', At X.K H0 Hf0 ρ' σ3 H3 Hf' ∧ M6 Hf1 Hf' ∧ X6 g f (ds.drop (i + 1)) ρ' = some fl, fun σ3 H3 ⟨m', z1, z2⟩ => ⟨m', z1, z2⟩, fun x H2 hy => ?_⟩
  obtain ⟨Hf2, g2, r2⟩ := yl x H2 hy
  have a2 := a'.grow g2
  refine ⟨ds[i], ρ', ρ1, H0, Hf2, c1, g2.sub, a2.sl, r2, fun σ3 sl3 => ⟨ρ1, fl1, c2, Hf2, ⟨a2.gr, sl3⟩, ?_⟩⟩
  have s2 := s'.trans g2.ext
  cases fl1 with
  | nx ρ3 => exact fun σ3 H3 Hf3 a3 s3 => ⟨_, by omega, rfl, hlt, Hf3, ρ3, a3, s2.trans s3, hm⟩
  | ct ρ3 => exact fun σ3 H3 Hf3 a3 s3 => ⟨_, by omega, rfl, hlt, Hf3, ρ3, a3, s2.trans s3, hm⟩
  | bk ρ3 =>
   cases hm
   exact fun σ3 H3 Hf3 a3 s3 => e σ3 H3 Hf3 a3 (g1.ext.trans (s2.trans s3))
  | rt d =>
   cases hm
   exact e
 ·left
  have : i = ds.length := by omega
  subst this
  rw [List.drop_length] at hm
  cases hm
  exact ⟨Ys (Nat.le_refl _), e σ' H' Hf' a' (g1.ext.trans s')⟩
theorem ca3 {pos : Pos} : JS X (.Pass pos) J2 := fun ρ fl q H0 Hf0 => by
 cases q
 exact R4 bW3 fun En σ H ⟨Hf, a, e⟩ => e σ H Hf a (M6.refl _)
theorem cv7 {pos : Pos} : JS X (.Break pos) (fun ρ => some (.bk ρ)) := fun ρ fl q H0 Hf0 => by
 cases q
 exact R4 bG9 fun En σ H ⟨Hf, a, e⟩ => e σ H Hf a (M6.refl _)
end
noncomputable def au4 (n : Nat) (ds : List D) : Rho := ds.map (fun d => some (B.val d)) ++ List.replicate (n - ds.length) none
noncomputable def K2 (g : DS) (n : Nat) : List D → Option D := fun ds => (g (au4 n ds)).bind fun fl => match fl with
 | .rt d => some d
 | .nx _ => some .none
 | _ => none
theorem aV5 {K : PySem.W.Frag} {H0 H Hf : Hp} {N : List Str} {ds : List D} {vs : List V} (r : Reps K Hf ds vs) : Slots K H0 (au4 N.length ds) (L2.x8 N vs) H Hf := by
 have hl := r.length
 have noown : ∀ (i : Nat) (b : B), (au4 N.length ds)[i]? = some (some b) → ∃ d, ds[i]? = some d ∧ b = .val d := fun i b h => by
  unfold au4 at h
  rcases Nat.lt_or_ge i ds.length with q | q
  ·rw [List.getElem?_append_left (by simpa using q), List.getElem?_map] at h
   rw [List.getElem?_eq_getElem q] at h ⊢
   simp only [Option.map_some, Option.some.injEq] at h
   exact ⟨ds[i], rfl, h.symm⟩
  ·rw [List.getElem?_append_right (by simpa using q), List.getElem?_replicate] at h
   split at h <;> cases h
 refine ⟨by simp [au4, L2.x8, hl], fun i b e => ?_, fun i j d1 d2 a e1 _ _ _ => ?_⟩
 ·obtain ⟨d, h1, h2⟩ := noown i b e
  subst h2
  obtain ⟨v, h3, h4⟩ := r.get h1
  refine ⟨v, ?_, h4⟩
  have hi : i < vs.length := (List.getElem?_eq_some_iff.mp h3).1
  unfold L2.x8
  rw [List.getElem?_append_left (by simpa using hi), List.getElem?_map, h3]; rfl
 ·obtain ⟨d, _, h2⟩ := noown i _ e1
  cases h2
theorem cd0 {P : Program} {w : World} {K : PySem.W.Frag} {mg : Str → Option Value} {base : Heap} {x qual : Str} {st : Stmt} {f : Addr} {fd : FuncData} {N ps : List Str} {k : Nat} {g : DS} (F : Fun K x qual st f fd) (S : FnScope N ps (M9 st))
  (hb : ∀ (cdv : Value) (A : Around) (outer : List Env) (s : Shared) (H : Hp) (E : XK), Room k (A.deeper (envOfC qual (M9 st) s.heap.objs.size f cdv)) → JSs (bj2 CX0 P w K mg base N qual (M9 st) f cdv A outer s H E).nox (U7 st) g) :
  FnOk P w K mg base CX0 (k + 1) f fd ps (spF K ps.length (K2 g N.length)) := by
 refine F.ok S (fun vs H Q E h => h.1) fun cdv A outer s H vs Q E hr hsp => ?_
 obtain ⟨hlen, Hf, ds, d, ss, rp, e, kk⟩ := hsp
 obtain ⟨fl, e1, e2⟩ := xbm e
 refine ⟨_, hb cdv A outer s H E hr _ fl e1 H Hf, Hf, ⟨Grow.refl ss, aV5 rp⟩, ?_⟩
 cases fl with
 | rt d' => cases e2; exact fun v H' Hf' g r => kk v H' Hf' g r
 | nx ρ => cases e2; exact fun σ' H' Hf' a _ => kk _ H' Hf' a.gr rfl
 | bk ρ => cases e2
 | ct ρ => cases e2
end G
namespace G
open PySem PySem.Spec PyProof.Rows L2
noncomputable def SIt : Bool → Heap → Addr → Addr → Nat → Prop
 | true => Heap.IsTupleIter
 | false => Heap.IsListIter
noncomputable def SSq : Bool → Heap → Addr → Array Value → Prop
 | true => Heap.IsTuple
 | false => Heap.IsList
section
variable {prog : Program} {w : World} {A : Around} {E : Value → Shared → Prop} {s : Shared} {t t1 t2 : Bool}
theorem SIt.ext {h h' : Heap} {it l : Addr} {k : Nat} (x : SIt t h it l k) (e : ∀ o, h.get? it = some o → h'.get? it = some o) : SIt t h' it l k := by
 cases t with
 | true => obtain ⟨o, ho, r⟩ := x; exact ⟨o, e o ho, r⟩
 | false => obtain ⟨o, ho, r⟩ := x; exact ⟨o, e o ho, r⟩
theorem SSq.ext {h h' : Heap} {l : Addr} {xs : Array Value} (x : SSq t h l xs) (e : ∀ o, h.get? l = some o → h'.get? l = some o) : SSq t h' l xs := by
 cases t with
 | true => obtain ⟨o, ho, r⟩ := x; exact ⟨o, e o ho, r⟩
 | false => obtain ⟨o, ho, r⟩ := x; exact ⟨o, e o ho, r⟩
theorem SIt.lt {h : Heap} {it l : Addr} {k : Nat} (x : SIt t h it l k) : it < h.objs.size := by
 cases t with
 | true => obtain ⟨o, ho, _⟩ := x; exact Heap.lt_size ho
 | false => obtain ⟨o, ho, _⟩ := x; exact Heap.lt_size ho
theorem bd4 {it l : Addr} {k : Nat} {xs : Array Value} {x : Value} {Q : Value → Shared → Prop} (hit : s.heap.IsTupleIter it l k) (hl : s.heap.IsTuple l xs) (hx : xs[k]? = some x)
  (hQ : ∀ h', h'.IsTupleIter it l (k + 1) → Heap.SameBut it s.heap h' → Q x { s with heap := h' }) : wpAny (model prog w) A (Builtin.SmallTypes.nextOf (.ref it)) Q E s := by
 obtain ⟨o, ho, hc, hd⟩ := id hit; obtain ⟨ol, hol, _, nl, hdl⟩ := hl; unfold Builtin.SmallTypes.nextOf
 refine wpAny_bind (wpAny_callSpecial?_slot (name := Str.ofString "__next__") hit.typeIs F.slot_tuple_iterator_next (wpAny_call_entry F.slot_tuple_iterator_next hit.typeIs F.entry_tuple_iterator_next ?_ (F.args_tuple_iterator_next_1 _)))
 show wpAny _ _ (field (.ref it) 0 >>= _) _ _ s; refine wpAny_bind (wpAny_field ho hd (x := .ref l) rfl ?_); show wpAny _ _ (if (Value.ref l == Value.none) = true then _ else _) _ _ s
 rw [if_neg (show ¬ ((Value.ref l == Value.none) = true) from Bool.false_ne_true)]; show wpAny _ _ (field (.ref it) 1 >>= _) _ _ s
 refine wpAny_bind (wpAny_field ho hd (x := .int k 0) rfl ?_); show wpAny _ _ (seqItems? (.ref l) >>= _) _ _ s; refine wpAny_bind (wpAny_seqItems hol hdl ?_); simp only [Int.toNat_natCast, hx]
 refine wpAny_bind (wpAny_setField ho hd (by simp) (wpAny_pure ⟨x, rfl, wpAny_pure (hQ _ ⟨_, Heap.get?_update_self _ ho (Obj.isFreed_of_fields (Obj.data_mapFields hd _)), (Obj.cls_mapFields ..).trans hc, ?_⟩ (Heap.SameBut.update ..))⟩))
 rw [Obj.data_mapFields hd]; simp [rawInt]
theorem bs6 {it l : Addr} {k : Nat} {xs : Array Value} {Q : Value → Shared → Prop} (hh : A.handled = none) (hit : s.heap.IsTupleIter it l k) (hl : s.heap.IsTuple l xs) (hx : xs[k]? = none)
  (hE : ∀ h' e, Heap.ExtBut it s.heap h' → (∃ o, h'.get? e = some o ∧ o.cls = .type "StopIteration") → E (.ref e) { s with heap := h' }) : wpAny (model prog w) A (Builtin.SmallTypes.nextOf (.ref it)) Q E s := by
 obtain ⟨o, ho, hc, hd⟩ := id hit; obtain ⟨ol, hol, _, nl, hdl⟩ := hl; unfold Builtin.SmallTypes.nextOf
 refine wpAny_bind (wpAny_callSpecial?_slot (name := Str.ofString "__next__") hit.typeIs F.slot_tuple_iterator_next (wpAny_call_entry F.slot_tuple_iterator_next hit.typeIs F.entry_tuple_iterator_next ?_ (F.args_tuple_iterator_next_1 _)))
 show wpAny _ _ (field (.ref it) 0 >>= _) _ _ s; refine wpAny_bind (wpAny_field ho hd (x := .ref l) rfl ?_); show wpAny _ _ (if (Value.ref l == Value.none) = true then _ else _) _ _ s
 rw [if_neg (show ¬ ((Value.ref l == Value.none) = true) from Bool.false_ne_true)]; show wpAny _ _ (field (.ref it) 1 >>= _) _ _ s
 refine wpAny_bind (wpAny_field ho hd (x := .int k 0) rfl ?_); show wpAny _ _ (seqItems? (.ref l) >>= _) _ _ s; refine wpAny_bind (wpAny_seqItems hol hdl ?_); simp only [Int.toNat_natCast, hx]
 refine wpAny_bind (wpAny_rule (wpAny_bind (wpAny_setField ho hd (by simp) ?_))); show wpAny _ _ (newExc (.type "StopIteration") [] >>= _) _ _ _; refine wpAny_bind ?_; simp only [newExc, newTuple]
 refine wpAny_bind (wpAny_newObj_type ?_ (by size_fits)); refine wpAny_bind (m := firstArgMember _ _) (wpAny_of_eq (a := Value.none) (by first | rfl | (simp only [firstArgMember]; rfl)) ?_); refine wpAny_newObj_type ?_ (by size_fits)
 simp only [raiseNew]; refine wpAny_bind (wpAny_handled ?_); first | rw [show A.in1.handled = none from hh] | rw [hh]
 refine wpAny_bind (wpAny_pure (wpAny_throw ?_)); exact hE _ _ (((Heap.SameBut.update ..).extBut.push _).push _) ⟨_, Heap.get?_push_size _ rfl, rfl⟩
theorem aq0 {it l : Addr} {k : Nat} {xs : Array Value} {x : Value} {Q : Value → Shared → Prop} (hit : SIt t s.heap it l k) (hl : SSq t s.heap l xs) (hx : xs[k]? = some x)
  (hQ : ∀ h', SIt t h' it l (k + 1) → Heap.SameBut it s.heap h' → Q x { s with heap := h' }) : wpAny (model prog w) A (Builtin.SmallTypes.nextOf (.ref it)) Q E s := by
 cases t with
 | true => exact bd4 hit hl hx hQ
 | false => exact wpAny_nextOf_list_item hit hl hx hQ
theorem aA6 {it l : Addr} {k : Nat} {xs : Array Value} {Q : Value → Shared → Prop} (hh : A.handled = none) (hit : SIt t s.heap it l k) (hl : SSq t s.heap l xs) (hx : xs[k]? = none)
  (hE : ∀ h' e, Heap.ExtBut it s.heap h' → (∃ o, h'.get? e = some o ∧ o.cls = .type "StopIteration") → E (.ref e) { s with heap := h' }) : wpAny (model prog w) A (Builtin.SmallTypes.nextOf (.ref it)) Q E s := by
 cases t with
 | true => exact bs6 hh hit hl hx hE
 | false => exact wpAny_nextOf_list_end hh hit hl hx hE
theorem bs7 {z TI TO i1 i2 l1 l2 : Addr} {k1 k2 : Nat} {xs ys : Array Value} {x y a b : Value} {Q : Value → Shared → Prop} (Z : ZipApart z TI TO i1 i2 l1 l2)
  (hz : IsZip s.heap z TI TO .none) (hTI : IsPair s.heap TI (.ref i1) (.ref i2)) (hTO : IsPair s.heap TO a b) (h1 : SIt t1 s.heap i1 l1 k1) (h2 : SIt t2 s.heap i2 l2 k2) (hl1 : SSq t1 s.heap l1 xs) (hl2 : SSq t2 s.heap l2 ys) (hx : xs[k1]? = some x) (hy : ys[k2]? = some y)
  (hQ : ∀ h', IsZip h' z TI TO (rawInt s.heap.objs.size) → IsPair h' TO x y → SIt t1 h' i1 l1 (k1 + 1) → SIt t2 h' i2 l2 (k2 + 1) → IsPair h' s.heap.objs.size x y → h'.objs.size = s.heap.objs.size + 1 →
   (∀ c o, c ≠ z → c ≠ TO → c ≠ i1 → c ≠ i2 → s.heap.get? c = some o → h'.get? c = some o) → Q (.ref s.heap.objs.size) { s with heap := h' }) :
  wpAny (model prog w) A (Builtin.«zip.__next__» ⟨[.ref z], []⟩) (fun fin s' => ∃ v, fin = .done (.ret v) ∧ Q v s') E s := by
 show wpAny _ _ (field (.ref z) 2 >>= _) _ _ _; refine wpAny_bind (wpAny_field hz rfl (x := .bool false) rfl ?_); show wpAny _ _ (field (.ref z) 3 >>= _) _ _ _; refine wpAny_bind (wpAny_field hz rfl (x := .ref TI) rfl ?_)
 refine wpAny_bind (wpAny_seqItems hTI rfl ?_); show wpAny _ _ (Builtin.SmallTypes.ownedTupleIsFree (.ref z) >>= _) _ _ _; refine wpAny_bind ?_; unfold Builtin.SmallTypes.ownedTupleIsFree
 refine wpAny_bind (wpAny_field hz rfl (x := .none) rfl (wpAny_pure ?_)); simp only [if_true]; refine wpAny_bind (wpAny_rule ?_); refine wpAny_bind (wpAny_field hz rfl (x := .ref TO) rfl ?_)
 refine wpAny_bind (wpAny_setField_rec hz (by simp) fun ha za sa => ?_); have za' : IsZip ha z TI TO .ellipsis := za
 refine wpAny_bind ?_; simp only [List.zipIdx_cons, List.zipIdx_nil, List.forIn_cons, List.forIn_nil]; refine wpAny_bind (wpAny_bind (wpAny_onRaise ?_)); show wpAny _ _ (Builtin.SmallTypes.nextOf (.ref i1) >>= _) _ _ _
 refine wpAny_bind (aq0 (h1.ext fun o e => sa.extBut _ _ Z.i1z e) (hl1.ext fun o e => sa.extBut _ _ Z.l1z e) hx fun hb h1b sb => wpAny_pure ?_)
 have hTOb : IsPair hb TO a b := sb.extBut _ _ Z.TOi1 (sa.extBut _ _ Z.TOz hTO)
 refine wpAny_bind (wpAny_seqItems hTOb rfl ?_); refine wpAny_bind (wpAny_updateSeq_pair hTOb fun hcc TOc sc => ?_); have TOc' : IsPair hcc TO x b := TOc
 refine wpAny_bind (wpAny_letGo (wpAny_pure ?_)); refine wpAny_bind (wpAny_bind (wpAny_onRaise ?_)); show wpAny _ _ (Builtin.SmallTypes.nextOf (.ref i2) >>= _) _ _ _
 refine wpAny_bind (aq0 (((h2.ext fun o e => sa.extBut _ _ Z.i2z e).ext fun o e => sb.extBut _ _ Z.i12.symm e).ext fun o e => sc.extBut _ _ Z.TOi2.symm e) (((hl2.ext fun o e => sa.extBut _ _ Z.l2z e).ext fun o e => sb.extBut _ _ Z.l2i1 e).ext fun o e => sc.extBut _ _ Z.l2TO e) hy fun hd h2d sd => wpAny_pure ?_)
 have hTOd : IsPair hd TO x b := sd.extBut _ _ Z.TOi2 TOc'
 refine wpAny_bind (wpAny_seqItems hTOd rfl ?_); refine wpAny_bind (wpAny_updateSeq_pair hTOd fun he TOe se => ?_); have TOe' : IsPair he TO x y := TOe
 refine wpAny_bind (wpAny_letGo (wpAny_pure (wpAny_pure ?_))); refine wpAny_bind (wpAny_seqItems TOe' rfl ?_); refine wpAny_bind (wpAny_newTuple ?_)
 have sz : he.objs.size = s.heap.objs.size := by rw [se.1, sd.1, sc.1, sb.1, sa.1]
 have ze : IsZip he z TI TO .ellipsis := se.extBut _ _ Z.TOz.symm (sd.extBut _ _ Z.i2z.symm (sc.extBut _ _ Z.TOz.symm (sb.extBut _ _ Z.i1z.symm za')))
 have ke : ∀ c o, c ≠ z → c ≠ TO → c ≠ i1 → c ≠ i2 → s.heap.get? c = some o → he.get? c = some o := fun c o c1 c2 c3 c4 e => se.extBut _ _ c2 (sd.extBut _ _ c4 (sc.extBut _ _ c2 (sb.extBut _ _ c3 (sa.extBut _ _ c1 e))))
 have h1e : SIt t1 he i1 l1 (k1 + 1) := ((h1b.ext fun o e => sc.extBut _ _ Z.TOi1.symm e).ext fun o e => sd.extBut _ _ Z.i12 e).ext fun o e => se.extBut _ _ Z.TOi1.symm e
 have h2e : SIt t2 he i2 l2 (k2 + 1) := h2d.ext fun o e => se.extBut _ _ Z.TOi2.symm e
 have zlt : z < he.objs.size := Heap.lt_size ze
 show wpAny _ _ (Builtin.SmallTypes.ownedTupleHandOut (.ref z) (.ref he.objs.size) >>= _) _ _ _; refine wpAny_bind ?_; unfold Builtin.SmallTypes.ownedTupleHandOut
 have zf : IsZip (he.push { cls := .type "tuple", data := .seq #[x, y] }) z TI TO .ellipsis := Heap.get?_push_of_some _ ze
 refine wpAny_bind (wpAny_setField_rec zf (by simp) fun hg zg sg => ?_); have zg' : IsZip hg z TI TO (rawInt he.objs.size) := zg
 refine wpAny_setField_rec zg' (by simp) fun hi zi si => ?_; have zi' : IsZip hi z TI TO (rawInt he.objs.size) := zi
 have up : ∀ c o, c ≠ z → he.get? c = some o → hi.get? c = some o := fun c o c1 e => si.extBut _ _ c1 (sg.extBut _ _ c1 (Heap.get?_push_of_some _ e))
 have hT : IsPair hi he.objs.size x y := si.extBut _ _ (Nat.ne_of_gt zlt) (sg.extBut _ _ (Nat.ne_of_gt zlt) (Heap.get?_push_size _ rfl))
 have szi : hi.objs.size = he.objs.size + 1 := by rw [si.1, sg.1, Heap.size_push]
 rw [sz] at zi' hT szi
 refine wpAny_pure ⟨_, rfl, ?_⟩; show Q (.ref he.objs.size) _; rw [sz]
 exact hQ hi zi' (up _ _ Z.TOz TOe') (h1e.ext fun o e => up _ o Z.i1z e) (h2e.ext fun o e => up _ o Z.i2z e) hT szi fun c o c1 c2 c3 c4 e => up c o c1 (ke c o c1 c2 c3 c4 e)
theorem bF3 {z TI TO i1 i2 l1 l2 : Addr} {k1 k2 : Nat} {xs ys : Array Value} {a b : Value} {Q : Fin → Shared → Prop} (hh : A.handled = none) (Z : ZipApart z TI TO i1 i2 l1 l2)
  (hz : IsZip s.heap z TI TO .none) (hTI : IsPair s.heap TI (.ref i1) (.ref i2)) (hTO : IsPair s.heap TO a b) (h1 : SIt t1 s.heap i1 l1 k1) (h2 : SIt t2 s.heap i2 l2 k2) (hl1 : SSq t1 s.heap l1 xs) (hl2 : SSq t2 s.heap l2 ys) (hend : xs[k1]? = none ∨ ys[k2]? = none)
  (hE : ∀ h' e, (∀ c o, c ≠ z → c ≠ TO → c ≠ i1 → c ≠ i2 → s.heap.get? c = some o → h'.get? c = some o) → (∃ o, h'.get? e = some o ∧ o.cls = .type "StopIteration") → E (.ref e) { s with heap := h' }) :
  wpAny (model prog w) A (Builtin.«zip.__next__» ⟨[.ref z], []⟩) Q E s := by
 show wpAny _ _ (field (.ref z) 2 >>= _) _ _ _; refine wpAny_bind (wpAny_field hz rfl (x := .bool false) rfl ?_); show wpAny _ _ (field (.ref z) 3 >>= _) _ _ _; refine wpAny_bind (wpAny_field hz rfl (x := .ref TI) rfl ?_)
 refine wpAny_bind (wpAny_seqItems hTI rfl ?_); show wpAny _ _ (Builtin.SmallTypes.ownedTupleIsFree (.ref z) >>= _) _ _ _; refine wpAny_bind ?_; unfold Builtin.SmallTypes.ownedTupleIsFree
 refine wpAny_bind (wpAny_field hz rfl (x := .none) rfl (wpAny_pure ?_)); simp only [if_true]; refine wpAny_bind (wpAny_rule ?_); refine wpAny_bind (wpAny_field hz rfl (x := .ref TO) rfl ?_)
 refine wpAny_bind (wpAny_setField_rec hz (by simp) fun ha za sa => ?_); have za' : IsZip ha z TI TO .ellipsis := za
 refine wpAny_bind ?_; simp only [List.zipIdx_cons, List.zipIdx_nil, List.forIn_cons, List.forIn_nil]; refine wpAny_bind (wpAny_bind (wpAny_onRaise ?_)); show wpAny _ _ (Builtin.SmallTypes.nextOf (.ref i1) >>= _) _ _ _
 cases hx : xs[k1]? with
 | none =>
  refine wpAny_bind (aA6 hh (h1.ext fun o e => sa.extBut _ _ Z.i1z e) (hl1.ext fun o e => sa.extBut _ _ Z.l1z e) hx fun hb e sb he => ?_)
  obtain ⟨oe, hoe, hce⟩ := he; have zb : IsZip hb z TI TO .ellipsis := sb _ _ Z.i1z.symm za'; have hez : e ≠ z := fun q => by subst q; rw [zb] at hoe; cases hoe; simp at hce
  exact wpAny_setField_rec zb (by simp) fun hcc _ sc => hE hcc e (fun c o c1 _ c3 _ q => sc.extBut _ _ c1 (sb _ _ c3 (sa.extBut _ _ c1 q))) ⟨oe, sc.extBut _ _ hez hoe, hce⟩
 | some x =>
  have hy : ys[k2]? = none := by rcases hend with h | h; rw [hx] at h; cases h; exact h
  refine wpAny_bind (aq0 (h1.ext fun o e => sa.extBut _ _ Z.i1z e) (hl1.ext fun o e => sa.extBut _ _ Z.l1z e) hx fun hb h1b sb => wpAny_pure ?_)
  have hTOb : IsPair hb TO a b := sb.extBut _ _ Z.TOi1 (sa.extBut _ _ Z.TOz hTO)
  refine wpAny_bind (wpAny_seqItems hTOb rfl ?_); refine wpAny_bind (wpAny_updateSeq_pair hTOb fun hcc TOc sc => ?_)
  refine wpAny_bind (wpAny_letGo (wpAny_pure ?_)); refine wpAny_bind (wpAny_bind (wpAny_onRaise ?_)); show wpAny _ _ (Builtin.SmallTypes.nextOf (.ref i2) >>= _) _ _ _
  refine wpAny_bind (aA6 hh (((h2.ext fun o e => sa.extBut _ _ Z.i2z e).ext fun o e => sb.extBut _ _ Z.i12.symm e).ext fun o e => sc.extBut _ _ Z.TOi2.symm e) (((hl2.ext fun o e => sa.extBut _ _ Z.l2z e).ext fun o e => sb.extBut _ _ Z.l2i1 e).ext fun o e => sc.extBut _ _ Z.l2TO e) hy fun hd e sd he => ?_)
  obtain ⟨oe, hoe, hce⟩ := he; have zd : IsZip hd z TI TO .ellipsis := sd _ _ Z.i2z.symm (sc.extBut _ _ Z.TOz.symm (sb.extBut _ _ Z.i1z.symm za')); have hez : e ≠ z := fun q => by subst q; rw [zd] at hoe; cases hoe; simp at hce
  exact wpAny_setField_rec zd (by simp) fun hf _ sf => hE hf e (fun c o c1 c2 c3 c4 q => sf.extBut _ _ c1 (sd _ _ c4 (sc.extBut _ _ c2 (sb.extBut _ _ c3 (sa.extBut _ _ c1 q))))) ⟨oe, sf.extBut _ _ hez hoe, hce⟩
theorem be7 {z TI TO i1 i2 l1 l2 : Addr} {k1 k2 : Nat} {xs ys : Array Value} {x y a b : Value} {Q : Option Value → Shared → Prop} (Z : ZipApart z TI TO i1 i2 l1 l2)
  (hz : IsZip s.heap z TI TO .none) (hTI : IsPair s.heap TI (.ref i1) (.ref i2)) (hTO : IsPair s.heap TO a b) (h1 : SIt t1 s.heap i1 l1 k1) (h2 : SIt t2 s.heap i2 l2 k2) (hl1 : SSq t1 s.heap l1 xs) (hl2 : SSq t2 s.heap l2 ys) (hx : xs[k1]? = some x) (hy : ys[k2]? = some y)
  (hQ : ∀ h', IsZip h' z TI TO (rawInt s.heap.objs.size) → IsPair h' TO x y → SIt t1 h' i1 l1 (k1 + 1) → SIt t2 h' i2 l2 (k2 + 1) → IsPair h' s.heap.objs.size x y → h'.objs.size = s.heap.objs.size + 1 →
   (∀ c o, c ≠ z → c ≠ TO → c ≠ i1 → c ≠ i2 → s.heap.get? c = some o → h'.get? c = some o) → Q (some (.ref s.heap.objs.size)) { s with heap := h' }) : wpAny (model prog w) A (pyNext (.ref z)) Q E s := by
 have hT : s.TypeIs (.ref z) "zip" := ⟨_, hz, rfl⟩
 unfold pyNext
 refine wpAny_bind (wpAny_attempt (wpAny_callSpecial?_slot (name := Str.ofString "__next__") hT F.slot_zip_next (wpAny_call_entry F.slot_zip_next hT F.entry_zip_next (bs7 Z hz hTI hTO h1 h2 hl1 hl2 hx hy ?_) (F.args_zip_next_1 _))))
 exact fun h' a1 a2 a3 a4 a5 a6 a7 => wpAny_pure (hQ h' a1 a2 a3 a4 a5 a6 a7)
theorem bt0 {z TI TO i1 i2 l1 l2 : Addr} {k1 k2 : Nat} {xs ys : Array Value} {a b : Value} {Q : Option Value → Shared → Prop} (hh : A.handled = none) (Z : ZipApart z TI TO i1 i2 l1 l2)
  (hz : IsZip s.heap z TI TO .none) (hTI : IsPair s.heap TI (.ref i1) (.ref i2)) (hTO : IsPair s.heap TO a b) (h1 : SIt t1 s.heap i1 l1 k1) (h2 : SIt t2 s.heap i2 l2 k2) (hl1 : SSq t1 s.heap l1 xs) (hl2 : SSq t2 s.heap l2 ys) (hend : xs[k1]? = none ∨ ys[k2]? = none)
  (hQ : ∀ h', (∀ c o, c ≠ z → c ≠ TO → c ≠ i1 → c ≠ i2 → s.heap.get? c = some o → h'.get? c = some o) → Q none { s with heap := h' }) : wpAny (model prog w) A (pyNext (.ref z)) Q E s := by
 have hT : s.TypeIs (.ref z) "zip" := ⟨_, hz, rfl⟩
 unfold pyNext
 refine wpAny_bind (wpAny_attempt (wpAny_callSpecial?_slot (name := Str.ofString "__next__") hT F.slot_zip_next (wpAny_call_entry F.slot_zip_next hT F.entry_zip_next (bF3 hh Z hz hTI hTO h1 h2 hl1 hl2 hend fun h' e hk he => ?_) (F.args_zip_next_1 _))))
 obtain ⟨o, ho, hc⟩ := he
 exact wpAny_bind (wpAny_isInstance (T := "StopIteration") (b := true) ⟨o, ho, hc⟩ isSubtype_stop (wpAny_pure (hQ _ hk)))
noncomputable def aq8 (t : Bool) (l : Addr) : Obj := { cls := .type (if t then "tuple_iterator" else "list_iterator"), data := .fields #[.ref l, .int 0 0] }
theorem aP1 {h : Heap} {l : Addr} (t : Bool) : SIt t (h.push (aq8 t l)) h.objs.size l 0 := by
 cases t with
 | true => exact ⟨_, Heap.get?_push_size _ rfl, rfl, rfl⟩
 | false => exact ⟨_, Heap.get?_push_size _ rfl, rfl, rfl⟩
theorem af7 {l : Addr} {xs : Array Value} {Q : Value → Shared → Prop} (hl : SSq t s.heap l xs) (hQ : Q (.ref s.heap.objs.size) { s with heap := s.heap.push (aq8 t l) }) : wpAny (model prog w) A (pyIter (.ref l)) Q E s := by
 cases t with
 | true => exact wpAny_pyIter_tuple hl hQ
 | false => exact wpAny_pyIter_list hl hQ
end
end G
namespace G
open PySem PySem.Spec PyProof.Rows L2
noncomputable abbrev zp1 (h : Heap) (t1 : Bool) (l1 : Addr) : Heap := h.push (aq8 t1 l1)
noncomputable abbrev zp2 (h : Heap) (t1 t2 : Bool) (l1 l2 : Addr) : Heap := (zp1 h t1 l1).push (aq8 t2 l2)
noncomputable abbrev zp3 (h : Heap) (t1 t2 : Bool) (l1 l2 : Addr) : Heap := (zp2 h t1 t2 l1 l2).push { cls := .type "tuple", data := .seq #[.ref h.objs.size, .ref (zp1 h t1 l1).objs.size] }
noncomputable abbrev zp4 (h : Heap) (t1 t2 : Bool) (l1 l2 : Addr) : Heap := (zp3 h t1 t2 l1 l2).push { cls := .type "tuple", data := .seq #[.none, .none] }
noncomputable abbrev zp5 (h : Heap) (t1 t2 : Bool) (l1 l2 : Addr) : Heap := (zp4 h t1 t2 l1 l2).push { cls := .type "zip", data := .fields #[.none, .bool false, .bool false, .ref (zp2 h t1 t2 l1 l2).objs.size, .ref (zp3 h t1 t2 l1 l2).objs.size] }
theorem bF2 (l1 l2 : Addr) (xs ys : Array Value) (t1 t2 : Bool) :
  Meets (Builtin.«zip.__new__» ⟨[.type "zip", .ref l1, .ref l2], []⟩) (fun _ R s => SSq t1 s.heap l1 xs ∧ SSq t2 s.heap l2 ys ∧ ∀ h', IsZip h' (s.heap.objs.size + 4) (s.heap.objs.size + 2) (s.heap.objs.size + 3) .none → IsPair h' (s.heap.objs.size + 2) (.ref s.heap.objs.size) (.ref (s.heap.objs.size + 1)) →
   IsPair h' (s.heap.objs.size + 3) .none .none → SIt t1 h' s.heap.objs.size l1 0 → SIt t2 h' (s.heap.objs.size + 1) l2 0 → (∀ c o, s.heap.get? c = some o → h'.get? c = some o) → R (.ok (.ret (.ref (s.heap.objs.size + 4)))) { s with heap := h' }) :=
 .of_wp fun prog w A R s h => by
  obtain ⟨hp, g, d, tk, os⟩ := s
  obtain ⟨hl1, hl2, h⟩ := h
  have hsub := sub_zip
  have q1 : SSq t1 (Shared.heap ⟨hp, g, d, tk, os⟩) l1 xs := hl1
  have q2 : SSq t2 (Shared.heap ⟨hp.push (aq8 t1 l1), g, d, tk, os⟩) l2 ys := SSq.ext hl2 fun o e => Heap.get?_push_of_some _ e
  wp_walk using af7 q1, af7 q2
  refine ⟨_, rfl, ?_⟩
  have z1 : (zp1 hp t1 l1).objs.size = hp.objs.size + 1 := Heap.size_push ..
  have z2 : (zp2 hp t1 t2 l1 l2).objs.size = hp.objs.size + 2 := by rw [Heap.size_push, z1]
  have z3 : (zp3 hp t1 t2 l1 l2).objs.size = hp.objs.size + 3 := by rw [Heap.size_push, z2]
  have z4 : (zp4 hp t1 t2 l1 l2).objs.size = hp.objs.size + 4 := by rw [Heap.size_push, z3]
  show R (.ok (.ret (.ref (zp4 hp t1 t2 l1 l2).objs.size))) ⟨zp5 hp t1 t2 l1 l2, g, d, tk, os⟩
  rw [z4]
  have g5 : (zp5 hp t1 t2 l1 l2).get? (zp4 hp t1 t2 l1 l2).objs.size = some _ := Heap.get?_push_size _ rfl
  have g4 : (zp5 hp t1 t2 l1 l2).get? (zp3 hp t1 t2 l1 l2).objs.size = some _ := Heap.get?_push_of_some _ (Heap.get?_push_size _ rfl)
  have g3 : (zp5 hp t1 t2 l1 l2).get? (zp2 hp t1 t2 l1 l2).objs.size = some _ := Heap.get?_push_of_some _ (Heap.get?_push_of_some _ (Heap.get?_push_size _ rfl))
  rw [z4, z2, z3] at g5
  rw [z3] at g4
  rw [z2, z1] at g3
  have k1 : ∀ c o, hp.get? c = some o → (zp5 hp t1 t2 l1 l2).get? c = some o := fun c o e => Heap.get?_push_of_some _ (Heap.get?_push_of_some _ (Heap.get?_push_of_some _ (Heap.get?_push_of_some _ (Heap.get?_push_of_some _ e))))
  have s1 : SIt t1 (zp5 hp t1 t2 l1 l2) hp.objs.size l1 0 := (aP1 (h := hp) (l := l1) t1).ext fun o e => Heap.get?_push_of_some _ (Heap.get?_push_of_some _ (Heap.get?_push_of_some _ (Heap.get?_push_of_some _ e)))
  have s2 : SIt t2 (zp5 hp t1 t2 l1 l2) (zp1 hp t1 l1).objs.size l2 0 := (aP1 (h := zp1 hp t1 l1) (l := l2) t2).ext fun o e => Heap.get?_push_of_some _ (Heap.get?_push_of_some _ (Heap.get?_push_of_some _ e))
  rw [z1] at s2
  exact h _ g5 g3 g4 s1 s2 k1
section
variable {prog : Program} {w : World} {A : Around} {E : Value → Shared → Prop} {s : Shared} {t1 t2 : Bool}
theorem bs8 {l1 l2 : Addr} {xs ys : Array Value} {Q : Value → Shared → Prop} (hl1 : SSq t1 s.heap l1 xs) (hl2 : SSq t2 s.heap l2 ys)
  (h : ∀ h', IsZip h' (s.heap.objs.size + 4) (s.heap.objs.size + 2) (s.heap.objs.size + 3) .none → IsPair h' (s.heap.objs.size + 2) (.ref s.heap.objs.size) (.ref (s.heap.objs.size + 1)) →
   IsPair h' (s.heap.objs.size + 3) .none .none → SIt t1 h' s.heap.objs.size l1 0 → SIt t2 h' (s.heap.objs.size + 1) l2 0 → (∀ c o, s.heap.get? c = some o → h'.get? c = some o) → Q (.ref (s.heap.objs.size + 4)) { s with heap := h' }) :
  wpAny (model prog w) A (call (.type "zip") [.ref l1, .ref l2]) Q E s := by
 refine callType_new F.called_zip (by decide) (F.typeCall_zip_2 _ _) (F.newCall_zip_2 _ _) (fun obj => F.args_object_init_3 obj _ _) F.entry_zip_new (bF2 l1 l2 xs ys t1 t2) ⟨hl1, hl2, fun h' a1 a2 a3 a4 a5 a6 => ?_⟩
 exact ⟨⟨_, a1, rfl⟩, h h' a1 a2 a3 a4 a5 a6⟩
end
noncomputable def Itz (K : PySem.W.Frag) (t1 t2 : Bool) (a1 a2 : Addr) : It :=
  ⟨fun i H => ∃ xs ys x y, Sq K t1 H a1 xs ∧ Sq K t2 H a2 ys ∧ xs[i]? = some x ∧ ys[i]? = some y,
   fun i H v H' => ∃ T x y, v = .ref T ∧ H T = none ∧ H' = upd H T (.tup [x, y]) ∧ (∀ xs, Sq K t1 H a1 xs → xs[i]? = some x) ∧ ∀ ys, Sq K t2 H a2 ys → ys[i]? = some y,
   fun i H => ∃ xs ys, Sq K t1 H a1 xs ∧ Sq K t2 H a2 ys ∧ (xs.length ≤ i ∨ ys.length ≤ i)⟩
theorem be5 {X : Cx} {pins : List (Addr × Obj)} {σ : L2.St} {H : Hp} {s : Shared} {t : Bool} {a : Addr} {xs ys : List V} (I : Inv X pins σ H s) (h : Sq X.K t H a xs) (h' : Sq X.K t H a ys) : xs = ys := by
 cases t with
 | true => exact I.tuple_inj h h'
 | false => exact I.list_inj h h'
theorem f8 {X : Cx} {pins : List (Addr × Obj)} {σ : L2.St} {H : Hp} {s : Shared} {t : Bool} {a : Addr} {xs : List V} (I : Inv X pins σ H s) (h : Sq X.K t H a xs) : ∃ its : List Value, L7 xs its ∧ SSq t s.heap a its.toArray ∧ a < s.heap.objs.size := by
 cases t with
 | true =>
  obtain ⟨its, r, p, _⟩ := I.tuple h
  exact ⟨its, r, p, by obtain ⟨o, ho, _⟩ := p; exact Heap.lt_size ho⟩
 | false =>
  obtain ⟨its, r, p, _⟩ := I.list h
  exact ⟨its, r, p.isList, by obtain ⟨o, ho, _⟩ := p.isList; exact Heap.lt_size ho⟩
end G
namespace G
open PySem PySem.Spec PyProof.Rows L2
theorem ae1 {X : Cx} {pins : List (Addr × Obj)} {σ : L2.St} {H : Hp} {s : Shared} {h' : Heap} {t' : Nat} {ch : List Addr} {T : Addr} {o : HO} (I : Inv X pins σ H s) (hf : ∀ b ∈ ch, ay3 X pins H b) (hT : s.heap.objs.size ≤ T)
  (k : ∀ b u, b ∉ ch → s.heap.get? b = some u → h'.get? b = some u) (new : j9 X.prog X.w (upd H T o) h' T o) : Inv X pins σ (upd H T o) { s with heap := h', toks := t' } := by
 have hn : H T = none := I.hok.fresh hT
 have neT : ∀ b u, s.heap.get? b = some u → b ≠ T := fun b u e => Nat.ne_of_lt (Nat.lt_of_lt_of_le (Heap.lt_size e) hT)
 have nch : ∀ b u, H b = some u → b ∉ ch := fun b u e z => by rw [(hf b z).1] at e; cases e
 refine I.step (g' := s.gens) (d' := s.drawn) (ch := ch) (fun b hb => ⟨(hf b hb).2.2.2.1, (hf b hb).2.1, (hf b hb).2.2.2.2.1, (hf b hb).2.2.2.2.2⟩) (fun b u _ _ hc e _ => k b u hc e) (fun b u _ _ hc e _ => ⟨u.slots, k b u hc e⟩)
  (fun b u _ e n => by rw [G9 (neT b u e)]; exact n) (fun b u hc e => ⟨u, k b u hc e⟩) (fun b xs e => by rw [G9 (J3 e hn)]; exact e) (fun b ob u e => by rw [G9 (J3 e hn)]; exact e)
  (fun b ps e => ⟨#[], by rw [G9 (J3 e hn), e]; simp⟩) (fun m hm => ?_) (fun b u e => ?_) I.bare
 ·obtain ⟨ob, es, ep, ho, r⟩ := hm
  exact ⟨ob, es, ep, k _ ob (fun z => (hf _ z).2.1 rfl) ho, r⟩
 ·by_cases hb : b = T
  ·subst hb; rw [G8] at e; cases e; exact new
  ·rw [G9 hb] at e
   refine (I.hok b u e).stay (fun c v hc q => k c v ?_ q) (fun c q => by rw [G9 (J3 q hn)]; exact q) fun c xs q => by rw [G9 (J3 q hn)]; exact q
   rcases hc with z | z
   ·rw [z]; exact nch b u e
   ·exact nch c _ z
theorem aF9 {X : Cx} {pins : List (Addr × Obj)} {σ : L2.St} {H : Hp} {s : Shared} {h' : Heap} {t' : Nat} {ch : List Addr} (I : Inv X pins σ H s) (hf : ∀ b ∈ ch, ay3 X pins H b)
  (k : ∀ b u, b ∉ ch → s.heap.get? b = some u → h'.get? b = some u) : Inv X pins σ H { s with heap := h', toks := t' } := by
 have nch : ∀ b u, H b = some u → b ∉ ch := fun b u e z => by rw [(hf b z).1] at e; cases e
 refine I.step (g' := s.gens) (d' := s.drawn) (ch := ch) (fun b hb => ⟨(hf b hb).2.2.2.1, (hf b hb).2.1, (hf b hb).2.2.2.2.1, (hf b hb).2.2.2.2.2⟩) (fun b u _ _ hc e _ => k b u hc e) (fun b u _ _ hc e _ => ⟨u.slots, k b u hc e⟩)
  (fun b u _ e n => n) (fun b u hc e => ⟨u, k b u hc e⟩) (fun b xs e => e) (fun b ob u e => e) (fun b ps e => ⟨#[], by rw [e]; simp⟩) (fun m hm => ?_) (fun b u e => ?_) I.bare
 ·obtain ⟨ob, es, ep, ho, r⟩ := hm
  exact ⟨ob, es, ep, k _ ob (fun z => (hf _ z).2.1 rfl) ho, r⟩
 ·refine (I.hok b u e).stay (fun c v hc q => k c v ?_ q) (fun c q => q) fun c xs q => q
  rcases hc with z | z
  ·rw [z]; exact nch b u e
  ·exact nch c _ z
theorem bE5 {P : Program} {w : World} {K : PySem.W.Frag} {elts : List Expr} {k0 : Nat} {pos : Pos} {t1 t2 : Bool} {z TI TO i1 i2 a1 a2 : Addr} (Z : ZipApart z TI TO i1 i2 a1 a2) :
  Turn P w K (.Tuple elts k0 pos) (Itz K t1 t2 a1 a2) [z, TI, TO, i1, i2] z (fun i h => IsZip h z TI TO .none ∧ IsPair h TI (.ref i1) (.ref i2) ∧ (∃ a b, IsPair h TO a b) ∧ SIt t1 h i1 a1 i ∧ SIt t2 h i2 a2 i) where
 mem := by simp
 obj := fun i h ⟨hz, hTI, ⟨a, b, hTO⟩, h1, h2⟩ c hc => by
  simp only [List.mem_cons, List.not_mem_nil, or_false] at hc
  rcases hc with rfl | rfl | rfl | rfl | rfl
  ·exact ⟨_, hz, fun v q => by cases q⟩
  ·exact ⟨_, hTI, fun v q => by cases q⟩
  ·exact ⟨_, hTO, fun v q => by cases q⟩
  ·cases t1 with
   | true => obtain ⟨o, ho, _, hd⟩ := h1; exact ⟨o, ho, fun v q => by rw [hd] at q; cases q⟩
   | false => obtain ⟨o, ho, _, hd⟩ := h1; exact ⟨o, ho, fun v q => by rw [hd] at q; cases q⟩
  ·cases t2 with
   | true => obtain ⟨o, ho, _, hd⟩ := h2; exact ⟨o, ho, fun v q => by rw [hd] at q; cases q⟩
   | false => obtain ⟨o, ho, _, hd⟩ := h2; exact ⟨o, ho, fun v q => by rw [hd] at q; cases q⟩
 keep := fun i h h' ⟨hz, hTI, ⟨a, b, hTO⟩, h1, h2⟩ hk => ⟨hk z (by simp) _ hz, hk TI (by simp) _ hTI, ⟨a, b, hk TO (by simp) _ hTO⟩, h1.ext fun o e => hk i1 (by simp) o e, h2.ext fun o e => hk i2 (by simp) o e⟩
 item := by
  intro X hP hw hK hc i pins s σ H E I hf ⟨hz, hTI, ⟨a, b, hTO⟩, h1, h2⟩ hg
  subst hP hw hK
  obtain ⟨xs, ys, x, y, q1, q2, ex, ey⟩ := hg
  obtain ⟨us, r1, p1, lt1⟩ := f8 I q1
  obtain ⟨ws, r2, p2, lt2⟩ := f8 I q2
  obtain ⟨ux, eux, rx⟩ := r1.get ex
  obtain ⟨uy, euy, ry⟩ := r2.get ey
  refine be7 Z hz hTI hTO h1 h2 p1 p2 (x := ux) (y := uy) (by simpa using eux) (by simpa using euy) fun h' b1 b2 b3 b4 b5 b6 b7 => ⟨_, rfl, wpAny_letOwnedTupleGo_zip b1 fun h'' c1 c2 => ?_⟩
  have neT : ∀ c o, s.heap.get? c = some o → c ≠ s.heap.objs.size := fun c o e => Nat.ne_of_lt (Heap.lt_size e)
  have up : ∀ c o, c ≠ z → h'.get? c = some o → h''.get? c = some o := fun c o n e => c2.extBut c o n e
  refine ⟨.ref s.heap.objs.size, upd H s.heap.objs.size (.tup [x, y]), ae1 (s := s) (h' := h'') (t' := s.toks) (ch := [z, TI, TO, i1, i2]) I hf (Nat.le_refl _) (fun c u hc e => ?_) ?_, rfl, ⟨_, x, y, rfl, I.hok.fresh (Nat.le_refl _), rfl, fun zs hz' => by rw [be5 I hz' q1]; exact ex, fun zs hz' => by rw [be5 I hz' q2]; exact ey⟩, ⟨c1, ?_, ⟨_, _, up TO _ Z.TOz b2⟩, b3.ext fun o e => up i1 o Z.i1z e, b4.ext fun o e => up i2 o Z.i2z e⟩, fun c hc => ?_⟩
  ·simp only [List.mem_cons, List.not_mem_nil, or_false, not_or] at hc
   exact up c u hc.1 (b7 c u hc.1 hc.2.2.1 hc.2.2.2.1 hc.2.2.2.2 e)
  ·refine ⟨by show 2 ≤ sizeLine; decide, [ux, uy], .cons rx (.cons ry .nil), _, up _ _ ?_ b5, rfl, _, rfl⟩
   exact fun q => neT z _ hz q.symm
  ·exact up TI _ Z.TIz (b7 TI _ Z.TIz Z.TITO Z.TIi1 Z.TIi2 hTI)
  ·have e : c < s.heap.objs.size := by
    simp only [List.mem_cons, List.not_mem_nil, or_false] at hc
    rcases hc with rfl | rfl | rfl | rfl | rfl
    ·exact Heap.lt_size hz
    ·exact Heap.lt_size hTI
    ·exact Heap.lt_size hTO
    ·exact h1.lt
    ·exact h2.lt
   rw [G9 (Nat.ne_of_lt e)]
   exact (hf c hc).1
 done := by
  intro X hP hw hK hc i pins s σ H E I hf ⟨hz, hTI, ⟨a, b, hTO⟩, h1, h2⟩ hg
  subst hP hw hK
  obtain ⟨xs, ys, q1, q2, hl⟩ := hg
  obtain ⟨us, r1, p1, lt1⟩ := f8 I q1
  obtain ⟨ws, r2, p2, lt2⟩ := f8 I q2
  have l1 := r1.length
  have l2 := r2.length
  refine bt0 (I.ok.hd hc) Z hz hTI hTO h1 h2 p1 p2 ?_ fun h' hk => ⟨rfl, aF9 (t' := s.toks) (ch := [z, TI, TO, i1, i2]) I hf fun c u hc e => ?_⟩
  ·rcases hl with h | h
   ·left; simp; omega
   ·right; simp; omega
  ·simp only [List.mem_cons, List.not_mem_nil, or_false, not_or] at hc
   exact hk c u hc.1 hc.2.2.1 hc.2.2.2.1 hc.2.2.2.2 e
 self := fun _ _ _ _ _ st h => wpAny_pyIter_zip st.1 h
section
variable {X : Cx}
noncomputable def ah0 (f g : Rho → Option (Bool × List D)) : Rho → Option (List D) := fun ρ => (f ρ).bind fun p => (g ρ).bind fun q => some ((p.2.zip q.2).map fun (x, y) => PyData.tuple [x, y])
theorem bc8 {K : PySem.W.Frag} {t1 t2 : Bool} {a1 a2 : Addr} {vs us : List V} {ds es : List D} {Hf1 : Hp} (h1 : Sq K t1 Hf1 a1 vs) (h2 : Sq K t2 Hf1 a2 us) (r1 : Reps K Hf1 ds vs) (r2 : Reps K Hf1 es us) :
  aU6 K (Itz K t1 t2 a1 a2) ((ds.zip es).map fun (x, y) => PyData.tuple [x, y]) Hf1 := by
 have mono : ∀ {t : Bool} {a : Addr} {xs : List V} {H H' : Hp}, M6 H H' → Sq K t H a xs → Sq K t H' a xs := fun {t a xs H H'} e h => by
  cases t with
  | true => exact K3 e h
  | false => exact M3 e h
 intro i H Hf sa sb
 have m1 := mono (sa.trans sb) h1
 have m2 := mono (sa.trans sb) h2
 have l1 := r1.length
 have l2 := r2.length
 refine ⟨fun hi => ⟨vs, us, m1, m2, ?_⟩, fun d hd => ?_⟩
 ·simp at hi; omega
 ·rw [List.getElem?_map] at hd
  obtain ⟨⟨x, y⟩, q1, q2⟩ := Option.map_eq_some_iff.mp hd
  subst q2
  obtain ⟨q1, q2⟩ := List.getElem?_zip_eq_some.mp q1
  obtain ⟨vx, e1, e2⟩ := r1.get q1
  obtain ⟨vy, e3, e4⟩ := r2.get q2
  refine ⟨⟨vs, us, vx, vy, m1, m2, e1, e3⟩, fun v H' ⟨T, x', y', z1, z2, z3, z4, z5⟩ => ?_⟩
  subst z1 z3
  have w1 := z4 vs m1
  have w2 := z5 us m2
  rw [e1] at w1
  rw [e3] at w2
  cases w1
  cases w2
  have nf : Hf T = none := sb.free z2
  refine ⟨upd Hf T (.tup [vx, vy]), Grow.laid sb z2, T, [vx, vy], rfl, SqT.of G8, vx, [vy], rfl, (e2.mono sa).mono (L1 nf), vy, [], rfl, (e4.mono sa).mono (L1 nf), rfl⟩
theorem cw3 {elts : List Expr} {k0 : Nat} {tpos : Pos} {a b : Expr} {f g : DE} {p pos : Pos} (hg : Gl X "zip") (hm : X.mg "zip" = none) (ha : JE X a f) (hb : JE X b g) (hs : starEach [a, b] X.env = [(false, eval a X.env), (false, eval b X.env)] := by rfl) (hs2 : starEach [b] X.env = [(false, eval b X.env)] := by rfl) :
  JI X (.Tuple elts k0 tpos) (.Call (.Name "zip" p) [a, b] [] pos) (ah0 (qE f) (qE g)) := fun ρ out q => by
 obtain ⟨⟨t1, ds⟩, e1, q⟩ := xbm q
 obtain ⟨⟨t2, es⟩, e2, q⟩ := xbm q
 cases q
 obtain ⟨d1, e1, e1'⟩ := xbm e1
 obtain ⟨d2, e2, e2'⟩ := xbm e2
 intro pins s σ H R I ⟨H0, Hf, ss, sl, k⟩
 refine Call_ (ao6 I hg hm cA4 (PyProof.Rows.callWith_type1 (thn (K4 (ha ρ d1 e1) (K4 (hb ρ d2 e2) N8 hs2) (by rw [hs, hs2]) pos pins s σ H
  (fun vs H' => ∃ v u Hf', vs = [v, u] ∧ Grow H Hf H' Hf' ∧ Rep X.K Hf' d1 v ∧ Rep X.K Hf' d2 u) I ⟨H0, Hf, ss, sl, fun v H1 Hf1 g1 r1 => ⟨H0, Hf1, g1.sub, sl.grow g1, fun u H2 Hf2 g2 r2 => ⟨v, u, Hf2, rfl, g1.trans g2, r1.mono g2.ext, r2⟩⟩⟩) fun us s1 ⟨vs, H1, I1, r1, v, u, Hf1, ev, gr, p1, p2⟩ => ?_) (by rw [hs, hs2]) (by rw [hs2]; rfl)))
 subst ev
 obtain ⟨uv, uu, rfl, rv, ru⟩ := bl9 r1
 obtain ⟨a1, vs1, rfl, w1, w2⟩ := p1.seq (M6.refl Hf1) e1'
 obtain ⟨a2, vs2, rfl, w3, w4⟩ := p2.seq (M6.refl Hf1) e2'
 cases rv
 cases ru
 have mono : ∀ {t : Bool} {a : Addr} {xs : List V} {H H' : Hp}, M6 H H' → Sq X.K t H a xs → Sq X.K t H' a xs := fun {t a xs H H'} e h => by
  cases t with
  | true => exact K3 e h
  | false => exact M3 e h
 obtain ⟨us1, rr1, hp1, lt1⟩ := f8 I1 (mono gr.sub w1)
 obtain ⟨us2, rr2, hp2, lt2⟩ := f8 I1 (mono gr.sub w3)
 refine bs8 hp1 hp2 fun h' b1 b2 b3 b4 b5 b6 => ?_
 have I2 : Inv X pins σ H1 { s1 with heap := h' } := I1.kept (t' := s1.toks) b6
 refine wpAny_pyIter_zip b1 ⟨_, _, _, _, H1, rfl, I2, bE5 (zipApart_new lt1 lt2), ⟨b1, b2, ⟨_, _, b3⟩, b4, b5⟩, fun b hb => ?_, k _ H1 Hf1 gr (bc8 w1 w3 w2 w4)⟩
 have hb' : s1.heap.objs.size ≤ b := by
  simp only [List.mem_cons, List.not_mem_nil, or_false] at hb
  rcases hb with rfl | rfl | rfl | rfl | rfl
  ·exact Nat.le_add_right _ _
  ·exact Nat.le_add_right _ _
  ·exact Nat.le_add_right _ _
  ·exact Nat.le_refl _
  ·exact Nat.le_add_right _ _
 exact I1.fpOk hb' (I1.hok.fresh hb')
end
end G
namespace G
open PySem PySem.Spec PyProof.Rows L2
theorem ay4 : fillsNumberSlot (.type "tuple") "mul" = pure false := PySem.fillsNumberSlot_seq (id := "tuple.__mul__") (r := some (.builtin "tuple.__rmul__")) F.slot_tuple_mul.lookup (by decide +kernel) F.slot_tuple_rmul.lookup (by decide +kernel)
theorem aL7 : seqRepeat? (.type "tuple") = pure (some (.builtin "tuple.__mul__")) := by
 unfold seqRepeat?
 rw [PySem.seqSlot_of (T := "tuple") (name := "__mul__") (id := "tuple.__mul__") F.slot_tuple_mul.lookup (by decide +kernel), PySem.seqSlot_of (T := "tuple") (name := "__rmul__") (id := "tuple.__rmul__") F.slot_tuple_rmul.lookup (by decide +kernel)]; rfl
theorem aq1 (a : Int) (t : Tok) (l : Addr) (items : Array Value) (n : Nat) (dd : Option Addr) (sl : Array (Option Value)) :
  Meets (Builtin.«int.__rmul__» ⟨[.int a t, .ref l], []⟩) (fun _ R s => s.heap.get? l = some ⟨.type "tuple", dd, .seq items n, sl⟩ ∧ R (.ok (.ret Value.notImplemented)) s) :=
 .of_wp fun prog w A R s h => by obtain ⟨hp, g, d, tk, os⟩ := s; obtain ⟨hl, h⟩ := h; wp_walk; exact ⟨_, rfl, h⟩
theorem bf1 (items : Array Value) (k : Nat) : List.foldl (fun x1 x2 => x1 ++ x2) #[] (List.replicate k items) = (List.replicate k items.toList).flatten.toArray := by
 have := aM5 items.toList k []
 rw [List.nil_append] at this
 simpa using this
theorem aX7 (l : Addr) (items : Array Value) (n : Nat) (dd : Option Addr) (sl : Array (Option Value)) (x : Int) (u : Tok) (h2 : 2 ≤ x) (h3 : x < 1000000) (he : items.isEmpty = false) (hz : items.size * x.toNat ≤ sizeLine) :
  Meets (Builtin.«tuple.__mul__» ⟨[.ref l, .int x u], []⟩) (fun _ R s => s.heap.get? l = some ⟨.type "tuple", dd, .seq items n, sl⟩ ∧ R (.ok (.ret (Value.ref s.heap.objs.size))) { s with heap := s.heap.push { cls := Value.type "tuple", data := Data.seq (List.foldl (fun x1 x2 => x1 ++ x2) #[] (List.replicate x.toNat items)) } }) :=
 .of_wp fun prog w A R s h => by
  obtain ⟨hp, g, d, tk, os⟩ := s
  obtain ⟨hl, h⟩ := h
  have hm : (items.size : Int) * x ≤ 16777216 := by
   have e : ((items.size * x.toNat : Nat) : Int) = (items.size : Int) * x := by rw [Int.natCast_mul, Int.toNat_of_nonneg (by omega)]
   have : items.size * x.toNat ≤ 16777216 := by rw [← sizeLine_eq]; exact hz
   omega
  wp_walk
  refine wpAny_ite_false (by simp; omega) ?_
  have ht : Heap.IsTuple (Shared.heap ⟨hp, g, d, tk, os⟩) l items := ⟨_, hl, rfl, n, rfl⟩
  refine wpAny_bind (tupleItemsOf_ ht ?_)
  refine wpAny_ite_false (by rw [he]; simp; omega) ?_
  show wpAny _ _ (if (decide (x ≤ 0) || items.isEmpty) = true then _ else _) _ _ _
  refine wpAny_ite_false (by rw [he]; simp; omega) ?_
  show wpAny _ _ (if (items.size : Int) * x > (2 ^ 63 - 1) / 8 then _ else _) _ _ _
  rw [if_neg (by omega)]
  show wpAny _ _ (if Builtin.Tuple.tupleTooMany ((items.size : Int) * x) = true then _ else _) _ _ _
  rw [if_neg (by unfold Builtin.Tuple.tupleTooMany; rw [sizeLine_eq]; simp; omega)]
  refine wpAny_bind (m := Builtin.Tuple.tupleExact _) (wpAny_newObj_type (wpAny_pure ⟨_, rfl, h⟩) ?_)
  show (List.foldl (fun x1 x2 => x1 ++ x2) #[] (List.replicate x.toNat items)).size ≤ sizeLine
  rw [bf1 items x.toNat, List.size_toArray, aR8, Array.length_toList, Nat.mul_comm]
  exact hz
section
variable {X : Cx}
theorem bX3 : OpR X (binaryOp .Mult) (fun x y H Q => ∃ l k xs, x = .ref l ∧ y = .int k ∧ SqT X.K H l xs ∧ xs ≠ [] ∧ 2 ≤ k ∧ k < 1000000 ∧ xs.length * k.toNat ≤ sizeLine ∧ ∀ p, H p = none → Q (.ref p) (upd H p (.tup (List.replicate k.toNat xs).flatten))) := by
 intro pins s σ H x y v u Q I rx ry h
 obtain ⟨l, k, xs, rfl, rfl, hq, hx, h2, h3, hz, q⟩ := h
 cases rx
 obtain ⟨t, rfl⟩ := ry
 obtain ⟨its, r, p1, _⟩ := I.tuple hq
 obtain ⟨⟨cls, dd, data, sl⟩, ho, hc, n, hd⟩ := id p1
 simp only at hc hd
 subst hc hd
 have hl := r.length
 have he : its.toArray.isEmpty = false := by
  cases its with
  | nil => exact absurd (r.nil_iff.mp rfl) hx
  | cons a b => rfl
 refine wpAny_binaryOp_repeat_ref (T := "tuple") (U := "int") (by decide) ⟨_, ho, rfl⟩ (fun s' => typeIs_int s' k t) ay4 F.fills_int_mul F.slot_int_rmul aL7 F.slot_int_index.lookup
  (call_meets F.slot_int_rmul (typeIs_int s k t) F.entry_int_rmul (F.args_int_rmul_2 _ _) (aq1 k t l its.toArray n dd sl) ⟨ho, rfl, ⟨_, ho, rfl⟩,
   call_meets F.slot_tuple_mul ⟨_, ho, rfl⟩ F.entry_tuple_mul (F.args_tuple_mul_2 _ _) (aX7 l its.toArray n dd sl k t h2 h3 he (by rw [List.size_toArray, ← hl]; exact hz)) ⟨ho, ?_⟩⟩)
 rw [bf1]
 refine ⟨.ref _, _, I.laid (t' := s.toks) (o := .tup (List.replicate k.toNat xs).flatten) (fun b ob q => Heap.get?_push_of_some _ q) (Nat.le_refl _) ⟨?_, _, r.rep k.toNat, IsTup.new _ _⟩, rfl, q _ (I.hok.fresh (Nat.le_refl _))⟩
 rw [aR8, Nat.mul_comm]; exact hz
noncomputable def T1 (x y : D) : Option D := match x, y with
 | .int i, .int j => if L0 i ∧ L0 j then some (.int (i * j)) else none
 | .tuple xs, .int k => if xs.isEmpty = false ∧ 2 ≤ k ∧ k < 1000000 ∧ xs.length * k.toNat ≤ 16777216 then some (.tuple (List.replicate k.toNat xs).flatten) else none
 | _, _ => none
theorem aQ9 : OpD X (binaryOp .Mult) T1 := fun x y z h => by
 unfold T1 at h
 split at h
 ·exact cs0 _ _ z (by unfold ct2; exact h)
 ·split at h
  ·rename_i xs k c
   cases h
   refine OpR.imp bX3 fun vx vy H Q ⟨Hf, s, r1, r2, kk⟩ => ?_
   obtain ⟨a, vs, rfl, h2, h3⟩ := r1
   refine ⟨a, k, vs, rfl, r2, K3 s h2, ?_, c.2.1, c.2.2.1, by rw [h3.length, sizeLine_eq]; exact c.2.2.2, fun p hp => ?_⟩
   ·intro e
    subst e
    have := h3.length
    cases xs with
    | nil => exact absurd c.1 (by simp)
    | cons a b => simp at this
   ·exact kk _ _ _ (Grow.laid s hp) ⟨p, _, rfl, SqT.of G8, (h3.flatten k.toNat).mono (L1 (s.free hp))⟩
  ·cases h
 ·cases h
noncomputable def cA0 (f : DE) : DE := fun ρ => (f ρ).bind fun d => match d with
 | .int i => some (.int (-i))
 | _ => none
theorem bM7 {a : Expr} {f : DE} {pos : Pos} (h : JE X a f) : JE X (.UnaryOp .USub a pos) (cA0 f) := fun ρ d q => by
 obtain ⟨x, e1, e2⟩ := xbm q
 cases x with
 | int i =>
  cases e2
  exact G1 (cE5 ci7 (h ρ _ e1)) fun σ H Q ⟨H0, Hf, s, sl, k⟩ => ⟨H0, Hf, s, sl, fun v H1 Hf1 g1 r1 => ⟨_, r1, k _ H1 Hf1 g1 rfl⟩⟩
 | _ => cases e2
noncomputable def isB (x y : D) : Option D := match y with
 | .bool b => (match x with
  | .bool c => some (.bool (c == b))
  | .dict _ => none
  | _ => some (.bool false))
 | .none => isN x .none
 | _ => none
noncomputable def bg5 (x y : D) : Option D := match y with
 | .bool b => (match x with
  | .bool c => some (.bool (!(c == b)))
  | .dict _ => none
  | _ => some (.bool true))
 | .none => cs5 x .none
 | _ => none
theorem cF6 : OpD X (compareOp .Is) isB := fun x y z h => by
 cases y with
 | none => exact cs2 x .none z h
 | bool b =>
  intro pins s σ H vx vy v u Q I rx ry ⟨Hf, ss, r1, r2, k⟩
  cases r2
  cases ry
  have fin : ∀ c, z = .bool c → (v == Value.bool b) = c → EP X pins σ Q (.bool (v == Value.bool b)) s := fun c e1 e2 => by
   rw [e2]; subst e1; exact ⟨.bl c, H, I, rfl, k _ H Hf (Grow.refl ss) rfl⟩
  cases x with
  | none => cases r1; cases rx; cases h; exact wpAny_is_plain rfl (fin _ rfl rfl)
  | bool c => cases r1; cases rx; cases h; exact wpAny_is_plain rfl (fin _ rfl (by cases c <;> cases b <;> rfl))
  | int i => cases r1; obtain ⟨t, rfl⟩ := rx; cases h; exact wpAny_is_plain rfl (fin _ rfl rfl)
  | str i => cases r1; obtain ⟨t, rfl⟩ := rx; cases h; exact wpAny_is_plain rfl (fin _ rfl rfl)
  | tuple ds => obtain ⟨a, vs, rfl, _⟩ := r1; cases rx; cases h; exact wpAny_is_plain rfl (fin _ rfl rfl)
  | list ds => obtain ⟨a, vs, rfl, _⟩ := r1; cases rx; cases h; exact wpAny_is_plain rfl (fin _ rfl rfl)
  | dict ds => cases h
 | _ => cases h
theorem bI2 : OpD X (compareOp .IsNot) bg5 := fun x y z h => by
 cases y with
 | none => exact bY0 x .none z h
 | bool b =>
  intro pins s σ H vx vy v u Q I rx ry ⟨Hf, ss, r1, r2, k⟩
  cases r2
  cases ry
  have fin : ∀ c, z = .bool c → (!(v == Value.bool b)) = c → EP X pins σ Q (.bool (!(v == Value.bool b))) s := fun c e1 e2 => by
   rw [e2]; subst e1; exact ⟨.bl c, H, I, rfl, k _ H Hf (Grow.refl ss) rfl⟩
  cases x with
  | none => cases r1; cases rx; cases h; exact wpAny_isNot_plain rfl (fin _ rfl rfl)
  | bool c => cases r1; cases rx; cases h; exact wpAny_isNot_plain rfl (fin _ rfl (by cases c <;> cases b <;> rfl))
  | int i => cases r1; obtain ⟨t, rfl⟩ := rx; cases h; exact wpAny_isNot_plain rfl (fin _ rfl rfl)
  | str i => cases r1; obtain ⟨t, rfl⟩ := rx; cases h; exact wpAny_isNot_plain rfl (fin _ rfl rfl)
  | tuple ds => obtain ⟨a, vs, rfl, _⟩ := r1; cases rx; cases h; exact wpAny_isNot_plain rfl (fin _ rfl rfl)
  | list ds => obtain ⟨a, vs, rfl, _⟩ := r1; cases rx; cases h; exact wpAny_isNot_plain rfl (fin _ rfl rfl)
  | dict ds => cases h
 | _ => cases h
noncomputable def bl3 (K : PySem.W.Frag) (d : D) (u : Value) : Prop := ∃ v, O4 v u ∧ ∀ H : Hp, Rep K H d v
theorem cx8 {x : Str} {d : D} {u : Value} {pos : Pos} (r : bl3 X.K d u) (hg : Gl X x) (hm : X.mg x = some u) (hd : (x == ("__debug__" : Str)) = false := by decide) : JE X (.Name x pos) (dC d) := fun ρ d' q => by
 cases q
 obtain ⟨v, rv, rp⟩ := r
 exact G1 (bW9 hg hm rv hd) fun σ H Q ⟨H0, Hf, s, sl, k⟩ => k _ H Hf (Grow.refl s) (rp Hf)
noncomputable def qN (f : Rho → Option (List D)) : Rho → Option (Bool × List D) := fun ρ => (f ρ).map fun ds => (false, ds)
theorem cw0 {e : Expr} {f : Rho → Option (List D)} (h : JN X e f) : JQ X e (qN f) := bL8 h
noncomputable def L8 (f : Rho → Option (Bool × List D)) : DE := fun ρ => (f ρ).bind fun q => if q.1 = true then none else some (.tuple q.2)
theorem cb6 {e : Expr} {f : Rho → Option (Bool × List D)} {p pos : Pos} (hg : Gl X "tuple") (hm : X.mg "tuple" = none) (h : JQ X e f) (he : starEach [e] X.env = [(false, eval e X.env)] := by rfl) : JE X (.Call (.Name "tuple" p) [e] [] pos) (L8 f) := bM4 hg hm h (he := he)
end
end G
namespace G
open PySem PySem.Spec PyProof.Rows L2
theorem bD0 (l b : Addr) (items items2 : Array Value) (n n2 : Nat) (dd dd2 : Option Addr) (sl sl2 : Array (Option Value)) (hz : items.size + items2.size ≤ sizeLine) :
  Meets (Builtin.«list.__add__» ⟨[.ref l, .ref b], []⟩) (fun _ R s => s.heap.get? l = some ⟨.type "list", dd, .seq items n, sl⟩ ∧ s.heap.get? b = some ⟨.type "list", dd2, .seq items2 n2, sl2⟩ ∧ R (.ok (.ret (Value.ref s.heap.objs.size))) { s with heap := s.heap.push { cls := Value.type "list", data := Data.seq (items ++ items2) } }) :=
 .of_wp fun prog w A R s h => by
  obtain ⟨hp, g, d, tk, os⟩ := s
  obtain ⟨hl, hb, h⟩ := h
  have hsub : isSubtype (.type "list") (.type "list") = pure true := by rw [isSubtype_type]; kernel_rfl
  have hsz := hz
  wp_walk
  exact ⟨_, rfl, h⟩
section
variable {X : Cx}
theorem bn6 : OpR X (binaryOp .Add) (fun x y H Q => ∃ a b xs ys, x = .ref a ∧ y = .ref b ∧ SqL X.K H a xs ∧ SqL X.K H b ys ∧ xs.length + ys.length ≤ sizeLine ∧ ∀ p, H p = none → Q (.ref p) (upd H p (.lst (xs ++ ys)))) := by
 intro pins s σ H x y v u Q I rx ry h
 obtain ⟨a, b, xs, ys, rfl, rfl, ha, hb, hz, q⟩ := h
 cases rx
 cases ry
 obtain ⟨its, r1, p1, _⟩ := I.list ha
 obtain ⟨its2, r2, p2, _⟩ := I.list hb
 obtain ⟨⟨cls, dd, data, sl⟩, ho, hc, n, hd⟩ := p1.isList
 obtain ⟨⟨cls2, dd2, data2, sl2⟩, ho2, hc2, n2, hd2⟩ := p2.isList
 simp only at hc hd hc2 hd2
 subst hc hd hc2 hd2
 have l1 := r1.length
 have l2 := r2.length
 refine concat_meets ⟨_, ho, rfl⟩ ⟨_, ho2, rfl⟩ noFill_list_add seq_list_add PySem.F.slot_list_add PySem.F.entry_list_add (PySem.F.args_list_add_2 _ _) (bD0 a b its.toArray its2.toArray n n2 dd dd2 sl sl2 (by simp only [List.size_toArray]; omega)) ⟨ho, ho2, ?_⟩
 have ea : its.toArray ++ its2.toArray = (its ++ its2).toArray := by simp
 rw [ea]
 exact ⟨.ref _, _, I.lnew (t' := s.toks) (r1.append r2) (by rw [List.length_append]; omega), rfl, q _ I.fresh⟩
noncomputable def B4 (x y : D) : Option D := match x, y with
 | .list xs, .list ys => if xs.length + ys.length ≤ 16777216 then some (.list (xs ++ ys)) else none
 | x, y => m9 x y
theorem bY2 : OpD X (binaryOp .Add) B4 := fun x y z h => by
 unfold B4 at h
 split at h
 ·split at h
  ·rename_i c
   cases h
   refine OpR.imp bn6 fun vx vy H Q ⟨Hf, s, r1, r2, k⟩ => ?_
   obtain ⟨a, vs, rfl, h2, h3⟩ := r1
   obtain ⟨b, us, rfl, h5, h6⟩ := r2
   refine ⟨a, b, vs, us, rfl, rfl, M3 s h2, M3 s h5, by rw [h3.length, h6.length, sizeLine_eq]; exact c, fun p hp => ?_⟩
   exact k _ _ _ (Grow.laid s hp) ⟨p, vs ++ us, rfl, SqL.of G8, (h3.append h6).mono (L1 (s.free hp))⟩
  ·cases h
 ·exact bI3 _ _ z h
noncomputable def ch6 (f : DE) : DE := fun ρ => (f ρ).bind fun d => match d with
 | .tuple xs => some (.tuple xs.reverse)
 | _ => none
end
end G
namespace G
theorem xg0 {α : Type} {a : α} {l : List α} : (a :: l)[0]? = some a := rfl
theorem xg1 {α : Type} {a : α} {i : Nat} {l : List α} : (a :: l)[i + 1]? = l[i]? := rfl
theorem xw0 {α : Type} {a b : α} {l : List α} : (a :: l).set 0 b = b :: l := rfl
theorem xw1 {α : Type} {a b : α} {i : Nat} {l : List α} : (a :: l).set (i + 1) b = a :: l.set i b := rfl
theorem xbs {α β : Type} {a : α} {f : α → Option β} : (some a).bind f = f a := rfl
theorem xms {α β : Type} {a : α} {f : α → β} : (some a).map f = some (f a) := rfl
theorem xca {α : Type} {a : α} {l m : List α} : (a :: l) ++ m = a :: (l ++ m) := rfl
theorem xna {α : Type} {l : List α} : [] ++ l = l := rfl
theorem xmc {α β : Type} {f : α → β} {a : α} {l : List α} : (a :: l).map f = f a :: l.map f := rfl
theorem xmn {α β : Type} {f : α → β} : [].map f = [] := rfl
theorem xnf : (!false) = true := rfl
theorem xnt : (!true) = false := rfl
theorem xft : (false = true) = False := by simp
end G
local macro_rules
  | `(‹$x›) => `(some (G.B.val $x))
noncomputable section
namespace Sh
open PySem PySem.Spec PyProof.Rows L2 G
def ay2 : DS := (A6 (ac4 (tB2 neD (A1 1) (dC (.int 0))) (A6 (B3 2 (A4 U1 (A1 0) (A1 1))) (A6 (B3 0 (A1 1)) (B3 1 (A1 2))))) (B2 (A1 0)))
def T7 : List D → Option D := K2 ay2 3
def i6 : DS := (A6 (B3 2 (A2 T7 (A0 (A1 0) (A0 (A1 1) A3)))) (B2 (J1 (A0 (A4 X7 (A1 0) (A1 2)) (A0 (A4 X7 (A1 1) (A1 2)) A3)))))
def T5 : List D → Option D := K2 i6 3
def i8 : DS := (B2 (A4 leI (A4 T1 (dIx (A5 0) (dC (.int 0))) (dIx (A5 1) (dC (.int 1)))) (A4 T1 (dIx (A5 1) (dC (.int 0))) (dIx (A5 0) (dC (.int 1))))))
def i9 : List D → Option D := K2 i8 2
def aC6 : DS := (B2 (A2 T5 (A0 (A4 m9 (A4 T1 (dIx (A5 0) (dC (.int 0))) (dIx (A5 1) (dC (.int 1)))) (A4 T1 (dIx (A5 1) (dC (.int 0))) (dIx (A5 0) (dC (.int 1))))) (A0 (A4 T1 (dIx (A5 0) (dC (.int 1))) (dIx (A5 1) (dC (.int 1)))) A3))))
def R9 : List D → Option D := K2 aC6 2
def ad8 : DS := (B2 (A2 T5 (A0 (A4 ae3 (A4 T1 (dIx (A5 0) (dC (.int 0))) (dIx (A5 1) (dC (.int 1)))) (A4 T1 (dIx (A5 1) (dC (.int 0))) (dIx (A5 0) (dC (.int 1))))) (A0 (A4 T1 (dIx (A5 0) (dC (.int 1))) (dIx (A5 1) (dC (.int 1)))) A3))))
def Q0 : List D → Option D := K2 ad8 2
def aC3 : DS := (B2 (A2 T5 (A0 (A4 T1 (dIx (A5 0) (dC (.int 0))) (dIx (A5 1) (dC (.int 0)))) (A0 (A4 T1 (dIx (A5 0) (dC (.int 1))) (dIx (A5 1) (dC (.int 1)))) A3))))
def R8 : List D → Option D := K2 aC3 2
def aj8 : DS := (B2 (A2 Q0 (A0 (dC (.tuple [(.int 1), (.int 1)])) (A0 (A1 0) A3))))
def X9 : List D → Option D := K2 aj8 1
def Z0 : DS := (B2 (as6 (S0 (A2 i9 (A0 (A1 0) (A0 (dC (.tuple [(.int 1), (.int 1)])) A3)))) (A1 0) (dC (.tuple [(.int 1), (.int 1)]))))
def U4 : List D → Option D := K2 Z0 1
def O0 : DS := (A6 (sIf (tB2 eqD (A1 0) (dC (.str "plus"))) (B2 (A2 U4 (A0 (A2 R9 (A0 (A1 1) (A0 (A1 2) A3))) A3))) J2) (A6 (sIf (tB2 eqD (A1 0) (dC (.str "atop"))) (B2 (A1 2)) J2) (A6 (sIf (tB2 eqD (A1 0) (dC (.str "cut"))) (B2 (A2 R8 (A0 (A1 2) (A0 (A2 X9 (A0 (A1 1) A3)) A3)))) J2) (B2 (A2 Q0 (A0 (A2 R9 (A0 (A1 1) (A0 (A1 2) A3))) (A0 (A2 R8 (A0 (A1 1) (A0 (A1 2) A3))) A3)))))))
def U9 : List D → Option D := K2 O0 3
def N1 : DS := (A6 (sIf (tB2 eqD (A1 0) (dC (.str "plus"))) (B2 (A2 U4 (A0 (A2 R9 (A0 (A1 3) (A0 (A1 4) A3))) A3))) J2) (A6 (sIf (tB2 eqD (A1 0) (dC (.str "screen"))) (B2 (A2 Q0 (A0 (A2 R9 (A0 (A1 3) (A0 (A1 4) A3))) (A0 (A2 R8 (A0 (A1 3) (A0 (A1 4) A3))) A3)))) J2) (A6 (B3 5 (A2 R8 (A0 (A1 4) (A0 (A2 X9 (A0 (A1 1) A3)) A3)))) (A6 (sIf (tB2 eqD (A1 0) (dC (.str "over"))) (B2 (A2 R9 (A0 (A1 3) (A0 (A1 5) A3)))) J2) (A6 (sIf (tB2 eqD (A1 0) (dC (.str "multiply"))) (B2 (A2 R9 (A0 (A2 R9 (A0 (A2 R8 (A0 (A1 3) (A0 (A1 4) A3))) (A0 (A2 R8 (A0 (A1 3) (A0 (A2 X9 (A0 (A1 2) A3)) A3))) A3))) (A0 (A1 5) A3)))) J2) (A6 (sIf (tB2 eqD (A1 0) (dC (.str "atop"))) (B2 (A2 R9 (A0 (A2 R8 (A0 (A1 3) (A0 (A1 2) A3))) (A0 (A1 5) A3)))) J2) (B2 (A1 5))))))))
def T8 : List D → Option D := K2 N1 6
def aO4 : DS := (A6 (B3 3 (dIx (A5 1) (dC (.int 0)))) (A6 (B3 4 (dIx (A5 2) (dC (.int 0)))) (A6 (N5 5 (D6 2 [0, 3, 4] (ah0 (qE (aa1 (A1 1) (L3 (dC (.int 1))) O1)) (qE (aa1 (A1 2) (L3 (dC (.int 1))) O1))) (K6 2 (B0 (A8 0) (B0 (A8 1) L5))) G0 (A2 T8 (A0 (A1 2) (A0 (A1 3) (A0 (A1 4) (A0 (A1 0) (A0 (A1 1) A3)))))))) (B2 (J1 (A0 (A2 U9 (A0 (A1 0) (A0 (A1 3) (A0 (A1 4) A3)))) (A0 (dIx (A5 5) (dC (.int 0))) (A0 (dIx (A5 5) (dC (.int 1))) (A0 (dIx (A5 5) (dC (.int 2))) A3)))))))))
def j5 : List D → Option D := K2 aO4 6
def aH6 : DS := (A6 (sIf (tB2 eqD (A1 0) (T4 A3)) (B2 (A4 T1 (dC (.int 7)) (A1 1))) J2) (B2 (A4 m9 (dIx (A5 0) (A4 U1 (A1 1) (i5 (A5 0)))) (A4 T1 (dC (.int 6553)) (A4 X7 (A1 1) (i5 (A5 0)))))))
def au3 : List D → Option D := K2 aH6 2
def aO1 : DS := (A6 (B3 3 (A4 U1 (A4 m9 (A4 T1 (A4 U1 (A2 au3 (A0 (A1 0) (A0 (A1 1) A3))) (dC (.int 2147483563))) (dC (.int 69069))) (A4 T1 (dC (.int 104723)) (A4 m9 (A1 1) (dC (.int 1))))) (dC (.int 2147483563)))) (A6 (B3 3 (A4 U1 (A4 m9 (A4 T1 (A1 3) (A1 3)) (A4 X7 (A1 3) (dC (.int 3)))) (dC (.int 2147483399)))) (B2 (A4 U1 (A4 X7 (A4 U1 (A4 m9 (A4 T1 (A1 3) (A1 3)) (A4 X7 (A1 3) (dC (.int 7)))) (dC (.int 2147483647))) (dC (.int 11))) (A1 2)))))
def A7 : List D → Option D := K2 aO1 4
def au1 : DS := (A6 (B3 2 (A1 0)) (A6 (B3 3 (A1 1)) (A6 (ac4 (tB2 gtI (A1 2) (dC (.int 0))) (bG0 2 3 (A0 (A4 U1 (A1 3) (A1 2)) (A0 (A1 2) A3)))) (B2 (J1 (A0 (A4 X7 (A1 0) (A1 3)) (A0 (A4 X7 (A1 1) (A1 3)) A3)))))))
def S5 : List D → Option D := K2 au1 4
def bc4 : DS := (B2 (A2 S5 (A0 (A4 m9 (A4 T1 (dIx (A5 0) (dC (.int 0))) (dIx (A5 1) (dC (.int 1)))) (A4 T1 (dIx (A5 1) (dC (.int 0))) (dIx (A5 0) (dC (.int 1))))) (A0 (A4 T1 (dIx (A5 0) (dC (.int 1))) (dIx (A5 1) (dC (.int 1)))) A3))))
def J0 : List D → Option D := K2 bc4 2
def aN7 : DS := (B2 (A2 S5 (A0 (A4 T1 (dIx (A5 0) (dC (.int 0))) (dIx (A5 1) (dC (.int 0)))) (A0 (A4 T1 (dIx (A5 0) (dC (.int 1))) (dIx (A5 1) (dC (.int 1)))) A3))))
def D5 : List D → Option D := K2 aN7 2
def bc3 : DS := (B2 (A2 S5 (A0 (A4 ae3 (dIx (A5 0) (dC (.int 1))) (dIx (A5 0) (dC (.int 0)))) (A0 (dIx (A5 0) (dC (.int 1))) A3))))
def S3 : List D → Option D := K2 bc3 1
def aN8 : DS := (A6 (B3 2 (A4 m9 (dC (.int 1)) (A2 A7 (A0 (A1 0) (A0 (A1 1) (A0 (dC (.int 12)) A3)))))) (A6 (B3 3 (A2 S5 (A0 (A2 A7 (A0 (A1 0) (A0 (A4 m9 (A1 1) (dC (.int 1))) (A0 (A4 m9 (A1 2) (dC (.int 1))) A3)))) (A0 (A1 2) A3)))) (B2 (dIx (qN (A0 (A1 3) (A0 (A1 3) (A0 (A1 3) (A0 (J1 (A0 (dC (.int 0)) (A0 (dC (.int 1)) A3))) (A0 (J1 (A0 (dC (.int 1)) (A0 (dC (.int 1)) A3))) A3)))))) (A2 A7 (A0 (A1 0) (A0 (A4 m9 (A1 1) (dC (.int 2))) (A0 (dC (.int 5)) A3))))))))
def O3 : List D → Option D := K2 aN8 4
def bc2 : DS := (A6 (B3 2 (A2 O3 (A0 (A1 0) (A0 (A1 1) A3)))) (B2 (A4 m9 (J1 (A0 (A1 2) A3)) (L8 (qN (D6 1 [2, 0, 1] (L6 (dC (.int 3))) (A8 0) G0 (A2 D5 (A0 (A1 1) (A0 (A2 O3 (A0 (A1 2) (A0 (A4 m9 (A4 m9 (A1 3) (dC (.int 3))) (A4 T1 (dC (.int 3)) (A1 0))) A3))) A3)))))))))
def k8 : List D → Option D := K2 bc2 3
def aO2 : DS := (A6 (B3 3 (dIx (A5 1) (dC (.int 0)))) (A6 (B3 4 (dIx (A5 2) (dC (.int 0)))) (A6 (B3 5 (A2 S3 (A0 (A1 3) A3))) (A6 (sIf (f6 (tB2 eqD (A1 0) (dC (.str "atop"))) (tB2 eqD (A1 0) (dC (.str "cut")))) (B3 6 (dIx (qN (A0 (A1 4) (A0 (A2 D5 (A0 (A1 4) (A0 (A1 5) A3))) A3))) (X8 (A4 eqD (A1 0) (dC (.str "cut")))))) (B3 6 (A2 J0 (A0 (A1 3) (A0 (A2 D5 (A0 (A1 4) (A0 (A1 5) A3))) A3))))) (A6 (sIf (tB2 eqD (A1 0) (dC (.str "plus"))) (B3 6 (A2 J0 (A0 (A1 3) (A0 (A1 4) A3)))) J2) (A6 (X3 7 (A0 (A1 6) A3)) (A6 (P8 (ah0 (qE (aa1 (A1 1) (L3 (dC (.int 1))) O1)) (qE (aa1 (A1 2) (L3 (dC (.int 1))) O1))) (K6 2 (B0 (A8 8) (B0 (A8 9) L5))) (A6 (B3 10 (A2 D5 (A0 (A1 9) (A0 (A1 5) A3)))) (A6 (sIf (tB2 eqD (A1 0) (dC (.str "over"))) (R3 7 (A2 J0 (A0 (A1 8) (A0 (A1 10) A3)))) J2) (A6 (sIf (tB2 eqD (A1 0) (dC (.str "multiply"))) (R3 7 (A2 J0 (A0 (A2 D5 (A0 (A1 8) (A0 (A1 9) A3))) (A0 (A2 J0 (A0 (A2 D5 (A0 (A1 8) (A0 (A2 S3 (A0 (A1 4) A3)) A3))) (A0 (A1 10) A3))) A3)))) J2) (A6 (sIf (tB2 eqD (A1 0) (dC (.str "screen"))) (R3 7 (A2 J0 (A0 (A1 8) (A0 (A2 D5 (A0 (A1 9) (A0 (A2 S3 (A0 (A1 8) A3)) A3))) A3)))) J2) (A6 (sIf (tB2 eqD (A1 0) (dC (.str "plus"))) (R3 7 (A2 J0 (A0 (A1 8) (A0 (A1 9) A3)))) J2) (A6 (sIf (tB2 eqD (A1 0) (dC (.str "atop"))) (R3 7 (A2 J0 (A0 (A2 D5 (A0 (A1 8) (A0 (A1 4) A3))) (A0 (A1 10) A3)))) J2) (sIf (tB2 eqD (A1 0) (dC (.str "cut"))) (R3 7 (A1 10)) J2)))))))) (aw6 7 (B2 (L8 (qN (D6 1 [] (L4 (A1 7)) (A8 0) G0 (dIx (qN (A0 (A1 0) (A0 (J1 (A0 (dC (.int 1)) (A0 (dC (.int 1)) A3))) A3))) (X8 (A4 gtI (dIx (A5 0) (dC (.int 0))) (dIx (A5 0) (dC (.int 1))))))))))))))))))
def Y0 : List D → Option D := K2 aO2 11
def aj9 : DS := (A6 (B3 2 (dIx (A5 1) (dC (.int 0)))) (A6 (B3 3 (dIx (A5 1) (dC (.int 1)))) (A6 (B3 4 (dIx (A5 1) (dC (.int 2)))) (A6 (B3 5 (dIx (A5 1) (dC (.int 3)))) (A6 (sIf (tB2 eqD (A1 0) (dC (.str "turn"))) (B2 (J1 (A0 (A1 2) (A0 (A2 Q0 (A0 (A1 2) (A0 (A1 3) A3))) (A0 (A2 Q0 (A0 (A1 2) (A0 (A1 4) A3))) (A0 (A2 Q0 (A0 (A1 2) (A0 (A1 5) A3))) A3)))))) J2) (A6 (sIf (tB2 eqD (A1 0) (dC (.str "grey"))) (A6 (B3 6 (A2 R8 (A0 (A2 R9 (A0 (A2 R9 (A0 (A1 3) (A0 (A1 4) A3))) (A0 (A1 5) A3))) (A0 (dC (.tuple [(.int 1), (.int 3)])) A3)))) (B2 (J1 (A0 (A1 2) (A0 (A1 6) (A0 (A1 6) (A0 (A1 6) A3))))))) J2) (B2 (J1 (A0 (A1 2) (A0 (A1 4) (A0 (A1 5) (A0 (A1 3) A3))))))))))))
def ak6 : List D → Option D := K2 aj9 7
def br6 : DS := (B2 (A2 R9 (A0 (A2 R8 (A0 (A1 0) (A0 (A1 1) A3))) (A0 (A2 R8 (A0 (A2 X9 (A0 (A1 0) A3)) (A0 (A1 2) A3))) A3))))
def aC7 : List D → Option D := K2 br6 3
def br5 : DS := (B2 (L8 (qN (D6 2 [2] (ah0 (qE (A2 ak6 (A0 (A1 0) (A0 (A1 1) A3)))) (qE (A1 1))) (K6 2 (B0 (A8 0) (B0 (A8 1) L5))) G0 (A2 aC7 (A0 (A1 2) (A0 (A1 0) (A0 (A1 1) A3))))))))
def au2 : List D → Option D := K2 br5 3
def au0 : DS := (A6 (V9 (A1 1) (K6 4 (B0 (A8 3) (B0 (A8 4) (B0 (A8 5) (B0 (A8 6) L5)))))) (A6 (B3 7 (A2 D5 (A0 (A2 J0 (A0 (A1 4) (A0 (A2 J0 (A0 (A1 5) (A0 (A1 6) A3))) A3))) (A0 (J1 (A0 (dC (.int 1)) (A0 (dC (.int 3)) A3))) A3)))) (A6 (B3 8 (J1 (A0 (A1 3) (A0 (A1 7) (A0 (A1 7) (A0 (A1 7) A3)))))) (A6 (sIf (tB2 eqD (A1 0) (dC (.str "turn"))) (B3 8 (A4 m9 (J1 (A0 (A1 3) A3)) (L8 (qN (D6 1 [3] (L4 (aa1 (A1 1) (L3 (dC (.int 1))) O1)) (A8 0) G0 (A2 S5 (A0 (A4 ae3 (A4 T1 (dIx (A5 1) (dC (.int 0))) (dIx (A5 0) (dC (.int 1)))) (A4 T1 (dIx (A5 0) (dC (.int 0))) (dIx (A5 1) (dC (.int 1))))) (A0 (A4 T1 (dIx (A5 1) (dC (.int 1))) (dIx (A5 0) (dC (.int 1)))) A3)))))))) J2) (A6 (sIf (tB2 eqD (A1 0) (dC (.str "round"))) (B3 8 (J1 (A0 (A1 3) (A0 (A1 5) (A0 (A1 6) (A0 (A1 4) A3)))))) J2) (A6 (B3 9 (A2 S3 (A0 (A1 2) A3))) (B2 (L8 (qN (D6 2 [2, 9] (ah0 (qE (A1 8)) (qE (A1 1))) (K6 2 (B0 (A8 0) (B0 (A8 1) L5))) G0 (A2 J0 (A0 (A2 D5 (A0 (A1 0) (A0 (A1 2) A3))) (A0 (A2 D5 (A0 (A1 1) (A0 (A1 3) A3))) A3)))))))))))))
def ab1 : List D → Option D := K2 au0 10
end Sh
namespace G
open PySem PySem.Spec PyProof.Rows L2
section
variable {prog : Program} {w : World} {A : Around} {E : Value → Shared → Prop} {s : Shared}
theorem bl1 (n : Nat) : Builtin.Slice.sliceAdjust none none (-1) (n : Int) = ((n : Int) - 1, -1) := by
 unfold Builtin.Slice.sliceAdjust
 have h1 : (-1 : Int) < 0 := by omega
 simp only [h1, if_true]
theorem bf2 (n : Nat) : Builtin.Slice.slicePlaces ((n : Int) - 1) (-1) (-1) = n := by
 unfold Builtin.Slice.slicePlaces
 have h1 : ¬ (-1 : Int) > 0 := by omega
 have h2 : -(-1 : Int) = 1 := by omega
 simp only [h1, if_false, h2, Int.ediv_one]
 split <;> omega
theorem au6 {sl : Addr} {t : Tok} {n : Nat} {Q : Int × Int × Nat → Shared → Prop} (hs : s.heap.IsSliceOf sl .none .none (.int (-1) t))
  (h : Q ((n : Int) - 1, -1, n) s) : wpAny (model prog w) A (Builtin.Slice.sliceApplied (.ref sl) (pure (n : Int))) Q E s := by
 obtain ⟨os, hos, hcs, hds⟩ := id hs
 unfold Builtin.Slice.sliceApplied Builtin.Slice.sliceFields
 refine wpAny_bind (wpAny_bind (wpAny_field hos hds (x := .none) rfl (wpAny_bind (wpAny_field hos hds (x := .none) rfl (wpAny_bind (wpAny_field hos hds (x := .int (-1) t) rfl (wpAny_pure ?_)))))))
 refine wpAny_bind (slicePart_int ?_)
 show wpAny _ _ (if ((-1 : Int) == 0) = true then _ else _) _ _ s
 rw [if_neg (by decide)]
 refine wpAny_bind (slicePart_none (wpAny_bind (slicePart_none (wpAny_bind (wpAny_pure ?_)))))
 show wpAny _ _ (match Builtin.Slice.sliceAdjust none none (-1) (n : Int) with | (lo, hi) => pure (lo, (-1 : Int), Builtin.Slice.slicePlaces lo hi (-1))) _ _ s
 rw [bl1 n]
 show wpAny _ _ (pure ((n : Int) - 1, (-1 : Int), Builtin.Slice.slicePlaces ((n : Int) - 1) (-1) (-1))) _ _ s
 rw [bf2]
 exact wpAny_pure h
theorem aW3 {α : Type} : ∀ l : List α, (List.range l.length).filterMap (fun k => l[k]?) = l
 | [] => rfl
 | a :: l => by
  rw [List.length_cons, List.range_succ_eq_map, List.filterMap_cons, List.filterMap_map]
  simp only [xg0]
  congr 1
  exact aW3 l
theorem aZ1 {α β : Type} {f g : α → Option β} : ∀ {l : List α}, (∀ x ∈ l, f x = g x) → l.filterMap f = l.filterMap g
 | [], _ => rfl
 | a :: l, h => by rw [List.filterMap_cons, List.filterMap_cons, h a (List.mem_cons_self ..), aZ1 fun x hx => h x (List.mem_cons_of_mem _ hx)]
theorem bH2 (xs : Array Value) : ((List.range xs.size).filterMap fun (k : Nat) => xs[(((xs.size : Int) - 1) + (k : Int) * -1).toNat]?).toArray = xs.toList.reverse.toArray := by
 congr 1
 have e : ∀ k ∈ List.range xs.size, xs[(((xs.size : Int) - 1) + (k : Int) * -1).toNat]? = xs.toList.reverse[k]? := by
  intro k hk
  have hk := List.mem_range.mp hk
  have : (((xs.size : Int) - 1) + (k : Int) * -1).toNat = xs.size - 1 - k := by omega
  rw [this, List.getElem?_reverse (by rw [Array.length_toList]; exact hk), Array.length_toList, Array.getElem?_toList]
 rw [aZ1 e]
 have := aW3 xs.toList.reverse
 rw [List.length_reverse, Array.length_toList] at this
 exact this
theorem ar1 {t sl : Addr} {items : Array Value} {k : Tok} {Q : Value → Shared → Prop} (ht : IsTup s.heap t items) (hs : s.heap.IsSliceOf sl .none .none (.int (-1) k))
  (h : Q (.ref s.heap.objs.size) { s with heap := s.heap.push { cls := .type "tuple", data := .seq items.toList.reverse.toArray } })
  (hsz : items.size ≤ sizeLine) : wpAny (model prog w) A (getItem (.ref t) (.ref sl)) Q E s := by
 have htake : sizeOk (.seq items.toList.reverse.toArray) := by
  show items.toList.reverse.toArray.size ≤ sizeLine
  rw [List.size_toArray, List.length_reverse, Array.length_toList]
  omega
 obtain ⟨os, hos, hcs, hds⟩ := id hs
 have hTs : s.TypeIs (.ref sl) "slice" := ⟨os, hos, hcs⟩
 unfold getItem
 try with_reducible refine wpAny_holding ?_
 first | refine wpAny_bind (wpAny_pure ?_) | skip
 refine wpAny_bind (wpAny_sequenceKey ht.typeIs (by decide) ?_)
 refine wpAny_bind (wpAny_callSpecial?_slot (name := Str.ofString "__getitem__") ht.typeIs PyProof.Rows.slot_tuple_getitem
  (wpAny_call_entry PyProof.Rows.slot_tuple_getitem ht.typeIs entry_tuple_getitem ?_ (args_tuple_getitem _ _)))
 show wpAny _ _ (Builtin.Tuple.tupleItemsOf (.ref t) >>= _) _ _ s
 refine wpAny_bind (tupleItemsOf_ ht ?_)
 refine wpAny_bind (wpAny_typeOf hTs ?_)
 rw [if_pos (by decide)]
 refine wpAny_bind (au6 hs ?_)
 have hno : ¬ ((((items.size : Int) - 1) == 0 && (-1 : Int) == 1 && items.size == items.size) = true) := by
  have : ((-1 : Int) == 1) = false := rfl
  rw [this]; simp
 show wpAny _ _ (if (((items.size : Int) - 1) == 0 && (-1 : Int) == 1 && items.size == items.size) = true then _ else _) _ _ s
 rw [if_neg hno, bH2]
 first
  | exact wpAny_bind (m := Builtin.Tuple.tupleExact _) (wpAny_newObj_type (wpAny_pure ⟨_, rfl, wpAny_pure h⟩) htake)
  | exact wpAny_bind (m := Builtin.Tuple.tupleExact _) (wpAny_newObj_type (wpAny_bind (wpAny_pure (wpAny_pure ⟨_, rfl, wpAny_pure h⟩))) htake)
  | exact wpAny_bind (wpAny_bind (m := Builtin.Tuple.tupleExact _) (wpAny_newObj_type (wpAny_pure (wpAny_pure ⟨_, rfl, wpAny_pure h⟩)) htake))
  | exact wpAny_bind (wpAny_bind (m := Builtin.Tuple.tupleExact _) (wpAny_newObj_type (wpAny_pure ⟨_, rfl, wpAny_pure h⟩) htake))
end
section
variable {X : Cx} {e st : Expr} {te ts : TE} {p2 pos : Pos}
theorem aV4 : ∀ {xs : List V} {us : List Value}, L7 xs us → L7 xs.reverse us.reverse
 | [], [], h => h
 | x :: xs, u :: us, h => by
  cases h with
  | cons a b => rw [List.reverse_cons, List.reverse_cons]; exact (aV4 b).append (.cons a .nil)
theorem cq6 (he : PE X e te) (hs : PE X st ts) : PE X (.Subscript e (.Slice none none (some st) p2) pos)
  (fun σ H Q => te σ H fun x H1 => ts σ H1 fun y H2 => ∃ a xs, x = .ref a ∧ y = .int (-1) ∧ SqT X.K H2 a xs ∧ ∀ p, H2 p = none → Q (.ref p) (upd H2 p (.tup xs.reverse))) := by
 intro pins s σ H Q I h
 refine Subscript_ (thn (he pins s σ H _ I h) fun v s1 ⟨x, H1, I1, r1, q1⟩ => ?_)
 refine wpAny_Slice ?_
 rw [evalPart_none]
 refine wpAny_pure (wpAny_pure ?_)
 rw [evalPart_some]
 refine thn (hs pins s1 σ H1 _ I1 q1) fun vs s3 ⟨y, H3, I3, r3, a, xs, e1, e2, hx, q⟩ => ?_
 subst e1 e2
 cases r1
 obtain ⟨tk, rfl⟩ := r3
 have I4 : Inv X pins σ H3 { s3 with heap := s3.heap.push { cls := .type "slice", data := .fields #[.none, .none, .int (-1) tk] } } := I3.kept (t' := s3.toks) fun b ob q => Heap.get?_push_of_some _ q
 obtain ⟨its, r, ht, hz⟩ := I4.tuple hx
 have hlen : its.toArray.size = xs.length := by rw [List.size_toArray]; exact r.length.symm
 show wpAny (model X.prog X.w) X.A (subscriptTail e (.Slice none none (some st) p2) (.ref a) (.ref s3.heap.objs.size)) (EP X pins σ Q) X.xe { s3 with heap := s3.heap.push { cls := .type "slice", data := .fields #[.none, .none, .int (-1) tk] } }
 refine tail_any (ops := [.ref a, .ref s3.heap.objs.size]) ht.typeIs PyProof.Rows.slot_tuple_getitem.lookup ?_ (by with_unfolding_all rfl)
 refine ar1 ht (Heap.IsSliceOf.new ..) ?_ (by rw [hlen]; exact hz)
 refine ⟨.ref _, _, I4.laid (t' := s3.toks) (o := .tup xs.reverse) (fun b ob q => Heap.get?_push_of_some _ q) (Nat.le_refl _) ?_, rfl, q _ (I4.hok.fresh (Nat.le_refl _))⟩
 exact ⟨by rw [List.length_reverse]; exact hz, _, aV4 r, IsTup.new _ _⟩
theorem bG3 {K : PySem.W.Frag} {H : Hp} {ds : List D} {vs : List V} (h : Reps K H ds vs) : Reps K H ds.reverse vs.reverse := by
 induction ds generalizing vs with
 | nil => cases vs with
  | nil => exact h
  | cons _ _ => exact absurd h.length (by simp)
 | cons d ds ih => cases vs with
  | nil => exact absurd h.length (by simp)
  | cons v vs =>
   obtain ⟨v', r', e, h1, h2⟩ := h
   cases e
   rw [List.reverse_cons, List.reverse_cons]
   exact (ih h2).append ⟨_, _, rfl, h1, rfl⟩
theorem cb7 {a st : Expr} {f : DE} {pos p2 : Pos} (ha : JE X a f) (hs : JE X st (cA0 (dC (.int 1)))) : JE X (.Subscript a (.Slice none none (some st) p2) pos) (ch6 f) := fun ρ d q => by
 obtain ⟨x, e1, q⟩ := Option.bind_eq_some_iff.mp q
 cases x with
 | tuple xs =>
  cases q
  refine G1 (cq6 (ha ρ _ e1) (hs ρ (.int (-1)) rfl)) fun σ H Q ⟨H0, Hf, s, sl, k⟩ => ?_
  refine ⟨H0, Hf, s, sl, fun v H1 Hf1 g1 ⟨p, vs, q1, q2, q3⟩ => ⟨H0, Hf1, g1.sub, sl.grow g1, fun u H2 Hf2 g2 r2 => ?_⟩⟩
  subst q1
  cases r2
  have q2' := K3 g2.ext q2
  have q3' := q3.mono g2.ext
  refine ⟨p, vs, rfl, rfl, K3 g2.sub q2', fun p' hp => ?_⟩
  exact k _ _ _ ((g1.trans g2).trans (Grow.laid g2.sub hp)) ⟨p', _, rfl, SqT.of G8, (bG3 q3').mono (L1 (g2.sub.free hp))⟩
 | _ => cases q
end
end G
namespace Sh
open PySem PySem.Spec PyProof.Rows L2 G
def aH3 : DS := (B2 (L8 (qN (D6 1 [1] (L4 (A1 0)) (A8 0) G0 (A2 R8 (A0 (A1 0) (A0 (A1 1) A3)))))))
def k6 : List D → Option D := K2 aH3 2
end Sh
namespace G
open PySem PySem.Spec PyProof.Rows L2
section
variable {X : Cx}
def atS (x : Str) (i : Int) : Option D := if x.length ≤ 16777216 then (atI x.cps.toList i).map fun c => .str ⟨#[c]⟩ else none
def ap2 (f g : DE) : DE := fun ρ => (f ρ).bind fun x => (g ρ).bind fun i => match x, i with
 | .str x, .int i => atS x i
 | _, _ => none
theorem cx5 {a b : Expr} {f g : DE} {pos : Pos} (ha : JE X a f) (hb : JE X b g) (hs : aC2 b := by intro _ _; rfl) : JE X (.Subscript a b pos) (ap2 f g) := fun ρ d q => by
 obtain ⟨x, h1, q⟩ := Option.bind_eq_some_iff.mp q
 obtain ⟨y, h2, h3⟩ := Option.bind_eq_some_iff.mp q
 split at h3
 ·rename_i x i
  unfold atS at h3
  split at h3
  ·rename_i hz
   obtain ⟨c, e1, e2⟩ := Option.map_eq_some_iff.mp h3
   subst e2
   refine G1 (cg1 bN3 (ha ρ _ h1) (hb ρ _ h2) hs) fun σ H Q ⟨H0, Hf, s, sl, k⟩ => ?_
   refine ⟨H0, Hf, s, sl, fun v H1 Hf1 g1 r1 => ⟨H0, Hf1, g1.sub, sl.grow g1, fun u H2 Hf2 g2 r2 => ?_⟩⟩
   exact .inr (.inr ⟨x, i, c, r1, r2, by rw [sizeLine_eq]; exact hz, e1, k _ H2 Hf2 (g1.trans g2) rfl⟩)
  ·cases h3
 ·cases h3
def aK1 (f : DE) (lo hi : Rho → Option (Option Int)) : DE := fun ρ => (f ρ).bind fun d => (lo ρ).bind fun l => (hi ρ).bind fun h => match d with
 | .tuple xs => some (.tuple (al0 xs l h))
 | .list xs => some (.list (al0 xs l h))
 | _ => none
theorem cx1 {a : Expr} {lo hi : Option Expr} {f : DE} {l h : Rho → Option (Option Int)} {pos p2 : Pos} (ha : JE X a f) (hl : JO X lo l) (hh : JO X hi h) : JE X (.Subscript a (.Slice lo hi none p2) pos) (aK1 f l h) := fun ρ d q => by
 obtain ⟨x, e1, q⟩ := Option.bind_eq_some_iff.mp q
 obtain ⟨y, e2, q⟩ := Option.bind_eq_some_iff.mp q
 obtain ⟨z, e3, q⟩ := Option.bind_eq_some_iff.mp q
 cases x with
 | tuple xs =>
  cases q
  refine bM6 ha hl hh ρ _ ?_
  unfold aa1
  rw [e1, xbs, e2, xbs, e3, xbs]
 | list xs =>
  cases q
  refine G1 (aq5 bm4 (ha ρ _ e1) (hl ρ y e2) (hh ρ z e3)) fun σ H Q ⟨H0, Hf, s, sl, k⟩ => ?_
  refine ⟨H0, Hf, s, sl, fun v H1 Hf1 g1 ⟨p, vs, q1, q2, q3⟩ => ⟨H0, Hf1, g1.sub, sl.grow g1, fun H2 Hf2 g2 => ⟨H0, Hf2, g2.sub, sl.grow (g1.trans g2), fun H3 Hf3 g3 => ?_⟩⟩⟩
  subst q1
  have q2' := M3 (g2.trans g3).ext q2
  have q3' := q3.mono (g2.trans g3).ext
  refine ⟨p, vs, rfl, M3 g3.sub q2', fun p' hp => ?_⟩
  exact k _ _ _ (((g1.trans g2).trans g3).trans (Grow.laid g3.sub hp)) ⟨p', _, rfl, SqL.of G8, (aE4 q3' y z).mono (L1 (g3.sub.free hp))⟩
 | _ => cases q
end
end G
namespace G
open PySem PySem.Spec PyProof.Rows L2
section
variable {X : Cx}
theorem bm1 : ∀ {ys : List Str} {us : List Value}, L7 (ys.map V.str) us → ∃ l : List (Str × Tok), us = strValues l ∧ l.map (·.1) = ys
 | [], [], _ => ⟨[], rfl, rfl⟩
 | y :: ys, u :: us, h => by
  cases h with
  | cons a b =>
   obtain ⟨t, rfl⟩ := a
   obtain ⟨l, rfl, rfl⟩ := bm1 b
   exact ⟨(y, t) :: l, rfl, rfl⟩
def aq7 (sep : Str) (ys : List Str) : Nat := ys.toArray.foldl (fun n y => n + y.length + sep.length) 0
def cD8 (K : PySem.W.Frag) : V → List V → Hp → VK → Prop := fun x vs H Q => ∃ sep p ys, x = .str sep ∧ vs = [.ref p] ∧ SqL K H p (ys.map V.str) ∧ aq7 sep ys ≤ sizeLine ∧ (Builtin.Str.glued sep ys).length ≤ sizeLine ∧ Q (.str (Builtin.Str.glued sep ys)) H
theorem bZ3 : MtR X "str.join" (cD8 X.K) := by
 intro pins s σ H x vs v us Q I rx rv h
 obtain ⟨sep, p, ys, rfl, rfl, hq, hz, hg, q⟩ := h
 obtain ⟨t, rfl⟩ := rx
 obtain ⟨u, rfl, ru⟩ := rv.one
 cases ru
 obtain ⟨its, r, pl, _⟩ := I.list hq
 obtain ⟨l, rfl, rfl⟩ := bm1 r
 refine call_meets F.slot_str_join (typeIs_str s sep t) F.entry_str_join (F.args_str_join_2 _ _) (meets_str_join_list sep t p l ?_) ⟨pl.isList, ?_⟩
 ·show decide (aq7 sep (l.map (·.1)) > sizeLine) = false
  exact decide_eq_false (by omega)
 ·match l, q, hg with
  | [], q, hg => exact ⟨hg, .str _, H, I.tok _, ⟨_, rfl⟩, q⟩
  | [a], q, _ => exact ⟨.str _, H, I, ⟨_, rfl⟩, q⟩
  | a :: b :: r, q, hg => exact ⟨hg, .str _, H, I.tok _, ⟨_, rfl⟩, q⟩
def bm2 : List D → Option (List Str)
 | [] => some []
 | .str x :: r => (bm2 r).map fun ys => x :: ys
 | _ :: _ => none
theorem aw7 {K : PySem.W.Frag} {H : Hp} : ∀ {ds : List D} {ys : List Str} {vs : List V}, bm2 ds = some ys → Reps K H ds vs → vs = ys.map V.str
 | [], ys, vs, h, r => by cases h; exact r
 | .str x :: ds, ys, vs, h, r => by
  obtain ⟨zs, e1, e2⟩ := Option.map_eq_some_iff.mp h
  subst e2
  obtain ⟨v, r', e, h1, h2⟩ := r
  subst e
  rw [aw7 e1 h2]
  cases h1
  rfl
def aG4 (f : DE) (g : Rho → Option (Bool × List D)) : DE := fun ρ => (f ρ).bind fun s => (g ρ).bind fun q => match s with
 | .str sep => if q.1 = true then none else (bm2 q.2).bind fun ys => if aq7 sep ys ≤ 16777216 ∧ (Builtin.Str.glued sep ys).length ≤ 16777216 then some (.str (Builtin.Str.glued sep ys)) else none
 | _ => none
theorem cc3 {o e : Expr} {f : DE} {g : Rho → Option (Bool × List D)} {apos cpos : Pos} (ho : JE X o f) (h : JQ X e g)
  (hbase : attributeBase o "join" X.env (eval o X.env) = eval o X.env := by rfl)
  (hfew : ((backTo cpos (starEach [e] X.env)).all (fun x => !x.1) && (backToKw cpos (keywordEach [] X.env)).all (fun x => x.1.isSome)
   && decide (([e] : List Expr).length + ([] : List Keyword).length + (if ([] : List Keyword).isEmpty then 0 else 1) < 30)) = true := by rfl)
  (hline : (apos.endLine == cpos.line) = true := by rfl) (hs : starEach [e] X.env = [(false, eval e X.env)] := by rfl) :
  JE X (.Call (.Attribute o "join" apos) [e] [] cpos) (aG4 f g) := fun ρ d q => by
 obtain ⟨s, e1, q⟩ := Option.bind_eq_some_iff.mp q
 obtain ⟨⟨t, ds⟩, e2, q⟩ := Option.bind_eq_some_iff.mp q
 cases s with
 | str sep =>
  cases t with
  | true => simp at q
  | false =>
   simp only [xft, if_false] at q
   obtain ⟨ys, e3, q⟩ := Option.bind_eq_some_iff.mp q
   split at q
   ·rename_i hz
    cases q
    refine G1 (bn4 F.plainAttrs_str F.slot_str_join F.type_str_join bZ3 (ho ρ _ e1) (K4 (h ρ false ds e2) N8 hs) hbase hfew hline hs) fun σ H Q ⟨H0, Hf, s, sl, k⟩ => ?_
    refine ⟨H0, Hf, s, sl, fun v H1 Hf1 g1 r1 => ?_⟩
    cases r1
    refine ⟨rfl, H0, Hf1, g1.sub, sl.grow g1, fun w H2 Hf2 g2 ⟨p, vs, z1, z2, z3⟩ => ?_⟩
    subst z1
    rw [aw7 e3 z3] at z2
    exact ⟨sep, p, ys, rfl, rfl, z2, by rw [sizeLine_eq]; exact hz.1, by rw [sizeLine_eq]; exact hz.2, k _ H2 Hf2 (g1.trans g2) rfl⟩
   ·cases q
 | _ => cases q
end
end G
namespace G
open PySem PySem.Spec PyProof.Rows L2
section
variable {X : Cx}
def aM6 : D → Bool
 | .none => true
 | .bool _ => true
 | .int _ => true
 | .str _ => true
 | _ => false
def toV : D → V
 | .none => .non
 | .bool b => .bl b
 | .int i => .int i
 | .str x => .str x
 | _ => .non
theorem x9 {K : PySem.W.Frag} {H : Hp} {d : D} {v : V} (f : aM6 d = true) (r : Rep K H d v) : v = toV d ∧ am6 v = true := by
 cases d with
 | none => cases r; exact ⟨rfl, rfl⟩
 | bool b => cases r; exact ⟨rfl, rfl⟩
 | int i => cases r; exact ⟨rfl, rfl⟩
 | str x => cases r; exact ⟨rfl, rfl⟩
 | tuple _ => cases f
 | list _ => cases f
 | dict _ => cases f
theorem aw9 {K : PySem.W.Frag} {H : Hp} : ∀ {ds : List D} {vs : List V}, ds.all aM6 = true → Reps K H ds vs → vs = ds.map toV ∧ vs.all am6 = true
 | [], vs, _, r => by cases (show vs = [] from r); exact ⟨rfl, rfl⟩
 | d :: ds, vs, f, r => by
  rw [List.all_cons, Bool.and_eq_true] at f
  obtain ⟨v, r', e, h1, h2⟩ := r
  subst e
  obtain ⟨e1, e2⟩ := x9 f.1 h1
  obtain ⟨e3, e4⟩ := aw9 f.2 h2
  subst e1 e3
  exact ⟨rfl, by rw [List.all_cons, e2, e4]; rfl⟩
def inD (neg : Bool) (x y : D) : Option D := match y with
 | .list ds => if aM6 x = true ∧ ds.all aM6 = true then some (.bool (if neg then !inV (toV x) (ds.map toV) else inV (toV x) (ds.map toV))) else none
 | .tuple ds => if aM6 x = true ∧ ds.all aM6 = true then some (.bool (if neg then !inV (toV x) (ds.map toV) else inV (toV x) (ds.map toV))) else none
 | _ => none
theorem bN4 {op : CmpOp} {neg : Bool} (o : OpR X (compareOp op) (rIn X.K neg)) : OpD X (compareOp op) (inD neg) := fun x y z h => by
 unfold inD at h
 split at h
 ·split at h
  ·rename_i c
   cases h
   refine OpR.imp o fun vx vy H Q ⟨Hf, s, r1, r2, k⟩ => ?_
   obtain ⟨p, vs, rfl, h2, h3⟩ := r2
   obtain ⟨e1, e2⟩ := x9 c.1 r1
   obtain ⟨e3, e4⟩ := aw9 c.2 h3
   subst e1 e3
   exact ⟨p, _, rfl, .inl (M3 s h2), e2, e4, k _ H Hf (Grow.refl s) rfl⟩
  ·cases h
 ·split at h
  ·rename_i c
   cases h
   refine OpR.imp o fun vx vy H Q ⟨Hf, s, r1, r2, k⟩ => ?_
   obtain ⟨p, vs, rfl, h2, h3⟩ := r2
   obtain ⟨e1, e2⟩ := x9 c.1 r1
   obtain ⟨e3, e4⟩ := aw9 c.2 h3
   subst e1 e3
   exact ⟨p, _, rfl, .inr (K3 s h2), e2, e4, k _ H Hf (Grow.refl s) rfl⟩
  ·cases h
 ·cases h
theorem cF7 : OpD X (compareOp .In) (inD false) := bN4 bu0
theorem bI1 : OpD X (compareOp .NotIn) (inD true) := bN4 aQ8
end
end G
namespace G
open PySem PySem.Spec PyProof.Rows L2
section
variable {X : Cx}
theorem bS1 : bootBuiltins "min" = some (.builtin "min") := by decide +kernel
theorem bS2 : bootBuiltins "max" = some (.builtin "max") := by decide +kernel
theorem cA9 : bootBuiltins "abs" = some (.builtin "abs") := by decide +kernel
def az0 (f g : DE) : DE := fun ρ => (f ρ).bind fun x => (g ρ).bind fun y => match x, y with
 | .int i, .int j => some (.int (if j < i then j else i))
 | _, _ => none
def az1 (f g : DE) : DE := fun ρ => (f ρ).bind fun x => (g ρ).bind fun y => match x, y with
 | .int i, .int j => some (.int (if j > i then j else i))
 | _, _ => none
def cI5 (f : DE) : DE := fun ρ => (f ρ).bind fun x => match x with
 | .int i => some (.int (if i < 0 then -i else i))
 | _ => none
theorem cy2 {e : Expr} {f : DE} {p pos : Pos} (hg : Gl X "abs") (hm : X.mg "abs" = none) (h : JE X e f) (he : starEach [e] X.env = [(false, eval e X.env)] := by rfl) : JE X (.Call (.Name "abs" p) [e] [] pos) (cI5 f) := fun ρ d q => by
 obtain ⟨x, h1, h2⟩ := Option.bind_eq_some_iff.mp q
 split at h2
 ·cases h2
  exact G1 (U0 bR4 hg hm cA9 (K4 (h ρ _ h1) N8 he) (he := he)) fun σ H Q ⟨H0, Hf, s, sl, k⟩ =>
   ⟨H0, Hf, s, sl, fun v H1 Hf1 g1 r => ⟨_, by rw [show v = _ from r], k _ H1 Hf1 g1 rfl⟩⟩
 ·cases h2
theorem cb9 {e e' : Expr} {f g : DE} {p pos : Pos} (hg : Gl X "min") (hm : X.mg "min" = none) (h : JE X e f) (h' : JE X e' g) (hc : X.calm = true := by rfl) (he : starEach [e, e'] X.env = (false, eval e X.env) :: starEach [e'] X.env := by rfl) (he' : starEach [e'] X.env = [(false, eval e' X.env)] := by rfl)
  (hpl : (backTo pos (starEach [e'] X.env)).any (·.1) = false := by rfl) : JE X (.Call (.Name "min" p) [e, e'] [] pos) (az0 f g) := fun ρ d q => by
 obtain ⟨x, h1, q⟩ := Option.bind_eq_some_iff.mp q
 obtain ⟨y, h2, h3⟩ := Option.bind_eq_some_iff.mp q
 split at h3
 ·cases h3
  exact G1 (U0 (bA6 hc) hg hm bS1 (K4 (h ρ _ h1) (K4 (h' ρ _ h2) N8 he') he) (he := he) (hpl := hpl)) fun σ H Q ⟨H0, Hf, s, sl, k⟩ =>
   ⟨H0, Hf, s, sl, fun v H1 Hf1 g1 r => ⟨H0, Hf1, g1.sub, sl.grow g1, fun w H2 Hf2 g2 r2 => ⟨_, _, by rw [show v = _ from r, show w = _ from r2], k _ H2 Hf2 (g1.trans g2) rfl⟩⟩⟩
 ·cases h3
theorem cc1 {e e' : Expr} {f g : DE} {p pos : Pos} (hg : Gl X "max") (hm : X.mg "max" = none) (h : JE X e f) (h' : JE X e' g) (hc : X.calm = true := by rfl) (he : starEach [e, e'] X.env = (false, eval e X.env) :: starEach [e'] X.env := by rfl) (he' : starEach [e'] X.env = [(false, eval e' X.env)] := by rfl)
  (hpl : (backTo pos (starEach [e'] X.env)).any (·.1) = false := by rfl) : JE X (.Call (.Name "max" p) [e, e'] [] pos) (az1 f g) := fun ρ d q => by
 obtain ⟨x, h1, q⟩ := Option.bind_eq_some_iff.mp q
 obtain ⟨y, h2, h3⟩ := Option.bind_eq_some_iff.mp q
 split at h3
 ·cases h3
  exact G1 (U0 (bA8 hc) hg hm bS2 (K4 (h ρ _ h1) (K4 (h' ρ _ h2) N8 he') he) (he := he) (hpl := hpl)) fun σ H Q ⟨H0, Hf, s, sl, k⟩ =>
   ⟨H0, Hf, s, sl, fun v H1 Hf1 g1 r => ⟨H0, Hf1, g1.sub, sl.grow g1, fun w H2 Hf2 g2 r2 => ⟨_, _, by rw [show v = _ from r, show w = _ from r2], k _ H2 Hf2 (g1.trans g2) rfl⟩⟩⟩
 ·cases h3
theorem bN2 {k : Nat} {f : Addr} {fd : FuncData} {ps : List Str} {F : List D → Option D} {x : Str} {p pos : Pos} (Fk : FnOk X.prog X.w X.K X.mg X.base CX0 k f fd ps (spF X.K 0 F)) (hr : Room k X.A) (hg : Gl X x) (hm : X.mg x = some (.ref f)) (hk : PySem.W.keepIn X.K (.ref f) = true) (hb : c7 X.K fd ps [])
  (hdb : (x == ("__debug__" : Str)) = false := by decide) : JE X (.Call (.Name x p) [] [] pos) (A2 F A3) := fun ρ d q => by
 have h2 : F [] = some d := q
 refine G1 (bH5 Fk hr hg hm hk hb .nil cg2 hdb) fun σ H Q ⟨H0, Hf, s, sl, kk⟩ => ?_
 exact ⟨rfl, Hf, [], d, s, rfl, h2, fun v H2 Hf2 g2 r2 => kk v H2 Hf2 g2 r2⟩
end
end G
namespace G
open PySem PySem.Spec PyProof.Rows L2
def aN6 (K : PySem.W.Frag) : List D → List Value → Prop
 | [], us => us = []
 | d :: ds, us => ∃ u r, us = u :: r ∧ bl3 K d u ∧ aN6 K ds r
section
variable {K : PySem.W.Frag}
theorem X5 : aN6 K [] [] := rfl
theorem L9 {d : D} {ds : List D} {u : Value} {us : List Value} (h : bl3 K d u) (t : aN6 K ds us) : aN6 K (d :: ds) (u :: us) := ⟨u, us, rfl, h, t⟩
theorem aM1 : ∀ {ds : List D} {us : List Value}, aN6 K ds us → ∃ vs, L7 vs us ∧ ∀ H : Hp, Reps K H ds vs
 | [], _, h => by cases h; exact ⟨[], .nil, fun _ => rfl⟩
 | d :: ds, _, ⟨u, r, e, ⟨v, h1, h2⟩, h3⟩ => by
  subst e
  obtain ⟨vs, q1, q2⟩ := aM1 h3
  exact ⟨v :: vs, .cons h1 q1, fun H => ⟨v, vs, rfl, h2 H, q2 H⟩⟩
theorem Q6 (i : Int) (t : Tok) : bl3 K (.int i) (.int i t) := ⟨.int i, ⟨t, rfl⟩, fun _ => rfl⟩
theorem j8 {a : Addr} {o : Obj} {its : Array Value} {n : Nat} {ds : List D} (h : K.lookup a = some o) (hc : o.cls = .type "tuple") (hd : o.data = .seq its n) (hz : its.size ≤ 1000) (hi : aN6 K ds its.toList) : bl3 K (.tuple ds) (.ref a) := by
 obtain ⟨vs, q1, q2⟩ := aM1 hi
 exact ⟨.ref a, rfl, fun H => ⟨a, vs, rfl, .inr ⟨o, its, n, h, hc, hd, Nat.le_of_lt (au5 hz), q1⟩, q2 H⟩⟩
end
end G
namespace G
open PySem PySem.Spec PyProof.Rows L2
theorem aX6 (l : Addr) (items : Array Value) (n : Nat) (dd : Option Addr) (sl : Array (Option Value)) (u : Tok) :
  Meets (Builtin.«tuple.__mul__» ⟨[.ref l, .int 1 u], []⟩) (fun _ R s => s.heap.get? l = some ⟨.type "tuple", dd, .seq items n, sl⟩ ∧ R (.ok (.ret (Value.ref l))) s) :=
 .of_wp fun prog w A R s h => by
  obtain ⟨hp, g, d, tk, os⟩ := s
  obtain ⟨hl, h⟩ := h
  wp_walk
  exact ⟨_, rfl, h⟩
section
variable {X : Cx}
theorem bH7 : OpR X (binaryOp .Mult) (fun x y H Q => ∃ l xs, x = .ref l ∧ y = .int 1 ∧ SqT X.K H l xs ∧ Q (.ref l) H) := by
 intro pins s σ H x y v u Q I rx ry h
 obtain ⟨l, xs, rfl, rfl, hq, q⟩ := h
 cases rx
 obtain ⟨t, rfl⟩ := ry
 obtain ⟨its, r, p1, _⟩ := I.tuple hq
 obtain ⟨⟨cls, dd, data, sl⟩, ho, hc, n, hd⟩ := id p1
 simp only at hc hd
 subst hc hd
 exact wpAny_binaryOp_repeat_ref (T := "tuple") (U := "int") (by decide) ⟨_, ho, rfl⟩ (fun s' => typeIs_int s' 1 t) ay4 F.fills_int_mul F.slot_int_rmul aL7 F.slot_int_index.lookup
  (call_meets F.slot_int_rmul (typeIs_int s 1 t) F.entry_int_rmul (F.args_int_rmul_2 _ _) (aq1 1 t l its.toArray n dd sl) ⟨ho, rfl, ⟨_, ho, rfl⟩,
   call_meets F.slot_tuple_mul ⟨_, ho, rfl⟩ F.entry_tuple_mul (F.args_tuple_mul_2 _ _) (aX6 l its.toArray n dd sl t) ⟨ho, ⟨.ref l, H, I, rfl, q⟩⟩⟩)
theorem aP8 (a : Int) (t : Tok) (l : Addr) (items : Array Value) (n : Nat) (dd : Option Addr) (sl : Array (Option Value)) :
  Meets (Builtin.«int.__rmul__» ⟨[.int a t, .ref l], []⟩) (fun _ R s => s.heap.get? l = some ⟨.type "list", dd, .seq items n, sl⟩ ∧ R (.ok (.ret Value.notImplemented)) s) := Meets.of_wp fun prog w A R s h => by
 obtain ⟨hp, g, d, tk, os⟩ := s
 obtain ⟨hl, h⟩ := h
 wp_walk
 exact ⟨_, rfl, h⟩
theorem aX8 (l : Addr) (items : Array Value) (n : Nat) (dd : Option Addr) (sl : Array (Option Value)) (x : Int) (u : Tok) (c0 : ¬(!Builtin.List.listFitsIndex x) = true) (c1 : ¬items.size * x.toNat > (2 ^ 63 - 1) / 8) (c2 : ¬Builtin.List.listTooLong (items.size * x.toNat) = true) :
  Meets (Builtin.«list.__mul__» ⟨[.ref l, .int x u], []⟩) (fun _ R s => s.heap.get? l = some ⟨.type "list", dd, .seq items n, sl⟩ ∧ R (.ok (.ret (Value.ref s.heap.objs.size))) { s with heap := s.heap.push { cls := Value.type "list", data := Data.seq (List.foldl (fun x1 x2 => x1 ++ x2) #[] (List.replicate (if items.isEmpty = true then 0 else x.toNat) items)) } }) := Meets.of_wp fun prog w A R s h => by
 obtain ⟨hp, g, d, tk, os⟩ := s
 obtain ⟨hl, h⟩ := h
 have hsz := AutoListH.joined_fits c2
 wp_walk
 refine wpAny_ite_false (decide_eq_false (Nat.not_lt.mpr hsz)) ?_
 wp_walk
 exact ⟨_, rfl, h⟩
theorem bX4 : OpR X (binaryOp .Mult) (fun x y H Q => ∃ l k xs, x = .ref l ∧ y = .int k ∧ SqL X.K H l xs ∧ 0 ≤ k ∧ k < 1000000 ∧ xs.length * k.toNat ≤ sizeLine ∧ ∀ p, H p = none → Q (.ref p) (upd H p (.lst (List.replicate k.toNat xs).flatten))) := by
 intro pins s σ H x y v u Q I rx ry h
 obtain ⟨l, k, xs, rfl, rfl, hq, h1, h2, hz, q⟩ := h
 cases rx
 obtain ⟨t, rfl⟩ := ry
 obtain ⟨its, r, p1, _⟩ := I.list hq
 obtain ⟨⟨cls, dd, data, sl⟩, ho, hc, n, hd⟩ := p1.isList
 simp only at hc hd
 subst hc hd
 have hl := r.length
 have hlen : its.toArray.size * k.toNat ≤ sizeLine := by rw [List.size_toArray, ← hl]; exact hz
 have hcap : ¬ its.toArray.size * k.toNat > (2 ^ 63 - 1) / 8 := by
  have : (sizeLine : Nat) ≤ (2 ^ 63 - 1) / 8 := by decide
  omega
 have hfit : ¬ (!Builtin.List.listFitsIndex k) = true := by
  rw [fitsIndex_both (by omega) (by omega)]; exact Bool.false_ne_true
 have hlong : ¬ Builtin.List.listTooLong (its.toArray.size * k.toNat) = true := by
  rw [ag5 hlen]; exact Bool.false_ne_true
 have hnew : List.foldl (fun x1 x2 => x1 ++ x2) #[] (List.replicate (if its.toArray.isEmpty = true then 0 else k.toNat) its.toArray) = (List.replicate k.toNat its).flatten.toArray := by
  rw [bf1]
  cases its with
  | nil => simp
  | cons a r' => rw [if_neg (by simp)]
 refine wpAny_binaryOp_repeat_ref (T := "list") (U := "int") (by decide) ⟨_, ho, rfl⟩ (fun s' => typeIs_int s' k t) noFill_list_mul F.fills_int_mul F.slot_int_rmul repeat_list F.slot_int_index.lookup
  (call_meets F.slot_int_rmul (typeIs_int s k t) F.entry_int_rmul (F.args_int_rmul_2 _ _) (aP8 k t l its.toArray n dd sl) ⟨ho, rfl, ⟨_, ho, rfl⟩,
   call_meets F.slot_list_mul ⟨_, ho, rfl⟩ F.entry_list_mul (F.args_list_mul_2 _ _) (aX8 l its.toArray n dd sl k t hfit hcap hlong) ⟨ho, ?_⟩⟩)
 rw [hnew]
 exact ⟨.ref _, _, I.lnew (t' := s.toks) (r.rep k.toNat) (by rw [aR8, Nat.mul_comm]; exact hz), rfl, q _ I.fresh⟩
def K5 (x y : D) : Option D := match x, y with
 | .tuple xs, .int k => if k = 1 then some (.tuple xs) else T1 (.tuple xs) (.int k)
 | .list xs, .int k => if 0 ≤ k ∧ k < 1000000 ∧ xs.length * k.toNat ≤ 16777216 then some (.list (List.replicate k.toNat xs).flatten) else none
 | x, y => T1 x y
theorem bn7 : OpD X (binaryOp .Mult) K5 := fun x y z h => by
 unfold K5 at h
 split at h
 ·split at h
  ·rename_i xs k c
   subst c
   cases h
   refine OpR.imp bH7 fun vx vy H Q ⟨Hf, s, r1, r2, kk⟩ => ?_
   obtain ⟨a, vs, rfl, h2, h3⟩ := r1
   exact ⟨a, vs, rfl, r2, K3 s h2, kk _ _ _ (Grow.refl s) ⟨a, vs, rfl, h2, h3⟩⟩
  ·exact aQ9 _ _ z h
 ·split at h
  ·rename_i xs k c
   cases h
   refine OpR.imp bX4 fun vx vy H Q ⟨Hf, s, r1, r2, kk⟩ => ?_
   obtain ⟨a, vs, rfl, h2, h3⟩ := r1
   refine ⟨a, k, vs, rfl, r2, M3 s h2, c.1, c.2.1, by rw [h3.length, sizeLine_eq]; exact c.2.2, fun p hp => ?_⟩
   exact kk _ _ _ (Grow.laid s hp) ⟨p, _, rfl, SqL.of G8, (h3.flatten k.toNat).mono (L1 (s.free hp))⟩
  ·cases h
 ·exact aQ9 _ _ z h
theorem ad7 (i j : Int) : B4 (.int i) (.int j) = some (.int (i + j)) := rfl
def bA1 (f : Rho → Option (Bool × List D)) (lo hi : Rho → Option (Option Int)) : DE := fun ρ => (f ρ).bind fun q => (lo ρ).bind fun l => (hi ρ).bind fun h => if q.1 = true then none else some (.list (al0 q.2 l h))
theorem cx0 {a : Expr} {lo hi : Option Expr} {f : Rho → Option (Bool × List D)} {l h : Rho → Option (Option Int)} {pos p2 : Pos} (ha : JQ X a f) (hl : JO X lo l) (hh : JO X hi h) : JE X (.Subscript a (.Slice lo hi none p2) pos) (bA1 f l h) := fun ρ d q => by
 obtain ⟨⟨t, xs⟩, e1, q⟩ := Option.bind_eq_some_iff.mp q
 obtain ⟨y, e2, q⟩ := Option.bind_eq_some_iff.mp q
 obtain ⟨z, e3, q⟩ := Option.bind_eq_some_iff.mp q
 cases t with
 | true => simp at q
 | false =>
  simp only [xft, if_false] at q
  cases q
  refine G1 (aq5 bm4 (ha ρ _ _ e1) (hl ρ y e2) (hh ρ z e3)) fun σ H Q ⟨H0, Hf, s, sl, k⟩ => ?_
  refine ⟨H0, Hf, s, sl, fun v H1 Hf1 g1 ⟨p, vs, q1, q2, q3⟩ => ⟨H0, Hf1, g1.sub, sl.grow g1, fun H2 Hf2 g2 => ⟨H0, Hf2, g2.sub, sl.grow (g1.trans g2), fun H3 Hf3 g3 => ?_⟩⟩⟩
  subst q1
  have q3' := q3.mono (g2.trans g3).ext
  refine ⟨p, vs, rfl, M3 (g2.trans g3).big q2, fun p' hp => ?_⟩
  exact k _ _ _ (((g1.trans g2).trans g3).trans (Grow.laid g3.sub hp)) ⟨p', _, rfl, SqL.of G8, (aE4 q3' y z).mono (L1 (g3.sub.free hp))⟩
def P9 : DS := fun _ => none
theorem N4 {st : Stmt} : JS X st P9 := fun ρ fl q => by cases q
def ak7 (f : DE) : Rho → Option Bool := fun ρ => (f ρ).bind N9
theorem bL3 {op op' : CmpOp} {h1 h2 : D → D → Option D} {a b c : Expr} {f g k : DE} {pos : Pos} (o1 : OpD X (compareOp op) h1) (o2 : OpD X (compareOp op') h2) (ha : JE X a f) (hb : JE X b g) (hc : JE X c k)
  (hm : lastMarks [op, op'] [b, c] = false := by with_unfolding_all rfl) : JT X (.Compare a [op, op'] [b, c] pos) (ak7 (M5 h1 h2 f g k)) := fun ρ d q => by
 obtain ⟨dd, q, ed⟩ := Option.bind_eq_some_iff.mp q
 have ed := br0 ed
 subst ed
 obtain ⟨x, e1, q⟩ := Option.bind_eq_some_iff.mp q
 obtain ⟨y, e2, q⟩ := Option.bind_eq_some_iff.mp q
 obtain ⟨z, e3, q⟩ := Option.bind_eq_some_iff.mp q
 split at q
 ·obtain ⟨w, e4, e5⟩ := Option.bind_eq_some_iff.mp q
  refine aQ3 (aW1 (o1 x y _ e3) (o2 y w _ e5) (ha ρ x e1) (hb ρ y e2) (hc ρ w e4) hm) fun σ H Q ⟨H0, Hf, s, sl, kk⟩ => ?_
  refine ⟨H0, Hf, s, sl, fun v H1 Hf1 g1 r1 => ⟨H0, Hf1, g1.sub, sl.grow g1, fun u H2 Hf2 g2 r2 => ⟨Hf2, g2.sub, r1.mono g2.ext, r2, fun z' H3 Hf3 g3 r3 => ?_⟩⟩⟩
  refine ⟨true, r3, aJ2 ⟨H0, Hf3, g3.sub, sl.grow ((g1.trans g2).trans g3), fun w' H4 Hf4 g4 r4 => ⟨Hf4, g4.sub, r2.mono (g3.trans g4).ext, r4, fun z2 H5 Hf5 g5 r5 => ?_⟩⟩⟩
  exact ⟨d, r5, kk H5 Hf5 ((((g1.trans g2).trans g3).trans g4).trans g5)⟩
 ·cases q
  intro pins s σ H Q I ⟨H0, Hf, ss, sl, kk⟩
  refine aW1 (tc := fun _ _ _ => False) (r' := fun _ _ _ _ => False) (o1 x y _ e3) (fun _ _ _ _ _ _ _ _ _ _ _ _ h => h.elim) (ha ρ x e1) (hb ρ y e2) (fun _ _ _ _ _ _ h => h.elim) hm pins s σ H Q I ?_
  refine ⟨H0, Hf, ss, sl, fun v H1 Hf1 g1 r1 => ⟨H0, Hf1, g1.sub, sl.grow g1, fun u H2 Hf2 g2 r2 => ⟨Hf2, g2.sub, r1.mono g2.ext, r2, fun z' H3 Hf3 g3 r3 => ?_⟩⟩⟩
  exact ⟨false, r3, aJ3 ⟨false, rfl, kk H3 Hf3 ((g1.trans g2).trans g3)⟩⟩
 ·cases q
end
end G
namespace Sh
open PySem PySem.Spec PyProof.Rows L2 G
def az3 : DS := (B2 (T4 (D6 1 [0] (L6 (A4 K5 (A1 0) (A1 1))) (A8 0) G0 (J1 (A0 (A4 U1 (A1 0) (A1 1)) (A0 (A4 X7 (A1 0) (A1 1)) A3))))))
def S2 : List D → Option D := K2 az3 2
def az6 : DS := (B2 (aa2 (M5 leI ltI (dC (.int 0)) (A1 1) (dIx (A5 0) (dC (.int 0)))) (M5 leI ltI (dC (.int 0)) (A1 2) (dIx (A5 0) (dC (.int 1))))))
def V7 : List D → Option D := K2 az6 3
def u7 : DS := (B2 (A4 B4 (A4 K5 (A1 2) (dIx (A5 0) (dC (.int 0)))) (A1 1)))
def N6 : List D → Option D := K2 u7 3
def ay0 : DS := (A6 (sIf (O5 (S0 (A2 V7 (A0 (A1 0) (A0 (A1 1) (A0 (A1 2) A3)))))) (B2 (dC (.tuple [(.tuple [(.int 0), (.int 1)]), (.tuple [(.int 0), (.int 1)]), (.tuple [(.int 0), (.int 1)]), (.tuple [(.int 0), (.int 1)])]))) J2) (B2 (dIx (qE (dIx (A5 0) (dC (.int 2)))) (A2 N6 (A0 (A1 0) (A0 (A1 1) (A0 (A1 2) A3)))))))
def ak0 : List D → Option D := K2 ay0 3
def ay1 : DS := (A6 (N5 4 (D6 1 [0, 1] (L6 (A4 K5 (A1 2) (A1 3))) (A8 0) G0 (A2 k8 (A0 (A1 1) (A0 (A4 B4 (A1 2) (A4 K5 (dC (.int 12)) (A1 0))) A3))))) (A6 (sIf (tB2 eqD (A2 A7 (A0 (A1 0) (A0 (A4 B4 (A1 1) (dC (.int 7))) (A0 (dC (.int 3)) A3)))) (dC (.int 0))) (B3 4 (A4 K5 (aK1 (A1 4) O1 (L3 (dC (.int 1)))) (A4 K5 (A1 2) (A1 3)))) J2) (B2 (J1 (A0 (A1 2) (A0 (A1 3) (A0 (L8 (A5 4)) A3)))))))
def ab2 : List D → Option D := K2 ay1 5
end Sh
namespace G
open PySem PySem.Spec PyProof.Rows L2
theorem bz9 {prog : Program} {w : World} {A : Around} (hh : A.handled = none) (t : Bool) (it l : Addr) (hne : l ≠ it) (xs : Array Value) : Draws prog w A it [it, l] xs.size (fun i x => xs[i]? = some x) (fun i h => SIt t h it l i ∧ SSq t h l xs) := by
 refine ⟨fun i h ⟨a, _⟩ => ?_, fun i h h' ⟨a, b⟩ k => ⟨a.ext fun o e => k it (by simp) o e, b.ext fun o e => k l (by simp) o e⟩, fun i s Q E hi ⟨a, b⟩ hQ => ?_, fun s Q E ⟨a, b⟩ hE => aA6 hh a b (by simp) hE⟩
 ·cases t with
  | true => obtain ⟨o, ho, _⟩ := a; exact ⟨o, ho⟩
  | false => obtain ⟨o, ho, _⟩ := a; exact ⟨o, ho⟩
 ·have hx : xs[i]? = some xs[i] := by simp [hi]
  exact aq0 a b hx fun h' c sb => hQ _ h' s.toks hx ⟨c, b.ext fun o e => sb.extBut l o hne e⟩ sb
theorem bt1 (l : Addr) (items : Array Value) (n : Nat) (dd : Option Addr) (sl : Array (Option Value)) :
  Meets (Builtin.«enumerate.__new__» ⟨[.type "enumerate", .ref l], []⟩) (fun _ R s => s.heap.get? l = some ⟨.type "tuple", dd, .seq items n, sl⟩ ∧
   R (.ok (.ret (.ref (s.heap.push (aq8 true l)).objs.size))) { s with heap := (s.heap.push (aq8 true l)).push { cls := .type "enumerate", data := .fields #[.none, .bool false, .ref s.heap.objs.size, rawInt 0, .none, .none] } }) := Meets.of_wp fun prog w A R s h => by
 obtain ⟨hp, g, d, tk, os⟩ := s
 obtain ⟨hl, h⟩ := h
 have hsub := sub_enumerate
 have q1 : SSq true (Shared.heap ⟨hp, g, d, tk, os⟩) l items := ⟨_, hl, rfl, n, rfl⟩
 wp_walk using AutoSeq1.wpAny_loadPart' hl
 refine wpAny_stack_any fun st => wpAny_pure ?_
 split
 ·rename_i c _ _ _ _ _
  cases (c == Value.type "enumerate")
  ·wp_walk using AutoSeq1.wpAny_loadPart' hl, af7 q1
   exact ⟨_, rfl, h⟩
  ·wp_walk using AutoSeq1.wpAny_loadPart' hl, af7 q1
   exact ⟨_, rfl, h⟩
 ·wp_walk using AutoSeq1.wpAny_loadPart' hl, af7 q1
  exact ⟨_, rfl, h⟩
section
variable {prog : Program} {w : World} {A : Around} {E : Value → Shared → Prop} {s : Shared} {t : Bool}
theorem bf0 {l : Addr} {xs : Array Value} {Q : Value → Shared → Prop} (hl : SSq t s.heap l xs)
  (h : ∀ h', IsEnum h' (s.heap.objs.size + 1) s.heap.objs.size 0 .none → SIt t h' s.heap.objs.size l 0 → (∀ c o, s.heap.get? c = some o → h'.get? c = some o) → Q (.ref (s.heap.objs.size + 1)) { s with heap := h' }) :
  wpAny (model prog w) A (call (.type "enumerate") [.ref l]) Q E s := by
 cases t with
 | false => exact call_enumerate_list hl fun h' a b _ d => h h' a b d
 | true =>
  obtain ⟨⟨cls, dd, data, sl⟩, ho, hc, n, hd⟩ := hl
  simp only at hc hd
  subst hc hd
  refine callType_new F.called_enumerate (by decide) (F.typeCall_enumerate_1 _) (F.newCall_enumerate_1 _) (fun obj => F.args_object_init_2 obj _) F.entry_enumerate_new (bt1 l xs n dd sl) ⟨ho, ?_⟩
  have z1 : (s.heap.push (aq8 true l)).objs.size = s.heap.objs.size + 1 := Heap.size_push ..
  show _ ∧ _
  rw [z1]
  have he := Heap.get?_push_size (s.heap.push (aq8 true l)) (o := { cls := .type "enumerate", data := .fields #[.none, .bool false, .ref s.heap.objs.size, rawInt 0, .none, .none] }) rfl
  rw [z1] at he
  exact ⟨⟨_, he, rfl⟩, h _ he ((aP1 (h := s.heap) (l := l) true).ext fun o e => Heap.get?_push_of_some _ e) fun c o e => Heap.get?_push_of_some _ (Heap.get?_push_of_some _ e)⟩
theorem bx9 {e it l : Addr} {i : Int} {k : Nat} {xs : Array Value} {old : Value} {Q : Option Value → Shared → Prop} (hh : A.handled = none) (he : IsEnum s.heap e it i old) (hit : SIt t s.heap it l k) (hl : SSq t s.heap l xs) (hx : xs[k]? = none)
  (hQ : ∀ h', Heap.ExtBut it s.heap h' → Q none { s with heap := h' }) : wpAny (model prog w) A (pyNext (.ref e)) Q E s := by
 have hT : s.TypeIs (.ref e) "enumerate" := ⟨_, he, rfl⟩
 unfold pyNext
 refine wpAny_bind (wpAny_attempt (wpAny_callSpecial?_slot (name := Str.ofString "__next__") hT F.slot_enumerate_next (wpAny_call_entry F.slot_enumerate_next hT F.entry_enumerate_next ?_ (F.args_enumerate_next_1 _))))
 show wpAny _ _ (field (.ref e) 2 >>= _) _ _ _
 refine wpAny_bind (wpAny_field he rfl (x := .ref it) rfl (wpAny_bind (aA6 hh hit hl hx fun h' x he' hx' => ?_)))
 obtain ⟨o, ho, hc⟩ := hx'
 exact wpAny_bind (wpAny_isInstance (T := "StopIteration") (b := true) ⟨o, ho, hc⟩ isSubtype_stop (wpAny_pure (hQ _ he')))
end
def Ite (K : PySem.W.Frag) (t : Bool) (a : Addr) : It :=
  ⟨fun i H => ∃ xs x, Sq K t H a xs ∧ xs[i]? = some x,
   fun i H v H' => ∃ T x, v = .ref T ∧ H T = none ∧ H' = upd H T (.tup [.int i, x]) ∧ ∀ xs, Sq K t H a xs → xs[i]? = some x,
   fun i H => ∃ xs, Sq K t H a xs ∧ xs.length ≤ i⟩
theorem bs5 {P : Program} {w : World} {K : PySem.W.Frag} {elts : List Expr} {k0 : Nat} {pos : Pos} {t : Bool} {e it a : Addr} (h1 : e ≠ it) (h2 : a ≠ e) (h3 : a ≠ it) :
  Turn P w K (.Tuple elts k0 pos) (Ite K t a) [e, it] e (fun i h => (∃ old, IsEnum h e it i old) ∧ SIt t h it a i) where
 mem := by simp
 obj := fun i h ⟨⟨old, he⟩, hi⟩ c hc => by
  simp only [List.mem_cons, List.not_mem_nil, or_false] at hc
  rcases hc with rfl | rfl
  ·exact ⟨_, he, fun v q => by cases q⟩
  ·cases t with
   | true => obtain ⟨o, ho, _, hd⟩ := hi; exact ⟨o, ho, fun v q => by rw [hd] at q; cases q⟩
   | false => obtain ⟨o, ho, _, hd⟩ := hi; exact ⟨o, ho, fun v q => by rw [hd] at q; cases q⟩
 keep := fun i h h' ⟨⟨old, he⟩, hi⟩ hk => ⟨⟨old, hk e (by simp) _ he⟩, hi.ext fun o q => hk it (by simp) o q⟩
 item := by
  intro X hP hw hK hc i pins s σ H E I hf ⟨⟨old, he⟩, hi⟩ hg
  subst hP hw hK
  obtain ⟨xs, x, q1, ex⟩ := hg
  obtain ⟨us, r1, p1, lt1⟩ := f8 I q1
  obtain ⟨ux, eux, rx⟩ := r1.get ex
  have hlt : i < us.toArray.size := by rw [List.size_toArray]; exact (List.getElem?_eq_some_iff.mp eux).1
  refine wpAny_pyNext_enum_itemD (bz9 (A := X.A.in1) (I.ok.hd hc) t it a h3 us.toArray) he ⟨hi, p1⟩ hlt h1 (by simp only [List.mem_cons, List.not_mem_nil, or_false, not_or]; exact ⟨h1, fun z => h2 z.symm⟩) fun y h' tk hy ho hst hT hsz hk => ⟨_, rfl, wpAny_letOwnedTupleGo_enum ho fun h'' c1 c2 => ?_⟩
  have ey : y = ux := by
   have : us[i]? = some y := by simpa using hy
   rw [eux] at this
   exact (Option.some.inj this).symm
  subst ey
  have neT : ∀ c o, s.heap.get? c = some o → c ≠ s.heap.objs.size := fun c o q => Nat.ne_of_lt (Heap.lt_size q)
  have up : ∀ c o, c ≠ e → h'.get? c = some o → h''.get? c = some o := fun c o n q => c2.extBut c o n q
  refine ⟨.ref s.heap.objs.size, upd H s.heap.objs.size (.tup [.int i, x]), ae1 (s := s) (h' := h'') (t' := tk + 1) (ch := [e, it]) I hf (Nat.le_refl _) (fun c u hc q => ?_) ?_, rfl, ⟨_, x, rfl, I.hok.fresh (Nat.le_refl _), rfl, fun zs hz' => by rw [be5 I hz' q1]; exact ex⟩, ⟨⟨_, by simpa using c1⟩, hst.1.ext fun o q => up it o h1.symm q⟩, fun c hc => ?_⟩
  ·simp only [List.mem_cons, List.not_mem_nil, or_false, not_or] at hc
   exact up c u hc.1 (hk c u hc.1 hc.2 q)
  ·refine ⟨by show 2 ≤ sizeLine; decide, [.int i tk, y], .cons ⟨tk, rfl⟩ (.cons rx .nil), _, up _ _ ?_ hT, rfl, _, rfl⟩
   exact fun q => neT e _ he q.symm
  ·have lt : c < s.heap.objs.size := by
    simp only [List.mem_cons, List.not_mem_nil, or_false] at hc
    rcases hc with rfl | rfl
    ·exact Heap.lt_size he
    ·exact hi.lt
   rw [G9 (Nat.ne_of_lt lt)]
   exact (hf c hc).1
 done := by
  intro X hP hw hK hc i pins s σ H E I hf ⟨⟨old, he⟩, hi⟩ hg
  subst hP hw hK
  obtain ⟨xs, q1, hl⟩ := hg
  obtain ⟨us, r1, p1, lt1⟩ := f8 I q1
  have l1 := r1.length
  refine bx9 (I.ok.hd hc) he hi p1 (by simp; omega) fun h' hk => ⟨rfl, aF9 (t' := s.toks) (ch := [e, it]) I hf fun c u hc q => ?_⟩
  simp only [List.mem_cons, List.not_mem_nil, or_false, not_or] at hc
  exact hk c u hc.2 q
 self := fun _ _ _ _ _ st h => by
  obtain ⟨⟨old, he⟩, _⟩ := st
  exact wpAny_pyIter_enum he h
section
variable {X : Cx}
def aM7 (ds : List D) : List D := (List.range ds.length).zip ds |>.map fun (k, d) => PyData.tuple [.int (k : Nat), d]
def bN5 (f : Rho → Option (Bool × List D)) : Rho → Option (List D) := fun ρ => (f ρ).map fun q => aM7 q.2
theorem bP5 (ds : List D) (i : Nat) : (aM7 ds)[i]? = (ds[i]?).map fun d => .tuple [.int i, d] := by
 unfold aM7
 rw [List.getElem?_map]
 cases e : ds[i]? with
 | none =>
  have : ds.length ≤ i := by simpa using e
  have z : ((List.range ds.length).zip ds)[i]? = none := by simp; omega
  rw [z]; rfl
 | some d =>
  have hi := (List.getElem?_eq_some_iff.mp e).1
  have z : ((List.range ds.length).zip ds)[i]? = some (i, d) := List.getElem?_zip_eq_some.mpr ⟨by simp [hi], e⟩
  rw [z]; rfl
theorem bP4 (ds : List D) : (aM7 ds).length = ds.length := by unfold aM7; simp
theorem aV2 {K : PySem.W.Frag} {t : Bool} {a : Addr} {vs : List V} {ds : List D} {Hf1 : Hp} (h1 : Sq K t Hf1 a vs) (r1 : Reps K Hf1 ds vs) : aU6 K (Ite K t a) (aM7 ds) Hf1 := by
 have mono : ∀ {t : Bool} {a : Addr} {xs : List V} {H H' : Hp}, M6 H H' → Sq K t H a xs → Sq K t H' a xs := fun {t a xs H H'} e h => by
  cases t with
  | true => exact K3 e h
  | false => exact M3 e h
 intro i H Hf sa sb
 have m1 := mono (sa.trans sb) h1
 have l1 := r1.length
 refine ⟨fun hi => ⟨vs, m1, by rw [bP4] at hi; omega⟩, fun d hd => ?_⟩
 rw [bP5] at hd
 obtain ⟨x, q1, q2⟩ := Option.map_eq_some_iff.mp hd
 subst q2
 obtain ⟨vx, e1, e2⟩ := r1.get q1
 refine ⟨⟨vs, vx, m1, e1⟩, fun v H' ⟨T, x', z1, z2, z3, z4⟩ => ?_⟩
 subst z1 z3
 have w1 := z4 vs m1
 rw [e1] at w1
 cases w1
 have nf : Hf T = none := sb.free z2
 exact ⟨upd Hf T (.tup [.int i, vx]), Grow.laid sb z2, T, [.int i, vx], rfl, SqT.of G8, .int i, [vx], rfl, rfl, vx, [], rfl, (e2.mono sa).mono (L1 nf), rfl⟩
theorem cb3 {elts : List Expr} {k0 : Nat} {tpos : Pos} {a : Expr} {f : DE} {p pos : Pos} (hg : Gl X "enumerate") (hm : X.mg "enumerate" = none) (ha : JE X a f) (hs : starEach [a] X.env = [(false, eval a X.env)] := by rfl) :
  JI X (.Tuple elts k0 tpos) (.Call (.Name "enumerate" p) [a] [] pos) (bN5 (qE f)) := fun ρ out q => by
 obtain ⟨⟨t1, ds⟩, e1, q⟩ := Option.map_eq_some_iff.mp q
 subst q
 obtain ⟨d1, e1, e1'⟩ := Option.bind_eq_some_iff.mp e1
 intro pins s σ H R I ⟨H0, Hf, ss, sl, k⟩
 refine Call_ (ao6 I hg hm rfl (PyProof.Rows.callWith_type1 (thn (K4 (ha ρ d1 e1) N8 (by rw [hs]; rfl) pos pins s σ H
  (fun vs H' => ∃ v Hf', vs = [v] ∧ Grow H Hf H' Hf' ∧ Rep X.K Hf' d1 v) I ⟨H0, Hf, ss, sl, fun v H1 Hf1 g1 r1 => ⟨v, Hf1, rfl, g1, r1⟩⟩) fun us s1 ⟨vs, H1, I1, r1, v, Hf1, ev, gr, p1⟩ => ?_) (by rw [hs]; rfl) (by rfl)))
 subst ev
 obtain ⟨uv, rfl, rv⟩ := r1.one
 obtain ⟨a1, vs1, rfl, w1, w2⟩ := p1.seq (M6.refl Hf1) e1'
 cases rv
 have mono : ∀ {t : Bool} {a : Addr} {xs : List V} {H H' : Hp}, M6 H H' → Sq X.K t H a xs → Sq X.K t H' a xs := fun {t a xs H H'} e h => by
  cases t with
  | true => exact K3 e h
  | false => exact M3 e h
 obtain ⟨us1, rr1, hp1, lt1⟩ := f8 I1 (mono gr.sub w1)
 refine bf0 hp1 fun h' b1 b2 b3 => ?_
 have I2 : Inv X pins σ H1 { s1 with heap := h' } := I1.kept (t' := s1.toks) b3
 refine wpAny_pyIter_enum b1 ⟨_, _, _, _, H1, rfl, I2, bs5 (e := s1.heap.objs.size + 1) (it := s1.heap.objs.size) (a := a1) (Nat.succ_ne_self _) (Nat.ne_of_lt (Nat.lt_succ_of_lt lt1)) (Nat.ne_of_lt lt1), ⟨⟨_, b1⟩, b2⟩, fun b hb => ?_, k _ H1 Hf1 gr (aV2 w1 w2)⟩
 have hb' : s1.heap.objs.size ≤ b := by
  simp only [List.mem_cons, List.not_mem_nil, or_false] at hb
  rcases hb with rfl | rfl
  ·exact Nat.le_add_right _ _
  ·exact Nat.le_refl _
 exact I1.fpOk hb' (I1.hok.fresh hb')
end
end G
namespace G
open PySem PySem.Spec PyProof.Rows L2
section
variable {prog : Program} {w : World} {A : Around} {E : Value → Shared → Prop} {s : Shared}
theorem aD2 {l b sl : Addr} {items new : Array Value} {n n2 : Nat} {vl vu : Value} {lo hi : Option Int} {Q : Unit → Shared → Prop}
    (e : s.heap.get? l = some { cls := .type "list", data := .seq items n }) (e2 : s.heap.get? b = some { cls := .type "list", data := .seq new n2 }) (hne : l ≠ b)
    (hs : s.heap.IsSliceOf sl vl vu .none) (pl : IsPart vl lo) (pu : IsPart vu hi) (hsz : items.size + new.size ≤ sizeLine)
    (h : Q () { s with heap := s.heap.update l (Obj.mapSeq fun xs => xs.extract 0 (HT.sIx items.size 0 lo) ++ new ++ xs.extract (max (HT.sIx items.size 0 lo) (HT.sIx items.size items.size hi)) xs.size) }) :
    wpAny (model prog w) A (setItem (.ref l) (.ref sl) (.ref b)) Q E s := by
  have hl : s.heap.IsList l items := PySem.IsL.isList e
  have hb : s.heap.IsList b new := PySem.IsL.isList e2
  obtain ⟨os, hos, hcs, hds⟩ := id hs
  have hTs : s.TypeIs (.ref sl) "slice" := ⟨os, hos, hcs⟩
  have hstep : ¬ ((rawPart none == rawInt 0) = true) := Bool.false_ne_true
  have hsame : Builtin.List.listSameRef (.ref l) (.ref b) = false := by
    unfold Builtin.List.listSameRef
    exact beq_eq_false_iff_ne.mpr hne
  have hbd : sliceBounds lo hi none items.size = (((HT.sIx items.size 0 lo : Nat) : Int), ((HT.sIx items.size items.size hi : Nat) : Int), 1) := by
    obtain ⟨h1, h2, h3⟩ := ap9 lo hi items.size
    exact Prod.ext h1 (Prod.ext h2 h3)
  have hmax : (max ((HT.sIx items.size 0 lo : Nat) : Int) ((HT.sIx items.size items.size hi : Nat) : Int)).toNat = max (HT.sIx items.size 0 lo) (HT.sIx items.size items.size hi) := by omega
  have hz' : ((fun xs : Array Value => xs.extract 0 (HT.sIx items.size 0 lo) ++ new ++ xs.extract (max (HT.sIx items.size 0 lo) (HT.sIx items.size items.size hi)) xs.size) items).size ≤ sizeLine + 1 := by
    simp only [Array.size_append, Array.size_extract]
    omega
  unfold setItem
  try with_reducible refine wpAny_holding ?_
  first | refine wpAny_bind (wpAny_pure ?_) | skip
  refine wpAny_bind (wpAny_sequenceKey hl.typeIs (by decide) ?_)
  refine wpAny_bind (wpAny_callSpecial?_slot (name := Str.ofString "__setitem__") hl.typeIs slot_list_setitem (wpAny_call_entry slot_list_setitem hl.typeIs entry_list_setitem ?_ (args_list_setitem _ _ _)))
  show wpAny _ _ (Builtin.List.listSubscript? (.ref sl) >>= _) _ _ s
  refine wpAny_bind ?_
  unfold Builtin.List.listSubscript?
  refine wpAny_bind (wpAny_specialOf hTs slice_no_index ?_)
  simp only [Option.isNone_none, if_true]
  refine wpAny_pure ?_
  show wpAny _ _ (typeOf (.ref sl) >>= _) _ _ s
  refine wpAny_bind (wpAny_typeOf hTs ?_)
  first
    | rw [if_neg (by decide)]
    | refine PySem.W.KFB.if_not (by decide) ?_
  rw [listSliceParts_eq]
  refine wpAny_bind (wpAny_bind (wpAny_field hos hds (x := .none) rfl (wpAny_bind (wpAny_listPart .none ?_))))
  rw [if_neg hstep]
  refine wpAny_bind (wpAny_field hos hds (x := vl) rfl (wpAny_bind (wpAny_listPart pl ?_)))
  refine wpAny_bind (wpAny_field hos hds (x := vu) rfl (wpAny_bind (wpAny_listPart pu (wpAny_pure ?_))))
  first
    | simp only [hsame, xft, if_false]
    | refine PySem.W.KFB.if_not hsame ?_
    | (dsimp only
       rw [if_neg (by rw [hsame]; exact Bool.false_ne_true)])
  refine wpAny_bind (m := Builtin.List.listAllItems (.ref b) "must assign iterable to extended slice") ?_
  unfold Builtin.List.listAllItems
  refine wpAny_bind (wpAny_typeOf hb.typeIs ?_)
  first
    | refine PySem.W.KFB.if_so (by decide) ?_
    | rw [if_pos (by decide)]
    | simp only [beq_self_eq_true, Bool.true_or, if_true]
  unfold Builtin.List.listItems
  refine wpAny_bind (wpAny_seqItems e2 rfl (wpAny_pure ?_))
  refine wpAny_bind (wpAny_bind (wpAny_seqItems e rfl (wpAny_pure ?_)))
  refine wpAny_bind (wpAny_of_eq ((sliceIndices_raw lo hi none items.size (by simp)).trans (congrArg (pure : Int × Int × Int → Sem (Int × Int × Int)) hbd)) ?_)
  show wpAny _ _ (if ((1 : Int) == 1) = true then _ else _) _ _ s
  rw [if_pos (by decide)]
  refine wpAny_bind (wpAny_rule ?_)
  first
    | simp only [ag5 hsz, xft, if_false]
    | refine PySem.W.KFB.if_not (ag5 hsz) ?_
  first | refine wpAny_bind (wpAny_pure ?_) | skip
  show wpAny _ _ (updateSeq l (fun xs => xs.extract 0 (((HT.sIx items.size 0 lo : Nat) : Int)).toNat ++ new ++ xs.extract (max ((HT.sIx items.size 0 lo : Nat) : Int) ((HT.sIx items.size items.size hi : Nat) : Int)).toNat xs.size) >>= _) _ _ s
  rw [hmax, Int.toNat_natCast]
  refine wpAny_bind (wpAny_updateSeq (hz := Nat.le_trans (Nat.le_add_right _ _) hsz) (_hz' := hz') e rfl ?_)
  refine wpAny_bind (wpAny_letGo ?_)
  first
    | exact wpAny_bind (wpAny_pure (wpAny_pure ⟨.none, rfl, wpAny_pure h⟩))
    | exact wpAny_pure ⟨.none, rfl, wpAny_pure h⟩
end
section
variable {X : Cx}
def aC9 {α : Type} (xs : List α) (lo hi : Option Int) (ys : List α) : List α := xs.take (HT.sIx xs.length 0 lo) ++ ys ++ xs.drop (max (HT.sIx xs.length 0 lo) (HT.sIx xs.length xs.length hi))
theorem be8 {pins : List (Addr × Obj)} {s : Shared} {σ : L2.St} {H : Hp} {l b sl : Addr} {xs ys : List V} {lo hi : Option Int} {vl vu : Value} {Q : Unit → Shared → Prop} (I : Inv X pins σ H s)
  (hH : H l = some (.lst xs)) (hB : H b = some (.lst ys)) (hne : l ≠ b) (hs : s.heap.IsSliceOf sl vl vu .none) (pl : IsPart vl lo) (pu : IsPart vu hi)
  (hz : xs.length + ys.length ≤ sizeLine) (h : ∀ s', Inv X pins σ (upd H l (.lst (aC9 xs lo hi ys))) s' → Q () s') :
  wpAny (model X.prog X.w) X.A (setItem (.ref l) (.ref sl) (.ref b)) Q X.xe s := by
 obtain ⟨z, its, n, r, hl, e⟩ := I.lstM hH
 obtain ⟨z2, its2, n2, r2, hl2, e2⟩ := I.lstM hB
 refine aD2 e e2 hne hs pl pu (by rw [List.size_toArray, List.size_toArray]; omega) (h _ ?_)
 have hz0 : its.toArray.size = xs.length := by rw [List.size_toArray]; exact hl.symm
 refine I.lset (its' := its.take (HT.sIx xs.length 0 lo) ++ its2 ++ its.drop (max (HT.sIx xs.length 0 lo) (HT.sIx xs.length xs.length hi))) (t' := s.toks) hH e ?_ (L7.append (L7.append (r.take _) r2) (r.drop _)) ?_
 ·have e0 := bs9 its its2 (HT.sIx xs.length 0 lo) (max (HT.sIx xs.length 0 lo) (HT.sIx xs.length xs.length hi))
  rw [hz0] at e0 ⊢
  exact e0
 ·unfold aC9
  rw [List.length_append, List.length_append, List.length_take, List.length_drop]
  omega
theorem bG2 {K : PySem.W.Frag} {H : Hp} {ds es : List D} {vs us : List V} (h : Reps K H ds vs) (g : Reps K H es us) (lo hi : Option Int) : Reps K H (aC9 ds lo hi es) (aC9 vs lo hi us) := by
 unfold aC9
 rw [h.length]
 exact ((h.take _).append g).append (h.drop _)
theorem Slots.reOwn {K : PySem.W.Frag} {H0 H Hf : Hp} {ρ : Rho} {σ : L2.St} {i : Nat} {ds ds' : List D} {b : Addr} {vs' : List V} (sl : Slots K H0 ρ σ H Hf) (eo : ρ[i]? = some (some (.own ds))) (h1 : σ[i]? = some (some (.ref b))) (hf : Hf b = none) (h0 : H0 b = none) (r : Reps K Hf ds' vs') :
  Slots K H0 (ρ.set i (some (.own ds'))) σ (upd H b (.lst vs')) Hf := by
 refine ⟨by simpa using sl.len, fun j bb z => ?_, fun j k ds1 es c q1 q2 q3 q4 => ?_⟩
 ·by_cases qj : i = j
  ·subst qj
   have hi : i < ρ.length := (List.getElem?_eq_some_iff.mp eo).1
   rw [List.getElem?_set_self hi] at z
   cases z
   exact ⟨_, h1, b, vs', rfl, G8, hf, h0, r⟩
  ·rw [List.getElem?_set_ne qj] at z
   obtain ⟨u, z1, z2⟩ := sl.is j bb z
   refine ⟨u, z1, ?_⟩
   cases bb with
   | val d => exact z2
   | own dd =>
    obtain ⟨a', us', y1, y2, y3, y4, y5⟩ := z2
    have ne : a' ≠ b := fun zz => by
     subst zz y1
     exact qj (sl.apart i j ds dd a' eo z h1 z1)
    exact ⟨a', us', y1, by rw [G9 ne]; exact y2, y3, y4, y5⟩
 ·have f : ∀ (j : Nat) (es : List D), (ρ.set i (some (B.own ds')))[j]? = some (some (B.own es)) → ∃ dd : List D, ρ[j]? = some (some (B.own dd)) := fun j es q => by
   by_cases qj : i = j
   ·subst qj; exact ⟨ds, eo⟩
   ·rw [List.getElem?_set_ne qj] at q; exact ⟨_, q⟩
  obtain ⟨d1, q1'⟩ := f j _ q1
  obtain ⟨d2, q2'⟩ := f k _ q2
  exact sl.apart j k d1 d2 c q1' q2' q3 q4
def bF9 (i : Nat) (lo hi : Rho → Option (Option Int)) (f : Rho → Option (List D)) : DS := fun ρ => (f ρ).bind fun es => (lo ρ).bind fun l => (hi ρ).bind fun h => match ρ[i]? with
 | some (some (.own ds)) => if ds.length + es.length ≤ 16777216 then some (.nx (ρ.set i (some (.own (aC9 ds l h es))))) else none
 | _ => none
theorem cv0 (i : Nat) {x : Str} {e : Expr} {lo hi : Option Expr} {f : Rho → Option (List D)} {l h : Rho → Option (Option Int)} {p p2 pos' pos : Pos} (he : JN X e f) (hl : JO X lo l) (hh : JO X hi h) (hN : X.N[i]? = some x := by rfl)
  (hv : Vis X.env.scope x := by first | exact Or.inl rfl | exact Or.inr (Or.inl rfl) | exact Or.inr (Or.inr rfl)) (hd : (x == ("__debug__" : Str)) = false := by decide) (hcd : (x == ("__classdict__" : Str)) = false := by decide)
  (hsw : swapsWith e (some (.Subscript (.Name x p) (.Slice lo hi none p2) pos')) pos.line X.env = pure false := by rfl) : JS X (.Assign [.Subscript (.Name x p) (.Slice lo hi none p2) pos'] e pos) (bF9 i l h f) := fun ρ fl q H0 Hf0 => by
 obtain ⟨es, e1, q⟩ := Option.bind_eq_some_iff.mp q
 obtain ⟨y, e2, q⟩ := Option.bind_eq_some_iff.mp q
 obtain ⟨z, e3, q⟩ := Option.bind_eq_some_iff.mp q
 split at q
 ·rename_i ds eo
  split at q
  ·rename_i hz
   cases q
   intro pins s σ H En I ⟨Hf, a, ee⟩
   refine wpAny_Assign_Subscript (thn (he ρ es e1 pins s σ H (fun v H' => ∃ Hf', Grow H Hf H' Hf' ∧ ∃ b us, v = .ref b ∧ H b = none ∧ H' b = some (.lst us) ∧ Hf' b = none ∧ Reps X.K Hf' es us) I ⟨H0, Hf, a.gr.sub, a.sl, fun v H' Hf' g r => ⟨Hf', g, r⟩⟩) fun v s1 ⟨x1, H1, I1, r1, Hf1, g1, b, us, ev, b1, b2, b3, b4⟩ => ?_) hsw
   subst ev
   cases r1
   obtain ⟨vl0, h1, c, vs, ev, h2, h3, h4, h5⟩ := a.sl.is i _ eo
   subst ev
   refine thn (ao3 hN hv hd hcd pins s1 σ H1 (fun v H' => v = .ref c ∧ H' = H1) I1 ⟨_, h1, rfl, rfl⟩) fun ov s2 ⟨x2, H2, I2, r2, ex, eH⟩ => ?_
   subst ex eH
   cases r2
   have sl1 := a.sl.grow g1
   refine wpAny_Slice (thn (hl ρ y e2 pins s2 σ H2 (fun o H' => o = y ∧ ∃ Hf', Grow H2 Hf1 H' Hf') I2 ⟨H0, Hf1, g1.sub, sl1, fun H' Hf' g => ⟨rfl, Hf', g⟩⟩) fun wl s3 ⟨o3, H3, I3, pl, eo3, Hf3, g3⟩ => ?_)
   subst eo3
   have sl3 := sl1.grow g3
   refine thn (hh ρ z e3 pins s3 σ H3 (fun o H' => o = z ∧ ∃ Hf', Grow H3 Hf3 H' Hf') I3 ⟨H0, Hf3, g3.sub, sl3, fun H' Hf' g => ⟨rfl, Hf', g⟩⟩) fun wu s4 ⟨o4, H4, I4, pu, eo4, Hf4, g4⟩ => ?_
   subst eo4
   have sl4 := sl3.grow g4
   have gg : Grow H Hf H4 Hf4 := (g1.trans g3).trans g4
   rw [evalPart_none]
   refine wpAny_pure ?_
   have I5 : Inv X pins σ H4 { s4 with heap := s4.heap.push { cls := .type "slice", data := .fields #[wl, wu, .none] } } := I4.kept (t' := s4.toks) fun b ob q => Heap.get?_push_of_some _ q
   have hc : H4 c = some (.lst vs) := gg.big _ _ h2
   have hb : H4 b = some (.lst us) := (g3.trans g4).big _ _ b2
   have hcb : c ≠ b := fun zz => by subst zz; rw [h2] at b1; cases b1
   have hfc : Hf4 c = none := gg.nofr h2 h3
   have rd : Reps X.K Hf4 (aC9 ds o3 o4 es) (aC9 vs o3 o4 us) := bG2 (h5.mono gg.ext) (b4.mono (g3.trans g4).ext) _ _
   refine be8 I5 hc hb hcb (Heap.IsSliceOf.new ..) pl pu (by rw [h5.length, b4.length, sizeLine_eq]; exact hz) fun s' I' => ?_
   have ga := a.gr.trans gg
   refine ⟨σ, _, I', ee σ _ Hf4 ⟨⟨fun d u zz => ?_, fun d u zz => ?_, ga.ext, ga.new⟩, sl4.reOwn eo h1 hfc h4 rd⟩ gg.ext⟩
   ·rw [G9 (J3 zz h4)]; exact ga.big d u zz
   ·rw [G9 (J3 zz hfc)]; exact ga.sub d u zz
  ·cases q
 ·cases q
theorem ca4 (i : Nat) {N' : List Str} {n : Nat} {caps : List Nat} {scope : Scope} {elt tgt iter : Expr} {ifs : List Expr} {pos pos' spos : Pos} {x : Str} {src : Rho → Option (List D)} {g : D → Rho → Option Rho} {c : Rho → Option Bool} {e : DE} (hN : X.N.Nodup) (S : CompSc X N' n caps scope) (hx : ∀ e s, X.xe e s → False)
  (hi : JI X tgt iter src) (hg : ∀ C s0 H0 ex, JG (M0 X N' scope C s0 H0 ex) tgt g) (ht : ∀ C s0 H0 ex, JTs (M0 X N' scope C s0 H0 ex) ifs c) (he : ∀ C s0 H0 ex, JE (M0 X N' scope C s0 H0 ex) elt e)
  (hi2 : X.N[i]? = some x := by rfl) (hl : X.env.scope.names.lookup x = some .local := by rfl) (hsw : swapsWith (.ListComp elt [⟨tgt, iter, ifs, 0⟩] scope pos) (some (.Name x pos')) spos.line X.env = pure true := by rfl)
  (hc : X.calm = true := by rfl) (hs : ∀ x, foldedSetIterable iter X.env x = pure x := by intro _; rfl) : JS X (.Assign [.Name x pos'] (.ListComp elt [⟨tgt, iter, ifs, 0⟩] scope pos) spos) (X3 i (D6 n caps src g c e)) := fun ρ fl q H0 Hf0 => by
 obtain ⟨out, e1, e2⟩ := Option.map_eq_some_iff.mp q
 subst e2
 obtain ⟨ds, e3, k⟩ := ap3 (K := X.K) e1
 refine R4 (aE7 S hx hc hN hi2 hl (hi ρ ds e3) (g := tgJ X.K g) (tc := aL3 X.K c) (te := bm0 X.K e) hg ht (fun C s0 H0 ex pins s σ H Q I ⟨ρ, d, e, t⟩ => he C s0 H0 ex ρ d e pins s σ H Q I t) hsw hs) fun En σ H ⟨Hf, a, ee⟩ => k σ H _ ⟨H0, Hf, a.gr.sub, a.sl, fun v H' Hf' gg ⟨p, vs, z1, z2, z3, z4, z5⟩ => ?_⟩
 subst z1
 exact ee _ H' Hf' ⟨a.gr.trans gg, a.sl.setOwn gg (a.gr.big.free z2) z2 z3 z4 z5⟩ gg.ext
def cf5 : DS := fun ρ => some (.ct ρ)
theorem ca5 {pos : Pos} : JS X (.Continue pos) cf5 := fun ρ fl q H0 Hf0 => by
 cases q
 exact R4 aW2 fun En σ H ⟨Hf, a, e⟩ => e σ H Hf a (M6.refl _)
end
end G
namespace G
open PySem PySem.Spec PyProof.Rows L2
section
variable {X : Cx}
def az7 (x : Str) (k : Int) : Str := if (k == 1 || x.length == 0) = true then x else ⟨(List.replicate k.toNat x.cps).foldl (· ++ ·) #[]⟩
def bw5 (x y : D) : Option D := match x, y with
 | .str x, .int k => if 1 ≤ k ∧ k ≤ 2 ∧ x.length ≤ 1000 ∧ (az7 x k).length ≤ 16777216 then some (.str (az7 x k)) else none
 | _, _ => none
theorem bY1 : OpD X (binaryOp .Mult) bw5 := fun x y z h => by
 unfold bw5 at h
 split at h
 ·split at h
  ·rename_i x k c
   cases h
   intro pins s σ H vx vy v u Q I rx ry ⟨Hf, ss, r1, r2, kk⟩
   cases r1
   cases r2
   obtain ⟨t, rfl⟩ := rx
   obtain ⟨t2, rfl⟩ := ry
   have w := kk (.str (az7 x k)) H Hf (Grow.refl ss) rfl
   have k12 : k = 1 ∨ k = 2 := by omega
   refine P.mul_str (by rw [decide_eq_false (by omega), decide_eq_false (by omega)]; rfl) (fun _ _ => by rcases k12 with rfl | rfl <;> omega) (fun _ _ => ?_) ?_
   ·unfold Builtin.Str.tooLong
    rw [sizeLine_eq]
    refine decide_eq_false ?_
    rcases k12 with rfl | rfl <;> simp <;> omega
   ·rw [if_neg (by omega)]
    unfold az7 at w c
    split
    ·rename_i e
     rw [if_pos e] at w
     exact ⟨.str x, H, I, ⟨_, rfl⟩, w⟩
    ·rename_i e
     rw [if_neg e] at w c
     exact ⟨by rw [sizeLine_eq]; exact c.2.2.2, .str _, H, I.tok _, ⟨_, rfl⟩, w⟩
  ·cases h
 ·cases h
def slS (x : Str) (lo hi : Option Int) : Str := if ((1 : Int) == 1 && (Builtin.Str.strSliceIndices lo hi 1 x.length).length == x.length) = true then x else ⟨((Builtin.Str.strSliceIndices lo hi 1 x.length).filterMap (x.cps[·]?)).toArray⟩
def bA0 (f : DE) (lo hi : Rho → Option (Option Int)) : DE := fun ρ => (f ρ).bind fun d => (lo ρ).bind fun l => (hi ρ).bind fun h => match d with
 | .str x => if x.length ≤ 1000 ∧ (slS x l h).length ≤ 16777216 then some (.str (slS x l h)) else none
 | _ => none
theorem bn5 {u : Value} {o : Option Int} (h : IsPart u o) : ∃ p : Option (Int × Tok), u = partValue p ∧ p.map (·.1) = o := by
 cases h with
 | none => exact ⟨none, rfl, rfl⟩
 | int i t => exact ⟨some (i, t), rfl, rfl⟩
theorem bV1 : SlR X (fun x lo hi H Q => ∃ z, x = .str z ∧ (slS z lo hi).length ≤ 16777216 ∧ Q (.str (slS z lo hi)) H) := by
 intro pins s σ H x v vl vu lo hi sl Q I rx hs pl pu h
 obtain ⟨z, rfl, hz, q⟩ := h
 obtain ⟨t, rfl⟩ := rx
 obtain ⟨pl', rfl, rfl⟩ := bn5 pl
 obtain ⟨pu', rfl, rfl⟩ := bn5 pu
 refine ⟨"str", _, F.slot_str_getitem.lookup, typeIs_str s z t, wpAny_getItem_str_slice (l := pl') (u := pu') (st := none) hs rfl ?_⟩
 show (if ((1 : Int) == 1 && (Builtin.Str.strSliceIndices (pl'.map (·.1)) (pu'.map (·.1)) 1 z.length).length == z.length) = true then Made.val (.str z t) else Made.str ⟨((Builtin.Str.strSliceIndices (pl'.map (·.1)) (pu'.map (·.1)) 1 z.length).filterMap (z.cps[·]?)).toArray⟩).post _ _
 unfold slS at q hz
 by_cases e : ((1 : Int) == 1 && (Builtin.Str.strSliceIndices (pl'.map (·.1)) (pu'.map (·.1)) 1 z.length).length == z.length) = true
 ·rw [if_pos e] at q ⊢
  exact ⟨.str z, H, I, ⟨_, rfl⟩, q⟩
 ·rw [if_neg e] at q hz ⊢
  exact ⟨by rw [sizeLine_eq]; exact hz, .str _, H, I.tok _, ⟨_, rfl⟩, q⟩
theorem cw9 {a : Expr} {lo hi : Option Expr} {f : DE} {l h : Rho → Option (Option Int)} {pos p2 : Pos} (ha : JE X a f) (hl : JO X lo l) (hh : JO X hi h) : JE X (.Subscript a (.Slice lo hi none p2) pos) (bA0 f l h) := fun ρ d q => by
 obtain ⟨x, e1, q⟩ := Option.bind_eq_some_iff.mp q
 obtain ⟨y, e2, q⟩ := Option.bind_eq_some_iff.mp q
 obtain ⟨z, e3, q⟩ := Option.bind_eq_some_iff.mp q
 cases x with
 | str x =>
  simp only at q
  split at q
  ·rename_i c
   cases q
   refine G1 (aq5 bV1 (ha ρ _ e1) (hl ρ y e2) (hh ρ z e3)) fun σ H Q ⟨H0, Hf, s, sl, k⟩ => ?_
   refine ⟨H0, Hf, s, sl, fun v H1 Hf1 g1 r1 => ⟨H0, Hf1, g1.sub, sl.grow g1, fun H2 Hf2 g2 => ⟨H0, Hf2, g2.sub, sl.grow (g1.trans g2), fun H3 Hf3 g3 => ?_⟩⟩⟩
   exact ⟨x, r1, c.2, k _ H3 Hf3 ((g1.trans g2).trans g3) rfl⟩
  ·cases q
 | _ => cases q
def bt4 (i : Nat) (f : DE) : DS := fun ρ => match ρ[i]? with
 | some (some (.own ds)) => (f ρ).bind fun d => match d with
  | .list es => if ds.length + es.length ≤ 16777216 then some (.nx (ρ.set i (some (.own (ds ++ es))))) else none
  | .tuple es => if ds.length + es.length ≤ 16777216 then some (.nx (ρ.set i (some (.own (ds ++ es))))) else none
  | _ => none
 | _ => none
end
end G
namespace Sh
open PySem PySem.Spec PyProof.Rows L2 G
def bD5 : DS := (B2 (dIx (A5 0) (dC (.int 0))))
def ab5 : List D → Option D := K2 bD5 1
def bl6 : DS := (B2 (A4 eqD (A2 ab5 (A0 (A1 0) A3)) (dC (.str "layer"))))
def m7 : List D → Option D := K2 bl6 1
def bD6 : DS := (B2 (A4 eqD (A2 ab5 (A0 (A1 0) A3)) (dC (.str "tone"))))
def R1 : List D → Option D := K2 bD6 1
def bc0 : DS := (B2 (dIx (A5 0) (dC (.int 2))))
def Z5 : List D → Option D := K2 bc0 1
def bD1 : DS := (B2 (dIx (A5 0) (dC (.int 2))))
def ak2 : List D → Option D := K2 bD1 1
def aL1 : DS := (B2 (dIx (A5 0) (dC (.int 3))))
def O2 : List D → Option D := K2 aL1 1
def bl5 : DS := (B2 (dIx (A5 0) (dC (.int 4))))
def V3 : List D → Option D := K2 bl5 1
def bD4 : DS := (B2 (dIx (A5 0) (dC (.int 5))))
def ab0 : List D → Option D := K2 bD4 1
def bT7 : DS := (B2 (dIx (A5 0) (dC (.int 6))))
def ah5 : List D → Option D := K2 bT7 1
def bD3 : DS := (B2 (dIx (A5 0) (dC (.int 7))))
def ak4 : List D → Option D := K2 bD3 1
def bl4 : DS := (B2 (dIx (A5 0) (dC (.int 8))))
def k7 : List D → Option D := K2 bl4 1
def aL2 : DS := (B2 (dIx (A5 0) (dC (.int 5))))
def P1 : List D → Option D := K2 aL2 1
def Y8 : DS := (A6 (B3 3 (A2 k7 (A0 (A1 0) A3))) (A6 (B3 4 (A2 ak4 (A0 (A1 0) A3))) (A6 (B3 5 (A2 ak0 (A0 (A1 3) (A0 (A1 1) (A0 (A1 2) A3))))) (A6 (sIf (f6 (tB2 isB (A1 4) (dC .none)) (O5 (S0 (A2 V7 (A0 (A1 3) (A0 (A1 1) (A0 (A1 2) A3))))))) (B2 (A1 5)) J2) (B2 (A2 k6 (A0 (A1 5) (A0 (dIx (A5 4) (A2 N6 (A0 (A1 3) (A0 (A1 1) (A0 (A1 2) A3))))) A3))))))))
def Z1 : List D → Option D := K2 Y8 6
def aa9 (self : Nat → List D → Option D) : DS := (A6 (sIf (S0 (A2 m7 (A0 (A1 0) A3))) (B3 3 (A2 Z1 (A0 (A1 0) (A0 (A4 ae3 (A1 1) (A2 ab0 (A0 (A1 0) A3))) (A0 (A4 ae3 (A1 2) (A2 ah5 (A0 (A1 0) A3))) A3))))) (B3 3 (A2 (self 2) (A0 (A2 P1 (A0 (A1 0) A3)) (A0 (A1 1) (A0 (A1 2) A3)))))) (B2 (A2 k6 (A0 (A1 3) (A0 (A2 O2 (A0 (A1 0) A3)) A3)))))
def M7 (self : Nat → List D → Option D) : DS := (A6 (sIf (O5 (S0 (A2 V3 (A0 (A1 0) A3)))) (B2 (A1 1)) J2) (A6 (sIf (S0 (A2 R1 (A0 (A1 0) A3))) (B2 (A2 au2 (A0 (A2 ak2 (A0 (A1 0) A3)) (A0 (A1 1) (A0 (A2 O2 (A0 (A1 0) A3)) A3))))) J2) (B2 (A2 j5 (A0 (A2 Z5 (A0 (A1 0) A3)) (A0 (A2 (self 0) (A0 (A1 0) (A0 (A1 2) (A0 (A1 3) A3)))) (A0 (A1 1) A3)))))))
def k5 (self : Nat → List D → Option D) : DS := (A6 (B3 3 (dC (.tuple [(.tuple [(.int 0), (.int 1)]), (.tuple [(.int 0), (.int 1)]), (.tuple [(.int 0), (.int 1)]), (.tuple [(.int 0), (.int 1)])]))) (A6 (P8 (L4 (A1 0)) (A8 4) (B3 3 (A2 (self 1) (A0 (A1 4) (A0 (A1 3) (A0 (A1 1) (A0 (A1 2) A3))))))) (B2 (A1 3))))
def X0 : Nat → Nat → List D → Option D
 | 0 => fun _ _ => none
 | k + 1 => fun i => match i with
  | 0 => K2 (aa9 (X0 k)) 4
  | 1 => K2 (M7 (X0 k)) 4
  | 2 => K2 (k5 (X0 k)) 5
  | _ => fun _ => none
def V8 (k : Nat) : List D → Option D := X0 k 0
def P0 (k : Nat) : List D → Option D := X0 k 1
def O9 (k : Nat) : List D → Option D := X0 k 2
def aO3 : DS := (B2 (A2 (O9 12) (A0 (dIx (A5 0) (dC (.int 2))) (A0 (A1 1) (A0 (A1 2) A3)))))
def T6 : List D → Option D := K2 aO3 3
def bT8 : DS := (A6 (N5 1 (D6 2 [0] (L4 (A2 S2 (A0 (dIx (A5 0) (dC (.int 0))) (A0 (dIx (A5 0) (dC (.int 1))) A3)))) (K6 2 (B0 (A8 0) (B0 (A8 1) L5))) G0 (A2 T6 (A0 (A1 2) (A0 (A1 0) (A0 (A1 1) A3)))))) (B2 (J1 (A0 (dIx (A5 0) (dC (.int 0))) (A0 (dIx (A5 0) (dC (.int 1))) (A0 (L8 (A5 1)) A3))))))
def cB5 : List D → Option D := K2 bT8 2
def aO0 : DS := (A6 (B3 3 (A4 eqD (A2 A7 (A0 (A1 0) (A0 (A1 1) (A0 (dC (.int 2)) A3)))) (dC (.int 0)))) (A6 (X3 4 A3) (A6 (P8 (L6 (A1 2)) (A8 5) (A6 (B3 6 (aG4 (dC (.str "")) (qN (D6 1 [0, 1, 5] (L6 (dC (.int 2))) (A8 0) G0 (ap2 (dC (.str "abcdefghijklmnopqrstuvwxyz")) (A2 A7 (A0 (A1 1) (A0 (A4 B4 (A4 B4 (A4 B4 (A1 2) (dC (.int 1))) (A4 K5 (dC (.int 3)) (A1 3))) (A1 0)) (A0 (dC (.int 26)) A3))))))))) (A6 (B3 6 (A4 bw5 (bA0 (A1 6) O1 (L3 (A2 A7 (A0 (A1 0) (A0 (A4 B4 (A4 B4 (A1 1) (dC (.int 3))) (A4 K5 (dC (.int 3)) (A1 5))) (A0 (dC (.int 3)) A3)))))) (dIx (qN (A0 (dC (.int 1)) (A0 (dC (.int 2)) A3))) (A2 A7 (A0 (A1 0) (A0 (A4 B4 (A4 B4 (A1 1) (dC (.int 2))) (A4 K5 (dC (.int 3)) (A1 5))) (A0 (dC (.int 2)) A3))))))) (R3 4 (dIx (qN (A0 (A4 B4 (A1 6) (ap2 (dC (.str "abcdefghijklmn")) (A1 5))) (A0 (A4 B4 (ap2 (dC (.str "abcdefghijklmn")) (A1 5)) (A1 6)) A3))) (X8 (A1 3))))))) (aw6 4 (B2 (A1 4))))))
def ab3 : List D → Option D := K2 aO0 7
def af6 : DS := (B3 4 (A2 O3 (A0 (A1 0) (A0 (A1 1) A3))))
def af5 : DS := (B3 5 (A4 gtI (A2 A7 (A0 (A1 0) (A0 (A4 B4 (A1 1) (dC (.int 3))) (A0 (dC (.int 6)) A3)))) (dC (.int 0))))
def Z2 : DS := (sIf (tB2 eqD (A2 A7 (A0 (A1 0) (A0 (A4 B4 (A1 1) (dC (.int 4))) (A0 (dC (.int 6)) A3)))) (dC (.int 0))) (B2 (J1 (A0 (dC (.str "tone")) (A0 (A1 2) (A0 (dIx (qN (A0 (dC (.str "turn")) (A0 (dC (.str "grey")) (A0 (dC (.str "round")) A3)))) (A2 A7 (A0 (A1 0) (A0 (A4 B4 (A1 1) (dC (.int 5))) (A0 (dC (.int 3)) A3))))) (A0 (A1 4) (A0 (A1 5) A3))))))) J2)
def af4 : DS := (B3 6 (dIx (qN (A0 (dC (.str "over")) (A0 (dC (.str "multiply")) (A0 (dC (.str "screen")) (A0 (dC (.str "plus")) (A0 (dC (.str "atop")) (A0 (dC (.str "cut")) A3))))))) (A2 A7 (A0 (A1 0) (A0 (A4 B4 (A1 1) (dC (.int 5))) (A0 (dC (.int 6)) A3))))))
def n8 : DS := (sIf (tB2 gtI (A2 A7 (A0 (A1 0) (A0 (A4 B4 (A1 1) (dC (.int 6))) (A0 (dC (.int 3)) A3)))) (dC (.int 0))) (B3 6 (A1 3)) J2)
def af3 : DS := (B3 7 (A4 B4 (dC (.int 1)) (A2 A7 (A0 (A1 0) (A0 (A4 B4 (A1 1) (dC (.int 7))) (A0 (dC (.int 3)) A3))))))
def af2 : DS := (B3 8 (A4 B4 (dC (.int 1)) (A2 A7 (A0 (A1 0) (A0 (A4 B4 (A1 1) (dC (.int 8))) (A0 (dC (.int 3)) A3))))))
def af1 : DS := (B3 9 (dC .none))
def n6 : DS := (sIf (tB2 eqD (A2 A7 (A0 (A1 0) (A0 (A4 B4 (A1 1) (dC (.int 9))) (A0 (dC (.int 3)) A3)))) (dC (.int 0))) (B3 9 (L8 (qN (D6 1 [0, 1] (L6 (A4 K5 (A1 7) (A1 8))) (A8 0) G0 (A2 O3 (A0 (A1 1) (A0 (A4 B4 (A4 B4 (A1 2) (dC (.int 20))) (A4 K5 (dC (.int 3)) (A1 0))) A3))))))) J2)
def af0 : DS := (B3 10 (A4 ae3 (A2 A7 (A0 (A1 0) (A0 (A4 B4 (A1 1) (dC (.int 10))) (A0 (dC (.int 4)) A3)))) (dC (.int 1))))
def ab8 : DS := (B3 11 (A4 ae3 (A2 A7 (A0 (A1 0) (A0 (A4 B4 (A1 1) (dC (.int 11))) (A0 (dC (.int 4)) A3)))) (dC (.int 1))))
def f7 : DS := (sIf (tB2 eqD (A2 A7 (A0 (A1 0) (A0 (A4 B4 (A1 1) (dC (.int 12))) (A0 (dC (.int 3)) A3)))) (dC (.int 0))) (V9 (J1 (A0 (dC (.int 3)) (A0 (dC (.int 3)) (A0 (dC (.int 0)) (A0 (dC (.int 0)) (A0 (dC .none) A3)))))) (K6 5 (B0 (A8 7) (B0 (A8 8) (B0 (A8 10) (B0 (A8 11) (B0 (A8 9) L5))))))) J2)
def ab7 : DS := (B3 12 (A2 ab2 (A0 (A1 0) (A0 (A4 B4 (A1 1) (dC (.int 50))) (A0 (A1 7) (A0 (A1 8) A3))))))
def ab6 : DS := (B2 (J1 (A0 (dC (.str "layer")) (A0 (A1 2) (A0 (A1 6) (A0 (A1 4) (A0 (A1 5) (A0 (A1 10) (A0 (A1 11) (A0 (A1 9) (A0 (A1 12) A3)))))))))))
def aH5 : DS := (A6 af6 (A6 af5 (A6 Z2 (A6 af4 (A6 n8 (A6 af3 (A6 af2 (A6 af1 (A6 n6 (A6 af0 (A6 ab8 (A6 f7 (A6 ab7 ab6)))))))))))))
def W6 : List D → Option D := K2 aH5 13
def aN9 : DS := (A6 (B3 4 (dIx (qN (A0 (dC (.str "over")) (A0 (dC (.str "multiply")) (A0 (dC (.str "screen")) (A0 (dC (.str "plus")) A3))))) (A2 A7 (A0 (A1 0) (A0 (A1 1) (A0 (dC (.int 4)) A3)))))) (A6 (B3 5 (A2 A7 (A0 (A1 0) (A0 (A4 B4 (A1 1) (dC (.int 1))) (A0 (A4 B4 (A1 2) (dC (.int 1))) A3))))) (A6 (X3 6 (D6 1 [0, 4, 3, 1] (L6 (A1 5)) (A8 0) G0 (A2 W6 (A0 (A1 1) (A0 (A4 B4 (A4 B4 (A1 4) (dC (.int 20))) (A4 K5 (dC (.int 170)) (A1 0))) (A0 (dIx (A5 3) (A1 0)) (A0 (A1 2) A3))))))) (A6 (P8 (L6 (A2 A7 (A0 (A1 0) (A0 (A4 B4 (A1 1) (dC (.int 2))) (A0 (dC (.int 3)) A3))))) (A8 7) (A6 (B3 8 (A2 A7 (A0 (A1 0) (A0 (A4 B4 (A4 B4 (A1 1) (dC (.int 3))) (A4 K5 (dC (.int 5)) (A1 7))) (A0 (A4 B4 (i5 (A5 6)) (dC (.int 1))) A3))))) (A6 (B3 9 (A4 B4 (A1 8) (A2 A7 (A0 (A1 0) (A0 (A4 B4 (A4 B4 (A1 1) (dC (.int 4))) (A4 K5 (dC (.int 5)) (A1 7))) (A0 (dC (.int 3)) A3)))))) (A6 (B3 10 (dIx (qN (A0 (J1 (A0 (dC (.int 1)) (A0 (dC (.int 1)) A3))) (A0 (A2 O3 (A0 (A1 0) (A0 (A4 B4 (A4 B4 (A1 1) (dC (.int 5))) (A4 K5 (dC (.int 5)) (A1 7))) A3))) A3))) (A2 A7 (A0 (A1 0) (A0 (A4 B4 (A4 B4 (A1 1) (dC (.int 6))) (A4 K5 (dC (.int 5)) (A1 7))) (A0 (dC (.int 2)) A3)))))) (A6 (B3 11 (dIx (qN (A0 (A1 4) (A0 (dC (.str "atop")) (A0 (A1 4) (A0 (dC (.str "cut")) A3))))) (A2 A7 (A0 (A1 0) (A0 (A4 B4 (A4 B4 (A1 1) (dC (.int 7))) (A4 K5 (dC (.int 5)) (A1 7))) (A0 (dC (.int 4)) A3)))))) (A6 (B3 12 (J1 (A0 (dC (.str "group")) (A0 (dIx (A5 3) (A4 B4 (A1 2) (A1 7))) (A0 (A1 11) (A0 (A1 10) (A0 (A4 gtI (A2 A7 (A0 (A1 0) (A0 (A4 B4 (A4 B4 (A1 1) (dC (.int 14))) (A1 7)) (A0 (dC (.int 7)) A3)))) (dC (.int 0))) A3))))))) (bF9 6 (L3 (A1 8)) (L3 (A1 9)) (A0 (A4 B4 (A1 12) (J1 (A0 (L8 (qE (bA1 (A5 6) (L3 (A1 8)) (L3 (A1 9))))) A3))) A3)))))))) (B2 (L8 (A5 6)))))))
def ak5 : List D → Option D := K2 aN9 13
def az5 : DS := (A6 (B3 4 (A4 B4 (dC (.int 1)) (A2 A7 (A0 (A1 0) (A0 (A1 1) (A0 (dC (.int 3)) A3)))))) (A6 (B3 5 (A4 B4 (dC (.int 1)) (A2 A7 (A0 (A1 0) (A0 (A4 B4 (A1 1) (dC (.int 1))) (A0 (dC (.int 3)) A3)))))) (B2 (J1 (A0 (A1 4) (A0 (A1 5) (A0 (A2 ak5 (A0 (A1 0) (A0 (A4 B4 (A1 1) (dC (.int 2))) (A0 (A1 2) (A0 (A1 3) A3))))) A3)))))))
def Z6 : List D → Option D := K2 az5 6
def S1 (self : Nat → List D → Option D) : DS := (A6 (sIf (tB2 eqD (dIx (A5 0) (dC (.int 0))) (dC (.str "group"))) (B2 (L8 (qN (D6 1 [0] (L4 (A2 (self 1) (A0 (dIx (A5 0) (dC (.int 5))) (A0 (A1 1) (A0 (A1 2) A3))))) (A8 0) G0 (A2 D5 (A0 (A1 0) (A0 (dIx (A5 1) (dC (.int 3))) A3))))))) J2) (A6 (V9 (dIx (A5 0) (dC (.int 8))) (K6 3 (B0 (A8 3) (B0 (A8 4) (B0 (A8 5) L5))))) (A6 (B3 6 (A4 ae3 (A1 1) (dIx (A5 0) (dC (.int 5))))) (A6 (B3 7 (A4 ae3 (A1 2) (dIx (A5 0) (dC (.int 6))))) (A6 (sIf (f6 (O5 (ak7 (M5 leI ltI (dC (.int 0)) (A1 6) (A1 3)))) (O5 (ak7 (M5 leI ltI (dC (.int 0)) (A1 7) (A1 4))))) (B2 (A4 K5 (J1 (A0 (J1 (A0 (dC (.int 0)) (A0 (dC (.int 1)) A3))) A3)) (dC (.int 4)))) J2) (A6 (B3 8 (dIx (A5 0) (dC (.int 3)))) (A6 (sIf (tB2 bg5 (dIx (A5 0) (dC (.int 7))) (dC .none)) (B3 8 (A2 D5 (A0 (A1 8) (A0 (dIx (qE (dIx (A5 0) (dC (.int 7)))) (A4 B4 (A4 K5 (A1 7) (A1 3)) (A1 6))) A3)))) J2) (B2 (L8 (qN (D6 1 [8] (L4 (dIx (A5 5) (A4 B4 (A4 K5 (A1 7) (A1 3)) (A1 6)))) (A8 0) G0 (A2 D5 (A0 (A1 0) (A0 (A1 1) A3))))))))))))))
def aa8 (self : Nat → List D → Option D) : DS := (A6 (B3 3 (A4 K5 (J1 (A0 (J1 (A0 (dC (.int 0)) (A0 (dC (.int 1)) A3))) A3)) (dC (.int 4)))) (A6 (P8 (L4 (A1 0)) (A8 4) (sIf (V4 (S0 (dIx (A5 4) (dC (.int 4)))) (tB2 eqD (dIx (A5 4) (dC (.int 0))) (dC (.str "tone")))) (B3 3 (A2 ab1 (A0 (dIx (A5 4) (dC (.int 2))) (A0 (A1 3) (A0 (dIx (A5 4) (dC (.int 3))) A3))))) (sIf (S0 (dIx (A5 4) (dC (.int 4)))) (B3 3 (A2 Y0 (A0 (dIx (A5 4) (dC (.int 2))) (A0 (A2 (self 0) (A0 (A1 4) (A0 (A1 1) (A0 (A1 2) A3)))) (A0 (A1 3) A3))))) J2))) (B2 (A1 3))))
def u9 : Nat → Nat → List D → Option D
 | 0 => fun _ _ => none
 | k + 1 => fun i => match i with
  | 0 => K2 (S1 (u9 k)) 9
  | 1 => K2 (aa8 (u9 k)) 5
  | _ => fun _ => none
def S7 (k : Nat) : List D → Option D := u9 k 0
def P7 (k : Nat) : List D → Option D := u9 k 1
def bc5 : DS := (A6 (V9 (A1 0) (K6 3 (B0 (A8 1) (B0 (A8 2) (B0 (A8 3) L5))))) (B2 (J1 (A0 (A1 1) (A0 (A1 2) (A0 (L8 (qN (D6 1 [3, 1] (L6 (A4 K5 (A1 1) (A1 2))) (A8 0) G0 (A2 (P7 12) (A0 (A1 1) (A0 (A4 U1 (A1 0) (A1 2)) (A0 (A4 X7 (A1 0) (A1 2)) A3))))))) A3))))))
def ab4 : List D → Option D := K2 bc5 4
end Sh
namespace G
open PySem PySem.Spec PyProof.Rows L2
section
variable {X : Cx}
def bw4 (f g : Rho → Option (Bool × List D)) : Rho → Option (List D) := fun ρ => (f ρ).bind fun p => (g ρ).bind fun q => if p.1 = false ∧ q.1 = false ∧ p.2.length + q.2.length ≤ 16777216 then some (p.2 ++ q.2) else none
theorem cw2 {a b : Expr} {f g : Rho → Option (Bool × List D)} {pos : Pos} (ha : JQ X a f) (hb : JQ X b g) : JN X (.BinOp a .Add b pos) (bw4 f g) := fun ρ out q => by
 obtain ⟨⟨t1, xs⟩, e1, q⟩ := Option.bind_eq_some_iff.mp q
 obtain ⟨⟨t2, ys⟩, e2, q⟩ := Option.bind_eq_some_iff.mp q
 split at q
 ·rename_i c
  obtain ⟨c1, c2, c3⟩ := c
  simp only at c1 c2 c3
  subst c1 c2
  cases q
  refine G1 (cg0 bn6 (ha ρ _ _ e1) (hb ρ _ _ e2)) fun σ H Q ⟨H0, Hf, s, sl, k⟩ => ?_
  refine ⟨H0, Hf, s, sl, fun v H1 Hf1 g1 ⟨p, vs, z1, z2, z3⟩ => ⟨H0, Hf1, g1.sub, sl.grow g1, fun u H2 Hf2 g2 ⟨p', us, z1', z2', z3'⟩ => ?_⟩⟩
  subst z1 z1'
  refine ⟨p, p', vs, us, rfl, rfl, M3 g2.big z2, z2', by rw [z3.length, z3'.length, sizeLine_eq]; exact c3, fun n hn => ?_⟩
  exact k _ _ _ ((g1.trans g2).trans (Grow.made g2.sub hn)) ⟨n, vs ++ us, rfl, (g1.trans g2).big.free hn, G8, g2.sub.free hn, (z3.mono g2.ext).append z3'⟩
 ·cases q
end
end G
namespace Sh
open PySem PySem.Spec PyProof.Rows L2 G
def bl7 : DS := (B2 (A4 eqD (A2 ab5 (A0 (A1 0) A3)) (dC (.str "group"))))
def m8 : List D → Option D := K2 bl7 1
def bD2 : DS := (B2 (dIx (A5 0) (dC (.int 1))))
def bD7 : List D → Option D := K2 bD2 1
def aH4 : DS := (A6 (P8 (bN5 (qE (A1 0))) (K6 2 (B0 (A8 2) (B0 (A8 3) L5))) (sIf (tB2 eqD (A2 bD7 (A0 (A1 3) A3)) (A1 1)) (B2 (A1 2)) J2)) (B2 (dC .none)))
def aH8 : List D → Option D := K2 aH4 4
def aU8 (self : List D → Option D) : DS := (A6 (sIf (tB2 bg5 (A2 aH8 (A0 (A1 0) (A0 (A1 1) A3))) (dC .none)) (B2 (A1 0)) J2) (A6 (P8 (L4 (A1 0)) (A8 2) (sIf (S0 (A2 m8 (A0 (A1 2) A3))) (A6 (B3 3 (A2 self (A0 (A2 P1 (A0 (A1 2) A3)) (A0 (A1 1) A3)))) (sIf (tB2 bg5 (A1 3) (dC .none)) (B2 (A1 3)) J2)) J2)) (B2 (dC .none))))
def aU9 : Nat → List D → Option D
 | 0 => fun _ => none
 | k + 1 => K2 (aU8 (aU9 k)) 4
def aC5 (self : List D → Option D) : DS := (A6 (X3 1 A3) (A6 (P8 (L4 (A1 0)) (A8 2) (A6 (R3 1 (A1 2)) (sIf (tB2 eqD (dIx (A5 2) (dC (.int 0))) (dC (.str "group"))) (X3 1 (bw4 (A5 1) (qE (A2 self (A0 (dIx (A5 2) (dC (.int 5))) A3))))) J2))) (aw6 1 (B2 (A1 1)))))
def N7 : Nat → List D → Option D
 | 0 => fun _ => none
 | k + 1 => K2 (aC5 (N7 k)) 3
end Sh
namespace G
open PySem PySem.Spec PyProof.Rows L2
section
variable {X : Cx}
theorem cd2 (l b : Addr) (xs ys : Array Value) (n m : Nat) (dd : Option Addr) (sl : Array (Option Value)) (h0 : ¬(!xs.isEmpty && Builtin.List.listTooLong (xs.size + ys.size)) = true) (h1 : xs.size ≤ sizeLine) (h2 : xs.size + ys.size ≤ sizeLine + 1) :
  Meets (Builtin.«list.extend» ⟨[.ref l, .ref b], []⟩) (fun _ R s => s.heap.get? l = some { cls := .type "list", data := .seq xs n } ∧ s.heap.get? b = some ⟨.type "list", dd, .seq ys m, sl⟩ ∧
   R (.ok (.ret Value.none)) { s with heap := s.heap.update l (Obj.mapSeq fun x => x ++ ys), toks := s.toks }) :=
 .of_wp fun prog w A R s h => by
  obtain ⟨hp, g, d, tk, os⟩ := s
  obtain ⟨hl, hb, h⟩ := h
  have f1 := AutoSeq1.idx_int
  have f2 := AutoSeq1.sub_tuple_tuple
  have f3 := AutoSeq1.sub_list_list
  have f4 := AutoSeq1.sub_tuple_list
  have f5 := AutoSeq1.sub_list_tuple
  have hz' : (xs ++ ys).size ≤ sizeLine + 1 := by rw [Array.size_append]; exact h2
  wp_walk using (wpAny_updateSeq hl rfl (hz := h1) (_hz' := hz')), AutoSeq1.wpAny_loadPart' hl, AutoSeq1.wpAny_loadPart' hb
  exact ⟨_, rfl, h⟩
theorem cd1 (l b : Addr) (xs ys : Array Value) (n m : Nat) (dd : Option Addr) (sl : Array (Option Value)) (h0 : ¬(!xs.isEmpty && Builtin.List.listTooLong (xs.size + ys.size)) = true) (h1 : xs.size ≤ sizeLine) (h2 : xs.size + ys.size ≤ sizeLine + 1) :
  Meets (Builtin.«list.extend» ⟨[.ref l, .ref b], []⟩) (fun _ R s => s.heap.get? l = some { cls := .type "list", data := .seq xs n } ∧ s.heap.get? b = some ⟨.type "tuple", dd, .seq ys m, sl⟩ ∧
   R (.ok (.ret Value.none)) { s with heap := s.heap.update l (Obj.mapSeq fun x => x ++ ys), toks := s.toks }) :=
 .of_wp fun prog w A R s h => by
  obtain ⟨hp, g, d, tk, os⟩ := s
  obtain ⟨hl, hb, h⟩ := h
  have f1 := AutoSeq1.idx_int
  have f2 := AutoSeq1.sub_tuple_tuple
  have f3 := AutoSeq1.sub_list_list
  have f4 := AutoSeq1.sub_tuple_list
  have f5 := AutoSeq1.sub_list_tuple
  have hz' : (xs ++ ys).size ≤ sizeLine + 1 := by rw [Array.size_append]; exact h2
  wp_walk using (wpAny_updateSeq hl rfl (hz := h1) (_hz' := hz')), AutoSeq1.wpAny_loadPart' hl, AutoSeq1.wpAny_loadPart' hb
  exact ⟨_, rfl, h⟩
def cL2 (K : PySem.W.Frag) : V → List V → Hp → VK → Prop := fun x vs H Q => ∃ l b xs zs, x = .ref l ∧ vs = [.ref b] ∧ H l = some (.lst xs) ∧ (SqL K H b zs ∨ SqT K H b zs) ∧ xs.length + zs.length ≤ sizeLine ∧ Q .non (upd H l (.lst (xs ++ zs)))
theorem bK3 : MtM X "list.extend" (cL2 X.K) := by
 intro pins s σ H x vs v us Q I rx rv h
 obtain ⟨l, b, xs, zs, rfl, rfl, hH, hB, hz, q⟩ := h
 cases rx
 obtain ⟨u, rfl, ru⟩ := rv.one
 cases ru
 obtain ⟨z, its, n, r, hl, e⟩ := I.lstM hH
 rcases hB with hB | hB
 ·obtain ⟨its2, r2, pl, _⟩ := I.list hB
  obtain ⟨⟨cls, dd, data, sl⟩, ho, hc, m, hd⟩ := pl.isList
  simp only at hc hd
  subst hc hd
  have hl2 := r2.length
  have hsz : its.toArray.size + its2.toArray.size ≤ sizeLine := by rw [List.size_toArray, List.size_toArray]; omega
  have hlong : ¬ (!its.toArray.isEmpty && Builtin.List.listTooLong (its.toArray.size + its2.toArray.size)) = true := by
   rw [ag5 hsz, Bool.and_false]; exact Bool.false_ne_true
  refine call_meets F.slot_list_extend ⟨_, e, rfl⟩ F.entry_list_extend (F.args_list_extend_2 _ _) (cd2 l b its.toArray its2.toArray n m dd sl hlong (by rw [List.size_toArray]; omega) (by omega)) ⟨e, ho, ?_⟩
  refine ⟨.non, _, I.lset (its' := its ++ its2) hH e (by simp) (r.append r2) ?_, rfl, q⟩
  rw [List.length_append]; omega
 ·obtain ⟨its2, r2, pl, _⟩ := I.tuple hB
  obtain ⟨⟨cls, dd, data, sl⟩, ho, hc, m, hd⟩ := pl
  simp only at hc hd
  subst hc hd
  have hl2 := r2.length
  have hsz : its.toArray.size + its2.toArray.size ≤ sizeLine := by rw [List.size_toArray, List.size_toArray]; omega
  have hlong : ¬ (!its.toArray.isEmpty && Builtin.List.listTooLong (its.toArray.size + its2.toArray.size)) = true := by
   rw [ag5 hsz, Bool.and_false]; exact Bool.false_ne_true
  refine call_meets F.slot_list_extend ⟨_, e, rfl⟩ F.entry_list_extend (F.args_list_extend_2 _ _) (cd1 l b its.toArray its2.toArray n m dd sl hlong (by rw [List.size_toArray]; omega) (by omega)) ⟨e, ho, ?_⟩
  refine ⟨.non, _, I.lset (its' := its ++ its2) hH e (by simp) (r.append r2) ?_, rfl, q⟩
  rw [List.length_append]; omega
theorem cv6 (i : Nat) {x : Str} {e : Expr} {f : DE} {p apos cpos pos : Pos} (h : JE X e f) (hN : X.N[i]? = some x) (hv : Vis X.env.scope x) (hd : (x == ("__debug__" : Str)) = false)
  (hcd : (x == ("__classdict__" : Str)) = false) (hline : (apos.endLine == cpos.line) = true) (hs : starEach [e] X.env = [(false, eval e X.env)]) :
  JS X (.Expr (.Call (.Attribute (.Name x p) "extend" apos) [e] [] cpos) pos) (bt4 i f) := fun ρ fl q H0 Hf0 => by
 unfold bt4 at q
 split at q
 ·rename_i ds eo
  obtain ⟨d, e1, q⟩ := Option.bind_eq_some_iff.mp q
  split at q
  ·rename_i es
   split at q
   ·rename_i hz
    cases q
    refine R4 (aQ4 (bn4 PySem.F.plainAttrs_list PySem.F.slot_list_extend PySem.F.type_list_extend bK3 (ao3 hN hv hd hcd) (K4 (h ρ _ e1) N8 hs) rfl (by rw [hs]; rfl) hline hs) rfl) fun En σ H ⟨Hf, a, ee⟩ => ?_
    obtain ⟨v, h1, b, vs, rfl, h2, h3, h4, h5⟩ := a.sl.is i _ eo
    refine ⟨_, h1, .inl ⟨rfl, vs, SqL.of h2⟩, H0, Hf, a.gr.sub, a.sl, fun w H' Hf' gg r => ?_⟩
    obtain ⟨b2, us, rfl, r1, r2⟩ := r
    have hb : H' b = some (.lst vs) := gg.big _ _ h2
    have hfb : Hf' b = none := gg.nofr h2 h3
    have g2 := a.gr.trans gg
    have sl2 := a.sl.grow gg
    refine ⟨b, b2, vs, us, rfl, rfl, hb, .inl (M3 gg.sub r1), by rw [h5.length, r2.length, sizeLine_eq]; exact hz, ee _ _ Hf' ⟨⟨fun c u z => ?_, fun c u z => ?_, g2.ext, g2.new⟩, ?_⟩ gg.ext⟩
    ·rw [G9 (J3 z h4)]; exact g2.big c u z
    ·rw [G9 (J3 z hfb)]; exact g2.sub c u z
    ·exact sl2.reOwn eo h1 hfb h4 ((h5.mono gg.ext).append r2)
   ·cases q
  ·rename_i es
   split at q
   ·rename_i hz
    cases q
    refine R4 (aQ4 (bn4 PySem.F.plainAttrs_list PySem.F.slot_list_extend PySem.F.type_list_extend bK3 (ao3 hN hv hd hcd) (K4 (h ρ _ e1) N8 hs) rfl (by rw [hs]; rfl) hline hs) rfl) fun En σ H ⟨Hf, a, ee⟩ => ?_
    obtain ⟨v, h1, b, vs, rfl, h2, h3, h4, h5⟩ := a.sl.is i _ eo
    refine ⟨_, h1, .inl ⟨rfl, vs, SqL.of h2⟩, H0, Hf, a.gr.sub, a.sl, fun w H' Hf' gg r => ?_⟩
    obtain ⟨b2, us, rfl, r1, r2⟩ := r
    have hb : H' b = some (.lst vs) := gg.big _ _ h2
    have hfb : Hf' b = none := gg.nofr h2 h3
    have g2 := a.gr.trans gg
    have sl2 := a.sl.grow gg
    refine ⟨b, b2, vs, us, rfl, rfl, hb, .inr (K3 gg.sub r1), by rw [h5.length, r2.length, sizeLine_eq]; exact hz, ee _ _ Hf' ⟨⟨fun c u z => ?_, fun c u z => ?_, g2.ext, g2.new⟩, ?_⟩ gg.ext⟩
    ·rw [G9 (J3 z h4)]; exact g2.big c u z
    ·rw [G9 (J3 z hfb)]; exact g2.sub c u z
    ·exact sl2.reOwn eo h1 hfb h4 ((h5.mono gg.ext).append r2)
   ·cases q
  ·cases q
 ·cases q
end
end G
namespace G
open PySem PySem.Spec PyProof.Rows L2
def ba1 (a : List Str) (x : Str) : List Str := if a.any (· == x) then a else a ++ [x]
def ddN (v : Nat → Str) (i : Nat) : List Str := ((List.range i).map v).foldl ba1 []
def ddS (l : List Str) : List Str := l.foldl ba1 []
theorem aG3 (v : Nat → Str) (i : Nat) : ddN v (i + 1) = ba1 (ddN v i) (v i) := by
 unfold ddN
 rw [List.range_succ, List.map_append, List.foldl_append]
 rfl
theorem bQ8 (v : Nat → Str) : ∀ i, (ddN v i).length ≤ i
 | 0 => Nat.le_refl 0
 | i + 1 => by
  have ih := bQ8 v i
  rw [aG3]
  unfold ba1
  split
  ·omega
  ·rw [List.length_append, List.length_singleton]
   omega
theorem cz8 (a : List Str) (x y : Str) : (ba1 a x).any (· == y) = (a.any (· == y) || decide (y = x)) := by
 unfold ba1
 by_cases q : a.any (· == x) = true
 ·rw [if_pos q]
  by_cases e : y = x
  ·subst e; rw [q]; simp
  ·simp [e]
 ·rw [if_neg q, List.any_append]
  by_cases e : y = x
  ·subst e; simp
  ·have : (x == y) = false := by simpa [beq_iff_eq] using fun z : x = y => e z.symm
   simp [this, e]
theorem cz7 (a : List Str) (x : Str) : (ba1 a x).length = if a.any (· == x) then a.length else a.length + 1 := by
 unfold ba1
 split <;> simp
theorem cz9 (l : List Str) (d : Str) : ddN (fun i => l.getD i d) l.length = ddS l := by
 unfold ddN ddS
 congr 1
 refine List.ext_getElem? fun i => ?_
 rw [List.getElem?_map]
 by_cases hi : i < l.length
 ·rw [List.getElem?_range hi, List.getElem?_eq_getElem hi]
  simp [List.getD, List.getElem?_eq_getElem hi]
 ·rw [List.getElem?_eq_none (by simpa using hi), List.getElem?_eq_none (by simpa using hi)]
  rfl
section
variable {prog : Program} {w : World} {A : Around} {R : Result → Shared → Prop} {J : Addr} {fp wr : List Addr} {Gn : Array GenState → Array GenState → Prop} {n : Nat} {P : Nat → Value → Prop} {St : Nat → Shared → Prop}
theorem bF8 (W : WalksS prog w A.in1 J fp wr Gn n P St) (S : Addr) (hS1 : S ∉ fp) (v : Nat → Str) (hv : ∀ i u, P i u → ∃ t, u = .str (v i) t) (hb : n + 1 < scanBound) :
  ∀ (k i : Nat) (s : Shared), n - i = k → i ≤ n → St i s → s.heap.SetOf (strKind prog w) S (fun y => (ddN v i).any (· == y)) (ddN v i).length →
   (∀ s', Moved (S :: wr) Gn s s' → s'.heap.SetOf (strKind prog w) S (fun y => (ddN v n).any (· == y)) (ddN v n).length → R (.ok (.ret .none)) s') →
   codeAny (model prog w) A (.builtin "set.update.loop" ⟨[.ref S, .ref J], []⟩) R s := by
 have hS2 : S ∉ wr := fun z => hS1 (W.sub _ z)
 have more : ∀ b ∈ wr, b ∈ S :: wr := fun b z => List.mem_cons_of_mem _ z
 intro k
 induction k with
 | zero =>
  intro i s e1 e2 q1 q2 q3
  obtain rfl : i = n := by omega
  refine codeAny_builtin PyProof.Rows.F.entry_set_update_loop ?_
  rw [Around.under_plainId PyProof.Rows.F.plain_set_update_loop _]
  show wpAny _ _ (pyNext (.ref J) >>= _) _ _ _
  refine wpAny_bind (W.done s _ _ q1 fun s' mv => ?_)
  show wpAny _ _ (ret Value.none) _ _ _
  refine wpAny_pure (q3 s' (mv.mono more) ?_)
  obtain ⟨o, es, ep, tb, ho, more'⟩ := q2
  exact ⟨o, es, ep, tb, mv.heap S _ hS2 ho, more'⟩
 | succ k ih =>
  intro i s e1 e2 q1 q2 q3
  have lt : i < n := by omega
  refine codeAny_builtin PyProof.Rows.F.entry_set_update_loop ?_
  rw [Around.under_plainId PyProof.Rows.F.plain_set_update_loop _]
  show wpAny _ _ (pyNext (.ref J) >>= _) _ _ _
  refine wpAny_bind (W.item i s _ _ lt q1 fun u s' hP q1' mv => ?_)
  obtain ⟨t, rfl⟩ := hv i u hP
  have q2' : s'.heap.SetOf (strKind prog w) S (fun y => (ddN v i).any (· == y)) (ddN v i).length := by
   obtain ⟨o, es, ep, tb, ho, more'⟩ := q2
   exact ⟨o, es, ep, tb, mv.heap S _ hS2 ho, more'⟩
  show wpAny _ _ (holding [Value.str (v i) t] (setAdd S (.str (v i) t)) >>= _) _ _ _
  refine wpAny_bind (wpAny_holding ?_)
  unfold setAdd
  refine wpAny_holding (wpAny_bind ((strKind prog w).pyHash (k := v i) (strKind_is _ _ _ _) ?_))
  have room : (ddN v i).length + 1 < scanBound := by have := bQ8 v i; omega
  refine wpAny_setAddHashed_of (knd := strKind prog w) (s := { s' with toks := s'.toks + 1 }) (strKind_is _ _ _ _) rfl q2' room fun h' sb q4 => ?_
  have q5 : h'.SetOf (strKind prog w) S (fun y => (ddN v (i + 1)).any (· == y)) (ddN v (i + 1)).length := SetOf_congr q4 (fun y => by rw [aG3, cz8]) (by rw [aG3, cz7])
  refine wpAny_pure ⟨plainId_quiet PyProof.Rows.F.plain_set_update_loop _, ih (i + 1) _ (by omega) lt (W.frame _ s' _ _ q1' (Nat.le_succ _) fun b z o e => ?_) q5 fun s2 mv2 q6 => ?_⟩
  ·rw [sb.2 b (fun y : b = S => hS1 (by rw [← y]; exact z))]; exact e
  ·refine q3 s2 (Moved.trans W.gtrans ((mv.mono more).then_heap (Nat.le_succ _) fun b o z e => ?_) mv2) q6
   rw [sb.2 b (fun y : b = S => z (by rw [y]; exact List.mem_cons_self))]; exact e
end
section
variable {prog : Program} {w : World} {A : Around} {E : Value → Shared → Prop} {s : Shared}
abbrev W2 (b : Bool) : Obj := { cls := .type "set", dict := none, data := .set #[] 0 (.fresh 0 0 b) }
theorem aV8 {l : Addr} {its : Array Value} {xs : List Str} {Q : Value → Shared → Prop} (hh : A.handled = none) (hl : s.heap.IsList l its) (hi : ∀ (i : Nat) (u : Value), its[i]? = some u → ∃ t, u = .str (xs.getD i "") t) (hb : its.size + 1 < scanBound)
  (h : ∀ (h' : Heap) (tk : Nat), h'.SetOf (strKind prog w) s.heap.objs.size (fun y => (ddN (fun i => xs.getD i "") its.size).any (· == y)) (ddN (fun i => xs.getD i "") its.size).length →
   (∀ b o, b < s.heap.objs.size → s.heap.get? b = some o → h'.get? b = some o) → Q (.ref s.heap.objs.size) { s with heap := h', toks := tk }) :
  wpAny (model prog w) A (call (.type "set") [.ref l]) Q E s := by
 obtain ⟨c, tl, hmro⟩ := F.called_set.mro
 have hmade := F.called_set.made
 have hsub := F.called_set.sub
 refine wpAny_call (codeAny_of_tree ?_)
 show wpAny _ _ (callAny (.type "set") _) _ _ _
 refine wpAny_pure ⟨Code.quiet_builtin _ (by decide +kernel), codeAny_builtin F.entry_type_call ?_⟩
 rw [Around.under_plain (weight_type_call_type "set" [.ref l] []) rfl]
 have n1 := F.called_set.notType
 have n2 := F.called_set.canCreate
 have n3 := F.typeCall_set_1 (.ref l)
 repeat (any_goals (first | assumption | wp_step))
 refine codeAny_mono (code_set_new_1 (.ref l) (E := E) (Q₁ := fun ob s1 => ∃ b : Bool, ob = .ref s.heap.objs.size ∧ s1 = { s with heap := s.heap.push (W2 b) }) fun b => ⟨b, rfl, rfl⟩) fun r s1 hr => ?_
 cases r with
 | error e => exact hr
 | ok fl =>
  cases fl with
  | ret ob =>
   obtain ⟨b, rfl, rfl⟩ := hr
   have g0 : (s.heap.push (W2 b)).get? s.heap.objs.size = some (W2 b) := Heap.get?_push_size _ rfl
   have hT : Shared.TypeIs { s with heap := s.heap.push (W2 b) } (.ref s.heap.objs.size) "set" := ⟨_, g0, rfl⟩
   have li := F.called_set.init.lookup
   have bi := F.called_set.init.bind (.ref s.heap.objs.size)
   repeat (any_goals (first | assumption | wp_step))
   refine codeAny_mono (codeAny_call_builtin (R := wants (fun r s2 => r = .none ∧ ∃ h' tk, s2 = { s with heap := h', toks := tk } ∧ h'.SetOf (strKind prog w) s.heap.objs.size (fun y => (ddN (fun i => xs.getD i "") its.size).any (· == y)) (ddN (fun i => xs.getD i "") its.size).length ∧
     (∀ b o, b < s.heap.objs.size → s.heap.get? b = some o → h'.get? b = some o)) E) F.called_set.init.plain F.entry_set_init (check_set_init_1 hT ?_)) fun r2 s2 hr2 => ?_
   ·obtain ⟨⟨c0, d0, dt0, sl0⟩, hol, hcl, nl, hdl⟩ := hl
    simp only at hcl hdl
    subst hcl hdl
    have hol' : (s.heap.push (W2 b)).get? l = some { cls := .type "list", dict := d0, data := .seq its nl, slots := sl0 } := Heap.get?_push_of_some _ hol
    have f1 := F.sub_list_set
    have f2 := F.sub_list_frozenset
    have f3 : (Value.type "list" == Value.type "dict") = false := by decide
    have hl1 : (s.heap.push (W2 b)).IsList l its := ⟨_, hol', rfl, nl, rfl⟩
    unfold Builtin.«set.__init__» noKeywords Builtin.Frozenset.updateFrom
    generalize hPI : pyIter = PI
    wp_walk
    subst hPI
    refine wpAny_pyIter_list hl1 (wpAny_bind (wpAny_runValue ?_))
    have lS : l < s.heap.objs.size := Heap.lt_size hol
    have h3 : A.in1.in1.in1.handled = none := by simp [hh]
    have nI : l ≠ (s.heap.push (W2 b)).objs.size := by
     rw [Heap.size_push]
     exact Nat.ne_of_lt (Nat.lt_succ_of_lt lS)
    have nf : s.heap.objs.size ∉ [(s.heap.push (W2 b)).objs.size, l] := by
     rw [Heap.size_push]
     simp only [List.mem_cons, List.mem_singleton, List.not_mem_nil, or_false, not_or]
     exact ⟨Nat.ne_of_lt (Nat.lt_succ_self _), Nat.ne_of_gt lS⟩
    refine bF8 ((Walks.list h3 _ l nI its).toS) s.heap.objs.size nf (fun i => xs.getD i "") hi hb (its.size - 0) 0 _ (by omega) (Nat.zero_le _) ⟨⟨_, Heap.get?_push_size _ rfl, rfl, rfl⟩, (hl1.push _)⟩ ?hS0 ?hR
    case hS0 =>
     have gt : ((s.heap.push (W2 b)).push { cls := .type "list_iterator", data := .fields #[.ref l, .int 0 0] }).get? s.heap.objs.size = some (W2 b) := Heap.get?_push_of_some _ g0
     exact SetOf_congr ((setObjOf_fresh (knd := strKind prog w) b).setOf gt (by unfold scanBound; omega)) (fun _ => rfl) rfl
    case hR =>
     intro s' mv q
     obtain ⟨h', g', d', tk', os'⟩ := s'
     have eg : g' = s.gens := mv.gens
     have ed : d' = s.drawn := mv.drawn
     have eo : os' = s.os := mv.os
     subst eg ed eo
     show wpAny _ _ _ _ _ _
     refine wpAny_pure ?_
     show wpAny _ _ (ret Value.none) _ _ _
     refine wpAny_pure ⟨rfl, h', tk', rfl, q, fun c o hc e => ?_⟩
     have c1 : c ≠ s.heap.objs.size := Nat.ne_of_lt hc
     have c2 : c ≠ (s.heap.push (W2 b)).objs.size := by
      rw [Heap.size_push]
      exact Nat.ne_of_lt (Nat.lt_succ_of_lt hc)
     exact mv.heap c o (by simp only [List.mem_cons, List.mem_singleton, List.not_mem_nil, or_false, not_or]; exact ⟨c1, c2⟩) (Heap.get?_push_of_some _ (Heap.get?_push_of_some _ e))
   ·cases r2 with
    | error e => exact hr2
    | ok fl2 =>
     cases fl2 with
     | ret r =>
      obtain ⟨rfl, h', tk, rfl, q1, q2⟩ := hr2
      repeat (any_goals (first | assumption | wp_step))
      exact h _ _ q1 q2
     | _ => exact hr2.elim
  | _ => exact hr.elim
end
end G
namespace G
open PySem PySem.Spec PyProof.Rows L2
section
variable {X : Cx}
def SetO (X : Cx) (a : Addr) (n : Nat) : HO := .ext fun h => ∃ S, h.SetOf (strKind X.prog X.w) a S n
theorem cA5 : bootBuiltins "set" = some (.type "set") := by decide +kernel
theorem aV3 : ∀ {ys : List Str} {us : List Value}, L7 (ys.map V.str) us → ∀ (i : Nat) (u : Value), us[i]? = some u → ∃ t, u = .str (ys.getD i "") t
 | [], [], _, i, u, h => by simp at h
 | y :: ys, u :: us, h, i, v, e => by
  cases h with
  | cons a b =>
   cases i with
   | zero =>
    simp only [xg0, Option.some.injEq] at e
    subst e
    obtain ⟨t, e⟩ := a
    exact ⟨t, e⟩
   | succ i =>
    simp only [xg1] at e
    obtain ⟨t, e'⟩ := aV3 b i v e
    exact ⟨t, e'⟩
theorem bA4 (hc : X.calm = true) : Z7 X (.type "set") (fun xs H Q => ∃ p ys, xs = [.ref p] ∧ SqL X.K H p (ys.map V.str) ∧ ys.length ≤ 4000 ∧ ∀ l, H l = none → Q (.ref l) (upd H l (SetO X l (ddS ys).length))) := by
 intro pins s σ H xs us Q I r h
 obtain ⟨p, ys, rfl, hq, hz, q⟩ := h
 obtain ⟨u, rfl, rx⟩ := x5 r
 cases rx
 obtain ⟨its, rv, pl, _⟩ := I.list hq
 have hl : its.length = ys.length := by have := rv.length; rw [List.length_map] at this; exact this.symm
 have hs : its.toArray.size = ys.length := by rw [List.size_toArray]; exact hl
 refine aV8 (xs := ys) (I.ok.hd hc) pl.isList (fun i u e => aV3 rv i u (by rw [List.getElem?_toArray] at e; exact e)) (by rw [hs]; unfold scanBound; omega) fun h' tk q1 q2 => ?_
 rw [hs, cz9] at q1
 refine ⟨.ref _, _, I.laid (a := s.heap.objs.size) (o := SetO X s.heap.objs.size (ddS ys).length) (h' := h') (t' := tk) (fun b o e => q2 b o (Heap.lt_size e) e) (Nat.le_refl _) ⟨⟨_, q1⟩, ?_, ?_⟩, rfl, q _ I.fresh⟩
 ·obtain ⟨o, es, ep, t, ho, _⟩ := q1
  exact ⟨o, ho⟩
 ·intro h1 h2 ⟨S, o, es, ep, t, ho, W0⟩ k
  exact ⟨S, o, es, ep, t, k o ho, W0⟩
theorem bA9 : Z7 X (.builtin "len") (fun xs H Q => ∃ p n, xs = [.ref p] ∧ H p = some (SetO X p n) ∧ Q (.int n) H) := by
 intro pins s σ H xs us Q I r h
 obtain ⟨p, n, rfl, hp, q⟩ := h
 obtain ⟨u, rfl, rx⟩ := x5 r
 cases rx
 obtain ⟨⟨S, o, es, ep, t, ho, hex, hd, _, _, hb, hf, hn⟩, _, _⟩ := I.hok p _ hp
 have : es.size < 4096 := hb
 exact call_len_set ho hex hd hf (by omega) ⟨.int n, H, I.tok _, ⟨_, by rw [hn]⟩, q⟩
def bq4 (f : Rho → Option (Bool × List D)) : DE := fun ρ => (f ρ).bind fun q => if q.1 = true then none else (bm2 q.2).bind fun ys => if ys.length ≤ 4000 then some (.int (ddS ys).length) else none
theorem bx6 {e : Expr} {f : Rho → Option (Bool × List D)} {p p2 pos pos2 : Pos} (hg : Gl X "len") (hm : X.mg "len" = none) (hg2 : Gl X "set") (hm2 : X.mg "set" = none) (h : JQ X e f) (hc : X.calm = true) (he : starEach [e] X.env = [(false, eval e X.env)]) :
  JE X (.Call (.Name "len" p) [.Call (.Name "set" p2) [e] [] pos2] [] pos) (bq4 f) := fun ρ d q => by
 obtain ⟨⟨t, ds⟩, h1, q⟩ := Option.bind_eq_some_iff.mp q
 split at q
 ·cases q
 ·rename_i ht
  have ht : t = false := by simpa using ht
  subst ht
  obtain ⟨ys, h2, q⟩ := Option.bind_eq_some_iff.mp q
  split at q
  ·rename_i hz
   cases q
   refine G1 (U0 bA9 hg hm bj9 (K4 (j4 (bA4 hc) hg2 hm2 cA5 (K4 (h ρ false ds h1) N8 he) (he := he)) N8 rfl)) fun σ H Q ⟨H0, Hf, s, sl, k⟩ => ?_
   refine ⟨H0, Hf, s, sl, fun v H1 Hf1 g1 ⟨a, vs, e1, e2, e3⟩ => ⟨a, ys, by rw [e1], ?_, hz, fun l hl => ⟨l, _, rfl, G8, ?_⟩⟩⟩
   ·rw [← aw7 h2 e3]; exact e2
   ·exact k _ _ _ (g1.trans (Grow.made g1.sub hl)) rfl
  ·cases q
end
end G
namespace G
open PySem PySem.Spec PyProof.Rows L2
section
variable {X : Cx}
def cH9 (x y : Str) : Bool := !(Builtin.Str.occurrences y x 0 y.length 1).isEmpty
def inS (neg : Bool) (x y : D) : Option D := match x, y with
 | .str i, .str j => some (.bool (if neg then !cH9 i j else cH9 i j))
 | _, _ => none
theorem cs3 : OpD X (compareOp .In) (inS false) := fun x y z h => by
 cases x <;> cases y <;> first | (cases h; done) | skip
 rename_i i j
 cases h
 refine OpR.imp bt9 fun vx vy H Q ⟨Hf, s, rx, ry, k⟩ => ?_
 cases rx
 cases ry
 exact ⟨i, j, rfl, rfl, k _ H Hf (Grow.refl s) rfl⟩
theorem bu4 : OpD X (compareOp .NotIn) (inS true) := fun x y z h => by
 cases x <;> cases y <;> first | (cases h; done) | skip
 rename_i i j
 cases h
 refine OpR.imp aQ7 fun vx vy H Q ⟨Hf, s, rx, ry, k⟩ => ?_
 cases rx
 cases ry
 exact ⟨i, j, rfl, rfl, k _ H Hf (Grow.refl s) rfl⟩
def ch7 (f : DE) : DE := fun ρ => (f ρ).bind fun d => match d with
 | .str x => if x.length ≤ 16777216 then some (.int x.length) else none
 | _ => none
theorem cc2 {e : Expr} {f : DE} {p pos : Pos} (hg : Gl X "len") (hm : X.mg "len" = none) (h : JE X e f) (he : starEach [e] X.env = [(false, eval e X.env)]) : JE X (.Call (.Name "len" p) [e] [] pos) (ch7 f) := fun ρ d q => by
 obtain ⟨y, h1, h2⟩ := Option.bind_eq_some_iff.mp q
 obtain ⟨x, rfl⟩ : ∃ x, y = .str x := by
  cases y with
  | str x => exact ⟨x, rfl⟩
  | _ => cases h2
 have h2 : (if x.length ≤ 16777216 then some (PyData.int x.length) else none) = some d := h2
 split at h2
 ·rename_i hz
  cases h2
  refine G1 (U0 aT8 hg hm bj9 (K4 (h ρ _ h1) N8 he) (he := he)) fun σ H Q ⟨H0, Hf, s, sl, k⟩ => ?_
  refine ⟨H0, Hf, s, sl, fun v H1 Hf1 g1 r => ⟨x, ?_, by rw [sizeLine_eq]; exact hz, k _ H1 Hf1 g1 rfl⟩⟩
  cases r; rfl
 ·cases h2
def Its (x : Str) : It := ⟨fun i _ => i < x.cps.size, fun i H v H' => H' = H ∧ ∃ c, x.cps[i]? = some c ∧ v = .str ⟨#[c]⟩, fun i _ => x.cps.size ≤ i⟩
theorem bE6 {P : Program} {w : World} {K : PySem.W.Frag} {tg : Expr} (x : Str) (t : Tok) (it : Addr) : Turn P w K tg (Its x) [it] it (fun i h => h.IsStrIter it "str_ascii_iterator" x t i) where
 mem := by simp
 obj := fun i h st b hb => by
  have e : b = it := by simpa using hb
  subst e
  obtain ⟨o, e, c, d⟩ := st
  exact ⟨o, e, fun v z => by rw [d] at z; cases z⟩
 keep := fun i h h' st k => by
  obtain ⟨o, e, r⟩ := st
  exact ⟨o, k it (by simp) o e, r⟩
 item := by
  intro X hP hw hK hc i pins s σ H E I hf st hg
  subst hP hw hK
  obtain ⟨f0, f1, f2, f3, f4, f5⟩ := hf it (by simp)
  have hi : i < x.cps.size := hg
  refine wpAny_pyNext_ascii_item st (c := x.cps[i]) (by simp [hi]) fun h' st' sb => ?_
  have I1 : Inv X pins σ H { s with heap := h', toks := s.toks + 1 } := I.turned (t' := s.toks + 1) (fun b o hb e => (sb.2 b hb).trans e) f0 f1 f3 f4 f5
  obtain ⟨o, e, c, d⟩ := id st'
  exact ⟨_, rfl, bp8 (s := { s with heap := h', toks := s.toks + 1 }) e c d (by decide) ⟨.str ⟨#[x.cps[i]]⟩, H, I1, ⟨_, rfl⟩, ⟨rfl, _, by simp [hi], rfl⟩, st', fun b hb => (hf b hb).1⟩⟩
 done := by
  intro X hP hw hK hc i pins s σ H E I hf st hg
  subst hP hw hK
  obtain ⟨f0, f1, f2, f3, f4, f5⟩ := hf it (by simp)
  have hi : x.cps.size ≤ i := hg
  exact wpAny_pyNext_ascii_end (I.ok.hd hc) st (by simp [hi]) fun h' eb => ⟨rfl, I.turned (t' := s.toks) (fun b o hb e => eb b o hb e) f0 f1 f3 f4 f5⟩
 self := fun _ _ _ _ _ st h => wpAny_pyIter_striter_ascii st h
def bm5 (x : Str) : List D := x.cps.toList.map fun c => .str ⟨#[c]⟩
def cH5 (f : DE) : Rho → Option (List D) := fun ρ => (f ρ).bind fun d => match d with
 | .str x => if x.cps.all (· < 128) = true then some (bm5 x) else none
 | _ => none
theorem cw4 {tg e : Expr} {f : DE} (h : JE X e f) : JI X tg e (cH5 f) := fun ρ ds q => by
 obtain ⟨d, e1, e2⟩ := Option.bind_eq_some_iff.mp q
 obtain ⟨x, rfl⟩ : ∃ x, d = .str x := by
  cases d with
  | str x => exact ⟨x, rfl⟩
  | _ => cases e2
 have e2 : (if x.cps.all (· < 128) = true then some (bm5 x) else none) = some ds := e2
 split at e2
 ·rename_i ha
  cases e2
  intro pins s σ H R I ⟨H0, Hf, ss, sl, k⟩
  refine thn (h ρ _ e1 pins s σ H (fun v H' => ∃ Hf', Grow H Hf H' Hf' ∧ v = .str x) I ⟨H0, Hf, ss, sl, fun v H' Hf' g r => ⟨Hf', g, r⟩⟩) fun v s1 ⟨y, H1, I1, r1, Hf1, g1, ey⟩ => ?_
  subst ey
  obtain ⟨t, rfl⟩ := r1
  refine wpAny_pyIter_ascii ha ?_
  have I2 : Inv X pins σ H1 { s1 with heap := s1.heap.push { cls := .type "str_ascii_iterator", data := .fields #[.str x t, .int 0 0] } } := I1.kept (t' := s1.toks) fun b u e => Heap.get?_push_of_some _ e
  refine ⟨_, _, _, Its x, H1, rfl, I2, bE6 x t s1.heap.objs.size, ⟨_, Heap.get?_push_size _ rfl, rfl, rfl⟩, fun b hb => ?_, k _ H1 Hf1 g1 fun i H' Hf' sa sb => ⟨fun hi => ?_, fun d hd => ?_⟩⟩
  ·have hb' : s1.heap.objs.size ≤ b := by rw [List.mem_singleton] at hb; rw [hb]; exact Nat.le_refl _
   exact I1.fpOk hb' (I1.hok.fresh hb')
  ·show x.cps.size ≤ i
   simpa [bm5] using hi
  ·unfold bm5 at hd
   rw [List.getElem?_map] at hd
   obtain ⟨c, c1, c2⟩ := Option.map_eq_some_iff.mp hd
   have c1' : x.cps[i]? = some c := by rw [← Array.getElem?_toList]; exact c1
   refine ⟨(Array.getElem?_eq_some_iff.mp c1').1, fun v H'' ⟨h1, c', h2, h3⟩ => ?_⟩
   subst h1 h3 c2
   rw [c1'] at h2
   cases h2
   exact ⟨Hf', Grow.refl sb, rfl⟩
 ·cases e2
end
end G
namespace G
open PySem PySem.Spec PyProof PyProof.Rows L2
section
variable {X : Cx}
def mnF (m x : Int) : Int := if x < m then x else m
def mxF (m x : Int) : Int := if x > m then x else m
def mnL : List Int → Int
 | [] => 0
 | a :: r => r.foldl mnF a
def mxL : List Int → Int
 | [] => 0
 | a :: r => r.foldl mxF a
theorem bo3 : ∀ (l : List Int) (z : Int), (l.foldl mnF z = z ∨ l.foldl mnF z ∈ l) ∧ l.foldl mnF z ≤ z ∧ ∀ a ∈ l, l.foldl mnF z ≤ a
 | [], z => ⟨.inl rfl, Int.le_refl _, fun a h => by simp at h⟩
 | x :: l, z => by
  obtain ⟨h1, h2, h3⟩ := bo3 l (mnF z x)
  rw [List.foldl_cons]
  have k : (mnF z x = z ∨ mnF z x = x) ∧ mnF z x ≤ z ∧ mnF z x ≤ x := by unfold mnF; split <;> omega
  refine ⟨?_, by omega, fun a ha => ?_⟩
  ·rcases h1 with h | h
   ·rcases k.1 with q | q
    ·left; rw [h, q]
    ·right; rw [h, q]; exact List.mem_cons_self ..
   ·right; exact List.mem_cons_of_mem _ h
  ·rcases List.mem_cons.mp ha with rfl | ha
   ·omega
   ·exact h3 a ha
theorem bo0 : ∀ (l : List Int) (z : Int), (l.foldl mxF z = z ∨ l.foldl mxF z ∈ l) ∧ z ≤ l.foldl mxF z ∧ ∀ a ∈ l, a ≤ l.foldl mxF z
 | [], z => ⟨.inl rfl, Int.le_refl _, fun a h => by simp at h⟩
 | x :: l, z => by
  obtain ⟨h1, h2, h3⟩ := bo0 l (mxF z x)
  rw [List.foldl_cons]
  have k : (mxF z x = z ∨ mxF z x = x) ∧ z ≤ mxF z x ∧ x ≤ mxF z x := by unfold mxF; split <;> omega
  refine ⟨?_, by omega, fun a ha => ?_⟩
  ·rcases h1 with h | h
   ·rcases k.1 with q | q
    ·left; rw [h, q]
    ·right; rw [h, q]; exact List.mem_cons_self ..
   ·right; exact List.mem_cons_of_mem _ h
  ·rcases List.mem_cons.mp ha with rfl | ha
   ·omega
   ·exact h3 a ha
theorem aF5 {l : List Int} (h : l ≠ []) : mnL l ∈ l ∧ ∀ a ∈ l, mnL l ≤ a := by
 cases l with
 | nil => exact absurd rfl h
 | cons x l =>
  obtain ⟨h1, h2, h3⟩ := bo3 l x
  refine ⟨?_, fun a ha => ?_⟩
  ·rcases h1 with h | h
   ·show l.foldl mnF x ∈ _; rw [h]; exact List.mem_cons_self ..
   ·exact List.mem_cons_of_mem _ h
  ·rcases List.mem_cons.mp ha with rfl | ha
   ·exact h2
   ·exact h3 a ha
theorem aF3 {l : List Int} (h : l ≠ []) : mxL l ∈ l ∧ ∀ a ∈ l, a ≤ mxL l := by
 cases l with
 | nil => exact absurd rfl h
 | cons x l =>
  obtain ⟨h1, h2, h3⟩ := bo0 l x
  refine ⟨?_, fun a ha => ?_⟩
  ·rcases h1 with h | h
   ·show l.foldl mxF x ∈ _; rw [h]; exact List.mem_cons_self ..
   ·exact List.mem_cons_of_mem _ h
  ·rcases List.mem_cons.mp ha with rfl | ha
   ·exact h2
   ·exact h3 a ha
def aM4 : List D → Option (List Int)
 | [] => some []
 | .int i :: r => (aM4 r).map fun ys => i :: ys
 | _ :: _ => none
theorem aw8 {K : PySem.W.Frag} {H : Hp} : ∀ {ds : List D} {ys : List Int} {vs : List V}, aM4 ds = some ys → Reps K H ds vs → vs = ys.map V.int
 | [], ys, vs, h, r => by cases h; exact r
 | .int x :: ds, ys, vs, h, r => by
  obtain ⟨zs, h1, h2⟩ := Option.map_eq_some_iff.mp h
  subst h2
  obtain ⟨v, t, e1, e2, e3⟩ := r
  subst e1
  rw [show v = _ from e2, aw8 h1 e3]; rfl
theorem j0 : ∀ {ys : List Int} {us : List Value}, L7 (ys.map V.int) us → ∃ xs : List (Int × Tok), us = xs.map (fun p => .int p.1 p.2) ∧ xs.map (·.1) = ys
 | [], [], _ => ⟨[], rfl, rfl⟩
 | y :: ys, u :: us, h => by
  cases h with
  | cons a b =>
   obtain ⟨xs, e1, e2⟩ := j0 b
   obtain ⟨t, rfl⟩ := a
   exact ⟨(y, t) :: xs, by rw [e1]; rfl, by rw [xmc, e2]⟩
theorem bA5 (hc : X.calm = true) : Z7 X (.builtin "min") (fun xs H Q => ∃ p ns, xs = [.ref p] ∧ SqL X.K H p (ns.map V.int) ∧ ns ≠ [] ∧ Q (.int (mnL ns)) H) := by
 intro pins s σ H xs us Q I r h
 obtain ⟨p, ns, rfl, hq, hz, q⟩ := h
 obtain ⟨u, rfl, rx⟩ := x5 r
 cases rx
 obtain ⟨its, rv, pl, _⟩ := I.list hq
 obtain ⟨zs, e1, e2⟩ := j0 rv
 have hl : s.heap.IsList p (intItems zs.toArray) := by
  have := pl.isList
  rw [e1] at this
  simpa [intItems] using this
 have hzs : zs.toArray.toList.map (·.1) = ns := by simpa using e2
 have hn : 0 < zs.toArray.size := by
  cases zs with
  | nil => exact absurd e2.symm hz
  | cons => simp
 refine min_intList (I.ok.hd hc) hl hn fun v h' tk hv hk => ?_
 obtain ⟨t, rfl⟩ := intItems_at hv
 obtain ⟨b1, b2⟩ := argBest_lt (numAt zs.toArray) (zs.toArray.size - 1)
 have key : numAt zs.toArray (argBest (fun i j => decide (numAt zs.toArray i < numAt zs.toArray j)) (zs.toArray.size - 1)) = mnL ns := by
  obtain ⟨m1, m2⟩ := aF5 hz
  have g : ∀ j, j < zs.toArray.size → numAt zs.toArray j ∈ ns := fun j hj => by
   rw [numAt_eq, hzs]; exact getD_mem (by rw [← hzs, List.length_map, Array.length_toList]; omega)
  refine Int.le_antisymm ?_ (m2 _ (g _ (by omega)))
  rw [← hzs] at m1
  obtain ⟨j, hj, e⟩ := mem_getD m1
  rw [List.length_map, Array.length_toList] at hj
  have := b2 j (by omega)
  rw [numAt_eq zs.toArray j, e, hzs] at this
  exact this
 rw [key]
 exact ⟨.int _, H, I.kept (t' := tk) hk, ⟨_, rfl⟩, q⟩
theorem bA7 (hc : X.calm = true) : Z7 X (.builtin "max") (fun xs H Q => ∃ p ns, xs = [.ref p] ∧ SqL X.K H p (ns.map V.int) ∧ ns ≠ [] ∧ Q (.int (mxL ns)) H) := by
 intro pins s σ H xs us Q I r h
 obtain ⟨p, ns, rfl, hq, hz, q⟩ := h
 obtain ⟨u, rfl, rx⟩ := x5 r
 cases rx
 obtain ⟨its, rv, pl, _⟩ := I.list hq
 obtain ⟨zs, e1, e2⟩ := j0 rv
 have hl : s.heap.IsList p (intItems zs.toArray) := by
  have := pl.isList
  rw [e1] at this
  simpa [intItems] using this
 have hzs : zs.toArray.toList.map (·.1) = ns := by simpa using e2
 have hn : 0 < zs.toArray.size := by
  cases zs with
  | nil => exact absurd e2.symm hz
  | cons => simp
 refine max_intList (I.ok.hd hc) hl hn fun v h' tk hv hk => ?_
 obtain ⟨t, rfl⟩ := intItems_at hv
 obtain ⟨b1, b2⟩ := argBest_gt (numAt zs.toArray) (zs.toArray.size - 1)
 have key : numAt zs.toArray (argBest (fun i j => decide (numAt zs.toArray i > numAt zs.toArray j)) (zs.toArray.size - 1)) = mxL ns := by
  obtain ⟨m1, m2⟩ := aF3 hz
  have g : ∀ j, j < zs.toArray.size → numAt zs.toArray j ∈ ns := fun j hj => by
   rw [numAt_eq, hzs]; exact getD_mem (by rw [← hzs, List.length_map, Array.length_toList]; omega)
  refine Int.le_antisymm (m2 _ (g _ (by omega))) ?_
  rw [← hzs] at m1
  obtain ⟨j, hj, e⟩ := mem_getD m1
  rw [List.length_map, Array.length_toList] at hj
  have := b2 j (by omega)
  rw [numAt_eq zs.toArray j, e, hzs] at this
  exact this
 rw [key]
 exact ⟨.int _, H, I.kept (t' := tk) hk, ⟨_, rfl⟩, q⟩
def ba2 (f : Rho → Option (Bool × List D)) : DE := fun ρ => (f ρ).bind fun q => if q.1 = true then none else (aM4 q.2).bind fun ns => if ns = [] then none else some (.int (mnL ns))
def ba3 (f : Rho → Option (Bool × List D)) : DE := fun ρ => (f ρ).bind fun q => if q.1 = true then none else (aM4 q.2).bind fun ns => if ns = [] then none else some (.int (mxL ns))
theorem cb8 {e : Expr} {f : Rho → Option (Bool × List D)} {p pos : Pos} (hg : Gl X "min") (hm : X.mg "min" = none) (h : JQ X e f) (hc : X.calm = true) (he : starEach [e] X.env = [(false, eval e X.env)]) : JE X (.Call (.Name "min" p) [e] [] pos) (ba2 f) := fun ρ d q => by
 obtain ⟨⟨t, ds⟩, h1, q⟩ := Option.bind_eq_some_iff.mp q
 split at q
 ·cases q
 ·rename_i ht
  have ht : t = false := by simpa using ht
  subst ht
  obtain ⟨ys, h2, q⟩ := Option.bind_eq_some_iff.mp q
  split at q
  ·cases q
  ·rename_i hz
   cases q
   refine G1 (U0 (bA5 hc) hg hm bS1 (K4 (h ρ false ds h1) N8 he) (he := he)) fun σ H Q ⟨H0, Hf, s, sl, k⟩ => ?_
   refine ⟨H0, Hf, s, sl, fun v H1 Hf1 g1 ⟨a, vs, e1, e2, e3⟩ => ⟨a, ys, by rw [e1], ?_, hz, ?_⟩⟩
   ·rw [← aw8 h2 e3]; exact e2
   ·exact k _ _ _ g1 rfl
theorem cc0 {e : Expr} {f : Rho → Option (Bool × List D)} {p pos : Pos} (hg : Gl X "max") (hm : X.mg "max" = none) (h : JQ X e f) (hc : X.calm = true) (he : starEach [e] X.env = [(false, eval e X.env)]) : JE X (.Call (.Name "max" p) [e] [] pos) (ba3 f) := fun ρ d q => by
 obtain ⟨⟨t, ds⟩, h1, q⟩ := Option.bind_eq_some_iff.mp q
 split at q
 ·cases q
 ·rename_i ht
  have ht : t = false := by simpa using ht
  subst ht
  obtain ⟨ys, h2, q⟩ := Option.bind_eq_some_iff.mp q
  split at q
  ·cases q
  ·rename_i hz
   cases q
   refine G1 (U0 (bA7 hc) hg hm bS2 (K4 (h ρ false ds h1) N8 he) (he := he)) fun σ H Q ⟨H0, Hf, s, sl, k⟩ => ?_
   refine ⟨H0, Hf, s, sl, fun v H1 Hf1 g1 ⟨a, vs, e1, e2, e3⟩ => ⟨a, ys, by rw [e1], ?_, hz, ?_⟩⟩
   ·rw [← aw8 h2 e3]; exact e2
   ·exact k _ _ _ g1 rfl
end
end G
namespace G
open PySem PySem.Spec PyProof.Rows L2
abbrev FnD := List D → Option D
structure Sg where
 fn : List (Str × FnD × Nat)
 cs : List (Str × D)
 bl : List Str
structure Kx where
 N : List Str
 sc : Scope
 df : Bool
 own : List Nat
 cpt : List Nat
 tx : List Nat
 old : Bool
 fz : List (Nat × List Nat)
 hc : List ((Nat × Nat) × List Nat)
def cM8 (X : Cx) (x : Str) (F : FnD) (n : Nat) : Prop := ∃ (k : Nat) (f : Addr) (fd : FuncData) (ps : List Str), FnOk X.prog X.w X.K X.mg X.base CX0 k f fd ps (spF X.K n F) ∧ Room k X.A ∧ X.mg x = some (.ref f) ∧ PySem.W.keepIn X.K (.ref f) = true ∧ c7 X.K fd ps []
structure Fit (S : Sg) (c : Kx) (X : Cx) : Prop where
 N : X.N = c.N
 sc : X.env.scope = c.sc
 nd : c.N.Nodup
 calm : X.calm = true
 xe : X.xe = fun _ _ => False
 units : X.A.units + 64 < cLine
 df : c.df = true → (∀ x, X.fn x = true) ∧ c.sc.kind = .function
 fns : ∀ x F n, S.fn.lookup x = some (F, n) → cM8 X x F n
 css : ∀ x d, S.cs.lookup x = some d → ∃ u, bl3 X.K d u ∧ X.mg x = some u
 bls : ∀ x, S.bl.contains x = true → X.mg x = none
def pl : Expr → Bool
 | .Starred .. => false
 | .Slice .. => false
 | .Set .. => false
 | _ => true
def bJ7 : Expr → Bool
 | .Call .. => false
 | _ => true
def isC : Expr → Bool
 | .ListComp .. => true
 | .SetComp .. => true
 | .DictComp .. => true
 | _ => false
def plT : Expr → Bool
 | .UnaryOp .. => false
 | .BoolOp .. => false
 | .IfExp .. => false
 | .Compare .. => false
 | _ => true
def ao7 (x : Str) : List Str → Option Nat
 | [] => none
 | y :: r => if y == x then some 0 else (ao7 x r).map (· + 1)
theorem aY6 {x : Str} : ∀ {l : List Str} {i : Nat}, ao7 x l = some i → l[i]? = some x
 | [], i, h => by cases h
 | y :: r, i, h => by
  unfold ao7 at h
  split at h
  ·rename_i e
   cases h
   simp only [beq_iff_eq] at e
   subst e; rfl
  ·obtain ⟨j, h1, h2⟩ := Option.map_eq_some_iff.mp h
   subst h2
   simpa using aY6 h1
def ax3 : List Str → Bool
 | [] => true
 | x :: r => !(r.contains x) && ax3 r
theorem ax2 : ∀ {l : List Str}, ax3 l = true → l.Nodup
 | [], _ => List.nodup_nil
 | x :: r, h => by
  unfold ax3 at h
  simp only [Bool.and_eq_true, Bool.not_eq_true'] at h
  refine List.nodup_cons.mpr ⟨fun z => ?_, ax2 h.2⟩
  have := h.1
  rw [List.contains_iff_mem.mpr z] at this
  cases this
def bs2 (sc : Scope) (x : Str) : Bool := (match sc.names.lookup x with | some .local => true | some .cell => true | some .free => true | _ => false) && !(x == ("__debug__" : Str)) && !(x == ("__classdict__" : Str))
def bK6 (c : Kx) (x : Str) : Bool := (match c.sc.names.lookup x with | some .local => true | some .cell => c.df | _ => false)
def bO2 (sc : Scope) (x : Str) : Bool := (match sc.names.lookup x with | some .globalImplicit => true | _ => false) && !(x == ("__debug__" : Str))
def biB (S : Sg) (c : Kx) (w x : Str) : Bool := x == w && S.bl.contains w && bO2 c.sc w
section
variable {X : Cx} {S : Sg} {c : Kx}
theorem aA4 {x : Str} (F : Fit S c X) (h : bs2 c.sc x = true) : Vis X.env.scope x ∧ (x == ("__debug__" : Str)) = false ∧ (x == ("__classdict__" : Str)) = false := by
 unfold bs2 at h
 simp only [Bool.and_eq_true, Bool.not_eq_true'] at h
 obtain ⟨⟨h1, h2⟩, h3⟩ := h
 refine ⟨?_, h2, h3⟩
 rw [F.sc]
 unfold Vis
 split at h1
 ·rename_i e; exact .inl e
 ·rename_i e; exact .inr (.inl e)
 ·rename_i e; exact .inr (.inr e)
 ·cases h1
theorem bo6 {x : Str} (F : Fit S c X) (h : bK6 c x = true) : L2.Loc X.env.scope x ∧ (X.fn x = true ∨ X.env.scope.names.lookup x = some .local) := by
 unfold bK6 at h
 rw [F.sc]
 unfold L2.Loc
 split at h
 ·rename_i e; exact ⟨.inl e, .inr e⟩
 ·rename_i e; exact ⟨.inr e, .inl ((F.df h).1 x)⟩
 ·cases h
theorem aS8 {x : Str} (F : Fit S c X) (h : bO2 c.sc x = true) : Gl X x ∧ (x == ("__debug__" : Str)) = false := by
 unfold bO2 at h
 simp only [Bool.and_eq_true, Bool.not_eq_true'] at h
 refine ⟨?_, h.2⟩
 unfold Gl Env.kindOf
 rw [F.sc]
 have h1 := h.1
 split at h1
 ·rename_i e; exact e
 ·cases h1
theorem R5 {w x : Str} (F : Fit S c X) (h : biB S c w x = true) : x = w ∧ Gl X w ∧ X.mg w = none := by
 unfold biB at h
 simp only [Bool.and_eq_true, beq_iff_eq] at h
 exact ⟨h.1.1, (aS8 F h.2).1, F.bls _ h.1.2⟩
theorem M8 {e : Expr} (h : pl e = true) (es : List Expr) (env : Env) : starEach (e :: es) env = (false, eval e env) :: starEach es env := by
 cases e <;> first | rfl | cases h
theorem cf8 {e : Expr} (h : pl e = true) : aC2 e := by
 intro o i
 cases e <;> first | rfl | cases h
theorem aA8 {e : Expr} (h : pl e = true) (op : CmpOp) : behindInMarks op e = false := by
 cases e <;> first | rfl | cases h
theorem bn2 {e : Expr} (h : pl e = true) (env : Env) (x : Value) : foldedSetIterable e env x = pure x := by
 cases e <;> first | rfl | cases h
theorem aX4 {o : Expr} (h : bJ7 o = true) (attr : Str) (env : Env) (t : Sem Value) : attributeBase o attr env t = t := by
 cases o <;> first | rfl | cases h
theorem aF2 {e : Expr} (h : isC e = false) (t : Option Expr) (l : Nat) (env : Env) : swapsWith e t l env = pure false := by
 cases e <;> first | rfl | cases h
theorem bH1 {e : Expr} (h : plT e = true) (env : Env) (whole : Sem Value) : isTrue e env whole = (do let v ← whole; standAt e.pos; holding [v] (truthy v)) := by
 cases e <;> first | rfl | cases h
end
end G
namespace G
open PySem PySem.Spec PyProof.Rows L2
abbrev DA := Rho → Option (List D)
abbrev DQ := Rho → Option (Bool × List D)
abbrev DT := Rho → Option Bool
abbrev DG := D → Rho → Option Rho
def dNo : DE := fun _ => none
def aNo : DA := fun _ => none
def qNo : DQ := fun _ => none
def tNo : DT := fun _ => none
def gNo : DG := fun _ _ => none
structure Ev where
 e : Kx → Expr → DE
 q : Kx → Expr → DQ
 n : Kx → Expr → DA
 t : Kx → Expr → DT
 g : Kx → Expr → DG
 b : Kx → List Stmt → DS
def bj6 : CmpOp → D → D → Option D
 | .Lt => ltI | .LtE => leI | .Gt => gtI | .GtE => geI | .Eq => eqD | .NotEq => neD | .Is => isB | .IsNot => bg5 | .In => inD false | .NotIn => inD true
def evA (f : Expr → DE) : List Expr → DA
 | [] => A3
 | e :: es => if pl e then A0 (f e) (evA f es) else aNo
def bP1 (f : Expr → DE) (op : BoolOp) : List Expr → DE
 | [] => dNo
 | [a] => f a
 | a :: b :: r => match op with
  | .And => aa2 (f a) (bP1 f op (b :: r))
  | .Or => dOr (f a) (bP1 f op (b :: r))
def bP0 (f : Expr → DT) (op : BoolOp) : List Expr → DT
 | [] => tNo
 | [a] => f a
 | a :: b :: r => match op with
  | .And => V4 (f a) (bP0 f op (b :: r))
  | .Or => f6 (f a) (bP0 f op (b :: r))
def evO (f : Expr → DE) : Option Expr → Rho → Option (Option Int)
 | none => O1
 | some e => L3 (f e)
def cz1 (f : Expr → DG) : List Expr → List D → Rho → Option Rho
 | [] => L5
 | e :: es => B0 (f e) (cz1 f es)
def bO8 (f : Expr → DT) : List Expr → DT
 | [] => G0
 | [t] => f t
 | _ => tNo
def Z8 : Expr → List Str
 | .Name x _ => [x]
 | .Tuple es _ _ => es.filterMap fun | .Name x _ => some x | _ => none
 | _ => []
def rl (scope sc : Scope) : Scope := { scope with names := scope.names.map fun (n, k) => if (k == .free && sc.kind == .function && sc.names.lookup n == some .cell) then (n, .cell) else (n, k) }
def bN6 (n : Nat) (caps l : List Nat) : List Nat := (List.range caps.length).filterMap fun i => match caps[i]? with | some j => if l.contains j then some (n + i) else none | none => none
def cD7 (c : Kx) (j : Nat) : Str := (c.N[j]?).getD ""
def inner (c : Kx) (tn : List Str) (caps : List Nat) (scope : Scope) : Kx :=
 { N := tn ++ caps.map (cD7 c), sc := rl scope c.sc, df := false, own := bN6 tn.length caps c.own, cpt := [], tx := bN6 tn.length caps c.tx, old := c.old, fz := [], hc := c.hc }
def isList : Expr → Bool
 | .List .. => true
 | .ListComp .. => true
 | _ => false
def aq9 (c : Kx) (l : List Nat) : Expr → Bool
 | .Name x _ => (match ao7 x c.N with | some i => l.contains i | none => false)
 | _ => false
def cy7 : Expr → Bool
 | .Constant (.str _) _ _ => true
 | _ => false
def cC7 (S : Sg) (c : Kx) : Expr → Bool
 | .Constant (.str _) _ _ => true
 | .Name x _ => (match ao7 x c.N with | some _ => false | none => (match S.cs.lookup x with | some (.str _) => true | _ => false))
 | _ => false
def opW (S : Sg) (c : Kx) (op : CmpOp) (b : Expr) : D → D → Option D := if cC7 S c b then (match op with
 | .In => inS false
 | .NotIn => inS true
 | _ => bj6 op) else bj6 op
def bp6 : Expr → Bool
 | .Tuple .. => true
 | _ => false
def ci9 (x : Str) : Option String := if x == "int" then some "int" else if x == "bool" then some "bool" else if x == "str" then some "str" else if x == "tuple" then some "tuple" else if x == "list" then some "list" else none
section
variable (S : Sg) (r : Ev)
def evI (c : Kx) (tg it : Expr) : DA := match it with
 | .Call (.Name x _) [a] [] _ => if biB S c "range" x && pl a then L6 (r.e c a) else if biB S c "enumerate" x && bp6 tg && pl a then bN5 (qE (r.e c a)) else L4 (r.e c it)
 | .Call (.Name x _) [a, b] [] _ => if biB S c "range" x && pl a && pl b then ch3 (r.e c a) (r.e c b) else if biB S c "zip" x && bp6 tg && pl a && pl b then ah0 (qE (r.e c a)) (qE (r.e c b)) else L4 (r.e c it)
 | _ => if aq9 c c.tx it then cH5 (r.e c it) else L4 (r.e c it)
def evC (c : Kx) (ex : Expr) : DA := match ex with
 | .ListComp elt [⟨tgt, iter, ifs, 0⟩] scope pos =>
  let tn := Z8 tgt
  let caps := (c.hc.lookup (pos.line, pos.col)).getD []
  let c' := inner c tn caps scope
  if aC0 c.N c'.N tn.length caps c.sc scope && ax3 c'.N && pl iter then D6 tn.length caps (evI S r c tgt iter) (r.g c' tgt) (bO8 (r.t c') ifs) (r.e c' elt) else aNo
 | _ => aNo
def bd0 (c : Kx) (x : Str) (a : Expr) : DE :=
 if !(pl a) then dNo
 else if biB S c "len" x then (match a with
  | .Call (.Name y _) [e] [] _ => if biB S c "set" y && pl e then bq4 (r.q c e) else i5 (r.q c a)
  | _ => if aq9 c c.tx a then ch7 (r.e c a) else i5 (r.q c a))
 else if biB S c "tuple" x then L8 (r.q c a)
 else if biB S c "all" x then ae7 (r.q c a)
 else if biB S c "int" x then X8 (r.e c a)
 else if biB S c "str" x then cI4 (r.e c a)
 else if biB S c "abs" x then cI5 (r.e c a)
 else if biB S c "min" x then ba2 (r.q c a)
 else if biB S c "max" x then ba3 (r.q c a)
 else dNo
def bc9 (c : Kx) (x : Str) (a b : Expr) : DE :=
 if !(pl a) then dNo
 else if biB S c "isinstance" x then (match b with
  | .Name y _ => (match ci9 y with
   | some T => if biB S c y y then ae6 T (r.e c a) else dNo
   | none => dNo)
  | _ => dNo)
 else if !(pl b) then dNo
 else if biB S c "min" x then az0 (r.e c a) (r.e c b)
 else if biB S c "max" x then az1 (r.e c a) (r.e c b)
 else dNo
def bE0 (c : Kx) (x : Str) (args : List Expr) (ex : Expr) : DE := match S.fn.lookup x with
 | some (F, n) => if bO2 c.sc x && args.length == n && args.all pl then A2 F (evA (r.e c) args) else dNo
 | none => match args with
  | [a] => if biB S c "list" x then T4 (r.n c ex) else bd0 S r c x a
  | [a, b] => bc9 S r c x a b
  | _ => dNo
def ci3 (c : Kx) (a i : Expr) : DE := match i with
 | .Slice lo hi none _ =>
  if c.old then aa1 (r.e c a) (evO (r.e c) lo) (evO (r.e c) hi)
  else if aq9 c c.tx a then bA0 (r.e c a) (evO (r.e c) lo) (evO (r.e c) hi)
  else if aq9 c c.own a then bA1 (r.q c a) (evO (r.e c) lo) (evO (r.e c) hi)
  else aK1 (r.e c a) (evO (r.e c) lo) (evO (r.e c) hi)
 | .Slice none none (some (.UnaryOp .USub (.Constant (.int 1) _ _) _)) _ => ch6 (r.e c a)
 | _ => if pl i then (if cy7 a then ap2 (r.e c a) (r.e c i) else dIx (r.q c a) (r.e c i)) else dNo
def xE (c : Kx) (ex : Expr) : DE := match ex with
 | .Constant .none _ _ => dC .none
 | .Constant (.bool b) _ _ => dC (.bool b)
 | .Constant (.int i) _ _ => dC (.int i)
 | .Constant (.str x) _ _ => dC (.str x)
 | .Name x _ => (match ao7 x c.N with
  | some i => if bs2 c.sc x then A1 i else dNo
  | none => (match S.cs.lookup x with
   | some d => if bO2 c.sc x then dC d else dNo
   | none => dNo))
 | .Tuple es _ _ => if es.length ≤ 1000 then J1 (evA (r.e c) es) else dNo
 | .List _ _ => T4 (r.n c ex)
 | .ListComp _ _ _ _ => T4 (r.n c ex)
 | .BinOp a .Add b _ => if c.old && !(isList a || isList b) then A4 m9 (r.e c a) (r.e c b) else A4 B4 (r.e c a) (r.e c b)
 | .BinOp a .Sub b _ => A4 ae3 (r.e c a) (r.e c b)
 | .BinOp a .Mult b _ => if c.old then A4 T1 (r.e c a) (r.e c b) else (match a with
  | .Subscript v _ _ => if aq9 c c.tx v then A4 bw5 (r.e c a) (r.e c b) else A4 K5 (r.e c a) (r.e c b)
  | _ => A4 K5 (r.e c a) (r.e c b))
 | .BinOp a .FloorDiv b _ => A4 X7 (r.e c a) (r.e c b)
 | .BinOp a .Mod b _ => A4 U1 (r.e c a) (r.e c b)
 | .BinOp a .Pow b _ => A4 cq1 (r.e c a) (r.e c b)
 | .UnaryOp .USub a _ => cA0 (r.e c a)
 | .UnaryOp .Not a _ => ae5 (r.e c a)
 | .Compare a [op] [b] _ => if pl b then A4 (opW S c op b) (r.e c a) (r.e c b) else dNo
 | .Compare a [op, op'] [b, d] _ => if pl d then M5 (bj6 op) (bj6 op') (r.e c a) (r.e c b) (r.e c d) else dNo
 | .BoolOp op vs _ => bP1 (r.e c) op vs
 | .IfExp t a b _ => as6 (r.t c t) (r.e c a) (r.e c b)
 | .Subscript a i _ => ci3 r c a i
 | .Call (.Attribute o m apos) [a] [] cpos => if m == "join" && bJ7 o && apos.endLine == cpos.line && pl a then aG4 (r.e c o) (r.q c a) else dNo
 | .Call (.Name x _) args [] _ => bE0 S r c x args ex
 | _ => dNo
def xQ (c : Kx) (ex : Expr) : DQ := match ex with
 | .Name x _ => (match ao7 x c.N with
  | some i => if bs2 c.sc x then A5 i else qNo
  | none => qE (r.e c ex))
 | .List _ _ => qN (r.n c ex)
 | .ListComp _ _ _ _ => qN (r.n c ex)
 | .Call (.Name x _) [_] [] _ => if biB S c "list" x then qN (r.n c ex) else qE (r.e c ex)
 | _ => qE (r.e c ex)
def xN (c : Kx) (ex : Expr) : DA := match ex with
 | .List es _ => if es.length ≤ 1000 then evA (r.e c) es else aNo
 | .ListComp _ _ _ _ => evC S r c ex
 | .Call (.Name x _) [a] [] _ => if biB S c "list" x && pl a then (fun ρ => (r.q c a ρ).map fun q => q.2) else aNo
 | .BinOp a .Add b _ => bw4 (r.q c a) (r.q c b)
 | _ => aNo
def xT (c : Kx) (ex : Expr) : DT := match ex with
 | .Compare a [op] [b] _ => if pl b then tB2 (opW S c op b) (r.e c a) (r.e c b) else tNo
 | .Compare a [op, op'] [b, d] _ => if pl d then ak7 (M5 (bj6 op) (bj6 op') (r.e c a) (r.e c b) (r.e c d)) else tNo
 | .BoolOp op vs _ => bP0 (r.t c) op vs
 | .UnaryOp .Not a _ => O5 (r.t c a)
 | _ => if plT ex then S0 (r.e c ex) else tNo
def xG (c : Kx) (ex : Expr) : DG := match ex with
 | .Name x _ => (match ao7 x c.N with
  | some i => if bK6 c x then A8 i else gNo
  | none => gNo)
 | .Tuple es _ _ => if es.all pl then K6 es.length (cz1 (r.g c) es) else gNo
 | _ => gNo
def cE7 (c : Kx) (x y : Str) (px py : Pos) (a b : Expr) : Bool :=
 c.df && pl a && pl b && !(x == y) && px.line == py.line && c.sc.names.lookup x == some .local && c.sc.names.lookup y == some .local && !(([a, b] : List Expr).all (foldedForSure 8)) && !(([a, b] : List Expr).all (constantsAlone 8))
def ci5 (c : Kx) (tg v : Expr) (p : Pos) : DS := match tg with
 | .Name x p' => (match ao7 x c.N with
  | none => P9
  | some i => if !(bK6 c x) then P9 else (match v with
   | .ListComp _ _ sc pv => if c.sc.names.lookup x == some .local then
     (if c.df && p'.line == pv.line && !(sc.names.any fun (n, k) => n == x && (k == .local || k == .cell)) then (if c.own.contains i then X3 i (evC S r c v) else N5 i (evC S r c v)) else P9)
    else B3 i (r.e c v)
   | _ => if isC v then P9 else if c.own.contains i then X3 i (r.n c v) else B3 i (r.e c v)))
 | .Subscript (.Name x _) (.Slice lo hi none _) _ => (match ao7 x c.N with
  | none => P9
  | some i => if bs2 c.sc x && !(isC v) then bF9 i (evO (r.e c) lo) (evO (r.e c) hi) (r.n c v) else P9)
 | .Tuple [.Name x px, .Name y py] _ _ => (match v with
  | .Tuple [a, b] _ _ => (match ao7 x c.N, ao7 y c.N with
   | some i, some j => if cE7 c x y px py a b then bG0 i j (evA (r.e c) [a, b]) else P9
   | _, _ => P9)
  | .Tuple _ _ _ => P9
  | _ => V9 (r.e c v) (r.g c tg))
 | .Tuple es _ _ => if bp6 v && (es.length == 2 || es.length == 3) then P9 else V9 (r.e c v) (r.g c tg)
 | _ => P9
def ci4 (c : Kx) (x m : Str) (e : Expr) : DS := match ao7 x c.N with
 | none => P9
 | some i => if bs2 c.sc x && pl e then (if m == "append" then R3 i (r.e c e) else if m == "extend" then bt4 i (r.e c e) else P9) else P9
def xS0 (c : Kx) (st : Stmt) : DS := match st with
 | .Return (some e) _ => B2 (r.e c e)
 | .If t a b _ => sIf (r.t c t) (r.b c a) (r.b c b)
 | .While t a [] _ => ac4 (r.t c t) (r.b c a)
 | .For tg it a [] _ => if pl it then P8 (evI S r c tg it) (r.g c tg) (r.b c a) else P9
 | .Assign [tg] v p => ci5 S r c tg v p
 | .Expr (.Call (.Attribute (.Name x _) m apos) [e] [] cpos) _ => if apos.endLine == cpos.line then ci4 r c x m e else P9
 | .Continue _ => cf5
 | .Break _ => fun ρ => some (.bk ρ)
 | .Pass _ => J2
 | _ => P9
def ct7 : Stmt → Nat
 | .Return _ p => p.line
 | .If _ _ _ p => p.line
 | .While _ _ _ p => p.line
 | .For _ _ _ _ p => p.line
 | .Assign _ _ p => p.line
 | .Expr _ p => p.line
 | _ => 0
def fzW (g : DS) : Option (List Nat) → DS
 | none => g
 | some l => l.foldl (fun g i => aw6 i g) g
def xS (c : Kx) (st : Stmt) : DS := fzW (xS0 S r c st) (c.fz.lookup (ct7 st))
def evB (f : Stmt → DS) : List Stmt → DS
 | [] => J2
 | [s] => f s
 | s :: t :: W0 => A6 (f s) (evB f (t :: W0))
def step : Ev := ⟨xE S r, xQ S r, xN S r, xT S r, xG r, fun c => evB (xS S r c)⟩
end
def ev (S : Sg) : Nat → Ev
 | 0 => ⟨fun _ _ => dNo, fun _ _ => qNo, fun _ _ => aNo, fun _ _ => tNo, fun _ _ => gNo, fun _ _ => P9⟩
 | n + 1 => step S (ev S n)
end G
namespace Sh
open PySem PySem.Spec PyProof.Rows L2 G
end Sh
namespace Sh
open PySem PySem.Spec PyProof.Rows L2 G
end Sh
namespace Sh
open PySem PySem.Spec PyProof.Rows L2 G
def Y9 : DS := (A6 (sIf (f6 (tB2 leI (A1 2) (A1 0)) (tB2 leI (A1 3) (A1 1))) (B2 (dC .none)) J2) (B2 (J1 (A0 (A1 0) (A0 (A1 1) (A0 (A4 ae3 (A1 2) (A1 0)) (A0 (A4 ae3 (A1 3) (A1 1)) A3)))))))
def U3 : List D → Option D := K2 Y9 4
def i7 : DS := (A6 (sIf (tB2 isB (A1 0) (dC .none)) (B2 (A1 1)) J2) (A6 (sIf (tB2 isB (A1 1) (dC .none)) (B2 (A1 0)) J2) (A6 (B3 2 (az1 (A4 B4 (dIx (A5 0) (dC (.int 0))) (dIx (A5 0) (dC (.int 2)))) (A4 B4 (dIx (A5 1) (dC (.int 0))) (dIx (A5 1) (dC (.int 2)))))) (A6 (B3 3 (az1 (A4 B4 (dIx (A5 0) (dC (.int 1))) (dIx (A5 0) (dC (.int 3)))) (A4 B4 (dIx (A5 1) (dC (.int 1))) (dIx (A5 1) (dC (.int 3)))))) (B2 (A2 U3 (A0 (az0 (dIx (A5 0) (dC (.int 0))) (dIx (A5 1) (dC (.int 0)))) (A0 (az0 (dIx (A5 0) (dC (.int 1))) (dIx (A5 1) (dC (.int 1)))) (A0 (A1 2) (A0 (A1 3) A3))))))))))
def Q2 : List D → Option D := K2 i7 4
def aH7 : DS := (A6 (B3 1 (dC .none)) (A6 (P8 (L4 (A1 0)) (A8 2) (B3 1 (A2 Q2 (A0 (A1 1) (A0 (A1 2) A3))))) (B2 (A1 1))))
def S8 : List D → Option D := K2 aH7 3
def bb9 : DS := (B2 (J1 (A0 (dC (.int 0)) (A0 (dC (.int 0)) (A0 (dIx (A5 0) (dC (.int 0))) (A0 (dIx (A5 0) (dC (.int 1))) A3))))))
def V6 : List D → Option D := K2 bb9 1
def az4 : DS := (A6 (sIf (tB2 isB (A1 0) (dC .none)) (B2 (T4 A3)) J2) (B2 (T4 (D6 2 [0] (L4 (A2 S2 (A0 (dIx (A5 0) (dC (.int 2))) (A0 (dIx (A5 0) (dC (.int 3))) A3)))) (K6 2 (B0 (A8 0) (B0 (A8 1) L5))) G0 (J1 (A0 (A4 B4 (dIx (A5 2) (dC (.int 0))) (A1 0)) (A0 (A4 B4 (dIx (A5 2) (dC (.int 1))) (A1 1)) A3)))))))
def u8 : List D → Option D := K2 az4 1
def o8 : DS := (B3 2 (A2 ab0 (A0 (A1 1) A3)))
def o7 : DS := (B3 3 (A2 ah5 (A0 (A1 1) A3)))
def o6 : DS := (B3 4 (A2 k7 (A0 (A1 1) A3)))
def o5 : DS := (B3 5 (az0 (A4 B4 (A1 2) (dIx (A5 4) (dC (.int 0)))) (dIx (A5 0) (dC (.int 0)))))
def o0 : DS := (B3 6 (az0 (A4 B4 (A1 3) (dIx (A5 4) (dC (.int 1)))) (dIx (A5 0) (dC (.int 1)))))
def n9 : DS := (B2 (A2 U3 (A0 (az1 (A1 2) (dC (.int 0))) (A0 (az1 (A1 3) (dC (.int 0))) (A0 (A1 5) (A0 (A1 6) A3))))))
def ah4 : DS := (A6 o8 (A6 o7 (A6 o6 (A6 o5 (A6 o0 n9)))))
def W7 : List D → Option D := K2 ah4 7
def W5 (self : List D → Option D) : DS := (A6 (sIf (O5 (S0 (A2 V3 (A0 (A1 1) A3)))) (B2 (dC .none)) J2) (A6 (sIf (S0 (A2 R1 (A0 (A1 1) A3))) (B2 (A2 V6 (A0 (A1 0) A3))) J2) (A6 (sIf (S0 (A2 m8 (A0 (A1 1) A3))) (B2 (A2 S8 (A0 (T4 (D6 1 [0] (L4 (A2 P1 (A0 (A1 1) A3))) (A8 0) (O5 (S0 (A2 R1 (A0 (A1 0) A3)))) (A2 self (A0 (A1 1) (A0 (A1 0) A3))))) A3))) J2) (B2 (A2 W7 (A0 (A1 0) (A0 (A1 1) A3)))))))
def Q8 : Nat → List D → Option D
 | 0 => fun _ => none
 | k + 1 => K2 (W5 (Q8 k)) 2
def an3 : DS := (A6 (B3 2 (A2 u8 (A0 (A2 V6 (A0 (A1 0) A3)) A3))) (B2 (A2 S8 (A0 (T4 (D6 2 [0, 1] (L4 (A1 2)) (K6 2 (B0 (A8 0) (B0 (A8 1) L5))) (tB2 neD (A2 T6 (A0 (A1 2) (A0 (A1 0) (A0 (A1 1) A3)))) (A2 T6 (A0 (A1 3) (A0 (A1 0) (A0 (A1 1) A3))))) (J1 (A0 (A1 0) (A0 (A1 1) (A0 (dC (.int 1)) (A0 (dC (.int 1)) A3))))))) A3))))
def P2 : List D → Option D := K2 an3 3
end Sh
namespace Sh
open PySem PySem.Spec PyProof.Rows L2 G
def bc1 (self : List D → Option D) : DS := (A6 (X3 3 A3) (A6 (P8 (L4 (A1 0)) (A8 4) (sIf (tB2 eqD (dIx (A5 4) (dC (.int 1))) (A1 1)) (bt4 3 (A1 2)) (sIf (tB2 eqD (dIx (A5 4) (dC (.int 0))) (dC (.str "group"))) (R3 3 (A4 B4 (aK1 (A1 4) O1 (L3 (dC (.int 5)))) (J1 (A0 (A2 self (A0 (dIx (A5 4) (dC (.int 5))) (A0 (A1 1) (A0 (A1 2) A3)))) A3)))) (R3 3 (A1 4))))) (B2 (L8 (A5 3)))))
def Q7 : Nat → List D → Option D
 | 0 => fun _ => none
 | k + 1 => K2 (bc1 (Q7 k)) 5
def v2 : DS := (sIf (tB2 eqD (A1 0) (T4 A3)) (B2 (dC .none)) J2)
def am2 : DS := (N5 1 (D6 1 [] (L4 (A1 0)) (A8 0) G0 (dIx (A5 0) (dC (.int 0)))))
def am1 : DS := (N5 2 (D6 1 [] (L4 (A1 0)) (A8 0) G0 (dIx (A5 0) (dC (.int 1)))))
def am0 : DS := (B3 3 (ba2 (A5 1)))
def al9 : DS := (B3 4 (ba2 (A5 2)))
def al8 : DS := (B2 (J1 (A0 (A1 3) (A0 (A1 4) (A0 (A4 ae3 (A4 B4 (ba3 (A5 1)) (dC (.int 1))) (A1 3)) (A0 (A4 ae3 (A4 B4 (ba3 (A5 2)) (dC (.int 1))) (A1 4)) A3))))))
def ap5 : DS := (A6 v2 (A6 am2 (A6 am1 (A6 am0 (A6 al9 al8)))))
def S6 : List D → Option D := K2 ap5 5
def ap4 : DS := (A6 (sIf (tB2 isB (A1 0) (dC .none)) (B2 (T4 A3)) J2) (B2 (T4 (D6 1 [0] (L6 (A4 K5 (dIx (A5 0) (dC (.int 2))) (dIx (A5 0) (dC (.int 3))))) (A8 0) G0 (J1 (A0 (A4 B4 (dIx (A5 1) (dC (.int 0))) (A4 U1 (A1 0) (dIx (A5 1) (dC (.int 2))))) (A0 (A4 B4 (dIx (A5 1) (dC (.int 1))) (A4 X7 (A1 0) (dIx (A5 1) (dC (.int 2))))) A3)))))))
def S4 : List D → Option D := K2 ap4 1
def aC4 (self : List D → Option D) : DS := (A6 (V9 (A1 0) (K6 3 (B0 (A8 2) (B0 (A8 3) (B0 (A8 4) L5))))) (A6 (N5 5 (D6 1 [2] (L6 (A4 K5 (A1 2) (A1 3))) (A8 0) G0 (J1 (A0 (A4 U1 (A1 0) (A1 1)) (A0 (A4 X7 (A1 0) (A1 1)) A3))))) (A6 (sIf (O5 (S0 (dIx (A5 1) (dC (.int 4))))) (B2 (dC .none)) J2) (A6 (sIf (tB2 eqD (dIx (A5 1) (dC (.int 0))) (dC (.str "tone"))) (B2 (J1 (A0 (dC (.int 0)) (A0 (dC (.int 0)) (A0 (A1 2) (A0 (A1 3) A3)))))) J2) (A6 (sIf (tB2 eqD (dIx (A5 1) (dC (.int 0))) (dC (.str "group"))) (A6 (B3 6 (T4 A3)) (A6 (P8 (L4 (dIx (A5 1) (dC (.int 5)))) (A8 7) (sIf (tB2 neD (dIx (A5 7) (dC (.int 0))) (dC (.str "tone"))) (B3 6 (A4 B4 (A1 6) (A2 S4 (A0 (A2 self (A0 (A1 0) (A0 (A1 7) A3))) A3)))) J2)) (B2 (A2 S6 (A0 (A1 6) A3))))) J2) (A6 (V9 (aK1 (A1 1) (L3 (dC (.int 5))) (L3 (dC (.int 7)))) (K6 2 (B0 (A8 8) (B0 (A8 9) L5)))) (A6 (N5 6 (D6 1 [8, 1] (L4 (A1 5)) (A8 0) (ak7 (M5 leI ltI (A1 1) (dIx (A5 0) (dC (.int 0))) (A4 B4 (A1 1) (dIx (qE (dIx (A5 2) (dC (.int 8)))) (dC (.int 0)))))) (A1 0))) (B2 (A2 S6 (A0 (T4 (D6 1 [9, 1] (L4 (A1 6)) (A8 0) (ak7 (M5 leI ltI (A1 1) (dIx (A5 0) (dC (.int 1))) (A4 B4 (A1 1) (dIx (qE (dIx (A5 2) (dC (.int 8)))) (dC (.int 1)))))) (A1 0))) A3))))))))))
def O8 : Nat → List D → Option D
 | 0 => fun _ => none
 | k + 1 => K2 (aC4 (O8 k)) 10
def ad9 : DS := (A6 (sIf (tB2 eqD (A2 A7 (A0 (A1 0) (A0 (A1 1) (A0 (dC (.int 5)) A3)))) (dC (.int 0))) (B2 (dC .none)) J2) (B2 (L8 (qN (D6 1 [0, 1] (L6 (dC (.int 4))) (A8 0) G0 (A4 B4 (A2 A7 (A0 (A1 1) (A0 (A4 B4 (A4 B4 (A1 2) (dC (.int 1))) (A1 0)) (A0 (dC (.int 4)) A3)))) (A4 X7 (A1 0) (dC (.int 2)))))))))
def Q1 : List D → Option D := K2 ad9 2
end Sh
namespace Sh
open PySem G
theorem ag6 (i j : Int) : neD (.int i) (.int j) = some (.bool (!(i == j))) := rfl
theorem aa0 (i j : Int) : eqD (.int i) (.int j) = some (.bool (i == j)) := rfl
theorem bp5 {t : Rho → Option Bool} {f : DS} {n : Nat} {ρ ρ' : Rho} (h1 : t ρ = some true) (h2 : f ρ = some (.nx ρ')) : Z4 t f (n + 1) ρ = Z4 t f n ρ' := by
 simp only [Z4, h1, h2, xbs, if_true]
theorem bO3 : ∀ (b a : Nat) (x : Option B), ∃ n x', Z4 (tB2 neD (A1 1) (dC (.int 0))) (A6 (B3 2 (A4 U1 (A1 0) (A1 1))) (A6 (B3 0 (A1 1)) (B3 1 (A1 2)))) n [‹.int a›, ‹.int b›, x]
  = some (.nx [‹.int (Nat.gcd a b)›, ‹.int 0›, x']) := by
 intro b
 induction b using Nat.strongRecOn with
 | _ b ih =>
  intro a x
  by_cases hb : b = 0
  ·subst hb
   refine ⟨1, x, ?_⟩
   rw [Nat.gcd_zero_right]
   rfl
  ·obtain ⟨n, x', h⟩ := ih (a % b) (Nat.mod_lt _ (Nat.pos_of_ne_zero hb)) b (‹.int ((a % b : Nat) : Int)›)
   refine ⟨n + 1, x', ?_⟩
   have e1 : tB2 neD (A1 1) (dC (.int 0)) [‹.int a›, ‹.int b›, x] = some true := by
    show (neD (.int b) (.int 0)).bind N9 = some true
    rw [ag6]
    have : ((b : Int) == 0) = false := by simp; omega
    rw [this]; rfl
   have e2 : U1 (.int a) (.int b) = some (.int ((a % b : Nat) : Int)) := by
    show (if (0 : Int) < (b : Int) then some (PyData.int ((a : Int) % (b : Int))) else none) = _
    rw [if_pos (by omega)]
    simp
   have e3 : A6 (B3 2 (A4 U1 (A1 0) (A1 1))) (A6 (B3 0 (A1 1)) (B3 1 (A1 2))) [‹.int a›, ‹.int b›, x] = some (.nx [‹.int b›, ‹.int ((a % b : Nat) : Int)›, ‹.int ((a % b : Nat) : Int)›]) := by
    show ((((U1 (.int a) (.int b))).map fun d => Fl.nx [‹.int a›, ‹.int b›, some (.val d)]).bind _) = _
    rw [e2]
    rfl
   rw [bp5 e1 e3, h, Nat.gcd_comm b, Nat.gcd_comm a b, ← Nat.gcd_rec]
theorem cJ3 (a b : Nat) : T7 [.int a, .int b] = some (.int (Nat.gcd a b)) := by
 obtain ⟨n, x', h⟩ := bO3 b a none
 show ((ac4 _ _ [‹.int a›, ‹.int b›, none]).bind _).bind _ = _
 rw [aL6 h]
 rfl
theorem bw7 : ∀ (a b : Nat) (t u : D), ∃ n, Z4 (tB2 gtI (A1 2) (dC (.int 0))) (bG0 2 3 (A0 (A4 U1 (A1 3) (A1 2)) (A0 (A1 2) A3))) n [some (.val t), some (.val u), ‹.int a›, ‹.int b›]
  = some (.nx [some (.val t), some (.val u), ‹.int 0›, ‹.int (Nat.gcd a b)›]) := by
 intro a
 induction a using Nat.strongRecOn with
 | _ a ih =>
  intro b t u
  by_cases ha : a = 0
  ·subst ha
   refine ⟨1, ?_⟩
   rw [Nat.gcd_zero_left]
   rfl
  ·obtain ⟨n, h⟩ := ih (b % a) (Nat.mod_lt _ (Nat.pos_of_ne_zero ha)) a t u
   refine ⟨n + 1, ?_⟩
   have e1 : tB2 gtI (A1 2) (dC (.int 0)) [some (.val t), some (.val u), ‹.int a›, ‹.int b›] = some true := by
    show some (decide ((0 : Int) < (a : Int))) = some true
    rw [decide_eq_true (by omega)]
   have e2 : U1 (.int b) (.int a) = some (.int ((b % a : Nat) : Int)) := by
    show (if (0 : Int) < (a : Int) then some (PyData.int ((b : Int) % (a : Int))) else none) = _
    rw [if_pos (by omega)]
    simp
   have e3 : bG0 2 3 (A0 (A4 U1 (A1 3) (A1 2)) (A0 (A1 2) A3)) [some (.val t), some (.val u), ‹.int a›, ‹.int b›] = some (.nx [some (.val t), some (.val u), ‹.int ((b % a : Nat) : Int)›, ‹.int a›]) := by
    show ((U1 (.int b) (.int a)).bind fun d => (some [PyData.int (a : Int)]).map fun ds => d :: ds).bind _ = _
    rw [e2]
    rfl
   rw [bp5 e1 e3, h, ← Nat.gcd_rec]
def fr (r : Rat) : D := .tuple [.int r.num, .int r.den]
theorem N3 {i : Int} {k : Nat} (h : i.natAbs < 2 ^ k) (hk : k ≤ 8000) : L0 i := Nat.lt_of_lt_of_le h (Nat.pow_le_pow_right (by decide) hk)
theorem aX9 (a b : Nat) (hb : 0 < b) : fr (mkRat a b) = .tuple [.int ((a / Nat.gcd a b : Nat) : Int), .int ((b / Nat.gcd a b : Nat) : Int)] := by
 unfold fr
 rw [Rat.num_mkRat, Rat.den_mkRat, if_neg (by omega), if_neg (by omega)]
 have e : b.gcd (a : Int).natAbs = Nat.gcd a b := by rw [Int.natAbs_natCast, Nat.gcd_comm]
 rw [e]
 simp
theorem bq2 (a b x k : Nat) (hb : 0 < b) (hk : b < 2 ^ k) (hk8 : k ≤ 8000) : X7 (.int x) (.int (Nat.gcd a b)) = some (.int ((x / Nat.gcd a b : Nat) : Int)) := by
 have g0 : 0 < Nat.gcd a b := Nat.gcd_pos_of_pos_right _ hb
 have gs : L0 (Nat.gcd a b : Nat) := N3 (k := k) (by rw [Int.natAbs_natCast]; exact Nat.lt_of_le_of_lt (Nat.le_of_dvd hb (Nat.gcd_dvd_right a b)) hk) hk8
 show (if (0 : Int) < ((Nat.gcd a b : Nat) : Int) ∧ L0 (Nat.gcd a b : Nat) then some (PyData.int ((x : Int) / ((Nat.gcd a b : Nat) : Int))) else none) = _
 rw [if_pos ⟨by omega, gs⟩]
 simp
theorem aV0 (a b k : Nat) (hb : 0 < b) (hk : b < 2 ^ k) (hk8 : k ≤ 8000) : T5 [.int a, .int b] = some (fr (mkRat a b)) := by
 have d := fun x => bq2 a b x k hb hk hk8
 have e : i6 [‹.int a›, ‹.int b›, none] = some (.rt (fr (mkRat a b))) := by
  rw [aX9 a b hb]
  simp only [i6, A6, B3, A2, A0, A3, A1, xg0, xg1, xbs, xms, cJ3, xw1, xw0, B2, J1, A4, d]
 show (i6 [‹.int a›, ‹.int b›, none]).bind _ = _
 rw [e]; rfl
theorem aH9 (a b k : Nat) (hb : 0 < b) (hk : b < 2 ^ k) (hk8 : k ≤ 8000) : S5 [.int a, .int b] = some (fr (mkRat a b)) := by
 have d := fun x => bq2 a b x k hb hk hk8
 obtain ⟨n, h⟩ := bw7 a b (.int a) (.int b)
 have e : au1 [‹.int a›, ‹.int b›, none, none] = some (.rt (fr (mkRat a b))) := by
  rw [aX9 a b hb]
  simp only [au1, A6, B3, A2, A0, A3, A1, xg0, xg1, xbs, xms, xw1, xw0, B2, J1, A4, d, aL6 h]
 show (au1 [‹.int a›, ‹.int b›, none, none]).bind _ = _
 rw [e]; rfl
structure Bd (k : Nat) (r : Rat) : Prop where
 nn : 0 ≤ r
 num : r.num.natAbs < 2 ^ k
 den : r.den < 2 ^ k
theorem Bd.mono {j k : Nat} {r : Rat} (h : Bd j r) (l : j ≤ k) : Bd k r := ⟨h.nn, Nat.lt_of_lt_of_le h.num (Nat.pow_le_pow_right (by decide) l), Nat.lt_of_lt_of_le h.den (Nat.pow_le_pow_right (by decide) l)⟩
theorem Bd.nat {k : Nat} {r : Rat} (h : Bd k r) : r.num = (r.num.natAbs : Int) := by
 have := Rat.num_nonneg.mpr h.nn
 omega
theorem bK4 (a b : Nat) : 0 ≤ mkRat (a : Int) b := by
 rw [← Rat.num_nonneg, Rat.num_mkRat]
 split
 ·exact Int.le_refl _
 ·exact Int.ediv_nonneg (by omega) (by omega)
theorem Bd.of {a b k : Nat} (hb : 0 < b) (h1 : a < 2 ^ k) (h2 : b < 2 ^ k) : Bd k (mkRat a b) := by
 refine ⟨bK4 a b, ?_, ?_⟩
 ·rw [Rat.num_mkRat, if_neg (by omega)]
  rw [show ((a : Int) / ((b.gcd (a : Int).natAbs : Nat) : Int)) = ((a / b.gcd (a : Int).natAbs : Nat) : Int) by simp, Int.natAbs_natCast]
  exact Nat.lt_of_le_of_lt (Nat.div_le_self _ _) h1
 ·rw [Rat.den_mkRat, if_neg (by omega)]
  exact Nat.lt_of_le_of_lt (Nat.div_le_self _ _) h2
theorem N0 {a b j k : Nat} (h1 : a < 2 ^ j) (h2 : b < 2 ^ k) : a * b < 2 ^ (j + k) := by
 rw [Nat.pow_add]
 exact Nat.mul_lt_mul'' h1 h2
theorem aQ0 {j k : Nat} {r s : Rat} (hr : Bd j r) (hs : Bd k s) : r * s = mkRat ((r.num.natAbs * s.num.natAbs : Nat) : Int) (r.den * s.den) := by
 rw [Rat.mul_def, Rat.normalize_eq_mkRat, Int.natCast_mul, ← hr.nat, ← hs.nat]
theorem aQ1 {j k : Nat} {r s : Rat} (hr : Bd j r) (hs : Bd k s) : r + s = mkRat ((r.num.natAbs * s.den + s.num.natAbs * r.den : Nat) : Int) (r.den * s.den) := by
 rw [Rat.add_def, Rat.normalize_eq_mkRat, Int.natCast_add, Int.natCast_mul, Int.natCast_mul, ← hr.nat, ← hs.nat]
theorem aO6 {j k : Nat} {r s : Rat} (hr : Bd j r) (hs : Bd k s) (l : s ≤ r) : s.num.natAbs * r.den ≤ r.num.natAbs * s.den := by
 have := (Rat.le_iff s r).mp l
 rw [hr.nat, hs.nat] at this
 exact_mod_cast this
theorem aA7 {j k : Nat} {r s : Rat} (hr : Bd j r) (hs : Bd k s) (l : s ≤ r) : r - s = mkRat ((r.num.natAbs * s.den - s.num.natAbs * r.den : Nat) : Int) (r.den * s.den) := by
 rw [Rat.sub_def, Rat.normalize_eq_mkRat, Int.ofNat_sub (aO6 hr hs l), Int.natCast_mul, Int.natCast_mul, ← hr.nat, ← hs.nat]
theorem M1 (r : Rat) : 0 < r.den := Nat.pos_of_ne_zero r.den_nz
theorem Bd.mul {j k : Nat} {r s : Rat} (hr : Bd j r) (hs : Bd k s) : Bd (j + k) (r * s) := by
 rw [aQ0 hr hs]
 exact Bd.of (Nat.mul_pos (M1 r) (M1 s)) (N0 hr.num hs.num) (N0 hr.den hs.den)
theorem Bd.add {j k : Nat} {r s : Rat} (hr : Bd j r) (hs : Bd k s) : Bd (j + k + 1) (r + s) := by
 rw [aQ1 hr hs]
 have h1 := N0 hr.num hs.den
 have h2 := N0 hs.num hr.den
 have h3 := N0 hr.den hs.den
 rw [Nat.add_comm k j] at h2
 exact Bd.of (Nat.mul_pos (M1 r) (M1 s)) (by rw [Nat.pow_succ]; omega) (by rw [Nat.pow_succ]; omega)
theorem Bd.sub {j k : Nat} {r s : Rat} (hr : Bd j r) (hs : Bd k s) (l : s ≤ r) : Bd (j + k) (r - s) := by
 rw [aA7 hr hs l]
 have h1 := N0 hr.num hs.den
 have h3 := N0 hr.den hs.den
 exact Bd.of (Nat.mul_pos (M1 r) (M1 s)) (by omega) (by omega)
theorem Bd.one : Bd 1 1 := ⟨by decide, by decide, by decide⟩
theorem Bd.zero : Bd 1 0 := ⟨by decide, by decide, by decide⟩
theorem bO7 : fr 1 = .tuple [.int 1, .int 1] := rfl
theorem Bd.sn {k : Nat} {r : Rat} (h : Bd k r) (hk : k ≤ 8000) : L0 r.num := N3 h.num hk
theorem Bd.sd {k : Nat} {r : Rat} (h : Bd k r) (hk : k ≤ 8000) : L0 r.den := N3 (k := k) (by rw [Int.natAbs_natCast]; exact h.den) hk
theorem P3 {i j : Int} (h1 : L0 i) (h2 : L0 j) : T1 (.int i) (.int j) = some (.int (i * j)) := by
 show (if L0 i ∧ L0 j then some (PyData.int (i * j)) else none) = _
 rw [if_pos ⟨h1, h2⟩]
theorem W9 (i j : Int) : m9 (.int i) (.int j) = some (.int (i + j)) := rfl
theorem V5 (i j : Int) : ae3 (.int i) (.int j) = some (.int (i - j)) := rfl
theorem ag8 (i j : Int) : leI (.int i) (.int j) = some (.bool (decide (i ≤ j))) := rfl
theorem ae9 (a b : D) : L2.atI [a, b] 0 = some a := rfl
theorem ae8 (a b : D) : L2.atI [a, b] 1 = some b := rfl
theorem ix0 {ρ : Rho} {i : Nat} {r : Rat} (h : ρ[i]? = some (‹fr r›)) : dIx (A5 i) (dC (.int 0)) ρ = some (.int r.num) := by
 simp only [dIx, A5, h, fr, dC, xbs, ae9]
theorem ix1 {ρ : Rho} {i : Nat} {r : Rat} (h : ρ[i]? = some (‹fr r›)) : dIx (A5 i) (dC (.int 1)) ρ = some (.int r.den) := by
 simp only [dIx, A5, h, fr, dC, xbs, ae8]
theorem v0 (x : Option B) (l : Rho) : (x :: l)[0]? = some x := rfl
theorem v1 (y x : Option B) (l : Rho) : (y :: x :: l)[1]? = some x := rfl
theorem N2 {j k : Nat} {r s : Rat} (hr : Bd j r) (hs : Bd k s) (l : j + k ≤ 8000) : R8 [fr r, fr s] = some (fr (r * s)) := by
 have e : aC3 [‹fr r›, ‹fr s›] = some (.rt (fr (r * s))) := by
  simp only [aC3, B2, A2, A0, A3, A4, ix0 (v0 _ _), ix1 (v0 _ _), ix0 (v1 _ _ _), ix1 (v1 _ _ _), xbs, xms, P3 (hr.sn (by omega)) (hs.sn (by omega)), P3 (hr.sd (by omega)) (hs.sd (by omega))]
  have := aV0 (r.num.natAbs * s.num.natAbs) (r.den * s.den) (j + k) (Nat.mul_pos (M1 r) (M1 s)) (N0 hr.den hs.den) l
  rw [← aQ0 hr hs, Int.natCast_mul, Int.natCast_mul, ← hr.nat, ← hs.nat] at this
  rw [this]; rfl
 show (aC3 [‹fr r›, ‹fr s›]).bind _ = _
 rw [e]; rfl
theorem Q3 {j k : Nat} {r s : Rat} (hr : Bd j r) (hs : Bd k s) (l : j + k ≤ 8000) : R9 [fr r, fr s] = some (fr (r + s)) := by
 have e : aC6 [‹fr r›, ‹fr s›] = some (.rt (fr (r + s))) := by
  simp only [aC6, B2, A2, A0, A3, A4, ix0 (v0 _ _), ix1 (v0 _ _), ix0 (v1 _ _ _), ix1 (v1 _ _ _), xbs, xms, P3 (hr.sn (by omega)) (hs.sd (by omega)), P3 (hs.sn (by omega)) (hr.sd (by omega)), P3 (hr.sd (by omega)) (hs.sd (by omega)), W9]
  have := aV0 (r.num.natAbs * s.den + s.num.natAbs * r.den) (r.den * s.den) (j + k) (Nat.mul_pos (M1 r) (M1 s)) (N0 hr.den hs.den) l
  rw [← aQ1 hr hs, Int.natCast_add, Int.natCast_mul, Int.natCast_mul, Int.natCast_mul, ← hr.nat, ← hs.nat] at this
  rw [this]; rfl
 show (aC6 [‹fr r›, ‹fr s›]).bind _ = _
 rw [e]; rfl
theorem R0 {j k : Nat} {r s : Rat} (hr : Bd j r) (hs : Bd k s) (l : j + k ≤ 8000) (hl : s ≤ r) : Q0 [fr r, fr s] = some (fr (r - s)) := by
 have e : ad8 [‹fr r›, ‹fr s›] = some (.rt (fr (r - s))) := by
  simp only [ad8, B2, A2, A0, A3, A4, ix0 (v0 _ _), ix1 (v0 _ _), ix0 (v1 _ _ _), ix1 (v1 _ _ _), xbs, xms, P3 (hr.sn (by omega)) (hs.sd (by omega)), P3 (hs.sn (by omega)) (hr.sd (by omega)), P3 (hr.sd (by omega)) (hs.sd (by omega)), V5]
  have := aV0 (r.num.natAbs * s.den - s.num.natAbs * r.den) (r.den * s.den) (j + k) (Nat.mul_pos (M1 r) (M1 s)) (N0 hr.den hs.den) l
  rw [← aA7 hr hs hl, Int.ofNat_sub (aO6 hr hs hl), Int.natCast_mul, Int.natCast_mul, Int.natCast_mul, ← hr.nat, ← hs.nat] at this
  rw [this]; rfl
 show (ad8 [‹fr r›, ‹fr s›]).bind _ = _
 rw [e]; rfl
theorem ak3 {k : Nat} {s : Rat} (hs : Bd k s) (l : k + 1 ≤ 8000) (hl : s ≤ 1) : X9 [fr s] = some (fr (1 - s)) := by
 have e : aj8 [‹fr s›] = some (.rt (fr (1 - s))) := by
  simp only [aj8, B2, A2, A0, A3, dC, A1, xg0, xbs, xms]
  rw [← bO7, R0 Bd.one hs (by omega) hl]; rfl
 show (aj8 [‹fr s›]).bind _ = _
 rw [e]; rfl
theorem bc6 {j k : Nat} {r s : Rat} (hr : Bd j r) (hs : Bd k s) (l : j + k ≤ 8000) : i9 [fr r, fr s] = some (.bool (decide (r ≤ s))) := by
 have e : i8 [‹fr r›, ‹fr s›] = some (.rt (.bool (decide (r ≤ s)))) := by
  simp only [i8, B2, A2, A0, A3, A4, ix0 (v0 _ _), ix1 (v0 _ _), ix0 (v1 _ _ _), ix1 (v1 _ _ _), xbs, xms, P3 (hr.sn (by omega)) (hs.sd (by omega)), P3 (hs.sn (by omega)) (hr.sd (by omega)), ag8]
  simp only [← Rat.le_iff]
 show (i8 [‹fr r›, ‹fr s›]).bind _ = _
 rw [e]; rfl
theorem bc7 {k : Nat} {r : Rat} (hr : Bd k r) (l : k + 1 ≤ 8000) : U4 [fr r] = some (fr (if r ≤ 1 then r else 1)) := by
 have e : Z0 [‹fr r›] = some (.rt (fr (if r ≤ 1 then r else 1))) := by
  simp only [Z0, B2, as6, S0, A2, A0, A3, dC, A1, xg0, xbs, xms]
  rw [← bO7, bc6 hr Bd.one l]
  by_cases h : r ≤ 1
  ·simp [h, x6]
  ·simp [h, x6]
 show (Z0 [‹fr r›]).bind _ = _
 rw [e]; rfl
end Sh
set_option exponentiation.threshold 9000
namespace Sh
open PySem G L2
theorem ak8 (i j : Int) : ltI (.int i) (.int j) = some (.bool (decide (i < j))) := rfl
theorem ae4 (i j : Int) : gtI (.int i) (.int j) = some (.bool (decide (j < i))) := rfl
theorem aI3 {α : Type} (x : α) : List.replicate 0 x = [] := rfl
theorem aE6 {α : Type} (x : α) : List.replicate 1 x = [x] := rfl
theorem aI2 {α : Type} (x : α) : List.replicate 2 x = [x, x] := rfl
theorem am8 (a b c d : D) : al0 [a, b, c, d] (some 1) none = [b, c, d] := rfl
theorem al4 (a b c d : D) : L2.atI [a, b, c, d] 0 = some a := rfl
theorem al3 (a b c d : D) : L2.atI [a, b, c, d] 1 = some b := rfl
theorem al2 (a b c d : D) : L2.atI [a, b, c, d] 2 = some c := rfl
theorem al1 (a b c d : D) : L2.atI [a, b, c, d] 3 = some d := rfl
theorem al7 (a b c : D) : L2.atI [a, b, c] 0 = some a := rfl
theorem al6 (a b c : D) : L2.atI [a, b, c] 1 = some b := rfl
theorem al5 (a b c : D) : L2.atI [a, b, c] 2 = some c := rfl
theorem S9 {n k : Nat} (h : n < 2 ^ k) (hk : k ≤ 8000) : L0 (n : Int) := N3 (k := k) (by rw [Int.natAbs_natCast]; exact h) hk
theorem am3 {i j : Int} (h : 0 < j) : U1 (.int i) (.int j) = some (.int (i % j)) := by
 show (if (0 : Int) < j then some (PyData.int (i % j)) else none) = _
 rw [if_pos h]
theorem am7 {i j : Int} (h : 0 < j) (s : L0 j) : X7 (.int i) (.int j) = some (.int (i / j)) := by
 show (if (0 : Int) < j ∧ L0 j then some (PyData.int (i / j)) else none) = _
 rw [if_pos ⟨h, s⟩]
theorem A9 {g : DS} {n : Nat} {ds : List D} {ρ : Rho} {d : D} (h : au4 n ds = ρ) (e : g ρ = some (.rt d)) : K2 g n ds = some d := by
 unfold K2
 rw [h, e]; rfl
theorem M2 {j k : Nat} {r s : Rat} (hr : Bd j r) (hs : Bd k s) (l : j + k ≤ 8000) : D5 [fr r, fr s] = some (fr (r * s)) := by
 refine A9 (ρ := [‹fr r›, ‹fr s›]) rfl ?_
 simp only [aN7, B2, A2, A0, A3, A4, ix0 (v0 _ _), ix1 (v0 _ _), ix0 (v1 _ _ _), ix1 (v1 _ _ _), xbs, xms, P3 (hr.sn (by omega)) (hs.sn (by omega)), P3 (hr.sd (by omega)) (hs.sd (by omega))]
 have := aH9 (r.num.natAbs * s.num.natAbs) (r.den * s.den) (j + k) (Nat.mul_pos (M1 r) (M1 s)) (N0 hr.den hs.den) l
 rw [← aQ0 hr hs, Int.natCast_mul, Int.natCast_mul, ← hr.nat, ← hs.nat] at this
 rw [this]; rfl
theorem P6 {j k : Nat} {r s : Rat} (hr : Bd j r) (hs : Bd k s) (l : j + k ≤ 8000) : J0 [fr r, fr s] = some (fr (r + s)) := by
 refine A9 (ρ := [‹fr r›, ‹fr s›]) rfl ?_
 simp only [bc4, B2, A2, A0, A3, A4, ix0 (v0 _ _), ix1 (v0 _ _), ix0 (v1 _ _ _), ix1 (v1 _ _ _), xbs, xms, P3 (hr.sn (by omega)) (hs.sd (by omega)), P3 (hs.sn (by omega)) (hr.sd (by omega)), P3 (hr.sd (by omega)) (hs.sd (by omega)), W9]
 have := aH9 (r.num.natAbs * s.den + s.num.natAbs * r.den) (r.den * s.den) (j + k) (Nat.mul_pos (M1 r) (M1 s)) (N0 hr.den hs.den) l
 rw [← aQ1 hr hs, Int.natCast_add, Int.natCast_mul, Int.natCast_mul, Int.natCast_mul, ← hr.nat, ← hs.nat] at this
 rw [this]; rfl
theorem aj7 {k : Nat} {s : Rat} (hs : Bd k s) (l : k + 1 ≤ 8000) (hl : s ≤ 1) : S3 [fr s] = some (fr (1 - s)) := by
 refine A9 (ρ := [‹fr s›]) rfl ?_
 simp only [bc3, B2, A2, A0, A3, A4, ix0 (v0 _ _), ix1 (v0 _ _), xbs, xms, V5]
 have l0 := aO6 Bd.one hs hl
 have e0 : (1 : Rat).num.natAbs = 1 := rfl
 have e1 : (1 : Rat).den = 1 := rfl
 rw [e0, e1, Nat.one_mul, Nat.mul_one] at l0
 have := aH9 (s.den - s.num.natAbs) s.den k (M1 s) hs.den (by omega)
 have e := aA7 Bd.one hs hl
 rw [e0, e1, Nat.one_mul, Nat.mul_one] at e
 rw [← e, Int.ofNat_sub l0, ← hs.nat] at this
 rw [this]; rfl
def aM9 (ns : List Int) (k : Nat) : Int := if ns.length = 0 then 7 * (k : Int) else ns.getD (k % ns.length) 0 + 6553 * ((k / ns.length : Nat) : Int)
theorem bP2 (ns : List Int) : eqD (.list (ns.map PyData.int)) (.list []) = some (.bool (decide (ns.length = 0))) := by
 have h1 : SeqAt.shaped (.list (ns.map PyData.int)) = true := by
  have c : ∀ l : List Int, PyData.canLayAll0 (l.map PyData.int) = true := fun l => by
   induction l with
   | nil => rfl
   | cons a r ih => simp only [xmc, PyData.canLayAll0, PyData.canLay0, ih]; rfl
  have d : ∀ l : List Int, PyData.depthAll (l.map PyData.int) = 0 := fun l => by
   induction l with
   | nil => rfl
   | cons a r ih => simp only [xmc, PyData.depthAll, PyData.depth, ih]; rfl
  unfold SeqAt.shaped
  simp only [PyData.canLay0, c, PyData.depth, d]
  rfl
 unfold eqD
 rw [if_pos ⟨h1, rfl⟩]
 cases ns with
 | nil => rfl
 | cons a r => simp [PyData.eqv, PyData.eqvAll]
theorem cB6 (ns : List Int) (k : Nat) (hn : ns.length ≤ 63) (hk : k < 2 ^ 60) : au3 [.list (ns.map PyData.int), .int k] = some (.int (aM9 ns k)) := by
 refine A9 (ρ := [‹.list (ns.map PyData.int)›, ‹.int k›]) rfl ?_
 have sk : L0 (k : Int) := S9 hk (by decide)
 by_cases h : ns.length = 0
 ·have e : aM9 ns k = 7 * (k : Int) := by unfold aM9; rw [if_pos h]
  simp only [aH6, A6, B3, B2, sIf, J2, N5, V9, A1, dC, J1, T4, A4, A2, as6, aa2, dOr, ae5, M5, dIx, aa1, i5, L8, ae7, X8, ae6, A5, qE, qN, ab9, O1, L3, W8, A3, A0, S0, tB2, V4, f6, O5, x6, N9, D6, P5, n5, G0, A8, K6, B0, L5, L4, L6, ah0, z7, xg0, xg1, xw0, xw1, xbs, xms, xmc, xmn, xna, xca, W9, V5, ag8, ag6, aa0, ak8, ae4, aI3, aE6, aI2, am8, al4, al3, al2, al1, al7, al6, al5, ae9, ae8, xnt, xnf, xft, if_true, if_false, ite_true, ite_false, bP2, h, decide_true, P3 (i := 7) (N3 (k := 3) (by decide) (by decide)) sk, e]
 ·have e : aM9 ns k = ns.getD (k % ns.length) 0 + 6553 * ((k / ns.length : Nat) : Int) := by unfold aM9; rw [if_neg h]
  have hl : (List.map PyData.int ns).length = ns.length := List.length_map ..
  have hp : 0 < ns.length := Nat.pos_of_ne_zero h
  have m1 : U1 (.int k) (.int ns.length) = some (.int ((k % ns.length : Nat) : Int)) := by rw [am3 (by omega)]; simp
  have m2 : X7 (.int k) (.int ns.length) = some (.int ((k / ns.length : Nat) : Int)) := by rw [am7 (by omega) (S9 (k := 6) (by omega) (by decide))]; simp
  have m3 : L2.atI (List.map PyData.int ns) ((k % ns.length : Nat) : Int) = some (.int (ns.getD (k % ns.length) 0)) := by
   refine L2.ce8 ?_
   have hlt : k % ns.length < ns.length := Nat.mod_lt _ hp
   rw [List.getElem?_map, List.getElem?_eq_getElem hlt]
   simp [List.getD, hlt]
  have sq : L0 ((k / ns.length : Nat) : Int) := S9 (k := 60) (Nat.lt_of_le_of_lt (Nat.div_le_self _ _) hk) (by decide)
  simp only [aH6, A6, B3, B2, sIf, J2, N5, V9, A1, dC, J1, T4, A4, A2, as6, aa2, dOr, ae5, M5, dIx, aa1, i5, L8, ae7, X8, ae6, A5, qE, qN, ab9, O1, L3, W8, A3, A0, S0, tB2, V4, f6, O5, x6, N9, D6, P5, n5, G0, A8, K6, B0, L5, L4, L6, ah0, z7, xg0, xg1, xw0, xw1, xbs, xms, xmc, xmn, xna, xca, W9, V5, ag8, ag6, aa0, ak8, ae4, aI3, aE6, aI2, am8, al4, al3, al2, al1, al7, al6, al5, ae9, ae8, xnt, xnf, xft, if_true, if_false, ite_true, ite_false, bP2, h, decide_false, hl, m1, m2, m3, P3 (i := 6553) (N3 (k := 13) (by decide) (by decide)) sq, e]
def ar4 (ns : List Int) (k : Nat) (m : Int) : Int :=
 let c := (aM9 ns k % 2147483563 * 69069 + 104723 * ((k : Int) + 1)) % 2147483563
 let c := (c * c + c / 3) % 2147483399
 (c * c + c / 7) % 2147483647 / 11 % m
theorem aD0 {i : Int} (h0 : 0 ≤ i) (h : i < 4294967296) : L0 i := N3 (k := 32) (by omega) (by decide)
theorem aC8 (ns : List Int) (k : Nat) (m : Int) (hn : ns.length ≤ 63) (hk : k < 2 ^ 60) (hm : 0 < m) : A7 [.list (ns.map PyData.int), .int k, .int m] = some (.int (ar4 ns k m)) := by
 refine A9 (ρ := [‹.list (ns.map PyData.int)›, ‹.int k›, ‹.int m›, none]) rfl ?_
 have c0 : ∀ x : Int, L0 (x % 2147483563) := fun x => aD0 (by omega) (by omega)
 have c1 : ∀ x : Int, L0 (x % 2147483399) := fun x => aD0 (by omega) (by omega)
 have sk : L0 ((k : Int) + 1) := N3 (k := 61) (by omega) (by decide)
 have s1 : L0 69069 := N3 (k := 17) (by decide) (by decide)
 have s2 : L0 104723 := N3 (k := 17) (by decide) (by decide)
 have s3 : L0 3 := N3 (k := 2) (by decide) (by decide)
 have s7 : L0 7 := N3 (k := 3) (by decide) (by decide)
 have s11 : L0 11 := N3 (k := 4) (by decide) (by decide)
 simp only [aO1, A6, B3, B2, sIf, J2, N5, V9, A1, dC, J1, T4, A4, A2, as6, aa2, dOr, ae5, M5, dIx, aa1, i5, L8, ae7, X8, ae6, A5, qE, qN, ab9, O1, L3, W8, A3, A0, S0, tB2, V4, f6, O5, x6, N9, D6, P5, n5, G0, A8, K6, B0, L5, L4, L6, ah0, z7, xg0, xg1, xw0, xw1, xbs, xms, xmc, xmn, xna, xca, W9, V5, ag8, ag6, aa0, ak8, ae4, aI3, aE6, aI2, am8, al4, al3, al2, al1, al7, al6, al5, ae9, ae8, xnt, xnf, xft, if_true, if_false, ite_true, ite_false, cB6 ns k hn hk, am3 (show (0 : Int) < 2147483563 by decide), am3 (show (0 : Int) < 2147483399 by decide), am3 (show (0 : Int) < 2147483647 by decide), am3 hm, P3 (c0 _) s1, P3 s2 sk, P3 (c0 _) (c0 _), P3 (c1 _) (c1 _), am7 (show (0 : Int) < 3 by decide) s3, am7 (show (0 : Int) < 7 by decide) s7, am7 (show (0 : Int) < 11 by decide) s11]
 rfl
theorem aB3 (ns : List Int) (k : Nat) (m : Int) (hm : 0 < m) : 0 ≤ ar4 ns k m ∧ ar4 ns k m < m := by
 unfold ar4
 exact ⟨Int.emod_nonneg _ (by omega), Int.emod_lt_of_pos _ hm⟩
structure IsSh (k : Nat) (r : Rat) : Prop where
 bd : Bd k r
 le : r ≤ 1
theorem bw9 {a b : Nat} (hb : 0 < b) (h : a ≤ b) : mkRat (a : Int) b ≤ 1 := by
 rw [Rat.le_iff, Rat.num_mkRat, Rat.den_mkRat, if_neg (by omega), if_neg (by omega)]
 have e0 : (1 : Rat).num = 1 := rfl
 have e1 : (1 : Rat).den = 1 := rfl
 rw [e0, e1]
 have : a / b.gcd a ≤ b / b.gcd a := Nat.div_le_div_right h
 simp
 exact_mod_cast this
theorem ak1 (ns : List Int) (at' : Nat) (hn : ns.length ≤ 63) (hk : at' < 2 ^ 40) : ∃ r, O3 [.list (ns.map PyData.int), .int at'] = some (fr r) ∧ IsSh 4 r := by
 obtain ⟨u0, u1⟩ := aB3 ns at' 12 (by decide)
 obtain ⟨u, hu⟩ : ∃ u : Nat, (1 : Int) + ar4 ns at' 12 = u ∧ 0 < u ∧ u ≤ 12 := ⟨(1 + ar4 ns at' 12).toNat, by omega, by omega, by omega⟩
 obtain ⟨t0, t1⟩ := aB3 ns (at' + 1) ((u : Int) + 1) (by omega)
 obtain ⟨t, ht⟩ : ∃ t : Nat, ar4 ns (at' + 1) ((u : Int) + 1) = t ∧ t ≤ u := ⟨(ar4 ns (at' + 1) ((u : Int) + 1)).toNat, by omega, by omega⟩
 obtain ⟨p0, p1⟩ := aB3 ns (at' + 2) 5 (by decide)
 have hs : IsSh 4 (mkRat (t : Int) u) := ⟨Bd.of (by omega) (by omega) (by omega), bw9 (by omega) (by omega)⟩
 have e1 := aC8 ns at' 12 hn (by omega) (by decide)
 have e2 := aC8 ns (at' + 1) ((u : Int) + 1) hn (by omega) (by omega)
 have e3 := aC8 ns (at' + 2) 5 hn (by omega) (by decide)
 have e4 := aH9 t u 4 (by omega) (by omega) (by decide)
 have c1 : ((at' : Int) + 1) = ((at' + 1 : Nat) : Int) := by omega
 have c2 : ((at' : Int) + 2) = ((at' + 2 : Nat) : Int) := by omega
 rw [ht.1] at e2
 have pick : ∀ (j : Int), 0 ≤ j → j < 5 → ∃ r, L2.atI [fr (mkRat (t : Int) u), fr (mkRat (t : Int) u), fr (mkRat (t : Int) u), .tuple [.int 0, .int 1], .tuple [.int 1, .int 1]] j = some (fr r) ∧ IsSh 4 r := fun j h0 h5 => by
  have : j = 0 ∨ j = 1 ∨ j = 2 ∨ j = 3 ∨ j = 4 := by omega
  rcases this with rfl | rfl | rfl | rfl | rfl
  ·exact ⟨_, rfl, hs⟩
  ·exact ⟨_, rfl, hs⟩
  ·exact ⟨_, rfl, hs⟩
  ·exact ⟨0, rfl, Bd.zero.mono (by decide), by decide⟩
  ·exact ⟨1, rfl, Bd.one.mono (by decide), by decide⟩
 obtain ⟨r, hr1, hr2⟩ := pick _ p0 p1
 refine ⟨r, A9 (ρ := [‹.list (ns.map PyData.int)›, ‹.int at'›, none, none]) rfl ?_, hr2⟩
 simp only [aN8, A6, B3, B2, sIf, J2, N5, V9, A1, dC, J1, T4, A4, A2, as6, aa2, dOr, ae5, M5, dIx, aa1, i5, L8, ae7, X8, ae6, A5, qE, qN, ab9, O1, L3, W8, A3, A0, S0, tB2, V4, f6, O5, x6, N9, D6, P5, n5, G0, A8, K6, B0, L5, L4, L6, ah0, z7, xg0, xg1, xw0, xw1, xbs, xms, xmc, xmn, xna, xca, W9, V5, ag8, ag6, aa0, ak8, ae4, aI3, aE6, aI2, am8, al4, al3, al2, al1, al7, al6, al5, ae9, ae8, xnt, xnf, xft, if_true, if_false, ite_true, ite_false, e1, hu.1, c1, c2, e2, e3, e4, hr1]
end Sh
namespace Sh
open PySem G L2
def sp (c x y z : Rat) : D := .tuple [fr c, fr x, fr y, fr z]
structure Spot (k : Nat) (c x y z : Rat) : Prop where
 hc : IsSh k c
 hx : Bd k x
 hy : Bd k y
 hz : Bd k z
 xc : x ≤ c
 yc : y ≤ c
 zc : z ≤ c
theorem IsSh.mono {j k : Nat} {r : Rat} (h : IsSh j r) (l : j ≤ k) : IsSh k r := ⟨h.bd.mono l, h.le⟩
theorem Spot.mono {j k : Nat} {c x y z : Rat} (h : Spot j c x y z) (l : j ≤ k) : Spot k c x y z := ⟨h.hc.mono l, h.hx.mono l, h.hy.mono l, h.hz.mono l, h.xc, h.yc, h.zc⟩
theorem Z3 {c r : Rat} (hc : 0 ≤ c) (hr : r ≤ 1) : c * r ≤ c := by
 have := Rat.mul_le_mul_of_nonneg_right hr hc
 grind
theorem cK9 : w6 0 3 = [.int 0, .int 1, .int 2] := rfl
theorem cB4 (ns : List Int) (k : Nat) (hn : ns.length ≤ 63) (hk : k < 2 ^ 30) : ∃ c x y z, k8 [.list (ns.map PyData.int), .int k] = some (sp c x y z) ∧ Spot 8 c x y z := by
 obtain ⟨c, ec, hc⟩ := ak1 ns k hn (by omega)
 obtain ⟨a0, e0, h0⟩ := ak1 ns (k + 3) hn (by omega)
 obtain ⟨a1, e1, h1⟩ := ak1 ns (k + 6) hn (by omega)
 obtain ⟨a2, e2, h2⟩ := ak1 ns (k + 9) hn (by omega)
 refine ⟨c, c * a0, c * a1, c * a2, ?_, ⟨hc.mono (by decide), hc.bd.mul h0.bd, hc.bd.mul h1.bd, hc.bd.mul h2.bd, Z3 hc.bd.nn h0.le, Z3 hc.bd.nn h1.le, Z3 hc.bd.nn h2.le⟩⟩
 refine A9 (ρ := [‹.list (ns.map PyData.int)›, ‹.int k›, none]) rfl ?_
 have i0 : (k : Int) + 3 + 3 * 0 = ((k + 3 : Nat) : Int) := by omega
 have i1 : (k : Int) + 3 + 3 * 1 = ((k + 6 : Nat) : Int) := by omega
 have i2 : (k : Int) + 3 + 3 * 2 = ((k + 9 : Nat) : Int) := by omega
 have s0 : L0 0 := N3 (k := 2) (by decide) (by decide)
 have s1 : L0 1 := N3 (k := 2) (by decide) (by decide)
 have s2 : L0 2 := N3 (k := 2) (by decide) (by decide)
 have s3 : L0 3 := N3 (k := 2) (by decide) (by decide)
 have m0 := P3 s3 s0
 have m1 := P3 s3 s1
 have m2 := P3 s3 s2
 have r3 : ((-(2 ^ 62) : Int) ≤ 3 ∧ (3 : Int) < 2 ^ 62) := by decide
 have l3 : ([PyData.int 0, .int 1, .int 2] : List D).length ≤ 16777216 := by decide
 have ct : ∀ a b c d : D, m9 (.tuple [a]) (.tuple [b, c, d]) = some (.tuple [a, b, c, d]) := fun a b c d => rfl
 simp only [bc2, A6, B3, B2, sIf, J2, N5, V9, A1, dC, J1, T4, A4, A2, as6, aa2, dOr, ae5, M5, dIx, aa1, i5, L8, ae7, X8, ae6, A5, qE, qN, ab9, O1, L3, W8, A3, A0, S0, tB2, V4, f6, O5, x6, N9, D6, P5, n5, G0, A8, K6, B0, L5, L4, L6, ah0, z7, xg0, xg1, xw0, xw1, xbs, xms, xmc, xmn, xna, xca, W9, V5, ag8, ag6, aa0, ak8, ae4, aI3, aE6, aI2, am8, al4, al3, al2, al1, al7, al6, al5, ae9, ae8, xnt, xnf, xft, if_true, if_false, ite_true, ite_false, ec, r3, and_self, cK9, l3, m0, m1, m2, i0, i1, i2, e0, e1, e2, M2 hc.bd h0.bd (by decide), M2 hc.bd h1.bd (by decide), M2 hc.bd h2.bd (by decide), ct, sp]
end Sh
local macro_rules
  | `(tactic| wp_walk using evA) => `(tactic| simp only [G.A6, G.B3, G.B2, G.sIf, G.J2, G.N5, G.V9, G.A1, G.dC, G.J1, G.T4, G.A4, G.A2, G.as6, G.aa2, G.dOr, G.ae5, G.M5, G.dIx, G.aa1, G.i5, G.L8, G.ae7, G.X8, G.ae6, G.A5, G.qE, G.qN, G.ab9, G.O1, G.L3, G.W8, G.A3, G.A0, G.S0, G.tB2, G.V4, G.f6, G.O5, G.x6, G.N9, G.D6, G.P5, G.n5, G.G0, G.A8, G.K6, G.B0, G.L5, G.L4, G.L6, G.ah0, G.z7, G.xg0, G.xg1, G.xw0, G.xw1, G.xbs, G.xms, G.xmc, G.xmn, G.xna, G.xca, Sh.W9, Sh.V5, Sh.ag8, Sh.ag6, Sh.aa0, Sh.ak8, Sh.ae4, Sh.aI3, Sh.aE6, Sh.aI2, Sh.am8, Sh.al4, Sh.al3, Sh.al2, Sh.al1, Sh.al7, Sh.al6, Sh.al5, Sh.ae9, Sh.ae8, G.xnt, G.xnf, G.xft, if_true, if_false, ite_true, ite_false])
  | `(tactic| wp_walk using evA, $ts,*) => `(tactic| simp only [G.A6, G.B3, G.B2, G.sIf, G.J2, G.N5, G.V9, G.A1, G.dC, G.J1, G.T4, G.A4, G.A2, G.as6, G.aa2, G.dOr, G.ae5, G.M5, G.dIx, G.aa1, G.i5, G.L8, G.ae7, G.X8, G.ae6, G.A5, G.qE, G.qN, G.ab9, G.O1, G.L3, G.W8, G.A3, G.A0, G.S0, G.tB2, G.V4, G.f6, G.O5, G.x6, G.N9, G.D6, G.P5, G.n5, G.G0, G.A8, G.K6, G.B0, G.L5, G.L4, G.L6, G.ah0, G.z7, G.xg0, G.xg1, G.xw0, G.xw1, G.xbs, G.xms, G.xmc, G.xmn, G.xna, G.xca, Sh.W9, Sh.V5, Sh.ag8, Sh.ag6, Sh.aa0, Sh.ak8, Sh.ae4, Sh.aI3, Sh.aE6, Sh.aI2, Sh.am8, Sh.al4, Sh.al3, Sh.al2, Sh.al1, Sh.al7, Sh.al6, Sh.al5, Sh.ae9, Sh.ae8, G.xnt, G.xnf, G.xft, if_true, if_false, ite_true, ite_false, $[$ts:term],*])
local macro_rules
  | `(tactic| wp_walk using evB) => `(tactic| simp only [G.A6, G.B3, G.B2, G.sIf, G.J2, G.N5, G.V9, G.A1, G.dC, G.J1, G.T4, G.A4, G.A2, G.aa2, G.dOr, G.ae5, G.M5, G.dIx, G.i5, G.L8, G.ae7, G.X8, G.ae6, G.A5, G.qE, G.qN, G.ab9, G.O1, G.L3, G.W8, G.A3, G.A0, G.S0, G.tB2, G.V4, G.f6, G.O5, G.x6, G.N9, G.G0, G.A8, G.K6, G.B0, G.L5, G.L4, G.z7, G.xg0, G.xg1, G.xw0, G.xw1, G.xbs, G.xms, G.xmc, G.xmn, G.xna, G.xca, Sh.W9, Sh.V5, Sh.ag8, Sh.ag6, Sh.aa0, Sh.ak8, Sh.ae4, Sh.al4, Sh.al3, Sh.al2, Sh.al1, Sh.al7, Sh.al6, Sh.al5, Sh.ae9, Sh.ae8, G.xnt, G.xnf, G.xft, if_true, if_false])
  | `(tactic| wp_walk using evB, $ts,*) => `(tactic| simp only [G.A6, G.B3, G.B2, G.sIf, G.J2, G.N5, G.V9, G.A1, G.dC, G.J1, G.T4, G.A4, G.A2, G.aa2, G.dOr, G.ae5, G.M5, G.dIx, G.i5, G.L8, G.ae7, G.X8, G.ae6, G.A5, G.qE, G.qN, G.ab9, G.O1, G.L3, G.W8, G.A3, G.A0, G.S0, G.tB2, G.V4, G.f6, G.O5, G.x6, G.N9, G.G0, G.A8, G.K6, G.B0, G.L5, G.L4, G.z7, G.xg0, G.xg1, G.xw0, G.xw1, G.xbs, G.xms, G.xmc, G.xmn, G.xna, G.xca, Sh.W9, Sh.V5, Sh.ag8, Sh.ag6, Sh.aa0, Sh.ak8, Sh.ae4, Sh.al4, Sh.al3, Sh.al2, Sh.al1, Sh.al7, Sh.al6, Sh.al5, Sh.ae9, Sh.ae8, G.xnt, G.xnf, G.xft, if_true, if_false, $[$ts:term],*])
local macro_rules
  | `(tactic| wp_walk using evC) => `(tactic| simp only [G.A6, G.B3, G.B2, G.sIf, G.J2, G.N5, G.V9, G.A1, G.dC, G.J1, G.T4, G.A4, G.A2, G.as6, G.aa2, G.dOr, G.ae5, G.M5, G.dIx, G.aa1, G.i5, G.L8, G.ae7, G.X8, G.ae6, G.A5, G.qE, G.qN, G.ab9, G.O1, G.L3, G.W8, G.A3, G.A0, G.S0, G.tB2, G.V4, G.f6, G.O5, G.x6, G.N9, G.D6, G.P5, G.n5, G.G0, G.A8, G.K6, G.B0, G.L5, G.L4, G.L6, G.ah0, G.z7, G.xg0, G.xg1, G.xw0, G.xw1, G.xbs, G.xms, G.xmc, G.xmn, G.xna, G.xca, Sh.W9, Sh.V5, Sh.ag8, Sh.ag6, Sh.aa0, Sh.ak8, Sh.ae4, Sh.aI3, Sh.aE6, Sh.aI2, Sh.am8, Sh.al4, Sh.al3, Sh.al2, Sh.al1, Sh.al7, Sh.al6, Sh.al5, Sh.ae9, Sh.ae8, G.xnt, G.xnf, G.xft, if_true, if_false, ite_true, ite_false, G.ad7, G.ak7])
  | `(tactic| wp_walk using evC, $ts,*) => `(tactic| simp only [G.A6, G.B3, G.B2, G.sIf, G.J2, G.N5, G.V9, G.A1, G.dC, G.J1, G.T4, G.A4, G.A2, G.as6, G.aa2, G.dOr, G.ae5, G.M5, G.dIx, G.aa1, G.i5, G.L8, G.ae7, G.X8, G.ae6, G.A5, G.qE, G.qN, G.ab9, G.O1, G.L3, G.W8, G.A3, G.A0, G.S0, G.tB2, G.V4, G.f6, G.O5, G.x6, G.N9, G.D6, G.P5, G.n5, G.G0, G.A8, G.K6, G.B0, G.L5, G.L4, G.L6, G.ah0, G.z7, G.xg0, G.xg1, G.xw0, G.xw1, G.xbs, G.xms, G.xmc, G.xmn, G.xna, G.xca, Sh.W9, Sh.V5, Sh.ag8, Sh.ag6, Sh.aa0, Sh.ak8, Sh.ae4, Sh.aI3, Sh.aE6, Sh.aI2, Sh.am8, Sh.al4, Sh.al3, Sh.al2, Sh.al1, Sh.al7, Sh.al6, Sh.al5, Sh.ae9, Sh.ae8, G.xnt, G.xnf, G.xft, if_true, if_false, ite_true, ite_false, G.ad7, G.ak7, $[$ts:term],*])
local macro_rules
  | `(tactic| wp_walk using evD) => `(tactic| simp only [G.A6, G.B3, G.B2, G.sIf, G.J2, G.N5, G.V9, G.A1, G.dC, G.J1, G.T4, G.A4, G.A2, G.aa2, G.dOr, G.ae5, G.M5, G.dIx, G.i5, G.L8, G.ae7, G.X8, G.ae6, G.A5, G.qE, G.qN, G.ab9, G.O1, G.L3, G.W8, G.A3, G.A0, G.S0, G.tB2, G.V4, G.f6, G.O5, G.x6, G.N9, G.G0, G.A8, G.K6, G.B0, G.L5, G.L4, G.z7, G.xg0, G.xg1, G.xw0, G.xw1, G.xbs, G.xms, G.xmc, G.xmn, G.xna, G.xca, Sh.W9, Sh.V5, Sh.ag8, Sh.ag6, Sh.aa0, Sh.ak8, Sh.ae4, Sh.al4, Sh.al3, Sh.al2, Sh.al1, Sh.al7, Sh.al6, Sh.al5, Sh.ae9, Sh.ae8, G.xnt, G.xnf, G.xft, if_true, if_false, G.ad7, G.ak7])
  | `(tactic| wp_walk using evD, $ts,*) => `(tactic| simp only [G.A6, G.B3, G.B2, G.sIf, G.J2, G.N5, G.V9, G.A1, G.dC, G.J1, G.T4, G.A4, G.A2, G.aa2, G.dOr, G.ae5, G.M5, G.dIx, G.i5, G.L8, G.ae7, G.X8, G.ae6, G.A5, G.qE, G.qN, G.ab9, G.O1, G.L3, G.W8, G.A3, G.A0, G.S0, G.tB2, G.V4, G.f6, G.O5, G.x6, G.N9, G.G0, G.A8, G.K6, G.B0, G.L5, G.L4, G.z7, G.xg0, G.xg1, G.xw0, G.xw1, G.xbs, G.xms, G.xmc, G.xmn, G.xna, G.xca, Sh.W9, Sh.V5, Sh.ag8, Sh.ag6, Sh.aa0, Sh.ak8, Sh.ae4, Sh.al4, Sh.al3, Sh.al2, Sh.al1, Sh.al7, Sh.al6, Sh.al5, Sh.ae9, Sh.ae8, G.xnt, G.xnf, G.xft, if_true, if_false, G.ad7, G.ak7, $[$ts:term],*])
namespace Sh
open PySem G L2
theorem B5 {x y : Str} {b : Bool} (hx : PyData.canLay0 (.str x) = true) (hy : PyData.canLay0 (.str y) = true) (e : (x == y) = b) : eqD (.str x) (.str y) = some (.bool b) := by
 unfold eqD
 have s : ∀ z : Str, PyData.canLay0 (.str z) = true → SeqAt.shaped (.str z) = true := fun z h => by unfold SeqAt.shaped; rw [h]; rfl
 rw [if_pos ⟨s x hx, s y hy⟩]
 show some (PyData.bool (x == y)) = _
 rw [e]
theorem U6 {x y : Str} {b : Bool} (hx : PyData.canLay0 (.str x) = true) (hy : PyData.canLay0 (.str y) = true) (e : (!(x == y)) = b) : neD (.str x) (.str y) = some (.bool b) := by
 unfold neD
 have s : ∀ z : Str, PyData.canLay0 (.str z) = true → SeqAt.shaped (.str z) = true := fun z h => by unfold SeqAt.shaped; rw [h]; rfl
 rw [if_pos ⟨s x hx, s y hy⟩]
 show some (PyData.bool (!(x == y))) = _
 rw [e]
theorem E9 : eqD (.str "over") (.str "over") = some (.bool true) := B5 (by decide +kernel) (by decide +kernel) (by decide +kernel)
theorem J5 : eqD (.str "over") (.str "multiply") = some (.bool false) := B5 (by decide +kernel) (by decide +kernel) (by decide +kernel)
theorem C2 : eqD (.str "over") (.str "screen") = some (.bool false) := B5 (by decide +kernel) (by decide +kernel) (by decide +kernel)
theorem E8 : eqD (.str "over") (.str "plus") = some (.bool false) := B5 (by decide +kernel) (by decide +kernel) (by decide +kernel)
theorem F0 : eqD (.str "over") (.str "atop") = some (.bool false) := B5 (by decide +kernel) (by decide +kernel) (by decide +kernel)
theorem G3 : eqD (.str "over") (.str "cut") = some (.bool false) := B5 (by decide +kernel) (by decide +kernel) (by decide +kernel)
theorem J7 : eqD (.str "multiply") (.str "over") = some (.bool false) := B5 (by decide +kernel) (by decide +kernel) (by decide +kernel)
theorem M4 : eqD (.str "multiply") (.str "multiply") = some (.bool true) := B5 (by decide +kernel) (by decide +kernel) (by decide +kernel)
theorem F4 : eqD (.str "multiply") (.str "screen") = some (.bool false) := B5 (by decide +kernel) (by decide +kernel) (by decide +kernel)
theorem J6 : eqD (.str "multiply") (.str "plus") = some (.bool false) := B5 (by decide +kernel) (by decide +kernel) (by decide +kernel)
theorem J8 : eqD (.str "multiply") (.str "atop") = some (.bool false) := B5 (by decide +kernel) (by decide +kernel) (by decide +kernel)
theorem K7 : eqD (.str "multiply") (.str "cut") = some (.bool false) := B5 (by decide +kernel) (by decide +kernel) (by decide +kernel)
theorem B8 : eqD (.str "screen") (.str "over") = some (.bool false) := B5 (by decide +kernel) (by decide +kernel) (by decide +kernel)
theorem E4 : eqD (.str "screen") (.str "multiply") = some (.bool false) := B5 (by decide +kernel) (by decide +kernel) (by decide +kernel)
theorem B1 : eqD (.str "screen") (.str "screen") = some (.bool true) := B5 (by decide +kernel) (by decide +kernel) (by decide +kernel)
theorem B7 : eqD (.str "screen") (.str "plus") = some (.bool false) := B5 (by decide +kernel) (by decide +kernel) (by decide +kernel)
theorem B9 : eqD (.str "screen") (.str "atop") = some (.bool false) := B5 (by decide +kernel) (by decide +kernel) (by decide +kernel)
theorem D0 : eqD (.str "screen") (.str "cut") = some (.bool false) := B5 (by decide +kernel) (by decide +kernel) (by decide +kernel)
theorem E6 : eqD (.str "plus") (.str "over") = some (.bool false) := B5 (by decide +kernel) (by decide +kernel) (by decide +kernel)
theorem J4 : eqD (.str "plus") (.str "multiply") = some (.bool false) := B5 (by decide +kernel) (by decide +kernel) (by decide +kernel)
theorem C1 : eqD (.str "plus") (.str "screen") = some (.bool false) := B5 (by decide +kernel) (by decide +kernel) (by decide +kernel)
theorem E5 : eqD (.str "plus") (.str "plus") = some (.bool true) := B5 (by decide +kernel) (by decide +kernel) (by decide +kernel)
theorem E7 : eqD (.str "plus") (.str "atop") = some (.bool false) := B5 (by decide +kernel) (by decide +kernel) (by decide +kernel)
theorem G2 : eqD (.str "plus") (.str "cut") = some (.bool false) := B5 (by decide +kernel) (by decide +kernel) (by decide +kernel)
theorem F8 : eqD (.str "atop") (.str "over") = some (.bool false) := B5 (by decide +kernel) (by decide +kernel) (by decide +kernel)
theorem K0 : eqD (.str "atop") (.str "multiply") = some (.bool false) := B5 (by decide +kernel) (by decide +kernel) (by decide +kernel)
theorem C3 : eqD (.str "atop") (.str "screen") = some (.bool false) := B5 (by decide +kernel) (by decide +kernel) (by decide +kernel)
theorem F7 : eqD (.str "atop") (.str "plus") = some (.bool false) := B5 (by decide +kernel) (by decide +kernel) (by decide +kernel)
theorem F9 : eqD (.str "atop") (.str "atop") = some (.bool true) := B5 (by decide +kernel) (by decide +kernel) (by decide +kernel)
theorem G7 : eqD (.str "atop") (.str "cut") = some (.bool false) := B5 (by decide +kernel) (by decide +kernel) (by decide +kernel)
theorem G5 : eqD (.str "cut") (.str "over") = some (.bool false) := B5 (by decide +kernel) (by decide +kernel) (by decide +kernel)
theorem K8 : eqD (.str "cut") (.str "multiply") = some (.bool false) := B5 (by decide +kernel) (by decide +kernel) (by decide +kernel)
theorem D4 : eqD (.str "cut") (.str "screen") = some (.bool false) := B5 (by decide +kernel) (by decide +kernel) (by decide +kernel)
theorem G4 : eqD (.str "cut") (.str "plus") = some (.bool false) := B5 (by decide +kernel) (by decide +kernel) (by decide +kernel)
theorem G6 : eqD (.str "cut") (.str "atop") = some (.bool false) := B5 (by decide +kernel) (by decide +kernel) (by decide +kernel)
theorem J9 : eqD (.str "cut") (.str "cut") = some (.bool true) := B5 (by decide +kernel) (by decide +kernel) (by decide +kernel)
theorem E2 : eqD (.str "turn") (.str "turn") = some (.bool true) := B5 (by decide +kernel) (by decide +kernel) (by decide +kernel)
theorem E3 : eqD (.str "turn") (.str "grey") = some (.bool false) := B5 (by decide +kernel) (by decide +kernel) (by decide +kernel)
theorem C9 : eqD (.str "turn") (.str "round") = some (.bool false) := B5 (by decide +kernel) (by decide +kernel) (by decide +kernel)
theorem F5 : eqD (.str "grey") (.str "turn") = some (.bool false) := B5 (by decide +kernel) (by decide +kernel) (by decide +kernel)
theorem F6 : eqD (.str "grey") (.str "grey") = some (.bool true) := B5 (by decide +kernel) (by decide +kernel) (by decide +kernel)
theorem D3 : eqD (.str "grey") (.str "round") = some (.bool false) := B5 (by decide +kernel) (by decide +kernel) (by decide +kernel)
theorem D1 : eqD (.str "round") (.str "turn") = some (.bool false) := B5 (by decide +kernel) (by decide +kernel) (by decide +kernel)
theorem D2 : eqD (.str "round") (.str "grey") = some (.bool false) := B5 (by decide +kernel) (by decide +kernel) (by decide +kernel)
theorem C0 : eqD (.str "round") (.str "round") = some (.bool true) := B5 (by decide +kernel) (by decide +kernel) (by decide +kernel)
theorem D7 : neD (.str "turn") (.str "turn") = some (.bool false) := U6 (by decide +kernel) (by decide +kernel) (by decide +kernel)
theorem D8 : neD (.str "turn") (.str "grey") = some (.bool true) := U6 (by decide +kernel) (by decide +kernel) (by decide +kernel)
theorem C5 : neD (.str "turn") (.str "round") = some (.bool true) := U6 (by decide +kernel) (by decide +kernel) (by decide +kernel)
theorem D9 : neD (.str "grey") (.str "turn") = some (.bool true) := U6 (by decide +kernel) (by decide +kernel) (by decide +kernel)
theorem E1 : neD (.str "grey") (.str "grey") = some (.bool false) := U6 (by decide +kernel) (by decide +kernel) (by decide +kernel)
theorem C8 : neD (.str "grey") (.str "round") = some (.bool true) := U6 (by decide +kernel) (by decide +kernel) (by decide +kernel)
theorem C6 : neD (.str "round") (.str "turn") = some (.bool true) := U6 (by decide +kernel) (by decide +kernel) (by decide +kernel)
theorem C7 : neD (.str "round") (.str "grey") = some (.bool true) := U6 (by decide +kernel) (by decide +kernel) (by decide +kernel)
theorem B6 : neD (.str "round") (.str "round") = some (.bool false) := U6 (by decide +kernel) (by decide +kernel) (by decide +kernel)
inductive Man where
 | over | mult | screen | plus | atop | cut
def Man.s : Man → Str
 | .over => "over"
 | .mult => "multiply"
 | .screen => "screen"
 | .plus => "plus"
 | .atop => "atop"
 | .cut => "cut"
def aa4 (r : Rat) : Rat := if r ≤ 1 then r else 1
def Man.cov : Man → Rat → Rat → Rat
 | .plus, c, d => aa4 (c + d)
 | .atop, c, d => d
 | .cut, c, d => d * (1 - c)
 | _, c, d => c + d - c * d
def Man.col : Man → Rat → Rat → Rat → Rat → Rat
 | .over, c, d, x, y => x + y * (1 - c)
 | .mult, c, d, x, y => x * y + x * (1 - d) + y * (1 - c)
 | .screen, c, d, x, y => x + y - x * y
 | .plus, c, d, x, y => aa4 (x + y)
 | .atop, c, d, x, y => x * d + y * (1 - c)
 | .cut, c, d, x, y => y * (1 - c)
theorem T0 {k : Nat} {c : Rat} (h : IsSh k c) : IsSh (k + 1) (1 - c) := by
 have b := Bd.one.sub h.bd h.le
 rw [Nat.add_comm] at b
 exact ⟨b, by have := h.bd.nn; grind⟩
theorem aF4 {a b : Rat} (ha : 0 ≤ a) (hb : 0 ≤ b) (ha1 : a ≤ 1) (hb1 : b ≤ 1) : a * b ≤ a + b := by
 have := Rat.mul_le_mul_of_nonneg_right ha1 hb
 grind
theorem bR2 {k : Nat} {r : Rat} (h : Bd k r) (hk : 1 ≤ k) : IsSh k (aa4 r) := by
 unfold aa4
 split
 ·rename_i l; exact ⟨h, l⟩
 ·exact ⟨Bd.one.mono hk, Rat.le_refl⟩
theorem bT9 (m : Man) {k : Nat} {c d : Rat} (hc : IsSh k c) (hd : IsSh k d) (l : 6 * k + 4 ≤ 8000) : U9 [.str m.s, fr c, fr d] = some (fr (m.cov c d)) ∧ Bd (6 * k + 4) (m.cov c d) := by
 have r1 := ak3 hc.bd (by omega) hc.le
 have h1 := (T0 hc)
 have ml := aF4 hc.bd.nn hd.bd.nn hc.le hd.le
 have e1 := Q3 hc.bd hd.bd (by omega)
 have e2 := N2 hc.bd hd.bd (by omega)
 have b1 := hc.bd.add hd.bd
 have b2 := hc.bd.mul hd.bd
 have e3 := R0 b1 b2 (by omega) ml
 have e4 := bc7 b1 (by omega)
 have e5 := N2 hd.bd h1.bd (by omega)
 cases m with
 | plus => exact ⟨A9 (ρ := [‹.str "plus"›, ‹fr c›, ‹fr d›]) rfl (by wp_walk using evA, O0, E9, J5, C2, E8, F0, G3, J7, M4, F4, J6, J8, K7, B8, E4, B1, B7, B9, D0, E6, J4, C1, E5, E7, G2, F8, K0, C3, F7, F9, G7, G5, K8, D4, G4, G6, J9, E2, E3, C9, F5, F6, D3, D1, D2, C0, D7, D8, C5, D9, E1, C8, C6, C7, B6, e1, e4; rfl), (bR2 b1 (by omega)).bd.mono (by omega)⟩
 | atop => exact ⟨A9 (ρ := [‹.str "atop"›, ‹fr c›, ‹fr d›]) rfl (by wp_walk using evA, O0, E9, J5, C2, E8, F0, G3, J7, M4, F4, J6, J8, K7, B8, E4, B1, B7, B9, D0, E6, J4, C1, E5, E7, G2, F8, K0, C3, F7, F9, G7, G5, K8, D4, G4, G6, J9, E2, E3, C9, F5, F6, D3, D1, D2, C0, D7, D8, C5, D9, E1, C8, C6, C7, B6; rfl), hd.bd.mono (by omega)⟩
 | cut => exact ⟨A9 (ρ := [‹.str "cut"›, ‹fr c›, ‹fr d›]) rfl (by wp_walk using evA, O0, E9, J5, C2, E8, F0, G3, J7, M4, F4, J6, J8, K7, B8, E4, B1, B7, B9, D0, E6, J4, C1, E5, E7, G2, F8, K0, C3, F7, F9, G7, G5, K8, D4, G4, G6, J9, E2, E3, C9, F5, F6, D3, D1, D2, C0, D7, D8, C5, D9, E1, C8, C6, C7, B6, r1, e5; rfl), (hd.bd.mul h1.bd).mono (by omega)⟩
 | over => exact ⟨A9 (ρ := [‹.str "over"›, ‹fr c›, ‹fr d›]) rfl (by wp_walk using evA, O0, E9, J5, C2, E8, F0, G3, J7, M4, F4, J6, J8, K7, B8, E4, B1, B7, B9, D0, E6, J4, C1, E5, E7, G2, F8, K0, C3, F7, F9, G7, G5, K8, D4, G4, G6, J9, E2, E3, C9, F5, F6, D3, D1, D2, C0, D7, D8, C5, D9, E1, C8, C6, C7, B6, e1, e2, e3; rfl), (b1.sub b2 ml).mono (by omega)⟩
 | mult => exact ⟨A9 (ρ := [‹.str "multiply"›, ‹fr c›, ‹fr d›]) rfl (by wp_walk using evA, O0, E9, J5, C2, E8, F0, G3, J7, M4, F4, J6, J8, K7, B8, E4, B1, B7, B9, D0, E6, J4, C1, E5, E7, G2, F8, K0, C3, F7, F9, G7, G5, K8, D4, G4, G6, J9, E2, E3, C9, F5, F6, D3, D1, D2, C0, D7, D8, C5, D9, E1, C8, C6, C7, B6, e1, e2, e3; rfl), (b1.sub b2 ml).mono (by omega)⟩
 | screen => exact ⟨A9 (ρ := [‹.str "screen"›, ‹fr c›, ‹fr d›]) rfl (by wp_walk using evA, O0, E9, J5, C2, E8, F0, G3, J7, M4, F4, J6, J8, K7, B8, E4, B1, B7, B9, D0, E6, J4, C1, E5, E7, G2, F8, K0, C3, F7, F9, G7, G5, K8, D4, G4, G6, J9, E2, E3, C9, F5, F6, D3, D1, D2, C0, D7, D8, C5, D9, E1, C8, C6, C7, B6, e1, e2, e3; rfl), (b1.sub b2 ml).mono (by omega)⟩
theorem aI0 (m : Man) {k : Nat} {c d x y : Rat} (hc : IsSh k c) (hd : IsSh k d) (hx : IsSh k x) (hy : IsSh k y) (l : 6 * k + 4 ≤ 8000) : T8 [.str m.s, fr c, fr d, fr x, fr y] = some (fr (m.col c d x y)) ∧ Bd (6 * k + 4) (m.col c d x y) := by
 have r1 := ak3 hc.bd (by omega) hc.le
 have r2 := ak3 hd.bd (by omega) hd.le
 have h1 := T0 hc
 have h2 := T0 hd
 have ml := aF4 hx.bd.nn hy.bd.nn hx.le hy.le
 have e1 := Q3 hx.bd hy.bd (by omega)
 have e2 := N2 hx.bd hy.bd (by omega)
 have b1 := hx.bd.add hy.bd
 have b2 := hx.bd.mul hy.bd
 have e3 := R0 b1 b2 (by omega) ml
 have e4 := bc7 b1 (by omega)
 have bt := hy.bd.mul h1.bd
 have et := N2 hy.bd h1.bd (by omega)
 have e6 := Q3 hx.bd bt (by omega)
 have bd := hx.bd.mul h2.bd
 have e7 := N2 hx.bd h2.bd (by omega)
 have b8 := b2.add bd
 have e8 := Q3 b2 bd (by omega)
 have e9 := Q3 b8 bt (by omega)
 have b10 := hx.bd.mul hd.bd
 have e10 := N2 hx.bd hd.bd (by omega)
 have e11 := Q3 b10 bt (by omega)
 cases m with
 | plus => exact ⟨A9 (ρ := [‹.str "plus"›, ‹fr c›, ‹fr d›, ‹fr x›, ‹fr y›, none]) rfl (by wp_walk using evA, N1, E9, J5, C2, E8, F0, G3, J7, M4, F4, J6, J8, K7, B8, E4, B1, B7, B9, D0, E6, J4, C1, E5, E7, G2, F8, K0, C3, F7, F9, G7, G5, K8, D4, G4, G6, J9, E2, E3, C9, F5, F6, D3, D1, D2, C0, D7, D8, C5, D9, E1, C8, C6, C7, B6, e1, e4; rfl), (bR2 b1 (by omega)).bd.mono (by omega)⟩
 | screen => exact ⟨A9 (ρ := [‹.str "screen"›, ‹fr c›, ‹fr d›, ‹fr x›, ‹fr y›, none]) rfl (by wp_walk using evA, N1, E9, J5, C2, E8, F0, G3, J7, M4, F4, J6, J8, K7, B8, E4, B1, B7, B9, D0, E6, J4, C1, E5, E7, G2, F8, K0, C3, F7, F9, G7, G5, K8, D4, G4, G6, J9, E2, E3, C9, F5, F6, D3, D1, D2, C0, D7, D8, C5, D9, E1, C8, C6, C7, B6, e1, e2, e3; rfl), (b1.sub b2 ml).mono (by omega)⟩
 | over => exact ⟨A9 (ρ := [‹.str "over"›, ‹fr c›, ‹fr d›, ‹fr x›, ‹fr y›, none]) rfl (by wp_walk using evA, N1, E9, J5, C2, E8, F0, G3, J7, M4, F4, J6, J8, K7, B8, E4, B1, B7, B9, D0, E6, J4, C1, E5, E7, G2, F8, K0, C3, F7, F9, G7, G5, K8, D4, G4, G6, J9, E2, E3, C9, F5, F6, D3, D1, D2, C0, D7, D8, C5, D9, E1, C8, C6, C7, B6, r1, et, e6; rfl), (hx.bd.add bt).mono (by omega)⟩
 | mult => exact ⟨A9 (ρ := [‹.str "multiply"›, ‹fr c›, ‹fr d›, ‹fr x›, ‹fr y›, none]) rfl (by wp_walk using evA, N1, E9, J5, C2, E8, F0, G3, J7, M4, F4, J6, J8, K7, B8, E4, B1, B7, B9, D0, E6, J4, C1, E5, E7, G2, F8, K0, C3, F7, F9, G7, G5, K8, D4, G4, G6, J9, E2, E3, C9, F5, F6, D3, D1, D2, C0, D7, D8, C5, D9, E1, C8, C6, C7, B6, r1, r2, et, e2, e7, e8, e9; rfl), (b8.add bt).mono (by omega)⟩
 | atop => exact ⟨A9 (ρ := [‹.str "atop"›, ‹fr c›, ‹fr d›, ‹fr x›, ‹fr y›, none]) rfl (by wp_walk using evA, N1, E9, J5, C2, E8, F0, G3, J7, M4, F4, J6, J8, K7, B8, E4, B1, B7, B9, D0, E6, J4, C1, E5, E7, G2, F8, K0, C3, F7, F9, G7, G5, K8, D4, G4, G6, J9, E2, E3, C9, F5, F6, D3, D1, D2, C0, D7, D8, C5, D9, E1, C8, C6, C7, B6, r1, et, e10, e11; rfl), (b10.add bt).mono (by omega)⟩
 | cut => exact ⟨A9 (ρ := [‹.str "cut"›, ‹fr c›, ‹fr d›, ‹fr x›, ‹fr y›, none]) rfl (by wp_walk using evA, N1, E9, J5, C2, E8, F0, G3, J7, M4, F4, J6, J8, K7, B8, E4, B1, B7, B9, D0, E6, J4, C1, E5, E7, G2, F8, K0, C3, F7, F9, G7, G5, K8, D4, G4, G6, J9, E2, E3, C9, F5, F6, D3, D1, D2, C0, D7, D8, C5, D9, E1, C8, C6, C7, B6, r1, et; rfl), bt.mono (by omega)⟩
theorem bj3 (m : Man) {c d : Rat} (hc : 0 ≤ c) (hd : 0 ≤ d) (hc1 : c ≤ 1) (hd1 : d ≤ 1) : m.cov c d ≤ 1 := by
 have p : 0 ≤ (1 - c) * (1 - d) := Rat.mul_nonneg (by grind) (by grind)
 have q : d * (1 - c) ≤ 1 * (1 - c) := Rat.mul_le_mul_of_nonneg_right hd1 (by grind)
 cases m <;> simp only [Man.cov, aa4] <;> grind
theorem aT5 (m : Man) {c d x y : Rat} (hc : 0 ≤ c) (hd : 0 ≤ d) (hc1 : c ≤ 1) (hd1 : d ≤ 1) (hx : 0 ≤ x) (hy : 0 ≤ y) (xc : x ≤ c) (yd : y ≤ d) : m.col c d x y ≤ m.cov c d := by
 have q1 : y * (1 - c) ≤ d * (1 - c) := Rat.mul_le_mul_of_nonneg_right yd (by grind)
 have q2 : x * (y + 1 - d) ≤ c * (y + 1 - d) := Rat.mul_le_mul_of_nonneg_right xc (by grind)
 have q3 : x * d ≤ c * d := Rat.mul_le_mul_of_nonneg_right xc hd
 have q4 : (1 - c) * (1 - d) ≤ (1 - x) * (1 - d) := Rat.mul_le_mul_of_nonneg_right (by grind) (by grind)
 have q5 : (1 - d) * (1 - x) ≤ (1 - y) * (1 - x) := Rat.mul_le_mul_of_nonneg_right (by grind) (by grind)
 cases m <;> simp only [Man.cov, Man.col, aa4] <;> grind
theorem cJ5 (a b c d e f : D) : (List.zip [a, b, c] [d, e, f]) = [(a, d), (b, e), (c, f)] := rfl
theorem ln2 (a b : D) : ([a, b] : List D).length = 2 := rfl
theorem bj8 (m : Man) {k : Nat} {c x1 x2 x3 d y1 y2 y3 : Rat} (S : Spot k c x1 x2 x3) (T : Spot k d y1 y2 y3) (l : 6 * k + 4 ≤ 8000) :
  j5 [.str m.s, sp c x1 x2 x3, sp d y1 y2 y3] = some (sp (m.cov c d) (m.col c d x1 y1) (m.col c d x2 y2) (m.col c d x3 y3)) ∧ Spot (6 * k + 4) (m.cov c d) (m.col c d x1 y1) (m.col c d x2 y2) (m.col c d x3 y3) := by
 have s1 : IsSh k x1 := ⟨S.hx, Rat.le_trans S.xc S.hc.le⟩
 have s2 : IsSh k x2 := ⟨S.hy, Rat.le_trans S.yc S.hc.le⟩
 have s3 : IsSh k x3 := ⟨S.hz, Rat.le_trans S.zc S.hc.le⟩
 have t1 : IsSh k y1 := ⟨T.hx, Rat.le_trans T.xc T.hc.le⟩
 have t2 : IsSh k y2 := ⟨T.hy, Rat.le_trans T.yc T.hc.le⟩
 have t3 : IsSh k y3 := ⟨T.hz, Rat.le_trans T.zc T.hc.le⟩
 have a0 := bT9 m S.hc T.hc l
 have a1 := aI0 m S.hc T.hc s1 t1 l
 have a2 := aI0 m S.hc T.hc s2 t2 l
 have a3 := aI0 m S.hc T.hc s3 t3 l
 refine ⟨?_, ⟨⟨a0.2, bj3 m S.hc.bd.nn T.hc.bd.nn S.hc.le T.hc.le⟩, a1.2, a2.2, a3.2, aT5 m S.hc.bd.nn T.hc.bd.nn S.hc.le T.hc.le S.hx.nn T.hx.nn S.xc T.xc, aT5 m S.hc.bd.nn T.hc.bd.nn S.hc.le T.hc.le S.hy.nn T.hy.nn S.yc T.yc, aT5 m S.hc.bd.nn T.hc.bd.nn S.hc.le T.hc.le S.hz.nn T.hz.nn S.zc T.zc⟩⟩
 refine A9 (ρ := [‹.str m.s›, ‹sp c x1 x2 x3›, ‹sp d y1 y2 y3›, none, none, none]) rfl ?_
 have f3 : ∀ a b c : D, ([a, b, c] : List D).length ≤ 16777216 := fun a b c => by show 3 ≤ 16777216; decide
 wp_walk using evA, aO4, sp, cJ5, f3, ln2, a0.1, a1.1, a2.1, a3.1
end Sh
namespace Sh
open PySem G L2
inductive Rul where
 | turn | grey | round
def Rul.s : Rul → Str
 | .turn => "turn"
 | .grey => "grey"
 | .round => "round"
def third : Rat := mkRat 1 3
theorem aY8 : fr third = .tuple [.int 1, .int 3] := by
 show PyData.tuple [.int (mkRat 1 3).num, .int (mkRat 1 3).den] = _
 rw [show (mkRat 1 3).num = 1 by decide +kernel, show (mkRat 1 3).den = 3 by decide +kernel]; rfl
theorem bE8 : third * 3 = 1 := by decide +kernel
theorem ap7 : IsSh 2 third := ⟨⟨by decide +kernel, by decide +kernel, by decide +kernel⟩, by decide +kernel⟩
def Rul.new : Rul → Rat → Rat → Rat → Rat → Rat
 | .turn, c, x, y, z => c - x
 | .grey, c, x, y, z => (x + y + z) * third
 | .round, c, x, y, z => y
def Rul.mix (r : Rul) (s c x y z : Rat) : Rat := s * r.new c x y z + (1 - s) * x
theorem ae0 {j k : Nat} {s n o : Rat} (hs : IsSh k s) (hn : Bd j n) (ho : Bd k o) (l : k + j + 2 * k + 1 ≤ 8000) : aC7 [fr s, fr n, fr o] = some (fr (s * n + (1 - s) * o)) := by
 have e1 := N2 hs.bd hn (by omega)
 have r1 := ak3 hs.bd (by omega) hs.le
 have e2 := N2 (T0 hs).bd ho (by omega)
 have e3 := Q3 (hs.bd.mul hn) ((T0 hs).bd.mul ho) (by omega)
 refine A9 (ρ := [‹fr s›, ‹fr n›, ‹fr o›]) rfl ?_
 wp_walk using evA, br6, e1, r1, e2, e3
theorem aV1 (r : Rul) {k : Nat} {c x y z : Rat} (S : Spot k c x y z) (l : 6 * k + 6 ≤ 8000) : ak6 [.str r.s, sp c x y z] = some (sp c (r.new c x y z) (r.new c y z x) (r.new c z x y)) := by
 have e1 := R0 S.hc.bd S.hx (by omega) S.xc
 have e2 := R0 S.hc.bd S.hy (by omega) S.yc
 have e3 := R0 S.hc.bd S.hz (by omega) S.zc
 have b4 := S.hx.add S.hy
 have e4 := Q3 S.hx S.hy (by omega)
 have e5 := Q3 b4 S.hz (by omega)
 have e6 := N2 (b4.add S.hz) ap7.bd (by omega)
 rw [aY8] at e6
 have g1 : (y + z + x) * third = (x + y + z) * third := by grind
 have g2 : (z + x + y) * third = (x + y + z) * third := by grind
 cases r with
 | turn =>
  refine A9 (ρ := [‹.str "turn"›, ‹sp c x y z›, none, none, none, none, none]) rfl ?_
  wp_walk using evA, aj9, sp, E9, J5, C2, E8, F0, G3, J7, M4, F4, J6, J8, K7, B8, E4, B1, B7, B9, D0, E6, J4, C1, E5, E7, G2, F8, K0, C3, F7, F9, G7, G5, K8, D4, G4, G6, J9, E2, E3, C9, F5, F6, D3, D1, D2, C0, D7, D8, C5, D9, E1, C8, C6, C7, B6, e1, e2, e3; rfl
 | grey =>
  refine A9 (ρ := [‹.str "grey"›, ‹sp c x y z›, none, none, none, none, none]) rfl ?_
  wp_walk using evA, aj9, sp, E9, J5, C2, E8, F0, G3, J7, M4, F4, J6, J8, K7, B8, E4, B1, B7, B9, D0, E6, J4, C1, E5, E7, G2, F8, K0, C3, F7, F9, G7, G5, K8, D4, G4, G6, J9, E2, E3, C9, F5, F6, D3, D1, D2, C0, D7, D8, C5, D9, E1, C8, C6, C7, B6, e4, e5, e6
  simp only [Rul.new, g1, g2]
 | round =>
  refine A9 (ρ := [‹.str "round"›, ‹sp c x y z›, none, none, none, none, none]) rfl ?_
  wp_walk using evA, aj9, sp, E9, J5, C2, E8, F0, G3, J7, M4, F4, J6, J8, K7, B8, E4, B1, B7, B9, D0, E6, J4, C1, E5, E7, G2, F8, K0, C3, F7, F9, G7, G5, K8, D4, G4, G6, J9, E2, E3, C9, F5, F6, D3, D1, D2, C0, D7, D8, C5, D9, E1, C8, C6, C7, B6; rfl
theorem ao4 (r : Rul) {k : Nat} {c x y z : Rat} (S : Spot k c x y z) : Bd (3 * k + 4) (r.new c x y z) := by
 cases r with
 | turn => exact (S.hc.bd.sub S.hx S.xc).mono (by omega)
 | grey => exact (((S.hx.add S.hy).add S.hz).mul ap7.bd).mono (by omega)
 | round => exact S.hy.mono (by omega)
theorem Spot.rot {k : Nat} {c x y z : Rat} (S : Spot k c x y z) : Spot k c y z x := ⟨S.hc, S.hy, S.hz, S.hx, S.yc, S.zc, S.xc⟩
theorem cs7 (r : Rul) {k : Nat} {c x y z : Rat} (S : Spot k c x y z) : r.new c x y z ≤ c := by
 have h1 := S.xc
 have h2 := S.yc
 have h3 := S.zc
 have h4 := S.hx.nn
 cases r with
 | turn => simp only [Rul.new]; grind
 | grey =>
  simp only [Rul.new]
  have : (x + y + z) * third ≤ (c + c + c) * third := Rat.mul_le_mul_of_nonneg_right (by grind) ap7.bd.nn
  have e : (c + c + c) * third = c := by have := bE8; grind
  rw [e] at this
  exact this
 | round => exact h2
theorem bg8 (r : Rul) {k : Nat} {s c x y z : Rat} (S : Spot k c x y z) (hs : IsSh k s) : r.mix s c x y z ≤ c := by
 have h1 : r.new c x y z * s ≤ c * s := Rat.mul_le_mul_of_nonneg_right (cs7 r S) hs.bd.nn
 have h2 : x * (1 - s) ≤ c * (1 - s) := Rat.mul_le_mul_of_nonneg_right S.xc (by have := hs.le; grind)
 unfold Rul.mix
 grind
theorem bg9 (r : Rul) {k : Nat} {s c x y z : Rat} (S : Spot k c x y z) (hs : IsSh k s) : Bd (6 * k + 6) (r.mix s c x y z) := by
 unfold Rul.mix
 exact ((hs.bd.mul (ao4 r S)).add ((T0 hs).bd.mul S.hx)).mono (by omega)
theorem bU0 (a b c d e f g h : D) : (List.zip [a, b, c, d] [e, f, g, h]) = [(a, e), (b, f), (c, g), (d, h)] := rfl
theorem bE7 (r : Rul) {k : Nat} {s c x y z : Rat} (S : Spot k c x y z) (hs : IsSh k s) (l : 6 * k + 6 ≤ 8000) :
  au2 [.str r.s, sp c x y z, fr s] = some (sp c (r.mix s c x y z) (r.mix s c y z x) (r.mix s c z x y)) ∧ Spot (6 * k + 6) c (r.mix s c x y z) (r.mix s c y z x) (r.mix s c z x y) := by
 refine ⟨?_, ⟨S.hc.mono (by omega), bg9 r S hs, bg9 r S.rot hs, bg9 r S.rot.rot hs, bg8 r S hs, bg8 r S.rot hs, bg8 r S.rot.rot hs⟩⟩
 have e0 := aV1 r S l
 have ec := ae0 hs S.hc.bd S.hc.bd (by omega)
 have e1 := ae0 hs (ao4 r S) S.hx (by omega)
 have e2 := ae0 hs (ao4 r S.rot) S.hy (by omega)
 have e3 := ae0 hs (ao4 r S.rot.rot) S.hz (by omega)
 have cc : s * c + (1 - s) * c = c := by grind
 rw [cc] at ec
 refine A9 (ρ := [‹.str r.s›, ‹sp c x y z›, ‹fr s›]) rfl ?_
 have f4 : ∀ a b c d : D, ([a, b, c, d] : List D).length ≤ 16777216 := fun a b c d => by show 4 ≤ 16777216; decide
 simp only [sp] at e0
 wp_walk using evA, br5, sp, bU0, f4, ln2, e0, ec, e1, e2, e3
 rfl
end Sh
namespace Sh
open PySem G L2
end Sh
namespace Sh
open PySem G L2
theorem cM4 {k : Nat} {r : Rat} (h : Bd k r) : L2.atI [fr r, .tuple [.int 1, .int 1]] (if decide ((r.den : Int) < r.num) = true then (1 : Int) else 0) = some (fr (aa4 r)) := by
 have e0 : (1 : Rat).num = 1 := rfl
 have e1 : (1 : Rat).den = 1 := rfl
 have q := Rat.le_iff r 1
 rw [e0, e1] at q
 by_cases l : r ≤ 1
 ·have : ¬ ((r.den : Int) < r.num) := by have := q.mp l; omega
  rw [decide_eq_false this, if_neg Bool.false_ne_true]
  unfold aa4
  rw [if_pos l]; rfl
 ·have : (r.den : Int) < r.num := by
   apply Classical.byContradiction
   intro h
   exact l (q.mpr (by omega))
  rw [decide_eq_true this, if_pos rfl]
  unfold aa4
  rw [if_neg l]; rfl
def Man.cov' : Man → Rat → Rat → Rat
 | .plus, c, d => c + d
 | .atop, c, d => d
 | .cut, c, d => d * (1 - c)
 | _, c, d => c + d * (1 - c)
def Man.col' : Man → Rat → Rat → Rat → Rat → Rat
 | .over, c, d, x, y => x + y * (1 - c)
 | .mult, c, d, x, y => x * y + (x * (1 - d) + y * (1 - c))
 | .screen, c, d, x, y => x + y * (1 - x)
 | .plus, c, d, x, y => x + y
 | .atop, c, d, x, y => x * d + y * (1 - c)
 | .cut, c, d, x, y => y * (1 - c)
theorem x4 {r : Rat} (h : r ≤ 1) : aa4 r = r := by unfold aa4; rw [if_pos h]
theorem cA1 (m : Man) {c d : Rat} (hc : 0 ≤ c) (hd : 0 ≤ d) (hc1 : c ≤ 1) (hd1 : d ≤ 1) : aa4 (Man.cov' m c d) = m.cov c d := by
  have q := bj3 m hc hd hc1 hd1
  cases m with
  | plus => rfl
  | atop => exact x4 q
  | cut => exact x4 q
  | over => have e : Man.cov' .over c d = Man.cov .over c d := by simp only [Man.cov', Man.cov]; grind
            rw [e]; exact x4 q
  | mult => have e : Man.cov' .mult c d = Man.cov .mult c d := by simp only [Man.cov', Man.cov]; grind
            rw [e]; exact x4 q
  | screen => have e : Man.cov' .screen c d = Man.cov .screen c d := by simp only [Man.cov', Man.cov]; grind
              rw [e]; exact x4 q
theorem bj5 (m : Man) {c d x y : Rat} (hc : 0 ≤ c) (hd : 0 ≤ d) (hc1 : c ≤ 1) (hd1 : d ≤ 1) (hx : 0 ≤ x) (hy : 0 ≤ y) (xc : x ≤ c) (yd : y ≤ d) : aa4 (Man.col' m c d x y) = m.col c d x y := by
  have q := Rat.le_trans (aT5 m hc hd hc1 hd1 hx hy xc yd) (bj3 m hc hd hc1 hd1)
  cases m with
  | plus => rfl
  | atop => exact x4 q
  | cut => exact x4 q
  | over => exact x4 q
  | mult => have e : Man.col' .mult c d x y = Man.col .mult c d x y := by simp only [Man.col', Man.col]; grind
            rw [e]; exact x4 q
  | screen => have e : Man.col' .screen c d x y = Man.col .screen c d x y := by simp only [Man.col', Man.col]; grind
              rw [e]; exact x4 q
theorem z3 (a b c d e f : D) : (List.zip [a, b, c] [d, e, f]).map (fun (x, y) => PyData.tuple [x, y]) = [.tuple [a, d], .tuple [b, e], .tuple [c, f]] := rfl
def cB3 : DS := (aw6 7 (B2 (L8 (qN (D6 1 [] (L4 (A1 7)) (A8 0) G0 (dIx (qN (A0 (A1 0) (A0 (J1 (A0 (dC (.int 1)) (A0 (dC (.int 1)) A3))) A3))) (X8 (A4 gtI (dIx (A5 0) (dC (.int 0))) (dIx (A5 0) (dC (.int 1)))))))))))
theorem z8 : aO2 = (A6 (B3 3 (dIx (A5 1) (dC (.int 0)))) (A6 (B3 4 (dIx (A5 2) (dC (.int 0)))) (A6 (B3 5 (A2 S3 (A0 (A1 3) A3))) (A6 (sIf (f6 (tB2 eqD (A1 0) (dC (.str "atop"))) (tB2 eqD (A1 0) (dC (.str "cut")))) (B3 6 (dIx (qN (A0 (A1 4) (A0 (A2 D5 (A0 (A1 4) (A0 (A1 5) A3))) A3))) (X8 (A4 eqD (A1 0) (dC (.str "cut")))))) (B3 6 (A2 J0 (A0 (A1 3) (A0 (A2 D5 (A0 (A1 4) (A0 (A1 5) A3))) A3))))) (A6 (sIf (tB2 eqD (A1 0) (dC (.str "plus"))) (B3 6 (A2 J0 (A0 (A1 3) (A0 (A1 4) A3)))) J2) (A6 (X3 7 (A0 (A1 6) A3)) (A6 (P8 (ah0 (qE (aa1 (A1 1) (L3 (dC (.int 1))) O1)) (qE (aa1 (A1 2) (L3 (dC (.int 1))) O1))) (K6 2 (B0 (A8 8) (B0 (A8 9) L5))) (A6 (B3 10 (A2 D5 (A0 (A1 9) (A0 (A1 5) A3)))) (A6 (sIf (tB2 eqD (A1 0) (dC (.str "over"))) (R3 7 (A2 J0 (A0 (A1 8) (A0 (A1 10) A3)))) J2) (A6 (sIf (tB2 eqD (A1 0) (dC (.str "multiply"))) (R3 7 (A2 J0 (A0 (A2 D5 (A0 (A1 8) (A0 (A1 9) A3))) (A0 (A2 J0 (A0 (A2 D5 (A0 (A1 8) (A0 (A2 S3 (A0 (A1 4) A3)) A3))) (A0 (A1 10) A3))) A3)))) J2) (A6 (sIf (tB2 eqD (A1 0) (dC (.str "screen"))) (R3 7 (A2 J0 (A0 (A1 8) (A0 (A2 D5 (A0 (A1 9) (A0 (A2 S3 (A0 (A1 8) A3)) A3))) A3)))) J2) (A6 (sIf (tB2 eqD (A1 0) (dC (.str "plus"))) (R3 7 (A2 J0 (A0 (A1 8) (A0 (A1 9) A3)))) J2) (A6 (sIf (tB2 eqD (A1 0) (dC (.str "atop"))) (R3 7 (A2 J0 (A0 (A2 D5 (A0 (A1 8) (A0 (A1 4) A3))) (A0 (A1 10) A3)))) J2) (sIf (tB2 eqD (A1 0) (dC (.str "cut"))) (R3 7 (A1 10)) J2)))))))) cB3))))))) := rfl
theorem aS4 (m : Man) {k : Nat} {c x1 x2 x3 d y1 y2 y3 : Rat} (S : Spot k c x1 x2 x3) (T : Spot k d y1 y2 y3) (l : 6 * k + 4 ≤ 8000) :
  Y0 [.str m.s, sp c x1 x2 x3, sp d y1 y2 y3] = some (sp (m.cov c d) (m.col c d x1 y1) (m.col c d x2 y2) (m.col c d x3 y3)) := by
 have s1 : IsSh k x1 := ⟨S.hx, Rat.le_trans S.xc S.hc.le⟩
 have s2 : IsSh k x2 := ⟨S.hy, Rat.le_trans S.yc S.hc.le⟩
 have s3 : IsSh k x3 := ⟨S.hz, Rat.le_trans S.zc S.hc.le⟩
 have t1 : IsSh k y1 := ⟨T.hx, Rat.le_trans T.xc T.hc.le⟩
 have t2 : IsSh k y2 := ⟨T.hy, Rat.le_trans T.yc T.hc.le⟩
 have t3 : IsSh k y3 := ⟨T.hz, Rat.le_trans T.zc T.hc.le⟩
 have n := S.hc.bd.nn
 have n' := T.hc.bd.nn
 have r1 := aj7 S.hc.bd (by omega) S.hc.le
 have r2 := aj7 T.hc.bd (by omega) T.hc.le
 have h1 := T0 S.hc
 have h2 := T0 T.hc
 have q0 := M2 T.hc.bd h1.bd (by omega)
 have q0' := P6 S.hc.bd (T.hc.bd.mul h1.bd) (by omega)
 have q0'' := P6 S.hc.bd T.hc.bd (by omega)
 have ek : ∀ {y : Rat}, IsSh k y → D5 [fr y, fr (1 - c)] = some (fr (y * (1 - c))) := fun {y} hy => M2 hy.bd h1.bd (by omega)
 have eo : ∀ {x y : Rat}, IsSh k x → IsSh k y → J0 [fr x, fr (y * (1 - c))] = some (fr (x + y * (1 - c))) := fun {x y} hx hy => P6 hx.bd (hy.bd.mul h1.bd) (by omega)
 have em1 : ∀ {x y : Rat}, IsSh k x → IsSh k y → D5 [fr x, fr y] = some (fr (x * y)) := fun {x y} hx hy => M2 hx.bd hy.bd (by omega)
 have em2 : ∀ {x : Rat}, IsSh k x → D5 [fr x, fr (1 - d)] = some (fr (x * (1 - d))) := fun {x} hx => M2 hx.bd h2.bd (by omega)
 have em3 : ∀ {x y : Rat}, IsSh k x → IsSh k y → J0 [fr (x * (1 - d)), fr (y * (1 - c))] = some (fr (x * (1 - d) + y * (1 - c))) := fun {x y} hx hy => P6 (hx.bd.mul h2.bd) (hy.bd.mul h1.bd) (by omega)
 have em4 : ∀ {x y : Rat}, IsSh k x → IsSh k y → J0 [fr (x * y), fr (x * (1 - d) + y * (1 - c))] = some (fr (x * y + (x * (1 - d) + y * (1 - c)))) := fun {x y} hx hy => P6 (hx.bd.mul hy.bd) ((hx.bd.mul h2.bd).add (hy.bd.mul h1.bd)) (by omega)
 have es1 : ∀ {x : Rat}, IsSh k x → S3 [fr x] = some (fr (1 - x)) := fun {x} hx => aj7 hx.bd (by omega) hx.le
 have es2 : ∀ {x y : Rat}, IsSh k x → IsSh k y → D5 [fr y, fr (1 - x)] = some (fr (y * (1 - x))) := fun {x y} hx hy => M2 hy.bd (T0 hx).bd (by omega)
 have es3 : ∀ {x y : Rat}, IsSh k x → IsSh k y → J0 [fr x, fr (y * (1 - x))] = some (fr (x + y * (1 - x))) := fun {x y} hx hy => P6 hx.bd (hy.bd.mul (T0 hx).bd) (by omega)
 have ep : ∀ {x y : Rat}, IsSh k x → IsSh k y → J0 [fr x, fr y] = some (fr (x + y)) := fun {x y} hx hy => P6 hx.bd hy.bd (by omega)
 have ea1 : ∀ {x : Rat}, IsSh k x → D5 [fr x, fr d] = some (fr (x * d)) := fun {x} hx => M2 hx.bd T.hc.bd (by omega)
 have ea2 : ∀ {x y : Rat}, IsSh k x → IsSh k y → J0 [fr (x * d), fr (y * (1 - c))] = some (fr (x * d + y * (1 - c))) := fun {x y} hx hy => P6 (hx.bd.mul T.hc.bd) (hy.bd.mul h1.bd) (by omega)
 have z1 : ∀ a : D, ([a] : List D).length < 16777216 := fun a => by show 1 < 16777216; decide
 have z2 : ∀ a b : D, ([a, b] : List D).length < 16777216 := fun a b => by show 2 < 16777216; decide
 have z3' : ∀ a b c : D, ([a, b, c] : List D).length < 16777216 := fun a b c => by show 3 < 16777216; decide
 have z22 : (2 : Nat) < 16777216 := by decide
 have z4 : ∀ a b c d : D, ([a, b, c, d] : List D).length ≤ 16777216 := fun a b c d => by show 4 ≤ 16777216; decide
 have fin : ∀ {k0 : Nat} {r0 r1 r2 r3 : Rat}, Bd k0 r0 → Bd k0 r1 → Bd k0 r2 → Bd k0 r3 → ∀ ρ : Rho, ρ[7]? = some (some (.own [fr r0, fr r1, fr r2, fr r3])) → ρ.length = 11 →
   cB3 ρ = some (.rt (sp (aa4 r0) (aa4 r1) (aa4 r2) (aa4 r3))) := by
  intro k0 r0 r1 r2 r3 b0 b1 b2 b3 ρ hρ hl
  have e : (frz 7 ρ)[7]? = some (‹.list [fr r0, fr r1, fr r2, fr r3]›) := by
   unfold frz
   rw [hρ]
   simp only
   rw [List.getElem?_set_self (by omega)]
  have one : ∀ {r : Rat} (ρ' : Rho), Bd k0 r → ρ' = [‹fr r›] → dIx (qN (A0 (A1 0) (A0 (J1 (A0 (dC (.int 1)) (A0 (dC (.int 1)) A3))) A3))) (X8 (A4 gtI (dIx (A5 0) (dC (.int 0))) (dIx (A5 0) (dC (.int 1))))) ρ' = some (fr (aa4 r)) := by
   intro r ρ' b e
   subst e
   have := cM4 b
   simp only [dIx, qN, A0, A3, A1, J1, dC, X8, A4, ix0 (v0 _ _), ix1 (v0 _ _), xg0, xbs, xms, ae4]
   have f : A5 0 [some (B.val (fr r))] = some (true, [.int r.num, .int r.den]) := rfl
   simp only [f, ae9, ae8, xbs, ae4]
   exact this
  simp only [cB3, aw6, B2, L8, qN, D6, L4, A1, e, xbs, xms, z4, if_true, P5, A8, G0, n5, aE6, xmn, xna, List.append_nil, xw0, one _ b0 rfl, one _ b1 rfl, one _ b2 rfl, one _ b3 rfl, xft, if_false]
  rfl
 have cc := cA1 m n n' S.hc.le T.hc.le
 have c1 := bj5 m n n' S.hc.le T.hc.le S.hx.nn T.hx.nn S.xc T.xc
 have c2 := bj5 m n n' S.hc.le T.hc.le S.hy.nn T.hy.nn S.yc T.yc
 have c3 := bj5 m n n' S.hc.le T.hc.le S.hz.nn T.hz.nn S.zc T.zc
 rw [← cc, ← c1, ← c2, ← c3]
 refine A9 (ρ := [‹.str m.s›, ‹sp c x1 x2 x3›, ‹sp d y1 y2 y3›, none, none, none, none, none, none, none, none]) rfl ?_
 cases m with
 | over =>
  rw [z8]
  wp_walk using evA, Man.s, sp, E9, J5, C2, E8, F0, G3, J7, M4, F4, J6, J8, K7, B8, E4, B1, B7, B9, D0, E6, J4, C1, E5, E7, G2, F8, K0, C3, F7, F9, G7, G5, K8, D4, G4, G6, J9, E2, E3, C9, F5, F6, D3, D1, D2, C0, D7, D8, C5, D9, E1, C8, C6, C7, B6, r1, q0, q0', X3, P8, X6, R3, z3, ln2, z1, z2, z22, z3', ek t1, ek t2, ek t3, eo s1 t1, eo s2 t2, eo s3 t3
  exact fin ((S.hc.bd.add (T.hc.bd.mul h1.bd)).mono (k := 6 * k + 4) (by omega)) ((s1.bd.add (t1.bd.mul h1.bd)).mono (by omega)) ((s2.bd.add (t2.bd.mul h1.bd)).mono (by omega)) ((s3.bd.add (t3.bd.mul h1.bd)).mono (by omega)) _ (by rfl) (by rfl)
 | mult =>
  rw [z8]
  wp_walk using evA, Man.s, sp, E9, J5, C2, E8, F0, G3, J7, M4, F4, J6, J8, K7, B8, E4, B1, B7, B9, D0, E6, J4, C1, E5, E7, G2, F8, K0, C3, F7, F9, G7, G5, K8, D4, G4, G6, J9, E2, E3, C9, F5, F6, D3, D1, D2, C0, D7, D8, C5, D9, E1, C8, C6, C7, B6, r1, r2, q0, q0', X3, P8, X6, R3, z3, ln2, z1, z2, z22, z3', ek t1, ek t2, ek t3, em1 s1 t1, em1 s2 t2, em1 s3 t3, em2 s1, em2 s2, em2 s3, em3 s1 t1, em3 s2 t2, em3 s3 t3, em4 s1 t1, em4 s2 t2, em4 s3 t3
  have bb : ∀ {x y : Rat}, IsSh k x → IsSh k y → Bd (6 * k + 4) (x * y + (x * (1 - d) + y * (1 - c))) := fun {x y} hx hy => ((hx.bd.mul hy.bd).add ((hx.bd.mul h2.bd).add (hy.bd.mul h1.bd))).mono (by omega)
  exact fin ((S.hc.bd.add (T.hc.bd.mul h1.bd)).mono (k := 6 * k + 4) (by omega)) (bb s1 t1) (bb s2 t2) (bb s3 t3) _ (by rfl) (by rfl)
 | screen =>
  rw [z8]
  wp_walk using evA, Man.s, sp, E9, J5, C2, E8, F0, G3, J7, M4, F4, J6, J8, K7, B8, E4, B1, B7, B9, D0, E6, J4, C1, E5, E7, G2, F8, K0, C3, F7, F9, G7, G5, K8, D4, G4, G6, J9, E2, E3, C9, F5, F6, D3, D1, D2, C0, D7, D8, C5, D9, E1, C8, C6, C7, B6, r1, q0, q0', X3, P8, X6, R3, z3, ln2, z1, z2, z22, z3', ek t1, ek t2, ek t3, es1 s1, es1 s2, es1 s3, es2 s1 t1, es2 s2 t2, es2 s3 t3, es3 s1 t1, es3 s2 t2, es3 s3 t3
  have bb : ∀ {x y : Rat}, IsSh k x → IsSh k y → Bd (6 * k + 4) (x + y * (1 - x)) := fun {x y} hx hy => (hx.bd.add (hy.bd.mul (T0 hx).bd)).mono (by omega)
  exact fin ((S.hc.bd.add (T.hc.bd.mul h1.bd)).mono (k := 6 * k + 4) (by omega)) (bb s1 t1) (bb s2 t2) (bb s3 t3) _ (by rfl) (by rfl)
 | plus =>
  rw [z8]
  wp_walk using evA, Man.s, sp, E9, J5, C2, E8, F0, G3, J7, M4, F4, J6, J8, K7, B8, E4, B1, B7, B9, D0, E6, J4, C1, E5, E7, G2, F8, K0, C3, F7, F9, G7, G5, K8, D4, G4, G6, J9, E2, E3, C9, F5, F6, D3, D1, D2, C0, D7, D8, C5, D9, E1, C8, C6, C7, B6, r1, q0, q0', q0'', X3, P8, X6, R3, z3, ln2, z1, z2, z22, z3', ek t1, ek t2, ek t3, ep s1 t1, ep s2 t2, ep s3 t3
  have bb : ∀ {x y : Rat}, IsSh k x → IsSh k y → Bd (6 * k + 4) (x + y) := fun {x y} hx hy => (hx.bd.add hy.bd).mono (by omega)
  exact fin (bb S.hc T.hc) (bb s1 t1) (bb s2 t2) (bb s3 t3) _ (by rfl) (by rfl)
 | atop =>
  rw [z8]
  wp_walk using evA, Man.s, sp, E9, J5, C2, E8, F0, G3, J7, M4, F4, J6, J8, K7, B8, E4, B1, B7, B9, D0, E6, J4, C1, E5, E7, G2, F8, K0, C3, F7, F9, G7, G5, K8, D4, G4, G6, J9, E2, E3, C9, F5, F6, D3, D1, D2, C0, D7, D8, C5, D9, E1, C8, C6, C7, B6, r1, q0, X3, P8, X6, R3, z3, ln2, z1, z2, z22, z3', ek t1, ek t2, ek t3, ea1 s1, ea1 s2, ea1 s3, ea2 s1 t1, ea2 s2 t2, ea2 s3 t3
  have bb : ∀ {x y : Rat}, IsSh k x → IsSh k y → Bd (6 * k + 4) (x * d + y * (1 - c)) := fun {x y} hx hy => ((hx.bd.mul T.hc.bd).add (hy.bd.mul h1.bd)).mono (by omega)
  exact fin (T.hc.bd.mono (k := 6 * k + 4) (by omega)) (bb s1 t1) (bb s2 t2) (bb s3 t3) _ (by rfl) (by rfl)
 | cut =>
  rw [z8]
  wp_walk using evA, Man.s, sp, E9, J5, C2, E8, F0, G3, J7, M4, F4, J6, J8, K7, B8, E4, B1, B7, B9, D0, E6, J4, C1, E5, E7, G2, F8, K0, C3, F7, F9, G7, G5, K8, D4, G4, G6, J9, E2, E3, C9, F5, F6, D3, D1, D2, C0, D7, D8, C5, D9, E1, C8, C6, C7, B6, r1, q0, X3, P8, X6, R3, z3, ln2, z1, z2, z22, z3', ek t1, ek t2, ek t3
  have bb : ∀ {y : Rat}, IsSh k y → Bd (6 * k + 4) (y * (1 - c)) := fun {y} hy => (hy.bd.mul h1.bd).mono (by omega)
  exact fin (bb T.hc) (bb t1) (bb t2) (bb t3) _ (by rfl) (by rfl)
end Sh
namespace Sh
open PySem G L2
structure Q4 where
 c : Rat
 x : Rat
 y : Rat
 z : Rat
def Q4.d (q : Q4) : D := sp q.c q.x q.y q.z
def Q4.ok (k : Nat) (q : Q4) : Prop := Spot k q.c q.x q.y q.z
def q0 : Q4 := ⟨0, 0, 0, 0⟩
theorem cE4 : q0.d = .tuple [.tuple [.int 0, .int 1], .tuple [.int 0, .int 1], .tuple [.int 0, .int 1], .tuple [.int 0, .int 1]] := rfl
theorem cE3 {k : Nat} (hk : 1 ≤ k) : q0.ok k := by
 have z : IsSh k 0 := ⟨Bd.zero.mono hk, by decide⟩
 exact ⟨z, z.bd, z.bd, z.bd, Rat.le_refl, Rat.le_refl, Rat.le_refl⟩
theorem Q4.ok.mono {j k : Nat} {q : Q4} (h : q.ok j) (l : j ≤ k) : q.ok k := Spot.mono h l
def Ly (n : Nat) (d : D) : Prop := PyData.canLay0 d = true ∧ PyData.depth d ≤ n
theorem aH0 {n : Nat} : ∀ xs : List D, (∀ x ∈ xs, Ly n x) → PyData.canLayAll0 xs = true ∧ PyData.depthAll xs ≤ n
 | [], _ => ⟨rfl, Nat.zero_le _⟩
 | x :: xs, g => by
  have a := g x (List.mem_cons_self ..)
  have b := aH0 xs fun y hy => g y (List.mem_cons_of_mem _ hy)
  refine ⟨?_, ?_⟩
  ·show (PyData.canLay0 x && PyData.canLayAll0 xs) = true
   rw [a.1, b.1]; rfl
  ·show max (PyData.depth x) (PyData.depthAll xs) ≤ n
   have := a.2; have := b.2; omega
theorem Ly.tup {n : Nat} {xs : List D} (h : ∀ x ∈ xs, Ly n x) : Ly (n + 1) (.tuple xs) := ⟨(aH0 xs h).1, Nat.succ_le_succ (aH0 xs h).2⟩
theorem Ly.lst {n : Nat} {xs : List D} (h : ∀ x ∈ xs, Ly n x) : Ly (n + 1) (.list xs) := ⟨(aH0 xs h).1, Nat.succ_le_succ (aH0 xs h).2⟩
theorem Ly.int (n : Nat) (i : Int) : Ly n (.int i) := ⟨rfl, Nat.zero_le _⟩
theorem Ly.mono {m n : Nat} {d : D} (h : Ly m d) (l : m ≤ n) : Ly n d := ⟨h.1, Nat.le_trans h.2 l⟩
theorem Ly.shaped {n : Nat} {d : D} (g : Ly n d) (hn : n ≤ 64) : SeqAt.shaped d = true := by
 unfold SeqAt.shaped
 rw [g.1, Bool.true_and]
 exact decide_eq_true (by have := g.2; omega)
theorem Ly.q4 (q : Q4) (n : Nat) : Ly (n + 2) q.d := ⟨rfl, by show 2 ≤ n + 2; omega⟩
theorem Ly.spots (l : List Q4) (n : Nat) : Ly (n + 3) (.tuple (l.map Q4.d)) := Ly.tup fun x hx => by
 obtain ⟨q, _, rfl⟩ := List.mem_map.mp hx
 exact Ly.q4 q n
theorem aR5 {n : Nat} {d : D} (g : Ly n d) (hn : n ≤ 64) : neD d d = some (.bool false) := by
 unfold neD
 rw [if_pos ⟨g.shaped hn, g.shaped hn⟩, SeqAt.eqv_refl d g.1]; rfl
theorem bq1 {n : Nat} {d : D} (g : Ly n d) (hn : n ≤ 64) : eqD d d = some (.bool true) := by
 unfold eqD
 rw [if_pos ⟨g.shaped hn, g.shaped hn⟩, SeqAt.eqv_refl d g.1]
def shD (w h : Nat) (l : List Q4) : D := .tuple [.int w, .int h, .tuple (l.map Q4.d)]
theorem Ly.sheet (w h : Nat) (l : List Q4) : Ly 4 (shD w h l) := Ly.tup fun x hx => by
 simp only [List.mem_cons, List.not_mem_nil, or_false] at hx
 rcases hx with rfl | rfl | rfl
 ·exact Ly.int _ _
 ·exact Ly.int _ _
 ·exact Ly.spots l 0
def atQ (w h : Nat) (l : List Q4) (x y : Int) : Q4 := if 0 ≤ x ∧ x < w ∧ 0 ≤ y ∧ y < h then l.getD (y * w + x).toNat q0 else q0
structure ShOk (k : Nat) (w h : Nat) (l : List Q4) : Prop where
 w1 : 1 ≤ w
 w8 : w ≤ 8
 h1 : 1 ≤ h
 h8 : h ≤ 8
 len : l.length = w * h
 ok : ∀ q ∈ l, q.ok k
theorem ch9 {α : Type} {e : DE} {r : Rho} {h f : α → D} : ∀ (l : List α) (x : Option B), (∀ a ∈ l, e (‹h a› :: r) = some (f a)) → P5 (A8 0) G0 e (l.map h) (x :: r) = some (l.map f)
 | [], _, _ => rfl
 | a :: l, x, H => by
  simp only [xmc, P5, A8, xw0, xbs, G0, if_true, H a (List.mem_cons_self ..), ch9 l _ (fun b hb => H b (List.mem_cons_of_mem _ hb)), xms]
theorem ch8 {α : Type} {e : DE} {r : Rho} {h1 h2 f : α → D} : ∀ (l : List α) (x y : Option B), (∀ a ∈ l, e (‹h1 a› :: ‹h2 a› :: r) = some (f a)) → P5 (K6 2 (B0 (A8 0) (B0 (A8 1) L5))) G0 e (l.map fun a => .tuple [h1 a, h2 a]) (x :: y :: r) = some (l.map f)
 | [], _, _, _ => rfl
 | a :: l, x, y, H => by
  have hl : ([h1 a, h2 a] : List D).length = 2 := rfl
  simp only [xmc, P5, K6, B0, L5, A8, hl, if_true, xw0, xw1, xbs, G0, if_true, H a (List.mem_cons_self ..), ch8 l _ _ (fun b hb => H b (List.mem_cons_of_mem _ hb)), xms]
theorem bR0 {α : Type} {c : Rho → Option Bool} {e : DE} {r : Rho} {h f : α → D} {p : α → Bool} : ∀ (l : List α) (x : Option B), (∀ a ∈ l, c (‹h a› :: r) = some (p a)) → (∀ a ∈ l, e (‹h a› :: r) = some (f a)) → P5 (A8 0) c e (l.map h) (x :: r) = some ((l.filter p).map f)
 | [], _, _, _ => rfl
 | a :: l, x, C, H => by
  have ih := bR0 l (‹h a›) (fun b hb => C b (List.mem_cons_of_mem _ hb)) (fun b hb => H b (List.mem_cons_of_mem _ hb))
  cases q : p a with
  | true =>
   simp only [xmc, P5, A8, xw0, xbs, C a (List.mem_cons_self ..), q, if_true, H a (List.mem_cons_self ..), ih, xms, List.filter_cons_of_pos q]
  | false =>
   have q' : ¬ p a = true := by rw [q]; exact Bool.false_ne_true
   simp only [xmc, P5, A8, xw0, xbs, C a (List.mem_cons_self ..), q, xft, if_false, ih, List.filter_cons_of_neg q']
theorem X4 {α : Type} {caps : List Nat} {src : Rho → Option (List D)} {e : DE} {ρ r : Rho} {l : List α} {h f : α → D} (hr : n5 1 caps ρ = none :: r) (hs : src ρ = some (l.map h)) (hl : l.length ≤ 1000) (H : ∀ a ∈ l, e (‹h a› :: r) = some (f a)) :
  D6 1 caps src (A8 0) G0 e ρ = some (l.map f) := by
 unfold D6
 rw [hs, xbs, if_pos (by rw [List.length_map]; omega), hr, ch9 l _ H]
theorem bK1 {α : Type} {caps : List Nat} {src : Rho → Option (List D)} {e : DE} {ρ r : Rho} {l : List α} {h1 h2 f : α → D} (hr : n5 2 caps ρ = none :: none :: r) (hs : src ρ = some (l.map fun a => .tuple [h1 a, h2 a])) (hl : l.length ≤ 1000) (H : ∀ a ∈ l, e (‹h1 a› :: ‹h2 a› :: r) = some (f a)) :
  D6 2 caps src (K6 2 (B0 (A8 0) (B0 (A8 1) L5))) G0 e ρ = some (l.map f) := by
 unfold D6
 rw [hs, xbs, if_pos (by rw [List.length_map]; omega), hr, ch8 l _ _ H]
theorem aA9 {α : Type} {caps : List Nat} {src : Rho → Option (List D)} {c : Rho → Option Bool} {e : DE} {ρ r : Rho} {l : List α} {h f : α → D} {p : α → Bool} (hr : n5 1 caps ρ = none :: r) (hs : src ρ = some (l.map h)) (hl : l.length ≤ 1000) (C : ∀ a ∈ l, c (‹h a› :: r) = some (p a)) (H : ∀ a ∈ l, e (‹h a› :: r) = some (f a)) :
  D6 1 caps src (A8 0) c e ρ = some ((l.filter p).map f) := by
 unfold D6
 rw [hs, xbs, if_pos (by rw [List.length_map]; omega), hr, bR0 l _ C H]
theorem U5 {f : DE} {ρ : Rho} {n : Nat} (h : f ρ = some (.int n)) (hn : n ≤ 1000) : L6 f ρ = some ((List.range n).map fun k : Nat => PyData.int k) := by
 unfold L6
 rw [h, xbs]
 show (if -(2 ^ 62) ≤ (n : Int) ∧ (n : Int) < 2 ^ 62 then some (w6 0 n) else none) = _
 rw [if_pos ⟨by omega, by omega⟩]
 unfold w6
 congr 1
 have e : ((n : Int) - 0).toNat = n := by omega
 rw [e]
 apply List.map_congr_left
 intro k _
 congr 1
 omega
theorem bg7 {i j : Int} (h1 : L0 i) (h2 : L0 j) : K5 (.int i) (.int j) = some (.int (i * j)) := P3 h1 h2
theorem O6 {i j : Nat} (h1 : i ≤ 1000) (h2 : j ≤ 1000) : K5 (.int i) (.int j) = some (.int ((i * j : Nat) : Int)) := by
 rw [bg7 (S9 (k := 10) (by omega) (by decide)) (S9 (k := 10) (by omega) (by decide)), Int.natCast_mul]
theorem sm8 {i : Int} (h0 : 0 ≤ i) (h : i ≤ 1000) : L0 i := aD0 h0 (by omega)
def plc (w n : Nat) : List (Int × Int) := (List.range n).map fun k => (((k % w : Nat) : Int), ((k / w : Nat) : Int))
theorem aL8 {w h : Nat} (w1 : 1 ≤ w) (w8 : w ≤ 8) (h8 : h ≤ 8) : S2 [.int w, .int h] = some (.list ((plc w (w * h)).map fun p => .tuple [.int p.1, .int p.2])) := by
 refine A9 (ρ := [‹.int w›, ‹.int h›]) rfl ?_
 have hm : (A4 K5 (A1 0) (A1 1)) [‹.int w›, ‹.int h›] = some (.int ((w * h : Nat) : Int)) := O6 (by omega) (by omega)
 have wh : w * h ≤ 64 := Nat.mul_le_mul w8 h8
 unfold az3 B2 T4
 rw [X4 (l := List.range (w * h)) (h := fun k : Nat => PyData.int k) (f := fun k => .tuple [.int ((k % w : Nat) : Int), .int ((k / w : Nat) : Int)]) (r := [‹.int w›]) rfl (U5 hm (by omega)) (by rw [List.length_range]; omega) ?_]
 ·unfold plc
  rw [List.map_map]; rfl
 ·intro k _
  have wp : (0 : Int) < (w : Int) := by omega
  simp only [J1, A0, A3, A4, A1, xg0, xg1, xbs, xms, am3 wp, am7 wp (sm8 (by omega) (by omega))]
  rfl
theorem bn1 {w h : Nat} {p : Int × Int} (hp : p ∈ plc w (w * h)) (w1 : 1 ≤ w) : 0 ≤ p.1 ∧ p.1 < w ∧ 0 ≤ p.2 ∧ p.2 < h := by
 obtain ⟨k, hk, rfl⟩ := List.mem_map.mp hp
 have hk := List.mem_range.mp hk
 have a := Nat.mod_lt k (show w > 0 by omega)
 have b := Nat.div_lt_of_lt_mul hk
 exact ⟨Int.natCast_nonneg _, Int.ofNat_lt.mpr a, Int.natCast_nonneg _, Int.ofNat_lt.mpr b⟩
theorem o9 (w n : Nat) : (plc w n).length = n := by unfold plc; rw [List.length_map, List.length_range]
theorem ar0 (w h : Int) (s : D) (x y : Int) : V7 [.tuple [.int w, .int h, s], .int x, .int y] = some (.bool (decide (0 ≤ x ∧ x < w ∧ 0 ≤ y ∧ y < h))) := by
 refine A9 (ρ := [‹.tuple [.int w, .int h, s]›, ‹.int x›, ‹.int y›]) rfl ?_
 by_cases a : 0 ≤ x <;> by_cases b : x < w <;> by_cases c : 0 ≤ y <;> by_cases e : y < h <;> simp [az6, A6, B3, B2, sIf, J2, N5, V9, A1, dC, J1, T4, A4, A2, aa2, dOr, ae5, M5, dIx, i5, L8, ae7, X8, ae6, A5, qE, qN, ab9, O1, L3, W8, A3, A0, S0, tB2, V4, f6, O5, x6, N9, G0, A8, K6, B0, L5, L4, z7, xg0, xg1, xw0, xw1, xbs, xms, xmc, xmn, xna, xca, W9, V5, ag8, ag6, aa0, ak8, ae4, al4, al3, al2, al1, al7, al6, al5, ae9, ae8, xnt, xnf, xft, if_true, if_false, ad7, ak7, a, b, c, e]
theorem ao8 {n : Nat} {i : Int} (h0 : 0 ≤ i) (h1 : i < n) : ixN n i = some i.toNat := by unfold ixN; rw [if_pos h0, if_pos h1]
theorem atD (l : List Q4) {i : Int} (h0 : 0 ≤ i) (h1 : i < l.length) : L2.atI (l.map Q4.d) i = some (l.getD i.toNat q0).d := by
 unfold L2.atI
 rw [List.length_map, ao8 h0 h1, xbs, List.getElem?_map, List.getD_eq_getElem?_getD]
 have : i.toNat < l.length := by omega
 rw [List.getElem?_eq_getElem this]; rfl
theorem y8 {w h : Nat} {x y : Int} (b : 0 ≤ x ∧ x < w ∧ 0 ≤ y ∧ y < h) : 0 ≤ y * w + x ∧ y * w + x < ((w * h : Nat) : Int) := by
 obtain ⟨a, b, c, e⟩ := b
 have p : 0 ≤ y * (w : Int) := Int.mul_nonneg c (by omega)
 refine ⟨by omega, ?_⟩
 have : (y + 1) * (w : Int) ≤ h * (w : Int) := Int.mul_le_mul_of_nonneg_right (by omega) (by omega)
 have e2 : (y + 1) * (w : Int) = y * w + w := by rw [Int.add_mul, Int.one_mul]
 have e3 : ((w * h : Nat) : Int) = h * w := by rw [Int.natCast_mul, Int.mul_comm]
 omega
theorem aL9 {w h : Nat} {x y : Int} (s : D) (w8 : w ≤ 8) (h8 : h ≤ 8) (b : 0 ≤ x ∧ x < w ∧ 0 ≤ y ∧ y < h) : N6 [.tuple [.int w, .int h, s], .int x, .int y] = some (.int (y * w + x)) := by
 refine A9 (ρ := [‹.tuple [.int w, .int h, s]›, ‹.int x›, ‹.int y›]) rfl ?_
 wp_walk using evD, u7, bg7 (sm8 b.2.2.1 (by omega)) (sm8 (show (0 : Int) ≤ w by omega) (by omega))
theorem be6 {k w h : Nat} {l : List Q4} (S : ShOk k w h l) (x y : Int) : ak0 [shD w h l, .int x, .int y] = some (atQ w h l x y).d := by
 refine A9 (ρ := [‹shD w h l›, ‹.int x›, ‹.int y›]) rfl ?_
 have hp := ar0 w h (.tuple (l.map Q4.d)) x y
 unfold atQ
 by_cases b : 0 ≤ x ∧ x < w ∧ 0 ≤ y ∧ y < h
 ·rw [if_pos b]
  rw [decide_eq_true b] at hp
  have nm := aL9 (.tuple (l.map Q4.d)) S.w8 S.h8 b
  have pn := y8 b
  have e := atD l pn.1 (by rw [S.len]; exact pn.2)
  wp_walk using evD, ay0, shD, hp, nm, e
 ·rw [if_neg b]
  rw [decide_eq_false b] at hp
  wp_walk using evD, ay0, shD, hp
  rfl
theorem cp3 : K5 (.tuple [.tuple [.int 0, .int 1]]) (.int 4) = some q0.d := rfl
def Man.bl (m : Man) (a b : Q4) : Q4 := ⟨m.cov a.c b.c, m.col a.c b.c a.x b.x, m.col a.c b.c a.y b.y, m.col a.c b.c a.z b.z⟩
theorem cI8 (m : Man) {k : Nat} {a b : Q4} (S : a.ok k) (T : b.ok k) (l : 6 * k + 4 ≤ 8000) : j5 [.str m.s, a.d, b.d] = some (m.bl a b).d ∧ (m.bl a b).ok (6 * k + 4) := bj8 m S T l
theorem bx2 (m : Man) {k : Nat} {a b : Q4} (S : a.ok k) (T : b.ok k) (l : 6 * k + 4 ≤ 8000) : Y0 [.str m.s, a.d, b.d] = some (m.bl a b).d := aS4 m S T l
end Sh
namespace Sh
open PySem G L2
abbrev scr (ns : List Int) : D := .list (ns.map PyData.int)
theorem aZ9 (ns : List Int) (k m : Nat) (hn : ns.length ≤ 63) (hk : k < 2 ^ 60) (hm : 0 < m) : ∃ n : Nat, A7 [scr ns, .int k, .int m] = some (.int n) ∧ n < m := by
 have a := aC8 ns k m hn hk (by omega)
 have b := aB3 ns k m (by omega)
 refine ⟨(ar4 ns k m).toNat, ?_, by omega⟩
 rw [a]
 congr 2
 omega
theorem t8 {h : D → D → Option D} {f g : DE} {ρ : Rho} {x y : D} (h1 : f ρ = some x) (h2 : g ρ = some y) : A4 h f g ρ = h x y := by unfold A4; rw [h1, xbs, h2, xbs]
theorem x9 {α : Type} (a : α) : ∀ n : Nat, (List.replicate n [a]).flatten = List.replicate n a
 | 0 => rfl
 | n + 1 => by rw [List.replicate_succ, List.flatten_cons, x9 a n]; rfl
theorem bK2 {xs : List D} {n : Nat} (hn : n ≤ 1000) (hx : xs.length ≤ 1000) : K5 (.list xs) (.int n) = some (.list (List.replicate n xs).flatten) := by
 show (if 0 ≤ (n : Int) ∧ (n : Int) < 1000000 ∧ xs.length * ((n : Int)).toNat ≤ 16777216 then some (PyData.list (List.replicate ((n : Int)).toNat xs).flatten) else none) = _
 rw [Int.toNat_natCast, if_pos ⟨by omega, by omega, Nat.le_trans (Nat.mul_le_mul hx hn) (by decide)⟩]
theorem cM3 (a : D) (r : List D) : al0 (a :: r) none (some 1) = [a] := by
 unfold al0
 have h1 : HT.sIx (a :: r).length 0 none = 0 := by simp [HT.sIx]
 have h2 : HT.sIx (a :: r).length (a :: r).length (some 1) = 1 := by simp only [HT.sIx, List.length_cons]; first | omega | (simp; omega) | simp
 rw [h1, h2]; rfl
theorem br7 (ns : List Int) (k : Nat) (hn : ns.length ≤ 63) (hk : k < 2 ^ 30) : ∃ q : Q4, k8 [scr ns, .int k] = some q.d ∧ q.ok 8 := by
 obtain ⟨c, x, y, z, e, S⟩ := cB4 ns k hn hk
 exact ⟨⟨c, x, y, z⟩, e, S⟩
theorem bF5 (ns : List Int) (at' : Nat) (hn : ns.length ≤ 63) (ha : at' < 2 ^ 20) : ∃ f : Nat → Q4, ∀ k, k < 1000 → k8 [scr ns, .int ((at' + 12 * k : Nat) : Int)] = some (f k).d ∧ (f k).ok 8 := by
 refine ⟨fun k => if h : k < 1000 then Classical.choose (br7 ns (at' + 12 * k) hn (by omega)) else q0, fun k hk => ?_⟩
 simp only [dif_pos hk]
 exact Classical.choose_spec (br7 ns (at' + 12 * k) hn (by omega))
theorem aS3 (ns : List Int) (at' w h : Nat) (hn : ns.length ≤ 63) (ha : at' < 2 ^ 20) (w1 : 1 ≤ w) (w8 : w ≤ 8) (h1 : 1 ≤ h) (h8 : h ≤ 8) : ∃ l : List Q4, ab2 [scr ns, .int at', .int w, .int h] = some (shD w h l) ∧ ShOk 8 w h l := by
 obtain ⟨f, hf⟩ := bF5 ns at' hn ha
 have wh : w * h ≤ 64 := Nat.mul_le_mul w8 h8
 have wh1 : 1 ≤ w * h := Nat.mul_le_mul w1 h1
 obtain ⟨t, et, ht⟩ := aZ9 ns (at' + 7) 3 hn (by omega) (by decide)
 have et' : A7 [scr ns, .int ((at' : Int) + 7), .int 3] = some (.int t) := by rw [← et]; simp
 have c : D6 1 [0, 1] (L6 (A4 K5 (A1 2) (A1 3))) (A8 0) G0 (A2 k8 (A0 (A1 1) (A0 (A4 B4 (A1 2) (A4 K5 (dC (.int 12)) (A1 0))) A3))) [‹scr ns›, ‹.int at'›, ‹.int w›, ‹.int h›, none] = some ((List.range (w * h)).map fun k => (f k).d) := by
  refine X4 (l := List.range (w * h)) (h := fun k : Nat => PyData.int k) (r := [‹scr ns›, ‹.int at'›]) rfl (U5 ?_ (by omega)) (by rw [List.length_range]; omega) ?_
  ·exact O6 (by omega) (by omega)
  ·intro k hk
   have hk := List.mem_range.mp hk
   have m12 : K5 (.int 12) (.int k) = some (.int ((12 * k : Nat) : Int)) := O6 (i := 12) (by decide) (by omega)
   have e1 : ((at' : Int) + ((12 * k : Nat) : Int)) = ((at' + 12 * k : Nat) : Int) := by omega
   wp_walk using evD, m12, e1, (hf k (by omega)).1
 have mwh : K5 (.int w) (.int h) = some (.int ((w * h : Nat) : Int)) := O6 (by omega) (by omega)
 have cv : ((t : Int) == 0) = decide (t = 0) := by cases t with
  | zero => rfl
  | succ n => rw [decide_eq_false (by omega)]; exact beq_eq_false_iff_ne.mpr (by omega)
 obtain ⟨n, en⟩ : ∃ n, w * h = n + 1 := ⟨w * h - 1, by omega⟩
 by_cases t0 : t = 0
 ·refine ⟨List.replicate (w * h) (f 0), ?_, w1, w8, h1, h8, List.length_replicate .., fun q hq => by rw [(List.mem_replicate.mp hq).2]; exact (hf 0 (by decide)).2⟩
  refine A9 (ρ := [‹scr ns›, ‹.int at'›, ‹.int w›, ‹.int h›, none]) rfl ?_
  have hd : (List.range (w * h)).map (fun k => (f k).d) = (f 0).d :: (List.range n).map (fun k => (f (k + 1)).d) := by
   rw [en, List.range_succ_eq_map, xmc, List.map_map]; rfl
  rw [hd] at c
  have v : A4 K5 (aK1 (A1 4) O1 (L3 (dC (.int 1)))) (A4 K5 (A1 2) (A1 3)) [‹scr ns›, ‹.int at'›, ‹.int w›, ‹.int h›, ‹.list ((f 0).d :: (List.range n).map (fun k => (f (k + 1)).d))›] = some (.list (List.replicate (w * h) (f 0).d)) := by
   have a1 : aK1 (A1 4) O1 (L3 (dC (.int 1))) [‹scr ns›, ‹.int at'›, ‹.int w›, ‹.int h›, ‹.list ((f 0).d :: (List.range n).map (fun k => (f (k + 1)).d))›] = some (.list (al0 ((f 0).d :: (List.range n).map (fun k => (f (k + 1)).d)) none (some 1))) := rfl
   have a2 : A4 K5 (A1 2) (A1 3) [‹scr ns›, ‹.int at'›, ‹.int w›, ‹.int h›, ‹.list ((f 0).d :: (List.range n).map (fun k => (f (k + 1)).d))›] = some (.int ((w * h : Nat) : Int)) := (t8 rfl rfl).trans mwh
   rw [cM3] at a1
   have a3 := bK2 (xs := [(f 0).d]) (show w * h ≤ 1000 by omega) (show 1 ≤ 1000 by decide)
   rw [x9] at a3
   exact (t8 a1 a2).trans a3
  have t1 : tB2 eqD (A2 A7 (A0 (A1 0) (A0 (A4 B4 (A1 1) (dC (.int 7))) (A0 (dC (.int 3)) A3)))) (dC (.int 0)) [‹scr ns›, ‹.int at'›, ‹.int w›, ‹.int h›, ‹.list ((f 0).d :: (List.range n).map (fun k => (f (k + 1)).d))›] = some true := by
   simp only [tB2, A4, A2, A0, A3, A1, dC, xms, xbs, xg0, xg1, ad7, et', aa0, cv, decide_eq_true t0, N9]
  simp only [ay1, A6, N5, c, sIf, t1, B3, v, B2, J1, A0, A3, L8, A5, A1, xms, xbs, xw0, xw1, xg0, xg1, if_true, xft, if_false, shD, List.map_replicate]
 ·refine ⟨(List.range (w * h)).map f, ?_, w1, w8, h1, h8, by rw [List.length_map, List.length_range], fun q hq => by
   obtain ⟨k, hk, rfl⟩ := List.mem_map.mp hq
   exact (hf k (by have := List.mem_range.mp hk; omega)).2⟩
  refine A9 (ρ := [‹scr ns›, ‹.int at'›, ‹.int w›, ‹.int h›, none]) rfl ?_
  wp_walk using evD, ay1, c, et', cv, decide_eq_false t0, shD, List.map_map
  rfl
end Sh
namespace Sh
open PySem G L2
theorem aH2 {j k : Nat} {r s : Rat} (hr : Bd j r) (hs : Bd k s) (l : j + k ≤ 8000) (hl : s ≤ r) : S5 [.int (r.num * s.den - s.num * r.den), .int (r.den * s.den)] = some (fr (r - s)) := by
 have := aH9 (r.num.natAbs * s.den - s.num.natAbs * r.den) (r.den * s.den) (j + k) (Nat.mul_pos (M1 r) (M1 s)) (N0 hr.den hs.den) l
 rw [← aA7 hr hs hl, Int.ofNat_sub (aO6 hr hs hl), Int.natCast_mul, Int.natCast_mul, Int.natCast_mul, ← hr.nat, ← hs.nat] at this
 exact this
theorem at9 {j k : Nat} {s n o : Rat} (hs : IsSh k s) (hn : Bd j n) (ho : Bd k o) (l : k + j + 2 * k + 1 ≤ 8000) :
  D5 [fr n, fr s] = some (fr (n * s)) ∧ D5 [fr o, fr (1 - s)] = some (fr (o * (1 - s))) ∧ J0 [fr (n * s), fr (o * (1 - s))] = some (fr (s * n + (1 - s) * o)) := by
 have e : s * n + (1 - s) * o = n * s + o * (1 - s) := by grind
 rw [e]
 exact ⟨M2 hn hs.bd (by omega), M2 ho (T0 hs).bd (by omega), P6 (hn.mul hs.bd) (ho.mul (T0 hs).bd) (by omega)⟩
theorem cI7 (a b c d : D) : m9 (.tuple [a]) (.tuple [b, c, d]) = some (.tuple [a, b, c, d]) := rfl
theorem ln4 (a b c d : D) : ([a, b, c, d] : List D).length = 4 := rfl
theorem bp7 (a b c d : D) (g : List D → Rho → Option Rho) (ρ : Rho) : K6 4 g (.tuple [a, b, c, d]) ρ = g [a, b, c, d] ρ := rfl
theorem q4 : (4 : Nat) ≤ 16777216 := by decide
theorem q3 : (3 : Nat) ≤ 16777216 := by decide
theorem cI6 {e : DE} {x y z X Y Z : D} {t : Option B} (h1 : e [some (.val x), t] = some X) (h2 : e [some (.val y), t] = some Y) (h3 : e [some (.val z), t] = some Z) : P5 (A8 0) G0 e [x, y, z] [none, t] = some [X, Y, Z] := by
 simp only [P5, A8, G0, xbs, xms, xw0, h1, h2, h3, if_true]
theorem aY2 (r : Rul) {k : Nat} {s c x y z : Rat} (S : Spot k c x y z) (hs : IsSh k s) (l : 6 * k + 6 ≤ 8000) :
  ab1 [.str r.s, sp c x y z, fr s] = some (sp c (r.mix s c x y z) (r.mix s c y z x) (r.mix s c z x y)) := by
 have f4 : ∀ a b c d : D, ([a, b, c, d] : List D).length ≤ 16777216 := fun a b c d => by show 4 ≤ 16777216; decide
 have f3 : ∀ a b c : D, ([a, b, c] : List D).length ≤ 16777216 := fun a b c => by show 3 ≤ 16777216; decide
 have p1 := P6 S.hy S.hz (by omega)
 have b1 := S.hy.add S.hz
 have p2 := P6 S.hx b1 (by omega)
 have b2 := S.hx.add b1
 have p3 := M2 b2 ap7.bd (by omega)
 rw [aY8] at p3
 have g0 : (x + (y + z)) * third = (x + y + z) * third := by grind
 have g1 : (y + z + x) * third = (x + y + z) * third := by grind
 have g2 : (z + x + y) * third = (x + y + z) * third := by grind
 rw [g0] at p3
 have rs := aj7 hs.bd (by omega) hs.le
 obtain ⟨c1, c2, c3⟩ := at9 hs S.hc.bd S.hc.bd (by omega)
 have cc : s * c + (1 - s) * c = c := by grind
 rw [cc] at c3
 obtain ⟨x1, x2, x3⟩ := at9 hs (ao4 r S) S.hx (by omega)
 obtain ⟨y1, y2, y3⟩ := at9 hs (ao4 r S.rot) S.hy (by omega)
 obtain ⟨z1, z2, z3⟩ := at9 hs (ao4 r S.rot.rot) S.hz (by omega)
 refine A9 (ρ := [‹.str r.s›, ‹sp c x y z›, ‹fr s›, none, none, none, none, none, none, none]) rfl ?_
 cases r with
 | turn =>
  have t1 := aH2 S.hc.bd S.hx (by omega) S.xc
  have t2 := aH2 S.hc.bd S.hy (by omega) S.yc
  have t3 := aH2 S.hc.bd S.hz (by omega) S.zc
  simp only [Rul.new] at x1 y1 z1 x3 y3 z3
  have one : ∀ {u : Rat}, Bd k u → ∀ v : D, S5 [.int (c.num * u.den - u.num * c.den), .int (c.den * u.den)] = some v → A2 S5 (A0 (A4 ae3 (A4 T1 (dIx (A5 1) (dC (.int 0))) (dIx (A5 0) (dC (.int 1)))) (A4 T1 (dIx (A5 0) (dC (.int 0))) (dIx (A5 1) (dC (.int 1))))) (A0 (A4 T1 (dIx (A5 1) (dC (.int 1))) (dIx (A5 0) (dC (.int 1)))) A3)) [‹fr u›, ‹fr c›] = some v := by
   intro u hu v hv
   simp only [A2, A0, A3, A4, ix0 (v0 _ _), ix1 (v0 _ _), ix0 (v1 _ _ _), ix1 (v1 _ _ _), xbs, xms, P3 (S.hc.bd.sn (by omega)) (hu.sd (by omega)), P3 (hu.sn (by omega)) (S.hc.bd.sd (by omega)), P3 (S.hc.bd.sd (by omega)) (hu.sd (by omega)), V5]
   exact hv
  have inner := cI6 (one S.hx _ t1) (one S.hy _ t2) (one S.hz _ t3)
  simp only [au0, Rul.s, sp, A6, B3, B2, sIf, J2, N5, V9, A1, dC, J1, T4, A4, A2, as6, aa2, dOr, ae5, M5, dIx, aa1, i5, L8, ae7, X8, ae6, A5, qE, qN, ab9, O1, L3, W8, A3, A0, S0, tB2, V4, f6, O5, x6, N9, D6, n5, G0, A8, K6, B0, L5, L4, L6, ah0, z7, xg0, xg1, xw0, xw1, xbs, xms, xmc, xmn, xna, xca, W9, V5, ag8, ag6, aa0, ak8, ae4, aI3, aE6, aI2, am8, al4, al3, al2, al1, al7, al6, al5, ae9, ae8, xnt, xnf, xft, if_true, if_false, ite_true, ite_false, bp7, ln4, ln2, q4, q3, f4, f3, E9, J5, C2, E8, F0, G3, J7, M4, F4, J6, J8, K7, B8, E4, B1, B7, B9, D0, E6, J4, C1, E5, E7, G2, F8, K0, C3, F7, F9, G7, G5, K8, D4, G4, G6, J9, E2, E3, C9, F5, F6, D3, D1, D2, C0, D7, D8, C5, D9, E1, C8, C6, C7, B6, p1, p2, p3, inner, cI7, bU0, rs, c1, c2, c3, x1, x2, x3, y1, y2, y3, z1, z2, z3, Rul.mix, Rul.new]
  wp_walk using evA, bp7, ln4, ln2, q4, q3, f4, f3, c1, c2, c3, x1, x2, x3, y1, y2, y3, z1, z2, z3
 | grey =>
  simp only [Rul.new, g1, g2] at x1 y1 z1 x3 y3 z3
  wp_walk using evA, au0, Rul.s, sp, bp7, ln4, q4, ln2, E9, J5, C2, E8, F0, G3, J7, M4, F4, J6, J8, K7, B8, E4, B1, B7, B9, D0, E6, J4, C1, E5, E7, G2, F8, K0, C3, F7, F9, G7, G5, K8, D4, G4, G6, J9, E2, E3, C9, F5, F6, D3, D1, D2, C0, D7, D8, C5, D9, E1, C8, C6, C7, B6, p1, p2, p3, bU0, f4, rs, c1, c2, c3, x1, x2, x3, y1, y2, y3, z1, z2, z3, Rul.mix, Rul.new, g1, g2
 | round =>
  simp only [Rul.new] at x1 y1 z1 x3 y3 z3
  wp_walk using evA, au0, Rul.s, sp, bp7, ln4, q4, ln2, E9, J5, C2, E8, F0, G3, J7, M4, F4, J6, J8, K7, B8, E4, B1, B7, B9, D0, E6, J4, C1, E5, E7, G2, F8, K0, C3, F7, F9, G7, G5, K8, D4, G4, G6, J9, E2, E3, C9, F5, F6, D3, D1, D2, C0, D7, D8, C5, D9, E1, C8, C6, C7, B6, p1, p2, p3, bU0, f4, rs, c1, c2, c3, x1, x2, x3, y1, y2, y3, z1, z2, z3, Rul.mix, Rul.new
end Sh
namespace Sh
open PySem G L2
def Dv (N : Nat) (r : Rat) : Prop := ∃ z : Int, r * (N : Rat) = (z : Rat)
theorem Dv.add {N : Nat} {r s : Rat} (h : Dv N r) (g : Dv N s) : Dv N (r + s) := by
 obtain ⟨a, ha⟩ := h; obtain ⟨b, hb⟩ := g
 exact ⟨a + b, by rw [Rat.add_mul, ha, hb, Rat.intCast_add]⟩
theorem Dv.sub {N : Nat} {r s : Rat} (h : Dv N r) (g : Dv N s) : Dv N (r - s) := by
 obtain ⟨a, ha⟩ := h; obtain ⟨b, hb⟩ := g
 exact ⟨a - b, by rw [Rat.intCast_sub, ← ha, ← hb]; grind⟩
theorem Dv.mul {M N : Nat} {r s : Rat} (h : Dv M r) (g : Dv N s) : Dv (M * N) (r * s) := by
 obtain ⟨a, ha⟩ := h; obtain ⟨b, hb⟩ := g
 exact ⟨a * b, by rw [Rat.intCast_mul, ← ha, ← hb, Rat.natCast_mul]; grind⟩
theorem Dv.int (N : Nat) (i : Int) : Dv N (i : Rat) := ⟨i * N, by rw [Rat.intCast_mul]; rfl⟩
theorem Dv.one (N : Nat) : Dv N 1 := Dv.int N 1
theorem Dv.zero (N : Nat) : Dv N 0 := Dv.int N 0
theorem Dv.right {N : Nat} {r : Rat} (h : Dv N r) (M : Nat) : Dv (N * M) r := by
 have := h.mul (Dv.one M); rwa [Rat.mul_one] at this
theorem Dv.left {N : Nat} {r : Rat} (h : Dv N r) (M : Nat) : Dv (M * N) r := by
 have := (Dv.one M).mul h; rwa [Rat.one_mul] at this
theorem Dv.comm {M N : Nat} {r : Rat} (h : Dv (M * N) r) : Dv (N * M) r := by rwa [Nat.mul_comm]
theorem Dv.of (a : Int) {N : Nat} (hN : 0 < N) : Dv N (mkRat a N) := by
 refine ⟨a, ?_⟩
 have hN' : (N : Rat) ≠ 0 := by
  intro h
  have : N = 0 := by exact_mod_cast h
  omega
 rw [Rat.mkRat_eq_div]
 exact Rat.div_mul_cancel hN'
theorem Dv.mk {N : Nat} {r : Rat} (hN : 0 < N) (h : Dv N r) (h0 : 0 ≤ r) (h1 : r ≤ 1) : ∃ a : Nat, a ≤ N ∧ r = mkRat a N := by
 obtain ⟨z, hz⟩ := h
 have hN' : (0 : Rat) < N := by exact_mod_cast hN
 have z0 : 0 ≤ z := by
  have : (0 : Rat) ≤ (z : Rat) := by rw [← hz]; exact Rat.mul_nonneg h0 (Rat.le_of_lt hN')
  exact_mod_cast this
 have z1 : z ≤ N := by
  have : (z : Rat) ≤ (N : Rat) := by
   rw [← hz]
   have := Rat.mul_le_mul_of_nonneg_right h1 (Rat.le_of_lt hN')
   rwa [Rat.one_mul] at this
  exact_mod_cast this
 refine ⟨z.toNat, by omega, ?_⟩
 have e : ((z.toNat : Nat) : Int) = z := by omega
 rw [Rat.mkRat_eq_div]
 have hne : (N : Rat) ≠ 0 := fun h => by rw [h] at hN'; exact absurd hN' (by decide)
 have e2 : (((z.toNat : Nat) : Int) : Rat) = r * N := by rw [e, hz]
 rw [e2]
 exact (Rat.mul_div_cancel hne).symm
theorem Dv.cap {N : Nat} {r : Rat} (h : Dv N r) : Dv N (aa4 r) := by
 unfold aa4; split
 ·exact h
 ·exact Dv.one N
theorem Dv.cov (m : Man) {M N : Nat} {c d : Rat} (hc : Dv M c) (hd : Dv N d) : Dv (M * N) (m.cov c d) := by
 cases m
 case plus => exact ((hc.right N).add (hd.left M)).cap
 case atop => exact hd.left M
 case cut => exact (hd.mul ((Dv.one M).sub hc)).comm
 all_goals exact ((hc.right N).add (hd.left M)).sub (hc.mul hd)
theorem Dv.col (m : Man) {M N : Nat} {c d x y : Rat} (hc : Dv M c) (hd : Dv N d) (hx : Dv M x) (hy : Dv N y) : Dv (M * N) (m.col c d x y) := by
 have r := (hy.mul ((Dv.one M).sub hc)).comm
 cases m
 case over => exact (hx.right N).add r
 case mult => exact ((hx.mul hy).add (hx.mul ((Dv.one N).sub hd))).add r
 case screen => exact ((hx.right N).add (hy.left M)).sub (hx.mul hy)
 case plus => exact ((hx.right N).add (hy.left M)).cap
 case atop => exact (hx.mul hd).add r
 case cut => exact r
def Dn (k : Nat) (q : Q4) : Prop := ∃ N, 0 < N ∧ N < 2 ^ k ∧ Dv N q.c ∧ Dv N q.x ∧ Dv N q.y ∧ Dv N q.z
def Ds (k : Nat) (s : Rat) : Prop := ∃ N, 0 < N ∧ N < 2 ^ k ∧ Dv N s
theorem V1 {a b j k : Nat} (h1 : a < 2 ^ j) (h2 : b < 2 ^ k) : a * b < 2 ^ (j + k) := by
 rw [Nat.pow_add]
 exact Nat.mul_lt_mul'' h1 h2
theorem Dn.bl (m : Man) {j k : Nat} {a b : Q4} (h : Dn j a) (g : Dn k b) : Dn (j + k) (m.bl a b) := by
 obtain ⟨M, m0, m1, hc, hx, hy, hz⟩ := h
 obtain ⟨N, n0, n1, gc, gx, gy, gz⟩ := g
 exact ⟨M * N, Nat.mul_pos m0 n0, V1 m1 n1, hc.cov m gc, hc.col m gc hx gx, hc.col m gc hy gy, hc.col m gc hz gz⟩
def Q4.wt (q : Q4) (s : Rat) : Q4 := ⟨q.c * s, q.x * s, q.y * s, q.z * s⟩
theorem Dn.wt {j k : Nat} {q : Q4} {s : Rat} (h : Dn j q) (g : Ds k s) : Dn (j + k) (q.wt s) := by
 obtain ⟨M, m0, m1, hc, hx, hy, hz⟩ := h
 obtain ⟨N, n0, n1, gs⟩ := g
 exact ⟨M * N, Nat.mul_pos m0 n0, V1 m1 n1, hc.mul gs, hx.mul gs, hy.mul gs, hz.mul gs⟩
def Rul.tn (r : Rul) (s : Rat) (q : Q4) : Q4 := ⟨q.c, r.mix s q.c q.x q.y q.z, r.mix s q.c q.y q.z q.x, r.mix s q.c q.z q.x q.y⟩
theorem Dv.third : Dv 3 third := Dv.of 1 (by decide)
theorem Dv.new (r : Rul) {N : Nat} {c x y z : Rat} (hc : Dv N c) (hx : Dv N x) (hy : Dv N y) (hz : Dv N z) : Dv (N * 3) (r.new c x y z) := by
 cases r
 ·exact (hc.sub hx).right 3
 ·exact ((hx.add hy).add hz).mul Dv.third
 ·exact hy.right 3
theorem Dv.mix (r : Rul) {M N : Nat} {s c x y z : Rat} (hs : Dv M s) (hc : Dv N c) (hx : Dv N x) (hy : Dv N y) (hz : Dv N z) : Dv (M * (N * 3)) (r.mix s c x y z) :=
 (hs.mul (Dv.new r hc hx hy hz)).add (((Dv.one M).sub hs).mul (hx.right 3))
theorem Dn.tn (r : Rul) {j k : Nat} {q : Q4} {s : Rat} (h : Dn j q) (g : Ds k s) : Dn (k + (j + 2)) (r.tn s q) := by
 obtain ⟨N, n0, n1, hc, hx, hy, hz⟩ := h
 obtain ⟨M, m0, m1, gs⟩ := g
 exact ⟨M * (N * 3), Nat.mul_pos m0 (Nat.mul_pos n0 (by decide)), V1 m1 (V1 n1 (by decide)), (hc.right 3).left M, gs.mix r hc hx hy hz, gs.mix r hc hy hz hx, gs.mix r hc hz hx hy⟩
theorem Dn.mono {j k : Nat} {q : Q4} (h : Dn j q) (l : j ≤ k) : Dn k q := by
 obtain ⟨N, n0, n1, r⟩ := h
 exact ⟨N, n0, Nat.lt_of_lt_of_le n1 (Nat.pow_le_pow_right (by decide) l), r⟩
def Q4.or (q : Q4) : Prop := 0 ≤ q.x ∧ 0 ≤ q.y ∧ 0 ≤ q.z ∧ q.x ≤ q.c ∧ q.y ≤ q.c ∧ q.z ≤ q.c ∧ q.c ≤ 1
theorem Q4.ok.or {k : Nat} {q : Q4} (h : q.ok k) : q.or := ⟨h.hx.nn, h.hy.nn, h.hz.nn, h.xc, h.yc, h.zc, h.hc.le⟩
structure Dq (k : Nat) (q : Q4) : Prop where
 o : q.or
 n : Dn k q
theorem bm6 {k N : Nat} {r : Rat} (n0 : 0 < N) (n1 : N < 2 ^ k) (d : Dv N r) (h0 : 0 ≤ r) (h1 : r ≤ 1) : IsSh k r := by
 obtain ⟨a, ha, e⟩ := d.mk n0 h0 h1
 refine ⟨?_, h1⟩
 rw [e]
 exact Bd.of n0 (by omega) n1
theorem Dq.ok {k : Nat} {q : Q4} (h : Dq k q) : q.ok k := by
 obtain ⟨⟨x0, y0, z0, xc, yc, zc, c1⟩, N, n0, n1, hc, hx, hy, hz⟩ := h
 have c0 := Rat.le_trans x0 xc
 exact ⟨bm6 n0 n1 hc c0 c1, (bm6 n0 n1 hx x0 (Rat.le_trans xc c1)).bd, (bm6 n0 n1 hy y0 (Rat.le_trans yc c1)).bd, (bm6 n0 n1 hz z0 (Rat.le_trans zc c1)).bd, xc, yc, zc⟩
theorem Dq.mono {j k : Nat} {q : Q4} (h : Dq j q) (l : j ≤ k) : Dq k q := ⟨h.o, h.n.mono l⟩
theorem Dq.zero (k : Nat) : Dq (k + 1) q0 := ⟨(cE3 (k := 1) (by decide)).or, 1, by decide, Nat.one_lt_two_pow (by omega), Dv.zero 1, Dv.zero 1, Dv.zero 1, Dv.zero 1⟩
structure Sr (k : Nat) (s : Rat) : Prop where
 h : IsSh k s
 n : Ds k s
theorem Dq.bl (m : Man) {j k : Nat} {a b : Q4} (h : Dq j a) (g : Dq k b) (l : j + k ≤ 1000) : Dq (j + k) (m.bl a b) ∧ j5 [.str m.s, a.d, b.d] = some (m.bl a b).d := by
 have r := cI8 m (h.ok.mono (k := j + k) (by omega)) (g.ok.mono (k := j + k) (by omega)) (by omega)
 exact ⟨⟨r.2.or, h.n.bl m g.n⟩, r.1⟩
theorem Dq.lbl (m : Man) {j k : Nat} {a b : Q4} (h : Dq j a) (g : Dq k b) (l : j + k ≤ 1000) : Y0 [.str m.s, a.d, b.d] = some (m.bl a b).d := bx2 m (h.ok.mono (k := j + k) (by omega)) (g.ok.mono (k := j + k) (by omega)) (by omega)
theorem bE1 {j k : Nat} {q : Q4} {s : Rat} (S : q.ok j) (hs : IsSh k s) (l : j + k ≤ 8000) : k6 [q.d, fr s] = some (q.wt s).d := by
 refine A9 (ρ := [some (.val q.d), ‹fr s›]) rfl ?_
 have f4 : ∀ a b c d : D, ([a, b, c, d] : List D).length ≤ 16777216 := fun a b c d => by show 4 ≤ 16777216; decide
 wp_walk using evC, aH3, Q4.d, Q4.wt, sp, f4, N2 S.hc.bd hs.bd l, N2 S.hx hs.bd l, N2 S.hy hs.bd l, N2 S.hz hs.bd l
theorem cC5 {q : Q4} {s : Rat} (h : q.or) (s0 : 0 ≤ s) (s1 : s ≤ 1) : (q.wt s).or := by
 obtain ⟨x0, y0, z0, xc, yc, zc, c1⟩ := h
 have mono : ∀ {u v : Rat}, u ≤ v → u * s ≤ v * s := fun h => Rat.mul_le_mul_of_nonneg_right h s0
 exact ⟨Rat.mul_nonneg x0 s0, Rat.mul_nonneg y0 s0, Rat.mul_nonneg z0 s0, mono xc, mono yc, mono zc, Rat.le_trans (Z3 (Rat.le_trans x0 xc) s1) c1⟩
theorem Dq.wt {j k : Nat} {q : Q4} {s : Rat} (h : Dq j q) (g : Sr k s) : Dq (j + k) (q.wt s) := ⟨cC5 h.o g.h.bd.nn g.h.le, h.n.wt g.n⟩
theorem Dq.tn (r : Rul) {j k : Nat} {q : Q4} {s : Rat} (h : Dq j q) (g : Sr k s) (l : j + k + 2 ≤ 1000) : Dq (j + k + 2) (r.tn s q) ∧ au2 [.str r.s, q.d, fr s] = some (r.tn s q).d := by
 have t := bE7 r (h.ok.mono (k := j + k) (by omega)) (g.h.mono (k := j + k) (by omega)) (by omega)
 refine ⟨⟨Q4.ok.or (q := r.tn s q) t.2, ?_⟩, t.1⟩
 have := h.n.tn r g.n
 rwa [show k + (j + 2) = j + k + 2 by omega] at this
theorem Dq.ltn (r : Rul) {j k : Nat} {q : Q4} {s : Rat} (h : Dq j q) (g : Sr k s) (l : j + k + 2 ≤ 1000) : ab1 [.str r.s, q.d, fr s] = some (r.tn s q).d := aY2 r (h.ok.mono (k := j + k) (by omega)) (g.h.mono (k := j + k) (by omega)) (by omega)
end Sh
namespace Sh
open PySem G L2
inductive Nd where
 | layer (nm : D) (m : Man) (s : Rat) (sh : Bool) (lf tp : Int) (mk : Option (List Rat)) (w h : Nat) (l : List Q4) (kb : Nat)
 | tone (nm : D) (r : Rul) (s : Rat) (sh : Bool)
 | group (nm : D) (m : Man) (s : Rat) (sh : Bool) (ns : List Nd)
def mkD : Option (List Rat) → D
 | none => .none
 | some ms => .tuple (ms.map fr)
mutual
def Nd.d : Nd → D
 | .layer nm m s sh lf tp mk w h l _ => .tuple [.str "layer", nm, .str m.s, fr s, .bool sh, .int lf, .int tp, mkD mk, shD w h l]
 | .tone nm r s sh => .tuple [.str "tone", nm, .str r.s, fr s, .bool sh]
 | .group nm m s sh ns => .tuple [.str "group", nm, .str m.s, fr s, .bool sh, .tuple (Nd.ds ns)]
def Nd.ds : List Nd → List D
 | [] => []
 | n :: r => n.d :: Nd.ds r
end
def aJ1 (mk : Option (List Rat)) (w h : Nat) (l : List Q4) (x y : Int) : Q4 := match mk with
 | none => atQ w h l x y
 | some ms => if 0 ≤ x ∧ x < w ∧ 0 ≤ y ∧ y < h then (atQ w h l x y).wt (ms.getD (y * w + x).toNat 1) else atQ w h l x y
def aF6 (s : Rat) (lf tp : Int) (mk : Option (List Rat)) (w h : Nat) (l : List Q4) (x y : Int) : Q4 := (aJ1 mk w h l (x - lf) (y - tp)).wt s
mutual
def Nd.ab (x y : Int) : Nd → Q4 → Q4
 | .layer _ m s sh lf tp mk w h l _, q => if sh = true then m.bl (aF6 s lf tp mk w h l x y) q else q
 | .tone _ r s sh, q => if sh = true then r.tn s q else q
 | .group _ m s sh ns, q => if sh = true then m.bl ((Nd.sw x y ns q0).wt s) q else q
def Nd.sw (x y : Int) : List Nd → Q4 → Q4
 | [], q => q
 | n :: r, q => Nd.sw x y r (Nd.ab x y n q)
end
mutual
def Nd.Ok : Nd → Prop
 | .layer _ _ s _ _ _ mk w h l kb => Sr 4 s ∧ ShOk kb w h l ∧ (∀ q ∈ l, Dq kb q) ∧ (∀ ms, mk = some ms → ms.length = w * h ∧ ∀ r ∈ ms, Sr 4 r) ∧ 1 ≤ kb
 | .tone _ _ s _ => Sr 4 s
 | .group _ _ s _ ns => Sr 4 s ∧ Nd.Oks ns
def Nd.Oks : List Nd → Prop
 | [] => True
 | n :: r => n.Ok ∧ Nd.Oks r
end
mutual
def Nd.wg : Nd → Nat
 | .layer _ _ _ _ _ _ _ _ _ _ kb => kb + 8
 | .tone .. => 6
 | .group _ _ _ _ ns => 5 + Nd.wgs ns
def Nd.wgs : List Nd → Nat
 | [] => 0
 | n :: r => n.wg + Nd.wgs r
end
mutual
def Nd.dp : Nd → Nat
 | .layer .. => 0
 | .tone .. => 0
 | .group _ _ _ _ ns => 1 + Nd.dps ns
def Nd.dps : List Nd → Nat
 | [] => 0
 | n :: r => max n.dp (Nd.dps r)
end
theorem cz4 : eqD (.str "layer") (.str "tone") = some (.bool false) := B5 (by decide +kernel) (by decide +kernel) (by decide +kernel)
theorem cz3 : eqD (.str "tone") (.str "tone") = some (.bool true) := B5 (by decide +kernel) (by decide +kernel) (by decide +kernel)
theorem cz5 : eqD (.str "group") (.str "tone") = some (.bool false) := B5 (by decide +kernel) (by decide +kernel) (by decide +kernel)
theorem cM1 : eqD (.str "layer") (.str "layer") = some (.bool true) := B5 (by decide +kernel) (by decide +kernel) (by decide +kernel)
theorem cM2 : eqD (.str "group") (.str "layer") = some (.bool false) := B5 (by decide +kernel) (by decide +kernel) (by decide +kernel)
theorem bi5 : eqD (.str "layer") (.str "group") = some (.bool false) := B5 (by decide +kernel) (by decide +kernel) (by decide +kernel)
theorem bQ6 : eqD (.str "group") (.str "group") = some (.bool true) := B5 (by decide +kernel) (by decide +kernel) (by decide +kernel)
section
variable {nm : D} {m : Man} {r : Rul} {s : Rat} {sh : Bool} {lf tp : Int} {mk : Option (List Rat)} {w h : Nat} {l : List Q4} {kb : Nat} {ns : List Nd}
theorem aB0 : V3 [Nd.d (.layer nm m s sh lf tp mk w h l kb)] = some (.bool sh) := by rw [Nd.d]; rfl
theorem aA5 : V3 [Nd.d (.tone nm r s sh)] = some (.bool sh) := by rw [Nd.d]; rfl
theorem aB2 : V3 [Nd.d (.group nm m s sh ns)] = some (.bool sh) := by rw [Nd.d]; rfl
theorem bh3 : R1 [Nd.d (.layer nm m s sh lf tp mk w h l kb)] = some (.bool false) := by rw [Nd.d]; exact A9 (ρ := [‹.tuple [.str "layer", nm, .str m.s, fr s, .bool sh, .int lf, .int tp, mkD mk, shD w h l]›]) rfl (congrArg (Option.map Fl.rt) cz4)
theorem bd5 : R1 [Nd.d (.tone nm r s sh)] = some (.bool true) := by rw [Nd.d]; exact A9 (ρ := [‹.tuple [.str "tone", nm, .str r.s, fr s, .bool sh]›]) rfl (congrArg (Option.map Fl.rt) cz3)
theorem bi0 : R1 [Nd.d (.group nm m s sh ns)] = some (.bool false) := by rw [Nd.d]; exact A9 (ρ := [‹.tuple [.str "group", nm, .str m.s, fr s, .bool sh, .tuple (Nd.ds ns)]›]) rfl (congrArg (Option.map Fl.rt) cz5)
theorem bZ7 : m7 [Nd.d (.layer nm m s sh lf tp mk w h l kb)] = some (.bool true) := by rw [Nd.d]; exact A9 (ρ := [‹.tuple [.str "layer", nm, .str m.s, fr s, .bool sh, .int lf, .int tp, mkD mk, shD w h l]›]) rfl (congrArg (Option.map Fl.rt) cM1)
theorem cc9 : m7 [Nd.d (.group nm m s sh ns)] = some (.bool false) := by rw [Nd.d]; exact A9 (ρ := [‹.tuple [.str "group", nm, .str m.s, fr s, .bool sh, .tuple (Nd.ds ns)]›]) rfl (congrArg (Option.map Fl.rt) cM2)
theorem bL0 : Z5 [Nd.d (.layer nm m s sh lf tp mk w h l kb)] = some (.str m.s) := by rw [Nd.d]; rfl
theorem bO5 : Z5 [Nd.d (.group nm m s sh ns)] = some (.str m.s) := by rw [Nd.d]; rfl
theorem co6 : ak2 [Nd.d (.tone nm r s sh)] = some (.str r.s) := by rw [Nd.d]; rfl
theorem bh4 : O2 [Nd.d (.layer nm m s sh lf tp mk w h l kb)] = some (fr s) := by rw [Nd.d]; rfl
theorem bd6 : O2 [Nd.d (.tone nm r s sh)] = some (fr s) := by rw [Nd.d]; rfl
theorem bi1 : O2 [Nd.d (.group nm m s sh ns)] = some (fr s) := by rw [Nd.d]; rfl
theorem bL1 : ab0 [Nd.d (.layer nm m s sh lf tp mk w h l kb)] = some (.int lf) := by rw [Nd.d]; rfl
theorem cg7 : ah5 [Nd.d (.layer nm m s sh lf tp mk w h l kb)] = some (.int tp) := by rw [Nd.d]; rfl
theorem bh5 : ak4 [Nd.d (.layer nm m s sh lf tp mk w h l kb)] = some (mkD mk) := by rw [Nd.d]; rfl
theorem aB1 : k7 [Nd.d (.layer nm m s sh lf tp mk w h l kb)] = some (shD w h l) := by rw [Nd.d]; rfl
theorem bq0 : P1 [Nd.d (.group nm m s sh ns)] = some (.tuple (Nd.ds ns)) := by rw [Nd.d]; rfl
end
theorem atF (ms : List Rat) {i : Int} (h0 : 0 ≤ i) (h1 : i < ms.length) : L2.atI (ms.map fr) i = some (fr (ms.getD i.toNat 1)) := by
 unfold L2.atI
 rw [List.length_map, ao8 h0 h1, xbs, List.getElem?_map, List.getD_eq_getElem?_getD]
 have : i.toNat < ms.length := by omega
 rw [List.getElem?_eq_getElem this]; rfl
theorem aS9 {k : Nat} {ms : List Rat} (h : ∀ r ∈ ms, Sr k r) {i : Nat} (hi : i < ms.length) : Sr k (ms.getD i 1) := by
 rw [List.getD_eq_getElem?_getD, List.getElem?_eq_getElem hi]
 exact h _ (List.getElem_mem hi)
theorem aG9 {w h kb : Nat} {l : List Q4} (k1 : 1 ≤ kb) (H : ∀ q ∈ l, Dq kb q) (x y : Int) : Dq kb (atQ w h l x y) := by
 unfold atQ
 split
 ·rw [List.getD_eq_getElem?_getD]
  cases e : l[(y * (w : Int) + x).toNat]? with
  | none => exact (Dq.zero 0).mono (by omega)
  | some q => exact H q (List.mem_of_getElem? e)
 ·exact (Dq.zero 0).mono (by omega)
theorem bo1 {mk : Option (List Rat)} {w h kb : Nat} {l : List Q4} (k1 : 1 ≤ kb) (H : ∀ q ∈ l, Dq kb q) (M : ∀ ms, mk = some ms → ms.length = w * h ∧ ∀ r ∈ ms, Sr 4 r) (x y : Int) : Dq (kb + 4) (aJ1 mk w h l x y) := by
 unfold aJ1
 split
 ·exact (aG9 k1 H x y).mono (by omega)
 ·rename_i ms
  split
  ·rename_i b
   have pn := y8 b
   have hl := (M ms rfl).1
   exact (aG9 k1 H x y).wt (aS9 (M ms rfl).2 (by omega))
  ·exact (aG9 k1 H x y).mono (by omega)
theorem aS1 {s : Rat} {lf tp : Int} {mk : Option (List Rat)} {w h kb : Nat} {l : List Q4} (k1 : 1 ≤ kb) (hs : Sr 4 s) (H : ∀ q ∈ l, Dq kb q) (M : ∀ ms, mk = some ms → ms.length = w * h ∧ ∀ r ∈ ms, Sr 4 r) (x y : Int) : Dq (kb + 8) (aF6 s lf tp mk w h l x y) := (bo1 k1 H M _ _).wt hs
theorem cy8 : isB .none .none = some (.bool true) := rfl
theorem ax5 (ds : List D) : isB (.tuple ds) .none = some (.bool false) := rfl
theorem bw6 {nm : D} {m : Man} {s : Rat} {sh : Bool} {lf tp : Int} {mk : Option (List Rat)} {w h kb : Nat} {l : List Q4} (k1 : 1 ≤ kb) (k9 : kb ≤ 900) (S : ShOk kb w h l) (H : ∀ q ∈ l, Dq kb q) (M : ∀ ms, mk = some ms → ms.length = w * h ∧ ∀ r ∈ ms, Sr 4 r) (x y : Int) :
  Z1 [Nd.d (.layer nm m s sh lf tp mk w h l kb), .int x, .int y] = some (aJ1 mk w h l x y).d := by
 have hp : V7 [shD w h l, .int x, .int y] = _ := ar0 w h (.tuple (l.map Q4.d)) x y
 have sa := be6 S x y
 refine A9 (ρ := [‹Nd.d (.layer nm m s sh lf tp mk w h l kb)›, ‹.int x›, ‹.int y›, none, none, none]) rfl ?_
 cases mk with
 | none => wp_walk using evD, Y8, aB1, bh5, sa, mkD, cy8, aJ1
 | some ms =>
  by_cases b : 0 ≤ x ∧ x < w ∧ 0 ≤ y ∧ y < h
  ·rw [decide_eq_true b] at hp
   have nm : N6 [shD w h l, .int x, .int y] = _ := aL9 (.tuple (l.map Q4.d)) S.w8 S.h8 b
   have pn := y8 b
   have hl := (M ms rfl).1
   have af := atF ms pn.1 (by rw [hl]; exact pn.2)
   have hs := aS9 (M ms rfl).2 (show (y * (w : Int) + x).toNat < ms.length by omega)
   have wo := bE1 (aG9 (w := w) (h := h) k1 H x y).ok hs.h (by omega)
   wp_walk using evD, Y8, aB1, bh5, sa, mkD, ax5, hp, nm, af, wo, aJ1, if_pos b
  ·rw [decide_eq_false b] at hp
   wp_walk using evD, Y8, aB1, bh5, sa, mkD, ax5, hp, aJ1, if_neg b
theorem bR7 {nm : D} {m : Man} {s : Rat} {sh : Bool} {lf tp : Int} {mk : Option (List Rat)} {w h kb : Nat} {l : List Q4} (k1 : 1 ≤ kb) (k9 : kb ≤ 900) (hs : Sr 4 s) (S : ShOk kb w h l) (H : ∀ q ∈ l, Dq kb q) (M : ∀ ms, mk = some ms → ms.length = w * h ∧ ∀ r ∈ ms, Sr 4 r) (f : Nat) (x y : Int) :
  V8 (f + 1) [Nd.d (.layer nm m s sh lf tp mk w h l kb), .int x, .int y] = some (aF6 s lf tp mk w h l x y).d := by
 refine A9 (g := aa9 (X0 f)) (ρ := [‹Nd.d (.layer nm m s sh lf tp mk w h l kb)›, ‹.int x›, ‹.int y›, none]) rfl ?_
 have mo := bw6 (nm := nm) (m := m) (s := s) (sh := sh) (lf := lf) (tp := tp) k1 k9 S H M (x - lf) (y - tp)
 have wo := bE1 (bo1 k1 H M (x - lf) (y - tp)).ok hs.h (by omega)
 wp_walk using evD, aa9, bZ7, bL1, cg7, mo, bh4, wo, aF6
theorem bR8 {nm : D} {m : Man} {s : Rat} {sh : Bool} {ns : List Nd} {q : Q4} {j : Nat} (hs : Sr 4 s) (f : Nat) (x y : Int) (e : O9 f [.tuple (Nd.ds ns), .int x, .int y] = some q.d) (hq : Dq j q) (l : j + 4 ≤ 8000) :
  V8 (f + 1) [Nd.d (.group nm m s sh ns), .int x, .int y] = some (q.wt s).d := by
 refine A9 (g := aa9 (X0 f)) (ρ := [‹Nd.d (.group nm m s sh ns)›, ‹.int x›, ‹.int y›, none]) rfl ?_
 have e' : X0 f 2 [.tuple (Nd.ds ns), .int x, .int y] = some q.d := e
 have wo := bE1 hq.ok hs.h l
 wp_walk using evD, aa9, cc9, bq0, e', bi1, wo
mutual
theorem bT6 (x y : Int) : ∀ (n : Nd) (f : Nat) (q : Q4) (j : Nat), n.Ok → 3 * n.dp + 2 ≤ f → Dq j q → j + n.wg ≤ 900 → P0 f [n.d, q.d, .int x, .int y] = some (Nd.ab x y n q).d ∧ Dq (j + n.wg) (Nd.ab x y n q)
 | .layer nm m s sh lf tp mk w h l kb, f, q, j, ok, hf, hq, hj => by
  obtain ⟨f, rfl⟩ : ∃ g, f = g + 2 := ⟨f - 2, by omega⟩
  simp only [Nd.Ok] at ok
  simp only [Nd.wg] at hj
  obtain ⟨hs, S, H, M, k1⟩ := ok
  have bo : X0 (f + 1) 0 [Nd.d (.layer nm m s sh lf tp mk w h l kb), .int x, .int y] = _ := bR7 (nm := nm) (m := m) (sh := sh) k1 (by omega) hs S H M f x y
  have b := Dq.bl m (aS1 (lf := lf) (tp := tp) k1 hs H M x y) hq (by omega)
  have st : K2 (M7 (X0 (f + 1))) 4 [Nd.d (.layer nm m s sh lf tp mk w h l kb), q.d, .int x, .int y] = some (Nd.ab x y (.layer nm m s sh lf tp mk w h l kb) q).d := by
   refine A9 (ρ := [‹Nd.d (.layer nm m s sh lf tp mk w h l kb)›, some (.val q.d), ‹.int x›, ‹.int y›]) rfl ?_
   cases sh with
   | true => wp_walk using evD, M7, aB0, bh3, bL0, bo, b.2, Nd.ab
   | false => wp_walk using evD, M7, aB0, Nd.ab
  refine ⟨st, ?_⟩
  simp only [Nd.ab, Nd.wg]
  split
  ·exact b.1.mono (by omega)
  ·exact hq.mono (by omega)
 | .tone nm r s sh, f, q, j, ok, hf, hq, hj => by
  obtain ⟨f, rfl⟩ : ∃ g, f = g + 2 := ⟨f - 2, by omega⟩
  simp only [Nd.Ok] at ok
  simp only [Nd.wg] at hj
  have b := Dq.tn r hq ok (by omega)
  have st : K2 (M7 (X0 (f + 1))) 4 [Nd.d (.tone nm r s sh), q.d, .int x, .int y] = some (Nd.ab x y (.tone nm r s sh) q).d := by
   refine A9 (ρ := [‹Nd.d (.tone nm r s sh)›, some (.val q.d), ‹.int x›, ‹.int y›]) rfl ?_
   cases sh with
   | true => wp_walk using evD, M7, aA5, bd5, co6, bd6, b.2, Nd.ab
   | false => wp_walk using evD, M7, aA5, Nd.ab
  refine ⟨st, ?_⟩
  simp only [Nd.ab, Nd.wg]
  split
  ·exact b.1.mono (by omega)
  ·exact hq.mono (by omega)
 | .group nm m s sh ns, f, q, j, ok, hf, hq, hj => by
  simp only [Nd.dp] at hf
  obtain ⟨f, rfl⟩ : ∃ g, f = g + 3 := ⟨f - 3, by omega⟩
  simp only [Nd.Ok] at ok
  simp only [Nd.wg] at hj
  obtain ⟨hs, oks⟩ := ok
  have lp := loop_ok x y ns f q0 1 oks (by omega) (Dq.zero 0) (by omega)
  have sb : O9 (f + 1) [.tuple (Nd.ds ns), .int x, .int y] = some (Nd.sw x y ns q0).d := by
   obtain ⟨a4, e4⟩ := lp.1 (‹.tuple (Nd.ds ns)›) none
   refine A9 (g := k5 (X0 f)) (ρ := [‹.tuple (Nd.ds ns)›, ‹.int x›, ‹.int y›, none, none]) rfl ?_
   simp only [cE4] at e4
   simp only [k5, A6, B3, dC, P8, L4, A1, B2, xms, xbs, xw0, xw1, xg0, xg1, e4]
  have bo : X0 (f + 2) 0 [Nd.d (.group nm m s sh ns), .int x, .int y] = _ := bR8 (nm := nm) (m := m) (sh := sh) hs (f + 1) x y sb lp.2 (by omega)
  have b := Dq.bl m (lp.2.wt hs) hq (by omega)
  have st : K2 (M7 (X0 (f + 2))) 4 [Nd.d (.group nm m s sh ns), q.d, .int x, .int y] = some (Nd.ab x y (.group nm m s sh ns) q).d := by
   refine A9 (ρ := [‹Nd.d (.group nm m s sh ns)›, some (.val q.d), ‹.int x›, ‹.int y›]) rfl ?_
   cases sh with
   | true => wp_walk using evD, M7, aB2, bi0, bO5, bo, b.2, Nd.ab
   | false => wp_walk using evD, M7, aB2, Nd.ab
  refine ⟨st, ?_⟩
  simp only [Nd.ab, Nd.wg]
  split
  ·exact b.1.mono (by omega)
  ·exact hq.mono (by omega)
theorem loop_ok (x y : Int) : ∀ (ns : List Nd) (f : Nat) (q : Q4) (j : Nat), Nd.Oks ns → 3 * Nd.dps ns + 2 ≤ f → Dq j q → j + Nd.wgs ns ≤ 900 →
  (∀ a0 a4 : Option B, ∃ a4', X6 (A8 4) (B3 3 (A2 (X0 f 1) (A0 (A1 4) (A0 (A1 3) (A0 (A1 1) (A0 (A1 2) A3)))))) (Nd.ds ns) [a0, ‹.int x›, ‹.int y›, some (.val q.d), a4] = some (.nx [a0, ‹.int x›, ‹.int y›, some (.val (Nd.sw x y ns q).d), a4'])) ∧ Dq (j + Nd.wgs ns) (Nd.sw x y ns q)
 | [], f, q, j, ok, hf, hq, hj => by
  simp only [Nd.sw, Nd.wgs]
  exact ⟨fun a0 a4 => ⟨a4, by simp only [Nd.ds]; rfl⟩, hq⟩
 | n :: r, f, q, j, ok, hf, hq, hj => by
  simp only [Nd.Oks] at ok
  simp only [Nd.dps] at hf
  simp only [Nd.wgs] at hj
  have a := bT6 x y n f q j ok.1 (by omega) hq (by omega)
  have b := loop_ok x y r f (Nd.ab x y n q) (j + n.wg) ok.2 (by omega) a.2 (by omega)
  have e : X0 f 1 [n.d, q.d, .int x, .int y] = _ := a.1
  simp only [Nd.sw, Nd.wgs]
  refine ⟨fun a0 a4 => ?_, by rw [← Nat.add_assoc]; exact b.2⟩
  obtain ⟨a4', e'⟩ := b.1 a0 (some (.val n.d))
  refine ⟨a4', ?_⟩
  simp only [Nd.ds, X6, A8, B3, A2, A0, A3, A1, xbs, xms, xw0, xw1, xg0, xg1, e, e']
end
theorem bF6 (x y : Int) (ns : List Nd) (f : Nat) (ok : Nd.Oks ns) (hf : 3 * Nd.dps ns + 2 ≤ f) (hj : 1 + Nd.wgs ns ≤ 900) : O9 (f + 1) [.tuple (Nd.ds ns), .int x, .int y] = some (Nd.sw x y ns q0).d ∧ Dq (1 + Nd.wgs ns) (Nd.sw x y ns q0) := by
 have lp := loop_ok x y ns f q0 1 ok hf (Dq.zero 0) hj
 refine ⟨?_, lp.2⟩
 obtain ⟨a4, e4⟩ := lp.1 (‹.tuple (Nd.ds ns)›) none
 refine A9 (g := k5 (X0 f)) (ρ := [‹.tuple (Nd.ds ns)›, ‹.int x›, ‹.int y›, none, none]) rfl ?_
 simp only [cE4] at e4
 simp only [k5, A6, B3, dC, P8, L4, A1, B2, xms, xbs, xw0, xw1, xg0, xg1, e4]
end Sh
namespace Sh
open PySem G L2
theorem aa6 (a b c d e f g h i : D) : L2.atI [a, b, c, d, e, f, g, h, i] 0 = some a := rfl
theorem am9 (a b c d e f g h i : D) : L2.atI [a, b, c, d, e, f, g, h, i] 1 = some b := rfl
theorem at3 (a b c d e f g h i : D) : L2.atI [a, b, c, d, e, f, g, h, i] 2 = some c := rfl
theorem at2 (a b c d e f g h i : D) : L2.atI [a, b, c, d, e, f, g, h, i] 3 = some d := rfl
theorem ah1 (a b c d e f g h i : D) : L2.atI [a, b, c, d, e, f, g, h, i] 4 = some e := rfl
theorem at1 (a b c d e f g h i : D) : L2.atI [a, b, c, d, e, f, g, h, i] 5 = some f := rfl
theorem at0 (a b c d e f g h i : D) : L2.atI [a, b, c, d, e, f, g, h, i] 6 = some g := rfl
theorem as9 (a b c d e f g h i : D) : L2.atI [a, b, c, d, e, f, g, h, i] 7 = some h := rfl
theorem aa5 (a b c d e f g h i : D) : L2.atI [a, b, c, d, e, f, g, h, i] 8 = some i := rfl
theorem u6 (a b c d e f : D) : L2.atI [a, b, c, d, e, f] 0 = some a := rfl
theorem an1 (a b c d e f : D) : L2.atI [a, b, c, d, e, f] 1 = some b := rfl
theorem at4 (a b c d e f : D) : L2.atI [a, b, c, d, e, f] 2 = some c := rfl
theorem an0 (a b c d e f : D) : L2.atI [a, b, c, d, e, f] 3 = some d := rfl
theorem ah2 (a b c d e f : D) : L2.atI [a, b, c, d, e, f] 4 = some e := rfl
theorem aa7 (a b c d e f : D) : L2.atI [a, b, c, d, e, f] 5 = some f := rfl
theorem ae2 (a b c d e : D) : L2.atI [a, b, c, d, e] 0 = some a := rfl
theorem an2 (a b c d e : D) : L2.atI [a, b, c, d, e] 1 = some b := rfl
theorem at6 (a b c d e : D) : L2.atI [a, b, c, d, e] 2 = some c := rfl
theorem at5 (a b c d e : D) : L2.atI [a, b, c, d, e] 3 = some d := rfl
theorem ah3 (a b c d e : D) : L2.atI [a, b, c, d, e] 4 = some e := rfl
theorem cC4 (q : Q4) (a b : Rat) : (q.wt a).wt b = q.wt (b * a) := by
 unfold Q4.wt
 simp only [Rat.mul_assoc, Rat.mul_comm a b]
theorem bl8 (s : Rat) : q0.wt s = q0 := by
 unfold Q4.wt q0
 simp only [Rat.zero_mul]
theorem bU5 {e : Rho → Option (List D)} {caps : List Nat} {ρ : Rho} {q : Q4} {S : Rat} {j k : Nat} (hr : n5 1 caps ρ = [none, ‹fr S›]) (he : e ρ = some [fr q.c, fr q.x, fr q.y, fr q.z]) (hq : q.ok j) (hS : IsSh k S) (l : j + k ≤ 8000) :
  D6 1 caps e (A8 0) G0 (A2 D5 (A0 (A1 0) (A0 (A1 1) A3))) ρ = some [fr (q.c * S), fr (q.x * S), fr (q.y * S), fr (q.z * S)] := by
 refine X4 (l := [q.c, q.x, q.y, q.z]) (h := fr) (f := fun r => fr (r * S)) (r := [‹fr S›]) hr he (by show 4 ≤ 1000; decide) ?_
 intro r hr
 have b : Bd j r := by
  simp only [List.mem_cons, List.not_mem_nil, or_false] at hr
  rcases hr with rfl | rfl | rfl | rfl
  ·exact hq.hc.bd
  ·exact hq.hx
  ·exact hq.hy
  ·exact hq.hz
 simp only [A2, A0, A3, A1, xg0, xg1, xbs, xms, M2 b hS.bd l]
theorem cG3 : bg5 .none .none = some (.bool false) := rfl
theorem cG2 (ds : List D) : bg5 (.tuple ds) .none = some (.bool true) := rfl
theorem ct6 (a b c : D) : ([a, b, c] : List D).length = 3 := rfl
theorem cr2 {w h : Nat} {X Y : Int} {a0 a1 a2 a5 a8 : Option B} : (f6 (O5 (ak7 (M5 leI ltI (dC (.int 0)) (A1 6) (A1 3)))) (O5 (ak7 (M5 leI ltI (dC (.int 0)) (A1 7) (A1 4))))) [a0, a1, a2, ‹.int w›, ‹.int h›, a5, ‹.int X›, ‹.int Y›, a8] = some (!decide (0 ≤ X ∧ X < w ∧ 0 ≤ Y ∧ Y < h)) := by
 by_cases a : 0 ≤ X <;> by_cases b : X < w <;> by_cases c : 0 ≤ Y <;> by_cases e : Y < h <;> simp [A6, B3, B2, sIf, J2, N5, V9, A1, dC, J1, T4, A4, A2, aa2, dOr, ae5, M5, dIx, i5, L8, ae7, X8, ae6, A5, qE, qN, ab9, O1, L3, W8, A3, A0, S0, tB2, V4, f6, O5, x6, N9, G0, A8, K6, B0, L5, L4, z7, xg0, xg1, xw0, xw1, xbs, xms, xmc, xmn, xna, xca, W9, V5, ag8, ag6, aa0, ak8, ae4, al4, al3, al2, al1, al7, al6, al5, ae9, ae8, xnt, xnf, xft, if_true, if_false, ad7, ak7, a, b, c, e]
theorem bx0 {nm : D} {m : Man} {s : Rat} {sh : Bool} {lf tp : Int} {mk : Option (List Rat)} {w h kb : Nat} {l : List Q4} (k1 : 1 ≤ kb) (k9 : kb ≤ 900) (hs : Sr 4 s) (S : ShOk kb w h l) (H : ∀ q ∈ l, Dq kb q) (M : ∀ ms, mk = some ms → ms.length = w * h ∧ ∀ r ∈ ms, Sr 4 r) (f : Nat) (x y : Int) :
  S7 (f + 1) [Nd.d (.layer nm m s sh lf tp mk w h l kb), .int x, .int y] = some (aF6 s lf tp mk w h l x y).d := by
 rw [Nd.d]
 refine A9 (g := S1 (u9 f)) (ρ := [‹.tuple [.str "layer", nm, .str m.s, fr s, .bool sh, .int lf, .int tp, mkD mk, shD w h l]›, ‹.int x›, ‹.int y›, none, none, none, none, none, none]) rfl ?_
 by_cases b : 0 ≤ x - lf ∧ x - lf < w ∧ 0 ≤ y - tp ∧ y - tp < h
 ·obtain ⟨b1, b2, b3, b4⟩ := id b
  have pn := y8 b
  have w8 := S.w8
  have h8 := S.h8
  have mu := bg7 (sm8 b3 (show y - tp ≤ 1000 by omega)) (sm8 (show (0 : Int) ≤ w by omega) (by omega))
  have ad := atD l pn.1 (by rw [S.len]; exact pn.2)
  have aq : atQ w h l (x - lf) (y - tp) = l.getD ((y - tp) * w + (x - lf)).toNat q0 := by unfold atQ; rw [if_pos b]
  have dq := aG9 (w := w) (h := h) k1 H (x - lf) (y - tp)
  rw [aq] at dq
  have c : ∀ (S' : Rat) (k : Nat) (a0 a1 a2 a3 a4 : Option B), IsSh k S' → kb + k ≤ 8000 → D6 1 [8] (L4 (dIx (A5 5) (A4 B4 (A4 K5 (A1 7) (A1 3)) (A1 6)))) (A8 0) G0 (A2 D5 (A0 (A1 0) (A0 (A1 1) A3))) [a0, a1, a2, ‹.int w›, a4, ‹.tuple (l.map Q4.d)›, ‹.int (x - lf)›, ‹.int (y - tp)›, ‹fr S'›] = some [fr ((l.getD ((y - tp) * w + (x - lf)).toNat q0).c * S'), fr ((l.getD ((y - tp) * w + (x - lf)).toNat q0).x * S'), fr ((l.getD ((y - tp) * w + (x - lf)).toNat q0).y * S'), fr ((l.getD ((y - tp) * w + (x - lf)).toNat q0).z * S')] := fun S' k a0 a1 a2 a3 a4 hS hk => by
   refine bU5 rfl ?_ dq.ok hS hk
   simp only [L4, dIx, A5, A4, A1, xg0, xg1, xbs, mu, ad7, ad, Q4.d, sp]
  cases mk with
  | none =>
   have r : aF6 s lf tp none w h l x y = (l.getD ((y - tp) * w + (x - lf)).toNat q0).wt s := by
    unfold aF6 aJ1; rw [aq]
   rw [r]
   wp_walk using evD, S1, aa6, am9, at3, at2, ah1, at1, at0, as9, aa5, u6, an1, at4, an0, ah2, aa7, ae2, an2, at6, at5, ah3, shD, ct6, bi5, mkD, cG3, b1, b2, b3, b4, decide_true, c s 4 _ _ _ none _ hs.h (by omega)
   rfl
  | some ms =>
   have hl := (M ms rfl).1
   have af := atF ms pn.1 (by rw [hl]; exact pn.2)
   have hm := aS9 (M ms rfl).2 (show ((y - tp) * (w : Int) + (x - lf)).toNat < ms.length by omega)
   have lt := M2 hs.h.bd hm.h.bd (by decide)
   have sm : IsSh 8 (s * ms.getD ((y - tp) * (w : Int) + (x - lf)).toNat 1) := ⟨hs.h.bd.mul hm.h.bd, Rat.le_trans (Z3 hs.h.bd.nn hm.h.le) hs.h.le⟩
   have r : aF6 s lf tp (some ms) w h l x y = (l.getD ((y - tp) * w + (x - lf)).toNat q0).wt (s * ms.getD ((y - tp) * (w : Int) + (x - lf)).toNat 1) := by
    unfold aF6 aJ1
    simp only [if_pos b]
    rw [aq, cC4]
   rw [r]
   wp_walk using evD, S1, aa6, am9, at3, at2, ah1, at1, at0, as9, aa5, u6, an1, at4, an0, ah2, aa7, ae2, an2, at6, at5, ah3, shD, ct6, bi5, mkD, cG2, b1, b2, b3, b4, decide_true, mu, af, lt, c _ 8 _ _ _ none _ sm (by omega)
   rfl
 ·have r : aF6 s lf tp mk w h l x y = q0 := by
   unfold aF6 aJ1
   have aq : atQ w h l (x - lf) (y - tp) = q0 := by unfold atQ; rw [if_neg b]
   cases mk with
   | none => simp only [aq, bl8]
   | some ms => simp only [if_neg b, aq, bl8]
  rw [r]
  have cd := fun a0 a1 a2 a5 a8 => (cr2 (w := w) (h := h) (X := x - lf) (Y := y - tp) (a0 := a0) (a1 := a1) (a2 := a2) (a5 := a5) (a8 := a8)).trans (congrArg (fun t => some (!t)) (decide_eq_false b))
  simp only [xnf] at cd
  simp only [S1, A6, sIf, J2, B2, V9, B3, K6, B0, L5, A8, tB2, A4, dIx, A5, dC, A1, J1, A0, A3, N9, xg0, xg1, xw0, xw1, xbs, xms, xft, if_false, if_true, V5, aa6, am9, at3, at2, ah1, at1, at0, as9, aa5, u6, an1, at4, an0, ah2, aa7, ae2, an2, at6, at5, ah3, shD, ct6, bi5, cd, cp3]
theorem bx1 {nm : D} {m : Man} {s : Rat} {sh : Bool} {ns : List Nd} {q : Q4} {j : Nat} (hs : Sr 4 s) (f : Nat) (x y : Int) (e : P7 f [.tuple (Nd.ds ns), .int x, .int y] = some q.d) (hq : Dq j q) (l : j + 4 ≤ 8000) :
  S7 (f + 1) [Nd.d (.group nm m s sh ns), .int x, .int y] = some (q.wt s).d := by
 rw [Nd.d]
 refine A9 (g := S1 (u9 f)) (ρ := [‹.tuple [.str "group", nm, .str m.s, fr s, .bool sh, .tuple (Nd.ds ns)]›, ‹.int x›, ‹.int y›, none, none, none, none, none, none]) rfl ?_
 have e' : u9 f 1 [.tuple (Nd.ds ns), .int x, .int y] = some q.d := e
 have he : (L4 (A2 (u9 f 1) (A0 (dIx (A5 0) (dC (.int 5))) (A0 (A1 1) (A0 (A1 2) A3))))) [‹.tuple [.str "group", nm, .str m.s, fr s, .bool sh, .tuple (Nd.ds ns)]›, ‹.int x›, ‹.int y›, none, none, none, none, none, none] = some [fr q.c, fr q.x, fr q.y, fr q.z] := by
  simp only [L4, A2, A0, A3, dIx, A5, dC, A1, xg0, xg1, xbs, xms, aa7, e', Q4.d, sp]
 have c : D6 1 [0] (L4 (A2 (u9 f 1) (A0 (dIx (A5 0) (dC (.int 5))) (A0 (A1 1) (A0 (A1 2) A3))))) (A8 0) G0 (A2 D5 (A0 (A1 0) (A0 (dIx (A5 1) (dC (.int 3))) A3))) [‹.tuple [.str "group", nm, .str m.s, fr s, .bool sh, .tuple (Nd.ds ns)]›, ‹.int x›, ‹.int y›, none, none, none, none, none, none] = some [fr (q.c * s), fr (q.x * s), fr (q.y * s), fr (q.z * s)] := by
  refine X4 (l := [q.c, q.x, q.y, q.z]) (h := fr) (f := fun r => fr (r * s)) (r := [‹.tuple [.str "group", nm, .str m.s, fr s, .bool sh, .tuple (Nd.ds ns)]›]) rfl he (by show 4 ≤ 1000; decide) ?_
  intro r hr
  have b : Bd j r := by
   have ok := hq.ok
   simp only [List.mem_cons, List.not_mem_nil, or_false] at hr
   rcases hr with rfl | rfl | rfl | rfl
   ·exact ok.hc.bd
   ·exact ok.hx
   ·exact ok.hy
   ·exact ok.hz
  simp only [A2, A0, A3, A1, dIx, A5, dC, xg0, xg1, xbs, xms, an0, M2 b hs.h.bd l]
 simp only [S1, A6, sIf, B2, L8, qN, tB2, A4, dIx, A5, dC, xg0, xbs, xms, u6, bQ6, N9, if_true, c, xft, if_false]
 rfl
def am4 (f : Nat) : DS := (sIf (V4 (S0 (dIx (A5 4) (dC (.int 4)))) (tB2 eqD (dIx (A5 4) (dC (.int 0))) (dC (.str "tone")))) (B3 3 (A2 ab1 (A0 (dIx (A5 4) (dC (.int 2))) (A0 (A1 3) (A0 (dIx (A5 4) (dC (.int 3))) A3))))) (sIf (S0 (dIx (A5 4) (dC (.int 4)))) (B3 3 (A2 Y0 (A0 (dIx (A5 4) (dC (.int 2))) (A0 (A2 (u9 f 0) (A0 (A1 4) (A0 (A1 1) (A0 (A1 2) A3)))) (A0 (A1 3) A3))))) J2))
mutual
theorem bx3 (x y : Int) : ∀ (n : Nd) (f : Nat) (q : Q4) (j : Nat), n.Ok → 2 * n.dp + 1 ≤ f → Dq j q → j + n.wg ≤ 900 → (∀ a0 : Option B, am4 f [a0, ‹.int x›, ‹.int y›, some (.val q.d), some (.val n.d)] = some (.nx [a0, ‹.int x›, ‹.int y›, some (.val (Nd.ab x y n q).d), some (.val n.d)])) ∧ Dq (j + n.wg) (Nd.ab x y n q)
 | .layer nm m s sh lf tp mk w h l kb, f, q, j, ok, hf, hq, hj => by
  obtain ⟨f, rfl⟩ : ∃ g, f = g + 1 := ⟨f - 1, by omega⟩
  simp only [Nd.Ok] at ok
  simp only [Nd.wg] at hj
  obtain ⟨hs, S, H, M, k1⟩ := ok
  have bo : u9 (f + 1) 0 [Nd.d (.layer nm m s sh lf tp mk w h l kb), .int x, .int y] = _ := bx0 (nm := nm) (m := m) (sh := sh) k1 (by omega) hs S H M f x y
  have b := Dq.bl m (aS1 (lf := lf) (tp := tp) k1 hs H M x y) hq (by omega)
  have b' := Dq.lbl m (aS1 (lf := lf) (tp := tp) k1 hs H M x y) hq (by omega)
  refine ⟨fun a0 => ?_, ?_⟩
  ·rw [Nd.d] at bo ⊢
   cases sh with
   | true => wp_walk using evD, am4, aa6, am9, at3, at2, ah1, at1, at0, as9, aa5, u6, an1, at4, an0, ah2, aa7, ae2, an2, at6, at5, ah3, cz4, bo, b', Nd.ab
   | false => wp_walk using evD, am4, aa6, am9, at3, at2, ah1, at1, at0, as9, aa5, u6, an1, at4, an0, ah2, aa7, ae2, an2, at6, at5, ah3, Nd.ab
  ·simp only [Nd.ab, Nd.wg]
   split
   ·exact b.1.mono (by omega)
   ·exact hq.mono (by omega)
 | .tone nm r s sh, f, q, j, ok, hf, hq, hj => by
  simp only [Nd.Ok] at ok
  simp only [Nd.wg] at hj
  have b := Dq.tn r hq ok (by omega)
  have b' := Dq.ltn r hq ok (by omega)
  refine ⟨fun a0 => ?_, ?_⟩
  ·rw [Nd.d]
   cases sh with
   | true => wp_walk using evD, am4, aa6, am9, at3, at2, ah1, at1, at0, as9, aa5, u6, an1, at4, an0, ah2, aa7, ae2, an2, at6, at5, ah3, cz3, b', Nd.ab
   | false => wp_walk using evD, am4, aa6, am9, at3, at2, ah1, at1, at0, as9, aa5, u6, an1, at4, an0, ah2, aa7, ae2, an2, at6, at5, ah3, Nd.ab
  ·simp only [Nd.ab, Nd.wg]
   split
   ·exact b.1.mono (by omega)
   ·exact hq.mono (by omega)
 | .group nm m s sh ns, f, q, j, ok, hf, hq, hj => by
  simp only [Nd.dp] at hf
  obtain ⟨f, rfl⟩ : ∃ g, f = g + 2 := ⟨f - 2, by omega⟩
  simp only [Nd.Ok] at ok
  simp only [Nd.wg] at hj
  obtain ⟨hs, oks⟩ := ok
  have lp := lloop_ok x y ns f q0 1 oks (by omega) (Dq.zero 0) (by omega)
  have sb : P7 (f + 1) [.tuple (Nd.ds ns), .int x, .int y] = some (Nd.sw x y ns q0).d := by
   obtain ⟨a4, e4⟩ := lp.1 (‹.tuple (Nd.ds ns)›) none
   refine A9 (g := aa8 (u9 f)) (ρ := [‹.tuple (Nd.ds ns)›, ‹.int x›, ‹.int y›, none, none]) rfl ?_
   unfold am4 at e4
   simp only [aa8, A6, B3, A4, J1, A0, A3, dC, cp3, P8, L4, A1, B2, xms, xbs, xw0, xw1, xg0, xg1, e4]
  have bo : u9 (f + 2) 0 [Nd.d (.group nm m s sh ns), .int x, .int y] = _ := bx1 (nm := nm) (m := m) (sh := sh) hs (f + 1) x y sb lp.2 (by omega)
  have b := Dq.bl m (lp.2.wt hs) hq (by omega)
  have b' := Dq.lbl m (lp.2.wt hs) hq (by omega)
  refine ⟨fun a0 => ?_, ?_⟩
  ·rw [Nd.d] at bo ⊢
   cases sh with
   | true => wp_walk using evD, am4, aa6, am9, at3, at2, ah1, at1, at0, as9, aa5, u6, an1, at4, an0, ah2, aa7, ae2, an2, at6, at5, ah3, cz5, bo, b', Nd.ab
   | false => wp_walk using evD, am4, aa6, am9, at3, at2, ah1, at1, at0, as9, aa5, u6, an1, at4, an0, ah2, aa7, ae2, an2, at6, at5, ah3, Nd.ab
  ·simp only [Nd.ab, Nd.wg]
   split
   ·exact b.1.mono (by omega)
   ·exact hq.mono (by omega)
theorem lloop_ok (x y : Int) : ∀ (ns : List Nd) (f : Nat) (q : Q4) (j : Nat), Nd.Oks ns → 2 * Nd.dps ns + 1 ≤ f → Dq j q → j + Nd.wgs ns ≤ 900 →
  (∀ a0 a4 : Option B, ∃ a4', X6 (A8 4) (am4 f) (Nd.ds ns) [a0, ‹.int x›, ‹.int y›, some (.val q.d), a4] = some (.nx [a0, ‹.int x›, ‹.int y›, some (.val (Nd.sw x y ns q).d), a4'])) ∧ Dq (j + Nd.wgs ns) (Nd.sw x y ns q)
 | [], f, q, j, ok, hf, hq, hj => by
  simp only [Nd.sw, Nd.wgs]
  exact ⟨fun a0 a4 => ⟨a4, by simp only [Nd.ds]; rfl⟩, hq⟩
 | n :: r, f, q, j, ok, hf, hq, hj => by
  simp only [Nd.Oks] at ok
  simp only [Nd.dps] at hf
  simp only [Nd.wgs] at hj
  have a := bx3 x y n f q j ok.1 (by omega) hq (by omega)
  have b := lloop_ok x y r f (Nd.ab x y n q) (j + n.wg) ok.2 (by omega) a.2 (by omega)
  simp only [Nd.sw, Nd.wgs]
  refine ⟨fun a0 a4 => ?_, by rw [← Nat.add_assoc]; exact b.2⟩
  obtain ⟨a4', e'⟩ := b.1 a0 (some (.val n.d))
  refine ⟨a4', ?_⟩
  simp only [Nd.ds, X6, A8, xbs, xw0, xw1, a.1 a0, e']
end
theorem bw8 (x y : Int) (ns : List Nd) (f : Nat) (ok : Nd.Oks ns) (hf : 2 * Nd.dps ns + 1 ≤ f) (hj : 1 + Nd.wgs ns ≤ 900) : P7 (f + 1) [.tuple (Nd.ds ns), .int x, .int y] = some (Nd.sw x y ns q0).d := by
 have lp := lloop_ok x y ns f q0 1 ok hf (Dq.zero 0) hj
 obtain ⟨a4, e4⟩ := lp.1 (‹.tuple (Nd.ds ns)›) none
 refine A9 (g := aa8 (u9 f)) (ρ := [‹.tuple (Nd.ds ns)›, ‹.int x›, ‹.int y›, none, none]) rfl ?_
 unfold am4 at e4
 simp only [aa8, A6, B3, A4, J1, A0, A3, dC, cp3, P8, L4, A1, B2, xms, xbs, xw0, xw1, xg0, xg1, e4]
end Sh
namespace Sh
open PySem G L2
theorem C4 {f g : DS} {ρ ρ' : Rho} (h : f ρ = some (.nx ρ')) : A6 f g ρ = g ρ' := by unfold A6; rw [h]; rfl
theorem be9 {f g : DS} {ρ : Rho} {d : D} (h : f ρ = some (.rt d)) : A6 f g ρ = some (.rt d) := by unfold A6; rw [h]; rfl
theorem z9 {α : Type} {g : D → Rho → Option Rho} {f : DS} {h : α → D} {I : Nat → Rho → Prop} : ∀ (l : List α) (i : Nat) (ρ : Rho), I i ρ → (∀ (j : Nat) (a : α), l[j]? = some a → ∀ ρ, I (i + j) ρ → ∃ ρ1, g (h a) ρ = some ρ1 ∧ ∃ ρ', f ρ1 = some (.nx ρ') ∧ I (i + j + 1) ρ') → ∃ ρ', X6 g f (l.map h) ρ = some (.nx ρ') ∧ I (i + l.length) ρ'
 | [], i, ρ, h0, _ => ⟨ρ, rfl, h0⟩
 | a :: l, i, ρ, h0, H => by
  obtain ⟨ρ1, e1, ρ2, e2, h2⟩ := H 0 a rfl ρ h0
  obtain ⟨ρ', e3, h3⟩ := z9 l (i + 1) ρ2 (by simpa using h2) (fun j b hb ρ hρ => by
   have := H (j + 1) b (by simpa using hb) ρ (by rwa [show i + (j + 1) = i + 1 + j by omega])
   rwa [show i + (j + 1) + 1 = i + 1 + j + 1 by omega] at this)
  refine ⟨ρ', ?_, by rw [List.length_cons, show i + (l.length + 1) = i + 1 + l.length by omega]; exact h3⟩
  simp only [xmc, X6, e1, xbs, e2, e3]
theorem aZ0 {α : Type} (x : α) {n : Nat} {P : Nat → α → Prop} (h : ∀ j, j < n → ∃ a, P j a) : ∃ f : Nat → α, ∀ j, j < n → P j (f j) := by
 refine ⟨fun j => if hj : j < n then Classical.choose (h j hj) else x, fun j hj => ?_⟩
 simp only [dif_pos hj]
 exact Classical.choose_spec (h j hj)
theorem K9 (ns : List Int) (hn : ns.length ≤ 63) {e m' : Int} (k m : Nat) (he : e = (k : Int)) (hm' : m' = (m : Int)) (hk : k < 2 ^ 60) (hm : 0 < m) : ∃ n : Nat, A7 [scr ns, .int e, .int m'] = some (.int n) ∧ n < m := by
 subst he hm'
 exact aZ9 ns k m hn hk hm
theorem aV7 (ns : List Int) (hn : ns.length ≤ 63) {e : Int} (k : Nat) (he : e = (k : Int)) (hk : k < 2 ^ 40) : ∃ r, O3 [scr ns, .int e] = some (fr r) ∧ IsSh 4 r := by
 subst he
 exact ak1 ns k hn hk
theorem bF7 (ns : List Int) (hn : ns.length ≤ 63) {e : Int} (k w h : Nat) (he : e = (k : Int)) (hk : k < 2 ^ 20) (w1 : 1 ≤ w) (w8 : w ≤ 8) (h1 : 1 ≤ h) (h8 : h ≤ 8) : ∃ l : List Q4, ab2 [scr ns, .int e, .int w, .int h] = some (shD w h l) ∧ ShOk 8 w h l := by
 subst he
 exact aS3 ns k w h hn hk w1 w8 h1 h8
theorem ar3 (r : Rat) : Dv r.den r := by
 have := Dv.of r.num (M1 r)
 rwa [Rat.mkRat_self] at this
theorem bm3 {k : Nat} {s : Rat} (h : IsSh k s) : Sr k s := ⟨h, s.den, M1 s, h.bd.den, ar3 s⟩
theorem cI3 {q : Q4} (h : q.ok 8) : Dq 32 q :=
 ⟨h.or, q.c.den * q.x.den * (q.y.den * q.z.den), Nat.mul_pos (Nat.mul_pos (M1 _) (M1 _)) (Nat.mul_pos (M1 _) (M1 _)), V1 (V1 h.hc.bd.den h.hx.den) (V1 h.hy.den h.hz.den),
  ((ar3 q.c).right _).right _, ((ar3 q.x).left _).right _, ((ar3 q.y).right _).left _, ((ar3 q.z).left _).left _⟩
def SOk (s : Str) : Prop := ∀ c ∈ s.cps.toList, 97 ≤ c ∧ c ≤ 122
theorem SOk.ok {s : Str} (h : SOk s) : PyData.canLay0 (.str s) = true := by
 show s.cps.all (· < 0x110000) = true
 rw [Array.all_eq_true']
 intro c hc
 exact decide_eq_true (by have := h c (Array.mem_toList_iff.mpr hc); omega)
theorem SOk.app {a b : Str} (ha : SOk a) (hb : SOk b) : SOk (a ++ b) := by
 intro c hc
 have : c ∈ (a.cps ++ b.cps).toList := hc
 rw [Array.toList_append] at this
 rcases List.mem_append.mp this with h | h
 ·exact ha c h
 ·exact hb c h
theorem cy6 (x : Str) (n : Nat) (h : n < x.length) (hx : x.length ≤ 1000) : ∃ s : Str, atS x (n : Int) = some (.str s) ∧ s.length = 1 ∧ (SOk x → SOk s) := by
 unfold atS
 rw [if_pos (by omega)]
 have hl : x.cps.toList.length = x.length := by unfold Str.length; simp
 have h' : n < x.cps.toList.length := by omega
 have : atI x.cps.toList (n : Int) = some x.cps.toList[n] := by
  unfold atI
  rw [ao8 (by omega) (by omega), xbs, Int.toNat_natCast, List.getElem?_eq_getElem h']
 rw [this]
 refine ⟨⟨#[x.cps.toList[n]]⟩, rfl, rfl, fun hs c hc => ?_⟩
 have : c = x.cps.toList[n] := by simpa using hc
 rw [this]
 exact hs _ (List.getElem_mem h')
theorem bV3 (x : Str) (lo hi : Option Int) : (slS x lo hi).length ≤ x.length := by
 unfold slS
 split
 ·exact Nat.le_refl _
 ·unfold Str.length
  rw [List.size_toArray]
  exact Nat.le_trans (List.length_filterMap_le ..) (PyProof.Rows.indices_len_le ..)
theorem bV2 {x : Str} (h : SOk x) (lo hi : Option Int) : SOk (slS x lo hi) := by
 unfold slS
 split
 ·exact h
 ·intro c hc
  simp only [List.toList_toArray] at hc
  obtain ⟨i, _, e⟩ := List.mem_filterMap.mp hc
  exact h c (Array.mem_toList_iff.mpr (Array.mem_of_getElem? e))
theorem bG4 {x : Str} (h : SOk x) (k : Int) (hk : k = 1 ∨ k = 2) : SOk (az7 x k) := by
 unfold az7
 split
 ·exact h
 ·rename_i e
  rcases hk with rfl | rfl
  ·simp at e
  ·intro c hc
   have : c ∈ ((#[] ++ x.cps) ++ x.cps).toList := hc
   simp at this
   exact h c (Array.mem_toList_iff.mpr this)
theorem bO1 {a b : Str} (ha : SOk a) (hb : SOk b) : SOk (Builtin.Str.glued "" [a, b]) := by
 intro c hc
 have : c ∈ (a.cps ++ ("" : Str).cps ++ b.cps).toList := hc
 rw [Array.toList_append, Array.toList_append] at this
 rcases List.mem_append.mp this with h | h
 ·rcases List.mem_append.mp h with h | h
  ·exact ha c h
  ·exact absurd h (by simp [show ("" : Str).cps = #[] from rfl])
 ·exact hb c h
theorem cf0 : SOk "abcdefghijklmnopqrstuvwxyz" := by
 have : ("abcdefghijklmnopqrstuvwxyz" : Str).cps.toList.all (fun c => decide (97 ≤ c ∧ c ≤ 122)) = true := by decide +kernel
 intro c hc
 exact of_decide_eq_true (List.all_eq_true.mp this c hc)
def ltr (k : Nat) : Str := ⟨#[97 + k]⟩
theorem ct5 : ∀ k : Nat, k < 14 → atS "abcdefghijklmn" (k : Int) = some (.str (ltr k)) := by
 have e : ("abcdefghijklmn" : Str) = ⟨#[97, 98, 99, 100, 101, 102, 103, 104, 105, 106, 107, 108, 109, 110]⟩ := by decide +kernel
 intro k hk
 rw [e]
 rcases (show k = 0 ∨ k = 1 ∨ k = 2 ∨ k = 3 ∨ k = 4 ∨ k = 5 ∨ k = 6 ∨ k = 7 ∨ k = 8 ∨ k = 9 ∨ k = 10 ∨ k = 11 ∨ k = 12 ∨ k = 13 by omega) with rfl | rfl | rfl | rfl | rfl | rfl | rfl | rfl | rfl | rfl | rfl | rfl | rfl | rfl <;> rfl
theorem bo5 (k : Nat) (h : k < 14) : SOk (ltr k) := by
 intro c hc
 have : c = 97 + k := by simpa [ltr] using hc
 omega
def nmS (b : Bool) (k : Nat) (y : Str) : Str := if b = true then ltr k ++ y else y ++ ltr k
theorem bZ0 (b : Bool) {k : Nat} {y : Str} (hk : k < 14) (hy : SOk y) : SOk (nmS b k y) := by
 unfold nmS
 split
 ·exact (bo5 k hk).app hy
 ·exact hy.app (bo5 k hk)
theorem bZ1 {b : Bool} {i j : Nat} {y z : Str} (e : nmS b i y = nmS b j z) : i = j := by
 unfold nmS at e
 cases b with
 | true =>
  have e : (ltr i).cps ++ y.cps = (ltr j).cps ++ z.cps := congrArg Str.cps e
  have e := congrArg (fun a => a.toList.head?) e
  simp [ltr] at e
  omega
 | false =>
  have e : y.cps ++ (ltr i).cps = z.cps ++ (ltr j).cps := congrArg Str.cps e
  have e := congrArg (fun a => a.toList.getLast?) e
  simp [ltr] at e
  omega
theorem aV9 (x : Str) (k : Int) (hk : k = 1 ∨ k = 2) : (az7 x k).length ≤ 2 * x.length := by
 unfold az7
 split
 ·omega
 ·rename_i e
  rcases hk with rfl | rfl
  ·simp at e
  ·show ((#[] ++ x.cps) ++ x.cps).size ≤ 2 * x.cps.size
   simp; omega
theorem ch0 (a b : Str) (ha : a.length = 1) (hb : b.length = 1) : aG4 (dC (.str "")) (fun _ => some (false, [.str a, .str b])) [] = some (.str (Builtin.Str.glued "" [a, b])) ∧ (Builtin.Str.glued "" [a, b]).length = 2 := by
 have h2 : (Builtin.Str.glued "" [a, b]).length = 2 := by
  show (a.cps ++ ("" : Str).cps ++ b.cps).size = 2
  unfold Str.length at ha hb
  rw [Array.size_append, Array.size_append, ha, hb]
  rfl
 have h1 : aq7 "" [a, b] ≤ 16777216 := by
  show 0 + a.length + ("" : Str).length + b.length + ("" : Str).length ≤ 16777216
  have : ("" : Str).length = 0 := rfl
  omega
 refine ⟨?_, h2⟩
 show (if aq7 "" [a, b] ≤ 16777216 ∧ (Builtin.Str.glued "" [a, b]).length ≤ 16777216 then some (PyData.str (Builtin.Str.glued "" [a, b])) else none) = _
 rw [if_pos ⟨h1, by omega⟩]
theorem ca7 {f : DE} {g : Rho → Option (Bool × List D)} {ρ : Rho} {a b : Str} (hf : f ρ = some (.str "")) (hg : g ρ = some (false, [.str a, .str b])) (ha : a.length = 1) (hb : b.length = 1) : aG4 f g ρ = some (.str (Builtin.Str.glued "" [a, b])) := by
 rw [← (ch0 a b ha hb).1]
 unfold aG4
 rw [hf, hg]
 rfl
theorem bZ2 (x : Str) (k : Int) (hk : k = 1 ∨ k = 2) (hx : x.length ≤ 1000) : bw5 (.str x) (.int k) = some (.str (az7 x k)) := by
 show (if 1 ≤ k ∧ k ≤ 2 ∧ x.length ≤ 1000 ∧ (az7 x k).length ≤ 16777216 then some (PyData.str (az7 x k)) else none) = _
 have := aV9 x k hk
 rw [if_pos ⟨by omega, by omega, hx, by omega⟩]
theorem ba8 (a b : Str) (ha : a.length ≤ 1000) (hb : b.length ≤ 1000) : B4 (.str a) (.str b) = some (.str (a ++ b)) := by
 show (if a.length + b.length ≤ 16777216 then some (PyData.str (a ++ b)) else none) = _
 rw [if_pos (by omega)]
theorem cL7 : ∀ n : Nat, n < 2 → ∃ k : Int, atI ([.int 1, .int 2] : List D) (n : Int) = some (.int k) ∧ (k = 1 ∨ k = 2)
 | 0, _ => ⟨1, rfl, .inl rfl⟩
 | 1, _ => ⟨2, rfl, .inr rfl⟩
 | n + 2, h => absurd h (by omega)
def nbA : DS := (B3 6 (aG4 (dC (.str "")) (qN (D6 1 [0, 1, 5] (L6 (dC (.int 2))) (A8 0) G0 (ap2 (dC (.str "abcdefghijklmnopqrstuvwxyz")) (A2 A7 (A0 (A1 1) (A0 (A4 B4 (A4 B4 (A4 B4 (A1 2) (dC (.int 1))) (A4 K5 (dC (.int 3)) (A1 3))) (A1 0)) (A0 (dC (.int 26)) A3)))))))))
def nbB : DS := (B3 6 (A4 bw5 (bA0 (A1 6) O1 (L3 (A2 A7 (A0 (A1 0) (A0 (A4 B4 (A4 B4 (A1 1) (dC (.int 3))) (A4 K5 (dC (.int 3)) (A1 5))) (A0 (dC (.int 3)) A3)))))) (dIx (qN (A0 (dC (.int 1)) (A0 (dC (.int 2)) A3))) (A2 A7 (A0 (A1 0) (A0 (A4 B4 (A4 B4 (A1 1) (dC (.int 2))) (A4 K5 (dC (.int 3)) (A1 5))) (A0 (dC (.int 2)) A3)))))))
def nbC : DS := (R3 4 (dIx (qN (A0 (A4 B4 (A1 6) (ap2 (dC (.str "abcdefghijklmn")) (A1 5))) (A0 (A4 B4 (ap2 (dC (.str "abcdefghijklmn")) (A1 5)) (A1 6)) A3))) (X8 (A1 3))))
def aX5 : DS := A6 nbA (A6 nbB nbC)
theorem bO0 : aO0 = (A6 (B3 3 (A4 eqD (A2 A7 (A0 (A1 0) (A0 (A1 1) (A0 (dC (.int 2)) A3)))) (dC (.int 0)))) (A6 (X3 4 A3) (A6 (P8 (L6 (A1 2)) (A8 5) aX5) (aw6 4 (B2 (A1 4)))))) := rfl
def gb0 : DS := (B3 8 (A2 A7 (A0 (A1 0) (A0 (A4 B4 (A4 B4 (A1 1) (dC (.int 3))) (A4 K5 (dC (.int 5)) (A1 7))) (A0 (A4 B4 (i5 (A5 6)) (dC (.int 1))) A3)))))
def gb1 : DS := (B3 9 (A4 B4 (A1 8) (A2 A7 (A0 (A1 0) (A0 (A4 B4 (A4 B4 (A1 1) (dC (.int 4))) (A4 K5 (dC (.int 5)) (A1 7))) (A0 (dC (.int 3)) A3))))))
def gb2 : DS := (B3 10 (dIx (qN (A0 (J1 (A0 (dC (.int 1)) (A0 (dC (.int 1)) A3))) (A0 (A2 O3 (A0 (A1 0) (A0 (A4 B4 (A4 B4 (A1 1) (dC (.int 5))) (A4 K5 (dC (.int 5)) (A1 7))) A3))) A3))) (A2 A7 (A0 (A1 0) (A0 (A4 B4 (A4 B4 (A1 1) (dC (.int 6))) (A4 K5 (dC (.int 5)) (A1 7))) (A0 (dC (.int 2)) A3))))))
def gb3 : DS := (B3 11 (dIx (qN (A0 (A1 4) (A0 (dC (.str "atop")) (A0 (A1 4) (A0 (dC (.str "cut")) A3))))) (A2 A7 (A0 (A1 0) (A0 (A4 B4 (A4 B4 (A1 1) (dC (.int 7))) (A4 K5 (dC (.int 5)) (A1 7))) (A0 (dC (.int 4)) A3))))))
def gb4 : DS := (B3 12 (J1 (A0 (dC (.str "group")) (A0 (dIx (A5 3) (A4 B4 (A1 2) (A1 7))) (A0 (A1 11) (A0 (A1 10) (A0 (A4 gtI (A2 A7 (A0 (A1 0) (A0 (A4 B4 (A4 B4 (A1 1) (dC (.int 14))) (A1 7)) (A0 (dC (.int 7)) A3)))) (dC (.int 0))) A3)))))))
def gb5 : DS := (bF9 6 (L3 (A1 8)) (L3 (A1 9)) (A0 (A4 B4 (A1 12) (J1 (A0 (L8 (qE (bA1 (A5 6) (L3 (A1 8)) (L3 (A1 9))))) A3))) A3))
def bp9 : DS := (A6 gb0 (A6 gb1 (A6 gb2 (A6 gb3 (A6 gb4 gb5)))))
def gn0 : DS := (B3 4 (dIx (qN (A0 (dC (.str "over")) (A0 (dC (.str "multiply")) (A0 (dC (.str "screen")) (A0 (dC (.str "plus")) A3))))) (A2 A7 (A0 (A1 0) (A0 (A1 1) (A0 (dC (.int 4)) A3))))))
def gn1 : DS := (B3 5 (A2 A7 (A0 (A1 0) (A0 (A4 B4 (A1 1) (dC (.int 1))) (A0 (A4 B4 (A1 2) (dC (.int 1))) A3)))))
def gn2 : DS := (X3 6 (D6 1 [0, 4, 3, 1] (L6 (A1 5)) (A8 0) G0 (A2 W6 (A0 (A1 1) (A0 (A4 B4 (A4 B4 (A1 4) (dC (.int 20))) (A4 K5 (dC (.int 170)) (A1 0))) (A0 (dIx (A5 3) (A1 0)) (A0 (A1 2) A3)))))))
def gn3 : DS := (P8 (L6 (A2 A7 (A0 (A1 0) (A0 (A4 B4 (A1 1) (dC (.int 2))) (A0 (dC (.int 3)) A3))))) (A8 7) bp9)
def gn4 : DS := (B2 (L8 (A5 6)))
theorem bN9 : aN9 = (A6 gn0 (A6 gn1 (A6 gn2 (A6 gn3 gn4)))) := rfl
theorem ct1 (ns : List Int) (hn : ns.length ≤ 63) (at' k : Nat) (ha : at' < 2 ^ 20) (hk : k < 14) (a2 : Option B) (b : Bool) (L : List D) (a6 : Option B) : ∃ x : Str, nbA [‹scr ns›, ‹.int at'›, a2, ‹.bool b›, some (.own L), ‹.int k›, a6] = some (.nx [‹scr ns›, ‹.int at'›, a2, ‹.bool b›, some (.own L), ‹.int k›, ‹.str x›]) ∧ x.length = 2 ∧ SOk x := by
 have m3 : K5 (.int 3) (.int k) = some (.int ((3 * k : Nat) : Int)) := O6 (i := 3) (by decide) (by omega)
 have P : ∀ j, j < 2 → ∃ s : Str, ap2 (dC (.str "abcdefghijklmnopqrstuvwxyz")) (A2 A7 (A0 (A1 1) (A0 (A4 B4 (A4 B4 (A4 B4 (A1 2) (dC (.int 1))) (A4 K5 (dC (.int 3)) (A1 3))) (A1 0)) (A0 (dC (.int 26)) A3)))) [‹.int (j : Nat)›, ‹scr ns›, ‹.int at'›, ‹.int k›] = some (.str s) ∧ s.length = 1 ∧ SOk s := fun j hj => by
  obtain ⟨d, ed, ld⟩ := K9 ns hn (e := (at' : Int) + 1 + ((3 * k : Nat) : Int) + (j : Int)) (m' := 26) (at' + 1 + 3 * k + j) 26 (by omega) rfl (by omega) (by decide)
  obtain ⟨s, es, ls, ss⟩ := cy6 "abcdefghijklmnopqrstuvwxyz" d ld (by decide)
  refine ⟨s, ?_, ls, ss cf0⟩
  wp_walk using evD, ap2, m3, ed, es
 obtain ⟨S, hS⟩ := aZ0 (x := ("" : Str)) P
 have c : D6 1 [0, 1, 5] (L6 (dC (.int 2))) (A8 0) G0 (ap2 (dC (.str "abcdefghijklmnopqrstuvwxyz")) (A2 A7 (A0 (A1 1) (A0 (A4 B4 (A4 B4 (A4 B4 (A1 2) (dC (.int 1))) (A4 K5 (dC (.int 3)) (A1 3))) (A1 0)) (A0 (dC (.int 26)) A3))))) [‹scr ns›, ‹.int at'›, a2, ‹.bool b›, some (.own L), ‹.int k›, a6] = some ((List.range 2).map fun j => .str (S j)) :=
  X4 (l := List.range 2) (h := fun j : Nat => PyData.int j) (r := [‹scr ns›, ‹.int at'›, ‹.int k›]) rfl (U5 (n := 2) rfl (by decide)) (by decide) fun j hj => (hS j (List.mem_range.mp hj)).1
 refine ⟨Builtin.Str.glued "" [S 0, S 1], ?_, (ch0 _ _ (hS 0 (by decide)).2.1 (hS 1 (by decide)).2.1).2, bO1 (hS 0 (by decide)).2.2 (hS 1 (by decide)).2.2⟩
 have jn := ca7 (f := dC (.str "")) (g := qN (D6 1 [0, 1, 5] (L6 (dC (.int 2))) (A8 0) G0 (ap2 (dC (.str "abcdefghijklmnopqrstuvwxyz")) (A2 A7 (A0 (A1 1) (A0 (A4 B4 (A4 B4 (A4 B4 (A1 2) (dC (.int 1))) (A4 K5 (dC (.int 3)) (A1 3))) (A1 0)) (A0 (dC (.int 26)) A3))))))) (ρ := [‹scr ns›, ‹.int at'›, a2, ‹.bool b›, some (.own L), ‹.int k›, a6]) rfl (by unfold qN; rw [c]; rfl) (hS 0 (by decide)).2.1 (hS 1 (by decide)).2.1
 unfold nbA B3
 rw [jn]
 rfl
theorem ct0 (ns : List Int) (hn : ns.length ≤ 63) (at' k : Nat) (ha : at' < 2 ^ 20) (hk : k < 14) (a2 : Option B) (b : Bool) (L : List D) (x : Str) (hx : x.length = 2) (sx : SOk x) : ∃ y : Str, nbB [‹scr ns›, ‹.int at'›, a2, ‹.bool b›, some (.own L), ‹.int k›, ‹.str x›] = some (.nx [‹scr ns›, ‹.int at'›, a2, ‹.bool b›, some (.own L), ‹.int k›, ‹.str y›]) ∧ y.length ≤ 4 ∧ SOk y := by
 have m3 : K5 (.int 3) (.int k) = some (.int ((3 * k : Nat) : Int)) := O6 (i := 3) (by decide) (by omega)
 obtain ⟨d, ed, ld⟩ := K9 ns hn (e := (at' : Int) + 3 + ((3 * k : Nat) : Int)) (m' := 3) (at' + 3 + 3 * k) 3 (by omega) rfl (by omega) (by decide)
 obtain ⟨d', ed', ld'⟩ := K9 ns hn (e := (at' : Int) + 2 + ((3 * k : Nat) : Int)) (m' := 2) (at' + 2 + 3 * k) 2 (by omega) rfl (by omega) (by decide)
 obtain ⟨kk, ek, hk'⟩ := cL7 d' ld'
 have sl := bV3 x none (some (d : Int))
 have rl := aV9 (slS x none (some (d : Int))) kk hk'
 refine ⟨az7 (slS x none (some (d : Int))) kk, ?_, by omega, bG4 (bV2 sx _ _) kk hk'⟩
 have a1 : bA0 (A1 6) O1 (L3 (A2 A7 (A0 (A1 0) (A0 (A4 B4 (A4 B4 (A1 1) (dC (.int 3))) (A4 K5 (dC (.int 3)) (A1 5))) (A0 (dC (.int 3)) A3))))) [‹scr ns›, ‹.int at'›, a2, ‹.bool b›, some (.own L), ‹.int k›, ‹.str x›] = some (.str (slS x none (some (d : Int)))) := by
  have cnd : x.length ≤ 1000 ∧ (slS x none (some (d : Int))).length ≤ 16777216 := ⟨by omega, by omega⟩
  wp_walk using evD, bA0, m3, ed, if_pos cnd
 have a2 : dIx (qN (A0 (dC (.int 1)) (A0 (dC (.int 2)) A3))) (A2 A7 (A0 (A1 0) (A0 (A4 B4 (A4 B4 (A1 1) (dC (.int 2))) (A4 K5 (dC (.int 3)) (A1 5))) (A0 (dC (.int 2)) A3)))) [‹scr ns›, ‹.int at'›, a2, ‹.bool b›, some (.own L), ‹.int k›, ‹.str x›] = some (.int kk) := by
  wp_walk using evD, m3, ed', ek
 unfold nbB B3
 rw [t8 a1 a2, bZ2 _ kk hk' (by omega)]
 rfl
theorem ifb (b : Bool) (x y : D) : atI [x, y] (if b = true then 1 else 0) = some (if b = true then y else x) := by cases b <;> rfl
theorem cs9 (ns : List Int) (at' k : Nat) (hk : k < 14) (a2 : Option B) (b : Bool) (L : List D) (hL : L.length ≤ 100) (y : Str) (hy : y.length ≤ 4) : nbC [‹scr ns›, ‹.int at'›, a2, ‹.bool b›, some (.own L), ‹.int k›, ‹.str y›] = some (.nx [‹scr ns›, ‹.int at'›, a2, ‹.bool b›, some (.own (L ++ [.str (nmS b k y)])), ‹.int k›, ‹.str y›]) := by
 have ec := ct5 k hk
 have lc : (ltr k).length = 1 := rfl
 have c1 := ba8 y (ltr k) (by omega) (by omega)
 have c2 := ba8 (ltr k) y (by omega) (by omega)
 have hl : L.length < 16777216 := by omega
 have e : dIx (qN (A0 (A4 B4 (A1 6) (ap2 (dC (.str "abcdefghijklmn")) (A1 5))) (A0 (A4 B4 (ap2 (dC (.str "abcdefghijklmn")) (A1 5)) (A1 6)) A3))) (X8 (A1 3)) [‹scr ns›, ‹.int at'›, a2, ‹.bool b›, some (.own L), ‹.int k›, ‹.str y›] = some (.str (nmS b k y)) := by
  wp_walk using evD, ap2, ec, c1, c2, ifb
  cases b <;> rfl
 unfold nbC R3
 simp only [xg0, xg1, if_pos hl, e, xms, xw0, xw1]
theorem bK0 (ns : List Int) (hn : ns.length ≤ 63) (at' many : Nat) (ha : at' < 2 ^ 20) (hm : many ≤ 14) : ∃ L : List D, ab3 [scr ns, .int at', .int many] = some (.list L) ∧ L.length = many ∧ ∃ b : Bool, ∀ i, i < many → ∃ y, L[i]? = some (.str (nmS b i y)) ∧ SOk y ∧ y.length ≤ 4 := by
 obtain ⟨d, ed, ld⟩ := K9 ns hn (e := (at' : Int)) (m' := 2) at' 2 rfl rfl (by omega) (by decide)
 obtain ⟨ρ', e, L, a5, a6, hρ, hL, hP⟩ := z9 (g := A8 5) (f := aX5) (h := fun j : Nat => PyData.int j) (I := fun i ρ => ∃ (L : List D) (a5 a6 : Option B), ρ = [‹scr ns›, ‹.int at'›, ‹.int many›, ‹.bool ((d : Int) == 0)›, some (.own L), a5, a6] ∧ L.length = i ∧ ∀ n, n < i → ∃ y, L[n]? = some (.str (nmS ((d : Int) == 0) n y)) ∧ SOk y ∧ y.length ≤ 4) (List.range many) 0 [‹scr ns›, ‹.int at'›, ‹.int many›, ‹.bool ((d : Int) == 0)›, some (.own []), none, none] ⟨[], none, none, rfl, rfl, fun n h => absurd h (Nat.not_lt_zero n)⟩ (fun j a hj ρ hρ => by
  obtain ⟨L, a5, a6, rfl, hL, hP⟩ := hρ
  obtain ⟨hj1, hj2⟩ := List.getElem?_eq_some_iff.mp hj
  rw [List.length_range] at hj1
  rw [List.getElem_range] at hj2
  subst hj2
  refine ⟨_, rfl, ?_⟩
  simp only [xw0, xw1]
  obtain ⟨x, e1, hx, sx⟩ := ct1 ns hn at' j ha (by omega) (‹.int many›) ((d : Int) == 0) L a6
  obtain ⟨y, e2, hy, sy⟩ := ct0 ns hn at' j ha (by omega) (‹.int many›) ((d : Int) == 0) L x hx sx
  have e3 := cs9 ns at' j (by omega) (‹.int many›) ((d : Int) == 0) L (by omega) y hy
  have eb : aX5 [‹scr ns›, ‹.int at'›, ‹.int many›, ‹.bool ((d : Int) == 0)›, some (.own L), ‹.int j›, a6] = some (.nx [‹scr ns›, ‹.int at'›, ‹.int many›, ‹.bool ((d : Int) == 0)›, some (.own (L ++ [.str (nmS ((d : Int) == 0) j y)])), ‹.int j›, ‹.str y›]) := by
   unfold aX5
   rw [C4 e1, C4 e2, e3]
  refine ⟨_, eb, L ++ [.str (nmS ((d : Int) == 0) j y)], _, _, rfl, by rw [List.length_append, hL]; rfl, fun n hn => ?_⟩
  by_cases q : n < 0 + j
  ·obtain ⟨z, e1, e2⟩ := hP n q
   exact ⟨z, by rw [List.getElem?_append_left (by omega)]; exact e1, e2⟩
  ·have : n = L.length := by omega
   refine ⟨y, ?_, sy, hy⟩
   rw [this, List.getElem?_append_right (Nat.le_refl _), Nat.sub_self]
   rw [show L.length = j by omega]
   rfl)
 subst hρ
 rw [List.length_range, Nat.zero_add] at hL hP
 refine ⟨L, ?_, hL, _, hP⟩
 refine A9 (ρ := [‹scr ns›, ‹.int at'›, ‹.int many›, none, none, none, none]) rfl ?_
 have rn : L6 (A1 2) [‹scr ns›, ‹.int at'›, ‹.int many›, ‹.bool ((d : Int) == 0)›, some (.own []), none, none] = _ := U5 (n := many) rfl (by omega)
 have s0 : (B3 3 (A4 eqD (A2 A7 (A0 (A1 0) (A0 (A1 1) (A0 (dC (.int 2)) A3)))) (dC (.int 0)))) [‹scr ns›, ‹.int at'›, ‹.int many›, none, none, none, none] = some (.nx [‹scr ns›, ‹.int at'›, ‹.int many›, ‹.bool ((d : Int) == 0)›, none, none, none]) := by
  simp only [B3, A4, A2, A0, A3, A1, dC, xbs, xms, xg0, xg1, xw0, xw1, ed, aa0]
 have s1 : (X3 4 A3) [‹scr ns›, ‹.int at'›, ‹.int many›, ‹.bool ((d : Int) == 0)›, none, none, none] = some (.nx [‹scr ns›, ‹.int at'›, ‹.int many›, ‹.bool ((d : Int) == 0)›, some (.own []), none, none]) := rfl
 have s2 : (P8 (L6 (A1 2)) (A8 5) aX5) [‹scr ns›, ‹.int at'›, ‹.int many›, ‹.bool ((d : Int) == 0)›, some (.own []), none, none] = some (.nx [‹scr ns›, ‹.int at'›, ‹.int many›, ‹.bool ((d : Int) == 0)›, some (.own L), a5, a6]) := by
  unfold P8
  rw [rn]
  exact e
 have s3 : (aw6 4 (B2 (A1 4))) [‹scr ns›, ‹.int at'›, ‹.int many›, ‹.bool ((d : Int) == 0)›, some (.own L), a5, a6] = some (.rt (.list L)) := rfl
 rw [bO0, C4 s0, C4 s1, C4 s2]
 exact s3
theorem cL4 : ∀ n : Nat, n < 6 → ∃ m : Man, atI ([.str "over", .str "multiply", .str "screen", .str "plus", .str "atop", .str "cut"] : List D) (n : Int) = some (.str m.s)
 | 0, _ => ⟨.over, rfl⟩
 | 1, _ => ⟨.mult, rfl⟩
 | 2, _ => ⟨.screen, rfl⟩
 | 3, _ => ⟨.plus, rfl⟩
 | 4, _ => ⟨.atop, rfl⟩
 | 5, _ => ⟨.cut, rfl⟩
 | n + 6, h => absurd h (by omega)
theorem cL5 : ∀ n : Nat, n < 4 → ∃ m : Man, atI ([.str "over", .str "multiply", .str "screen", .str "plus"] : List D) (n : Int) = some (.str m.s)
 | 0, _ => ⟨.over, rfl⟩
 | 1, _ => ⟨.mult, rfl⟩
 | 2, _ => ⟨.screen, rfl⟩
 | 3, _ => ⟨.plus, rfl⟩
 | n + 4, h => absurd h (by omega)
theorem cG4 (m : Man) : ∀ n : Nat, n < 4 → ∃ m' : Man, atI ([.str m.s, .str "atop", .str m.s, .str "cut"] : List D) (n : Int) = some (.str m'.s)
 | 0, _ => ⟨m, rfl⟩
 | 1, _ => ⟨.atop, rfl⟩
 | 2, _ => ⟨m, rfl⟩
 | 3, _ => ⟨.cut, rfl⟩
 | n + 4, h => absurd h (by omega)
theorem cK8 : ∀ n : Nat, n < 3 → ∃ r : Rul, atI ([.str "turn", .str "grey", .str "round"] : List D) (n : Int) = some (.str r.s)
 | 0, _ => ⟨.turn, rfl⟩
 | 1, _ => ⟨.grey, rfl⟩
 | 2, _ => ⟨.round, rfl⟩
 | n + 3, h => absurd h (by omega)
theorem br9 (n : Nat) : ((n : Int) == 0) = decide (n = 0) := by
 cases n with
 | zero => rfl
 | succ n => rw [decide_eq_false (by omega)]; exact beq_eq_false_iff_ne.mpr (by omega)
theorem bU1 (n : Nat) : (decide ((0 : Int) < (n : Int))) = decide (0 < n) := by
 cases n with
 | zero => rfl
 | succ n => rw [decide_eq_true (by omega), decide_eq_true (by omega)]
theorem ad1 (n : Nat) : (1 : Int) + (n : Int) = ((1 + n : Nat) : Int) := by omega
def Nd.nm : Nd → D
 | .layer nm .. => nm
 | .tone nm .. => nm
 | .group nm .. => nm
mutual
def Nd.near : Nd → Prop
 | .layer _ _ _ _ lf tp _ _ _ _ kb => -2 ≤ lf ∧ lf ≤ 2 ∧ -2 ≤ tp ∧ tp ≤ 2 ∧ kb ≤ 40
 | .tone .. => True
 | .group _ _ _ _ ns => Nd.nears ns
def Nd.nears : List Nd → Prop
 | [] => True
 | n :: r => n.near ∧ Nd.nears r
end
theorem y9 : ∀ l : List Nd, Nd.nears l ↔ ∀ n ∈ l, n.near
 | [] => by simp [Nd.nears]
 | n :: r => by simp [Nd.nears, y9 r]
theorem bo7 (ns : List Int) (hn : ns.length ≤ 63) (at' : Nat) (ha : at' < 2 ^ 19) (nm : D) (m : Man) : ∃ n : Nd, W6 [scr ns, .int at', nm, .str m.s] = some n.d ∧ n.Ok ∧ n.dp = 0 ∧ n.wg ≤ 40 ∧ n.nm = nm ∧ n.near := by
 obtain ⟨s, es, hs⟩ := ak1 ns at' hn (by omega)
 have es : O3 [scr ns, .int at'] = some (fr s) := es
 obtain ⟨d3, e3, l3⟩ := K9 ns hn (e := (at' : Int) + 3) (m' := 6) (at' + 3) 6 (by omega) rfl (by omega) (by decide)
 obtain ⟨d4, e4, l4⟩ := K9 ns hn (e := (at' : Int) + 4) (m' := 6) (at' + 4) 6 (by omega) rfl (by omega) (by decide)
 obtain ⟨d6, e6, l6⟩ := K9 ns hn (e := (at' : Int) + 6) (m' := 3) (at' + 6) 3 (by omega) rfl (by omega) (by decide)
 obtain ⟨d7, e7, l7⟩ := K9 ns hn (e := (at' : Int) + 7) (m' := 3) (at' + 7) 3 (by omega) rfl (by omega) (by decide)
 obtain ⟨d8, e8, l8⟩ := K9 ns hn (e := (at' : Int) + 8) (m' := 3) (at' + 8) 3 (by omega) rfl (by omega) (by decide)
 obtain ⟨d9, e9, l9⟩ := K9 ns hn (e := (at' : Int) + 9) (m' := 3) (at' + 9) 3 (by omega) rfl (by omega) (by decide)
 obtain ⟨d10, e10, l10⟩ := K9 ns hn (e := (at' : Int) + 10) (m' := 4) (at' + 10) 4 (by omega) rfl (by omega) (by decide)
 obtain ⟨d11, e11, l11⟩ := K9 ns hn (e := (at' : Int) + 11) (m' := 4) (at' + 11) 4 (by omega) rfl (by omega) (by decide)
 obtain ⟨d12, e12, l12⟩ := K9 ns hn (e := (at' : Int) + 12) (m' := 3) (at' + 12) 3 (by omega) rfl (by omega) (by decide)
 obtain ⟨d5, e5, l5⟩ := K9 ns hn (e := (at' : Int) + 5) (m' := 3) (at' + 5) 3 (by omega) rfl (by omega) (by decide)
 obtain ⟨d5', e5', l5'⟩ := K9 ns hn (e := (at' : Int) + 5) (m' := 6) (at' + 5) 6 (by omega) rfl (by omega) (by decide)
 have s0 : af6 [‹scr ns›, ‹.int at'›, some (.val nm), ‹.str m.s›, none, none, none, none, none, none, none, none, none] = some (.nx [‹scr ns›, ‹.int at'›, some (.val nm), ‹.str m.s›, ‹fr s›, none, none, none, none, none, none, none, none]) := by
  wp_walk using evD, af6, es
 have s1 : af5 [‹scr ns›, ‹.int at'›, some (.val nm), ‹.str m.s›, ‹fr s›, none, none, none, none, none, none, none, none] = some (.nx [‹scr ns›, ‹.int at'›, some (.val nm), ‹.str m.s›, ‹fr s›, ‹.bool (decide (0 < d3))›, none, none, none, none, none, none, none]) := by
  wp_walk using evD, af5, e3, bU1
 by_cases t4 : d4 = 0
 ·obtain ⟨r, er⟩ := cK8 d5 l5
  refine ⟨.tone nm r s (decide (0 < d3)), ?_, bm3 hs, rfl, by show 6 ≤ 40; decide, rfl, by rw [Nd.near]; trivial⟩
  have s2 : Z2 [‹scr ns›, ‹.int at'›, some (.val nm), ‹.str m.s›, ‹fr s›, ‹.bool (decide (0 < d3))›, none, none, none, none, none, none, none] = some (.rt (.tuple [.str "tone", nm, .str r.s, fr s, .bool (decide (0 < d3))])) := by
   wp_walk using evD, Z2, e4, br9, decide_eq_true t4, e5, er
  refine A9 (ρ := [‹scr ns›, ‹.int at'›, some (.val nm), ‹.str m.s›, none, none, none, none, none, none, none, none, none]) rfl ?_
  unfold aH5
  rw [C4 s0, C4 s1, be9 s2, Nd.d]
 have s2 : Z2 [‹scr ns›, ‹.int at'›, some (.val nm), ‹.str m.s›, ‹fr s›, ‹.bool (decide (0 < d3))›, none, none, none, none, none, none, none] = some (.nx [‹scr ns›, ‹.int at'›, some (.val nm), ‹.str m.s›, ‹fr s›, ‹.bool (decide (0 < d3))›, none, none, none, none, none, none, none]) := by
  wp_walk using evD, Z2, e4, br9, decide_eq_false t4
 obtain ⟨m0, em0⟩ := cL4 d5' l5'
 have s3 : af4 [‹scr ns›, ‹.int at'›, some (.val nm), ‹.str m.s›, ‹fr s›, ‹.bool (decide (0 < d3))›, none, none, none, none, none, none, none] = some (.nx [‹scr ns›, ‹.int at'›, some (.val nm), ‹.str m.s›, ‹fr s›, ‹.bool (decide (0 < d3))›, ‹.str m0.s›, none, none, none, none, none, none]) := by
  wp_walk using evD, af4, e5', em0
 obtain ⟨m1, s4⟩ : ∃ m1 : Man, n8 [‹scr ns›, ‹.int at'›, some (.val nm), ‹.str m.s›, ‹fr s›, ‹.bool (decide (0 < d3))›, ‹.str m0.s›, none, none, none, none, none, none] = some (.nx [‹scr ns›, ‹.int at'›, some (.val nm), ‹.str m.s›, ‹fr s›, ‹.bool (decide (0 < d3))›, ‹.str m1.s›, none, none, none, none, none, none]) := by
  by_cases t6 : 0 < d6
  ·exact ⟨m, by wp_walk using evD, n8, e6, bU1, decide_eq_true t6⟩
  ·exact ⟨m0, by wp_walk using evD, n8, e6, bU1, decide_eq_false t6⟩
 have s5 : af3 [‹scr ns›, ‹.int at'›, some (.val nm), ‹.str m.s›, ‹fr s›, ‹.bool (decide (0 < d3))›, ‹.str m1.s›, none, none, none, none, none, none] = some (.nx [‹scr ns›, ‹.int at'›, some (.val nm), ‹.str m.s›, ‹fr s›, ‹.bool (decide (0 < d3))›, ‹.str m1.s›, ‹.int ((1 + d7 : Nat) : Int)›, none, none, none, none, none]) := by
  wp_walk using evD, af3, e7, ad1
 have s6 : af2 [‹scr ns›, ‹.int at'›, some (.val nm), ‹.str m.s›, ‹fr s›, ‹.bool (decide (0 < d3))›, ‹.str m1.s›, ‹.int ((1 + d7 : Nat) : Int)›, none, none, none, none, none] = some (.nx [‹scr ns›, ‹.int at'›, some (.val nm), ‹.str m.s›, ‹fr s›, ‹.bool (decide (0 < d3))›, ‹.str m1.s›, ‹.int ((1 + d7 : Nat) : Int)›, ‹.int ((1 + d8 : Nat) : Int)›, none, none, none, none]) := by
  wp_walk using evD, af2, e8, ad1
 have s7 : af1 [‹scr ns›, ‹.int at'›, some (.val nm), ‹.str m.s›, ‹fr s›, ‹.bool (decide (0 < d3))›, ‹.str m1.s›, ‹.int ((1 + d7 : Nat) : Int)›, ‹.int ((1 + d8 : Nat) : Int)›, none, none, none, none] = some (.nx [‹scr ns›, ‹.int at'›, some (.val nm), ‹.str m.s›, ‹fr s›, ‹.bool (decide (0 < d3))›, ‹.str m1.s›, ‹.int ((1 + d7 : Nat) : Int)›, ‹.int ((1 + d8 : Nat) : Int)›, some (.val .none), none, none, none]) := by
  wp_walk using evD, af1
 have wh : (1 + d7) * (1 + d8) ≤ 9 := Nat.mul_le_mul (show 1 + d7 ≤ 3 by omega) (show 1 + d8 ≤ 3 by omega)
 have mwh : K5 (.int ((1 + d7 : Nat) : Int)) (.int ((1 + d8 : Nat) : Int)) = some (.int (((1 + d7) * (1 + d8) : Nat) : Int)) := O6 (by omega) (by omega)
 obtain ⟨mk, s8, hmk⟩ : ∃ mk : Option (List Rat), n6 [‹scr ns›, ‹.int at'›, some (.val nm), ‹.str m.s›, ‹fr s›, ‹.bool (decide (0 < d3))›, ‹.str m1.s›, ‹.int ((1 + d7 : Nat) : Int)›, ‹.int ((1 + d8 : Nat) : Int)›, some (.val .none), none, none, none] = some (.nx [‹scr ns›, ‹.int at'›, some (.val nm), ‹.str m.s›, ‹fr s›, ‹.bool (decide (0 < d3))›, ‹.str m1.s›, ‹.int ((1 + d7 : Nat) : Int)›, ‹.int ((1 + d8 : Nat) : Int)›, ‹mkD mk›, none, none, none]) ∧ ∀ ms, mk = some ms → ms.length = (1 + d7) * (1 + d8) ∧ ∀ r ∈ ms, Sr 4 r := by
  by_cases t9 : d9 = 0
  ·have P : ∀ j, j < 9 → ∃ r : Rat, O3 [scr ns, .int ((at' : Int) + 20 + ((3 * j : Nat) : Int))] = some (fr r) ∧ IsSh 4 r := fun j hj => aV7 ns hn (at' + 20 + 3 * j) (by omega) (by omega)
   obtain ⟨R, hR⟩ := aZ0 (x := (0 : Rat)) P
   have c : D6 1 [0, 1] (L6 (A4 K5 (A1 7) (A1 8))) (A8 0) G0 (A2 O3 (A0 (A1 1) (A0 (A4 B4 (A4 B4 (A1 2) (dC (.int 20))) (A4 K5 (dC (.int 3)) (A1 0))) A3))) [‹scr ns›, ‹.int at'›, some (.val nm), ‹.str m.s›, ‹fr s›, ‹.bool (decide (0 < d3))›, ‹.str m1.s›, ‹.int ((1 + d7 : Nat) : Int)›, ‹.int ((1 + d8 : Nat) : Int)›, some (.val .none), none, none, none] = some ((List.range ((1 + d7) * (1 + d8))).map fun j => fr (R j)) := by
    refine X4 (l := List.range ((1 + d7) * (1 + d8))) (h := fun j : Nat => PyData.int j) (r := [‹scr ns›, ‹.int at'›]) rfl (U5 ((t8 rfl rfl).trans mwh) (by omega)) (by rw [List.length_range]; omega) fun j hj => ?_
    have hj := List.mem_range.mp hj
    have m3 : K5 (.int 3) (.int j) = some (.int ((3 * j : Nat) : Int)) := O6 (i := 3) (by decide) (by omega)
    wp_walk using evD, m3, (hR j (by omega)).1
   refine ⟨some ((List.range ((1 + d7) * (1 + d8))).map R), ?_, fun ms e => ?_⟩
   ·simp only [n6, sIf, tB2, B3, L8, qN, c, A4, A2, A0, A3, A1, dC, ad7, e9, aa0, br9, decide_eq_true t9, N9, xbs, xms, xg0, xg1, xw0, xw1, if_true, xft, if_false, mkD, List.map_map]
    rfl
   ·cases e
    refine ⟨by rw [List.length_map, List.length_range], fun r hr => ?_⟩
    obtain ⟨j, hj, rfl⟩ := List.mem_map.mp hr
    exact bm3 (hR j (by have := List.mem_range.mp hj; omega)).2
  ·exact ⟨none, by (wp_walk using evD, n6, e9, br9, decide_eq_false t9, mkD), fun ms e => by cases e⟩
 have s9 : af0 [‹scr ns›, ‹.int at'›, some (.val nm), ‹.str m.s›, ‹fr s›, ‹.bool (decide (0 < d3))›, ‹.str m1.s›, ‹.int ((1 + d7 : Nat) : Int)›, ‹.int ((1 + d8 : Nat) : Int)›, ‹mkD mk›, none, none, none] = some (.nx [‹scr ns›, ‹.int at'›, some (.val nm), ‹.str m.s›, ‹fr s›, ‹.bool (decide (0 < d3))›, ‹.str m1.s›, ‹.int ((1 + d7 : Nat) : Int)›, ‹.int ((1 + d8 : Nat) : Int)›, ‹mkD mk›, ‹.int ((d10 : Int) - 1)›, none, none]) := by
  wp_walk using evD, af0, e10
 have s10 : ab8 [‹scr ns›, ‹.int at'›, some (.val nm), ‹.str m.s›, ‹fr s›, ‹.bool (decide (0 < d3))›, ‹.str m1.s›, ‹.int ((1 + d7 : Nat) : Int)›, ‹.int ((1 + d8 : Nat) : Int)›, ‹mkD mk›, ‹.int ((d10 : Int) - 1)›, none, none] = some (.nx [‹scr ns›, ‹.int at'›, some (.val nm), ‹.str m.s›, ‹fr s›, ‹.bool (decide (0 < d3))›, ‹.str m1.s›, ‹.int ((1 + d7 : Nat) : Int)›, ‹.int ((1 + d8 : Nat) : Int)›, ‹mkD mk›, ‹.int ((d10 : Int) - 1)›, ‹.int ((d11 : Int) - 1)›, none]) := by
  wp_walk using evD, ab8, e11
 obtain ⟨w, h, lf, tp, mk', s11, hw, hh, hmk', hof⟩ : ∃ (w h : Nat) (lf tp : Int) (mk' : Option (List Rat)), f7 [‹scr ns›, ‹.int at'›, some (.val nm), ‹.str m.s›, ‹fr s›, ‹.bool (decide (0 < d3))›, ‹.str m1.s›, ‹.int ((1 + d7 : Nat) : Int)›, ‹.int ((1 + d8 : Nat) : Int)›, ‹mkD mk›, ‹.int ((d10 : Int) - 1)›, ‹.int ((d11 : Int) - 1)›, none] = some (.nx [‹scr ns›, ‹.int at'›, some (.val nm), ‹.str m.s›, ‹fr s›, ‹.bool (decide (0 < d3))›, ‹.str m1.s›, ‹.int (w : Nat)›, ‹.int (h : Nat)›, ‹mkD mk'›, ‹.int lf›, ‹.int tp›, none]) ∧ (1 ≤ w ∧ w ≤ 3) ∧ (1 ≤ h ∧ h ≤ 3) ∧ (∀ ms, mk' = some ms → ms.length = w * h ∧ ∀ r ∈ ms, Sr 4 r) ∧ (-2 ≤ lf ∧ lf ≤ 2 ∧ -2 ≤ tp ∧ tp ≤ 2) := by
  by_cases t12 : d12 = 0
  ·refine ⟨3, 3, 0, 0, none, ?_, by decide, by decide, (fun ms e => by cases e), by decide⟩
   have l5 : ∀ a b c d e : D, ([a, b, c, d, e] : List D).length = 5 := fun _ _ _ _ _ => rfl
   wp_walk using evD, f7, e12, br9, decide_eq_true t12, l5, mkD
   rfl
  ·exact ⟨1 + d7, 1 + d8, (d10 : Int) - 1, (d11 : Int) - 1, mk, by (wp_walk using evD, f7, e12, br9, decide_eq_false t12), by omega, by omega, hmk, by omega⟩
 obtain ⟨l, el, S⟩ := bF7 ns hn (e := (at' : Int) + 50) (at' + 50) w h (by omega) (by omega) hw.1 (by omega) hh.1 (by omega)
 have s12 : ab7 [‹scr ns›, ‹.int at'›, some (.val nm), ‹.str m.s›, ‹fr s›, ‹.bool (decide (0 < d3))›, ‹.str m1.s›, ‹.int (w : Nat)›, ‹.int (h : Nat)›, ‹mkD mk'›, ‹.int lf›, ‹.int tp›, none] = some (.nx [‹scr ns›, ‹.int at'›, some (.val nm), ‹.str m.s›, ‹fr s›, ‹.bool (decide (0 < d3))›, ‹.str m1.s›, ‹.int (w : Nat)›, ‹.int (h : Nat)›, ‹mkD mk'›, ‹.int lf›, ‹.int tp›, ‹shD w h l›]) := by
  wp_walk using evD, ab7, el
 refine ⟨.layer nm m1 s (decide (0 < d3)) lf tp mk' w h l 32, ?_, ?_, rfl, Nat.le_refl _, rfl, by rw [Nd.near]; exact ⟨hof.1, hof.2.1, hof.2.2.1, hof.2.2.2, by decide⟩⟩
 ·have s13 : ab6 [‹scr ns›, ‹.int at'›, some (.val nm), ‹.str m.s›, ‹fr s›, ‹.bool (decide (0 < d3))›, ‹.str m1.s›, ‹.int (w : Nat)›, ‹.int (h : Nat)›, ‹mkD mk'›, ‹.int lf›, ‹.int tp›, ‹shD w h l›] = some (.rt (.tuple [.str "layer", nm, .str m1.s, fr s, .bool (decide (0 < d3)), .int lf, .int tp, mkD mk', shD w h l])) := by
   wp_walk using evD, ab6
  refine A9 (ρ := [‹scr ns›, ‹.int at'›, some (.val nm), ‹.str m.s›, none, none, none, none, none, none, none, none, none]) rfl ?_
  unfold aH5
  rw [C4 s0, C4 s1, C4 s2, C4 s3, C4 s4, C4 s5, C4 s6, C4 s7, C4 s8, C4 s9, C4 s10, C4 s11, C4 s12, s13, Nd.d]
 ·rw [Nd.Ok]
  exact ⟨bm3 hs, ⟨S.w1, S.w8, S.h1, S.h8, S.len, fun q hq => (S.ok q hq).mono (by decide)⟩, fun q hq => cI3 (S.ok q hq), hmk', by decide⟩
end Sh
namespace Sh
open PySem G L2
theorem V2 : ∀ l : List Nd, Nd.ds l = l.map Nd.d
 | [] => by rw [Nd.ds]; rfl
 | n :: r => by rw [Nd.ds, V2 r]; rfl
theorem P4 : ∀ l : List Nd, Nd.Oks l ↔ ∀ n ∈ l, n.Ok
 | [] => by simp [Nd.Oks]
 | n :: r => by simp [Nd.Oks, P4 r]
theorem R6 : ∀ a b : List Nd, Nd.wgs (a ++ b) = Nd.wgs a + Nd.wgs b
 | [], b => by simp [Nd.wgs]
 | n :: a, b => by rw [xca, Nd.wgs, Nd.wgs, R6 a b]; omega
theorem f9 : ∀ a b : List Nd, Nd.dps (a ++ b) = max (Nd.dps a) (Nd.dps b)
 | [], b => by simp [Nd.dps]
 | n :: a, b => by rw [xca, Nd.dps, Nd.dps, f9 a b]; omega
theorem bE3 : ∀ l : List Nd, (∀ n ∈ l, n.wg ≤ 40) → Nd.wgs l ≤ 40 * l.length
 | [], _ => by simp [Nd.wgs]
 | n :: l, h => by
  have a := h n (List.mem_cons_self ..)
  have b := bE3 l fun m hm => h m (List.mem_cons_of_mem _ hm)
  rw [Nd.wgs, List.length_cons]; omega
theorem ba0 : ∀ l : List Nd, (∀ n ∈ l, n.dp = 0) → Nd.dps l = 0
 | [], _ => by simp [Nd.dps]
 | n :: l, h => by
  have a := h n (List.mem_cons_self ..)
  have b := ba0 l fun m hm => h m (List.mem_cons_of_mem _ hm)
  rw [Nd.dps]; omega
mutual
def Nd.nms : Nd → List D
 | .layer nm _ _ _ _ _ _ _ _ _ _ => [nm]
 | .tone nm _ _ _ => [nm]
 | .group nm _ _ _ ns => nm :: Nd.nmss ns
def Nd.nmss : List Nd → List D
 | [] => []
 | n :: r => n.nms ++ Nd.nmss r
end
theorem Q5 : ∀ a b : List Nd, Nd.nmss (a ++ b) = Nd.nmss a ++ Nd.nmss b
 | [], b => by simp [Nd.nmss]
 | n :: a, b => by rw [xca, Nd.nmss, Nd.nmss, Q5 a b, List.append_assoc]
mutual
def Nd.thin : Nd → Prop
 | .layer .. => True
 | .tone .. => True
 | .group _ _ _ _ ns => ns.length ≤ 1000 ∧ Nd.thins ns
def Nd.thins : List Nd → Prop
 | [] => True
 | n :: r => n.thin ∧ Nd.thins r
end
theorem Q9 : ∀ l : List Nd, Nd.thins l ↔ ∀ n ∈ l, n.thin
 | [] => by simp [Nd.thins]
 | n :: r => by simp [Nd.thins, Q9 r]
def aA1 (l : List Nd) (a c : Nat) (g : List Nd → Nd) : List Nd := l.take a ++ [g ((l.drop a).take (c - a))] ++ l.drop c
theorem cp0 (l : List Nd) {a c : Nat} (h : a ≤ c) : l.take a ++ (l.drop a).take (c - a) ++ l.drop c = l := by
 have e : l.drop c = (l.drop a).drop (c - a) := by rw [List.drop_drop]; congr 1; omega
 rw [e, List.append_assoc, List.take_append_drop, List.take_append_drop]
theorem cd9 {ds : List D} {a b : Nat} (ha : a ≤ ds.length) : al0 ds (some (a : Int)) (some (b : Int)) = (ds.drop a).take (min b ds.length - a) ∧ ∀ es : List D, aC9 ds (some (a : Int)) (some (b : Int)) es = ds.take a ++ es ++ ds.drop (max a (min b ds.length)) := by
 have h1 : HT.sIx ds.length 0 (some (a : Int)) = a := by rw [HT.sIx_nat]; omega
 have h2 : HT.sIx ds.length ds.length (some (b : Int)) = min b ds.length := HT.sIx_nat ..
 refine ⟨?_, fun es => ?_⟩
 ·unfold al0; rw [h1, h2]
 ·unfold aC9; rw [h1, h2]
theorem bO4 (ns : List Int) (hn : ns.length ≤ 63) (at' most k : Nat) (ha : at' < 2 ^ 18) (hk : k < 2) (hmost : most ≤ 6) (N : List D) (hN : most + 2 ≤ N.length) (m : Man) (l : List Nd) (hl : l.length ≤ 100) (a5 a8 a9 a10 a11 a12 : Option B) :
  ∃ (a c : Nat) (nm : D) (m' : Man) (s : Rat) (sh : Bool) (b8 b9 b10 b11 b12 : Option B), bp9 [‹scr ns›, ‹.int at'›, ‹.int most›, ‹.list N›, ‹.str m.s›, a5, some (.own (Nd.ds l)), ‹.int k›, a8, a9, a10, a11, a12] = some (.nx [‹scr ns›, ‹.int at'›, ‹.int most›, ‹.list N›, ‹.str m.s›, a5, some (.own (Nd.ds (aA1 l a c (Nd.group nm m' s sh)))), ‹.int k›, b8, b9, b10, b11, b12]) ∧ a ≤ c ∧ c ≤ l.length ∧ IsSh 4 s ∧ nm = N.getD (most + k) .none := by
 have m5 : K5 (.int 5) (.int k) = some (.int ((5 * k : Nat) : Int)) := O6 (i := 5) (by decide) (by omega)
 have hds : (Nd.ds l).length = l.length := by rw [V2, List.length_map]
 obtain ⟨f, ef, lf⟩ := K9 ns hn (e := (at' : Int) + 3 + ((5 * k : Nat) : Int)) (m' := (((Nd.ds l).length : Nat) : Int) + 1) (at' + 3 + 5 * k) (l.length + 1) (by omega) (by rw [hds]; omega) (by omega) (by omega)
 obtain ⟨d, ed, ld⟩ := K9 ns hn (e := (at' : Int) + 4 + ((5 * k : Nat) : Int)) (m' := 3) (at' + 4 + 5 * k) 3 (by omega) rfl (by omega) (by decide)
 obtain ⟨s0, es0, hs0⟩ := aV7 ns hn (e := (at' : Int) + 5 + ((5 * k : Nat) : Int)) (at' + 5 + 5 * k) (by omega) (by omega)
 obtain ⟨d6, e6, l6⟩ := K9 ns hn (e := (at' : Int) + 6 + ((5 * k : Nat) : Int)) (m' := 2) (at' + 6 + 5 * k) 2 (by omega) rfl (by omega) (by decide)
 obtain ⟨d7, e7, l7⟩ := K9 ns hn (e := (at' : Int) + 7 + ((5 * k : Nat) : Int)) (m' := 4) (at' + 7 + 5 * k) 4 (by omega) rfl (by omega) (by decide)
 obtain ⟨d14, e14, l14⟩ := K9 ns hn (e := (at' : Int) + 14 + (k : Int)) (m' := 7) (at' + 14 + k) 7 (by omega) rfl (by omega) (by decide)
 obtain ⟨m', em'⟩ := cG4 m d7 l7
 obtain ⟨s, est, hs⟩ : ∃ s : Rat, atI ([.tuple [.int 1, .int 1], fr s0] : List D) (d6 : Int) = some (fr s) ∧ IsSh 4 s := by
  rcases (show d6 = 0 ∨ d6 = 1 by omega) with rfl | rfl
  ·exact ⟨1, rfl, Bd.one.mono (by decide), Rat.le_refl⟩
  ·exact ⟨s0, rfl, hs0⟩
 obtain ⟨nm, enm, hnm⟩ : ∃ nm, atI N ((most : Int) + (k : Int)) = some nm ∧ nm = N.getD (most + k) .none := by
  unfold atI
  rw [ao8 (by omega) (by omega), xbs]
  have h' : ((most : Int) + (k : Int)).toNat = most + k := by omega
  rw [h']
  exact ⟨N[most + k]'(by omega), List.getElem?_eq_getElem (by omega), by rw [List.getD_eq_getElem?_getD, List.getElem?_eq_getElem (by omega)]; rfl⟩
 refine ⟨f, max f (min (f + d) l.length), nm, m', s, decide (0 < d14), ?_⟩
 have s0 : gb0 [‹scr ns›, ‹.int at'›, ‹.int most›, ‹.list N›, ‹.str m.s›, a5, some (.own (Nd.ds l)), ‹.int k›, a8, a9, a10, a11, a12] = some (.nx [‹scr ns›, ‹.int at'›, ‹.int most›, ‹.list N›, ‹.str m.s›, a5, some (.own (Nd.ds l)), ‹.int k›, ‹.int f›, a9, a10, a11, a12]) := by
  wp_walk using evD, gb0, m5, ef
 have fd : (f : Int) + (d : Int) = ((f + d : Nat) : Int) := by omega
 have s1 : gb1 [‹scr ns›, ‹.int at'›, ‹.int most›, ‹.list N›, ‹.str m.s›, a5, some (.own (Nd.ds l)), ‹.int k›, ‹.int f›, a9, a10, a11, a12] = some (.nx [‹scr ns›, ‹.int at'›, ‹.int most›, ‹.list N›, ‹.str m.s›, a5, some (.own (Nd.ds l)), ‹.int k›, ‹.int f›, ‹.int ((f + d : Nat) : Int)›, a10, a11, a12]) := by
  wp_walk using evD, gb1, m5, ed, fd
 have s2 : gb2 [‹scr ns›, ‹.int at'›, ‹.int most›, ‹.list N›, ‹.str m.s›, a5, some (.own (Nd.ds l)), ‹.int k›, ‹.int f›, ‹.int ((f + d : Nat) : Int)›, a10, a11, a12] = some (.nx [‹scr ns›, ‹.int at'›, ‹.int most›, ‹.list N›, ‹.str m.s›, a5, some (.own (Nd.ds l)), ‹.int k›, ‹.int f›, ‹.int ((f + d : Nat) : Int)›, ‹fr s›, a11, a12]) := by
  wp_walk using evD, gb2, m5, es0, e6, est
 have s3 : gb3 [‹scr ns›, ‹.int at'›, ‹.int most›, ‹.list N›, ‹.str m.s›, a5, some (.own (Nd.ds l)), ‹.int k›, ‹.int f›, ‹.int ((f + d : Nat) : Int)›, ‹fr s›, a11, a12] = some (.nx [‹scr ns›, ‹.int at'›, ‹.int most›, ‹.list N›, ‹.str m.s›, a5, some (.own (Nd.ds l)), ‹.int k›, ‹.int f›, ‹.int ((f + d : Nat) : Int)›, ‹fr s›, ‹.str m'.s›, a12]) := by
  wp_walk using evD, gb3, m5, e7, em'
 have s4 : gb4 [‹scr ns›, ‹.int at'›, ‹.int most›, ‹.list N›, ‹.str m.s›, a5, some (.own (Nd.ds l)), ‹.int k›, ‹.int f›, ‹.int ((f + d : Nat) : Int)›, ‹fr s›, ‹.str m'.s›, a12] = some (.nx [‹scr ns›, ‹.int at'›, ‹.int most›, ‹.list N›, ‹.str m.s›, a5, some (.own (Nd.ds l)), ‹.int k›, ‹.int f›, ‹.int ((f + d : Nat) : Int)›, ‹fr s›, ‹.str m'.s›, ‹.tuple [.str "group", nm, .str m'.s, fr s, .bool (decide (0 < d14))]›]) := by
  wp_walk using evD, gb4, enm, e14, bU1
 obtain ⟨q1, q2⟩ := cd9 (ds := Nd.ds l) (a := f) (b := f + d) (by omega)
 have mid : ((Nd.ds l).drop f).take (min (f + d) (Nd.ds l).length - f) = Nd.ds ((l.drop f).take (max f (min (f + d) l.length) - f)) := by
  rw [hds, V2, V2, ← List.map_drop, ← List.map_take]
  congr 2; omega
 have s5 : gb5 [‹scr ns›, ‹.int at'›, ‹.int most›, ‹.list N›, ‹.str m.s›, a5, some (.own (Nd.ds l)), ‹.int k›, ‹.int f›, ‹.int ((f + d : Nat) : Int)›, ‹fr s›, ‹.str m'.s›, ‹.tuple [.str "group", nm, .str m'.s, fr s, .bool (decide (0 < d14))]›] = some (.nx [‹scr ns›, ‹.int at'›, ‹.int most›, ‹.list N›, ‹.str m.s›, a5, some (.own (Nd.ds (aA1 l f (max f (min (f + d) l.length)) (Nd.group nm m' s (decide (0 < d14)))))), ‹.int k›, ‹.int f›, ‹.int ((f + d : Nat) : Int)›, ‹fr s›, ‹.str m'.s›, ‹.tuple [.str "group", nm, .str m'.s, fr s, .bool (decide (0 < d14))]›]) := by
  have x1 : bA1 (A5 6) (L3 (A1 8)) (L3 (A1 9)) [‹scr ns›, ‹.int at'›, ‹.int most›, ‹.list N›, ‹.str m.s›, a5, some (.own (Nd.ds l)), ‹.int k›, ‹.int f›, ‹.int ((f + d : Nat) : Int)›, ‹fr s›, ‹.str m'.s›, ‹.tuple [.str "group", nm, .str m'.s, fr s, .bool (decide (0 < d14))]›] = some (.list (Nd.ds ((l.drop f).take (max f (min (f + d) l.length) - f)))) := by
   rw [← mid, ← q1]; rfl
  have x2 : (A0 (A4 B4 (A1 12) (J1 (A0 (L8 (qE (bA1 (A5 6) (L3 (A1 8)) (L3 (A1 9))))) A3))) A3) [‹scr ns›, ‹.int at'›, ‹.int most›, ‹.list N›, ‹.str m.s›, a5, some (.own (Nd.ds l)), ‹.int k›, ‹.int f›, ‹.int ((f + d : Nat) : Int)›, ‹fr s›, ‹.str m'.s›, ‹.tuple [.str "group", nm, .str m'.s, fr s, .bool (decide (0 < d14))]›] = some [Nd.d (Nd.group nm m' s (decide (0 < d14)) ((l.drop f).take (max f (min (f + d) l.length) - f)))] := by
   have cc : ∀ a b c d e g : D, B4 (.tuple [a, b, c, d, e]) (.tuple [g]) = some (.tuple [a, b, c, d, e, g]) := fun _ _ _ _ _ _ => rfl
   simp only [A0, A3, A4, J1, L8, qE, x1, ab9, A1, xbs, xms, xg0, xg1, xft, if_false, cc, Nd.d]
  have sz : (Nd.ds l).length + 1 ≤ 16777216 := by omega
  have fin : aC9 (Nd.ds l) (some (f : Int)) (some ((f + d : Nat) : Int)) [Nd.d (Nd.group nm m' s (decide (0 < d14)) ((l.drop f).take (max f (min (f + d) l.length) - f)))] = Nd.ds (aA1 l f (max f (min (f + d) l.length)) (Nd.group nm m' s (decide (0 < d14)))) := by
   rw [q2, hds]
   unfold aA1
   rw [V2, V2, List.map_append, List.map_append, List.map_take, List.map_drop]
   rfl
  rw [← fin]
  unfold gb5 bF9
  rw [x2, xbs]
  show (if (Nd.ds l).length + 1 ≤ 16777216 then some (Fl.nx _) else none) = _
  rw [if_pos sz]
  rfl
 refine ⟨‹.int f›, ‹.int ((f + d : Nat) : Int)›, ‹fr s›, ‹.str m'.s›, ‹.tuple [.str "group", nm, .str m'.s, fr s, .bool (decide (0 < d14))]›, ?_, by omega, by omega, hs, hnm⟩
 unfold bp9
 rw [C4 s0, C4 s1, C4 s2, C4 s3, C4 s4, s5]
structure NOk (N : List D) (i : Nat) (most : Nat) (l : List Nd) : Prop where
 ok : Nd.Oks l
 wg : Nd.wgs l ≤ 40 * most + 5 * i
 dp : Nd.dps l ≤ i
 len : l.length ≤ most + i
 th : Nd.thins l
 nr : Nd.nears l
 ix : ∃ is : List Nat, Nd.nmss l = is.map (fun j => N.getD j .none) ∧ is.Nodup ∧ ∀ j ∈ is, j < most + i
theorem NOk.grp {N : List D} {i most : Nat} {l : List Nd} (h : NOk N i most l) {a c : Nat} {nm : D} {m : Man} {s : Rat} {sh : Bool} (ac : a ≤ c) (hs : IsSh 4 s) (hnm : nm = N.getD (most + i) .none) (h100 : l.length ≤ 100) : NOk N (i + 1) most (aA1 l a c (Nd.group nm m s sh)) := by
 have e := cp0 l ac
 have w1 := congrArg Nd.wgs e
 have w2 := congrArg Nd.dps e
 rw [R6, R6] at w1
 rw [f9, f9] at w2
 have hw := h.wg
 have hd := h.dp
 refine ⟨?_, ?_, ?_, ?_, ?_, ?_, ?_⟩
 ·rw [P4]
  have ok := (P4 l).mp h.ok
  intro n hn
  unfold aA1 at hn
  rcases List.mem_append.mp hn with hn | hn
  ·rcases List.mem_append.mp hn with hn | hn
   ·exact ok n (List.mem_of_mem_take hn)
   ·rw [List.mem_singleton.mp hn]
    rw [Nd.Ok]
    exact ⟨bm3 hs, (P4 _).mpr fun n' hn' => ok n' (List.mem_of_mem_drop (List.mem_of_mem_take hn'))⟩
  ·exact ok n (List.mem_of_mem_drop hn)
 ·unfold aA1
  rw [R6, R6]
  simp only [Nd.wgs, Nd.wg]
  omega
 ·unfold aA1
  rw [f9, f9]
  simp only [Nd.dps, Nd.dp]
  omega
 ·unfold aA1
  rw [List.length_append, List.length_append, List.length_take, List.length_drop, List.length_singleton]
  have := h.len
  omega
 ·rw [Q9]
  have th := (Q9 l).mp h.th
  intro n hn
  unfold aA1 at hn
  rcases List.mem_append.mp hn with hn | hn
  ·rcases List.mem_append.mp hn with hn | hn
   ·exact th n (List.mem_of_mem_take hn)
   ·rw [List.mem_singleton.mp hn, Nd.thin]
    exact ⟨Nat.le_trans (List.length_take_le' ..) (by rw [List.length_drop]; omega), (Q9 _).mpr fun n' hn' => th n' (List.mem_of_mem_drop (List.mem_of_mem_take hn'))⟩
  ·exact th n (List.mem_of_mem_drop hn)
 ·rw [y9]
  have th := (y9 l).mp h.nr
  intro n hn
  unfold aA1 at hn
  rcases List.mem_append.mp hn with hn | hn
  ·rcases List.mem_append.mp hn with hn | hn
   ·exact th n (List.mem_of_mem_take hn)
   ·rw [List.mem_singleton.mp hn, Nd.near]
    exact (y9 _).mpr fun n' hn' => th n' (List.mem_of_mem_drop (List.mem_of_mem_take hn'))
  ·exact th n (List.mem_of_mem_drop hn)
 ·obtain ⟨is, e1, e2, e3⟩ := h.ix
  have w3 := congrArg Nd.nmss e
  rw [Q5, Q5, e1] at w3
  obtain ⟨i12, i3, q1, q2, q3⟩ := List.map_eq_append_iff.mp w3.symm
  obtain ⟨i1, i2, p1, p2, p3⟩ := List.map_eq_append_iff.mp q2
  subst p1 q1
  refine ⟨i1 ++ ((most + i) :: i2) ++ i3, ?_, ?_, ?_⟩
  ·unfold aA1
   rw [Q5, Q5, ← q3, ← p2]
   simp only [Nd.nmss, Nd.nms, List.append_nil, List.map_append, xmc, p3, hnm]
  ·have pm : (i1 ++ ((most + i) :: i2) ++ i3).Perm ((most + i) :: (i1 ++ i2 ++ i3)) := by
    rw [List.append_assoc, xca, List.append_assoc i1 i2 i3]
    exact List.perm_middle
   rw [pm.nodup_iff, List.nodup_cons]
   exact ⟨fun z => by have := e3 _ z; omega, e2⟩
  ·intro j hj
   have : j = most + i ∨ j ∈ i1 ++ i2 ++ i3 := by
    simp only [List.mem_append, List.mem_cons] at hj ⊢
    rcases hj with (h | h | h) | h
    ·exact .inr (.inl (.inl h))
    ·exact .inl h
    ·exact .inr (.inl (.inr h))
    ·exact .inr (.inr h)
   rcases this with rfl | h
   ·omega
   ·have := e3 j h; omega
theorem bJ6 (ns : List Int) (hn : ns.length ≤ 63) (at' most : Nat) (ha : at' < 2 ^ 18) (hmost : most ≤ 6) (N : List D) (hN : most + 2 ≤ N.length) : ∃ l : List Nd, ak5 [scr ns, .int at', .int most, .list N] = some (.tuple (Nd.ds l)) ∧ NOk N 2 most l := by
 obtain ⟨d0, e0, l0⟩ := K9 ns hn (e := (at' : Int)) (m' := 4) at' 4 rfl rfl (by omega) (by decide)
 obtain ⟨d1, e1, l1⟩ := K9 ns hn (e := (at' : Int) + 1) (m' := (most : Int) + 1) (at' + 1) (most + 1) (by omega) (by omega) (by omega) (by omega)
 obtain ⟨d2, e2, l2⟩ := K9 ns hn (e := (at' : Int) + 2) (m' := 3) (at' + 2) 3 (by omega) rfl (by omega) (by decide)
 obtain ⟨m, em⟩ := cL5 d0 l0
 have P : ∀ j, j < d1 → ∃ n : Nd, A2 W6 (A0 (A1 1) (A0 (A4 B4 (A4 B4 (A1 4) (dC (.int 20))) (A4 K5 (dC (.int 170)) (A1 0))) (A0 (dIx (A5 3) (A1 0)) (A0 (A1 2) A3)))) [‹.int (j : Nat)›, ‹scr ns›, ‹.str m.s›, ‹.list N›, ‹.int at'›] = some n.d ∧ n.Ok ∧ n.dp = 0 ∧ n.wg ≤ 40 ∧ n.nm = N.getD j .none ∧ n.near := fun j hj => by
  have m170 : K5 (.int 170) (.int j) = some (.int ((170 * j : Nat) : Int)) := O6 (i := 170) (by decide) (by omega)
  have en : atI N (j : Int) = some (N[j]'(by omega)) := by
   unfold atI
   rw [ao8 (by omega) (by omega), xbs, Int.toNat_natCast]
   exact List.getElem?_eq_getElem (by omega)
  obtain ⟨n, en', hn'⟩ := bo7 ns hn (at' + 20 + 170 * j) (by omega) (N[j]'(by omega)) m
  have ei : (at' : Int) + 20 + ((170 * j : Nat) : Int) = ((at' + 20 + 170 * j : Nat) : Int) := by omega
  refine ⟨n, ?_, hn'.1, hn'.2.1, hn'.2.2.1, by rw [hn'.2.2.2.1, List.getD_eq_getElem?_getD, List.getElem?_eq_getElem (by omega)]; rfl, hn'.2.2.2.2⟩
  wp_walk using evD, m170, en, ei, en'
 obtain ⟨f, hf⟩ := aZ0 (x := Nd.tone .none .turn 0 true) P
 have g0 : gn0 [‹scr ns›, ‹.int at'›, ‹.int most›, ‹.list N›, none, none, none, none, none, none, none, none, none] = some (.nx [‹scr ns›, ‹.int at'›, ‹.int most›, ‹.list N›, ‹.str m.s›, none, none, none, none, none, none, none, none]) := by
  wp_walk using evD, gn0, e0, em
 have g1 : gn1 [‹scr ns›, ‹.int at'›, ‹.int most›, ‹.list N›, ‹.str m.s›, none, none, none, none, none, none, none, none] = some (.nx [‹scr ns›, ‹.int at'›, ‹.int most›, ‹.list N›, ‹.str m.s›, ‹.int d1›, none, none, none, none, none, none, none]) := by
  wp_walk using evD, gn1, e1
 have g2 : gn2 [‹scr ns›, ‹.int at'›, ‹.int most›, ‹.list N›, ‹.str m.s›, ‹.int d1›, none, none, none, none, none, none, none] = some (.nx [‹scr ns›, ‹.int at'›, ‹.int most›, ‹.list N›, ‹.str m.s›, ‹.int d1›, some (.own (Nd.ds ((List.range d1).map f))), none, none, none, none, none, none]) := by
  have c : D6 1 [0, 4, 3, 1] (L6 (A1 5)) (A8 0) G0 (A2 W6 (A0 (A1 1) (A0 (A4 B4 (A4 B4 (A1 4) (dC (.int 20))) (A4 K5 (dC (.int 170)) (A1 0))) (A0 (dIx (A5 3) (A1 0)) (A0 (A1 2) A3))))) [‹scr ns›, ‹.int at'›, ‹.int most›, ‹.list N›, ‹.str m.s›, ‹.int d1›, none, none, none, none, none, none, none] = some ((List.range d1).map fun j => (f j).d) :=
   X4 (l := List.range d1) (h := fun j : Nat => PyData.int j) (r := [‹scr ns›, ‹.str m.s›, ‹.list N›, ‹.int at'›]) rfl (U5 (n := d1) rfl (by omega)) (by rw [List.length_range]; omega) fun j hj => (hf j (List.mem_range.mp hj)).1
  unfold gn2 X3
  rw [c, V2, List.map_map]
  rfl
 have x8 : NOk N 0 most ((List.range d1).map f) := by
  refine ⟨(P4 _).mpr fun n h => ?_, ?_, ?_, ?_, (Q9 _).mpr fun n h => ?_, (y9 _).mpr fun n h => ?_, List.range d1, ?_, List.nodup_range, fun j hj => by have := List.mem_range.mp hj; omega⟩
  ·obtain ⟨j, hj, rfl⟩ := List.mem_map.mp h
   exact (hf j (List.mem_range.mp hj)).2.1
  ·have := bE3 ((List.range d1).map f) fun n h => by
    obtain ⟨j, hj, rfl⟩ := List.mem_map.mp h
    exact (hf j (List.mem_range.mp hj)).2.2.2.1
   rw [List.length_map, List.length_range] at this
   omega
  ·rw [ba0 _ fun n h => by
    obtain ⟨j, hj, rfl⟩ := List.mem_map.mp h
    exact (hf j (List.mem_range.mp hj)).2.2.1]
   exact Nat.le_refl _
  ·rw [List.length_map, List.length_range]; omega
  ·obtain ⟨j, hj, rfl⟩ := List.mem_map.mp h
   have := (hf j (List.mem_range.mp hj)).2.2.1
   cases q : f j with
   | group => rw [q, Nd.dp] at this; omega
   | layer => rw [Nd.thin]; trivial
   | tone => rw [Nd.thin]; trivial
  ·obtain ⟨j, hj, rfl⟩ := List.mem_map.mp h
   exact (hf j (List.mem_range.mp hj)).2.2.2.2.2
  ·have key : ∀ is : List Nat, (∀ j ∈ is, j < d1) → Nd.nmss (is.map f) = is.map fun j => N.getD j .none := by
    intro is
    induction is with
    | nil => intro _; simp [Nd.nmss]
    | cons j is ih =>
     intro hj
     have a := hf j (hj j (List.mem_cons_self ..))
     rw [xmc, Nd.nmss, ih fun i hi => hj i (List.mem_cons_of_mem _ hi), xmc, ← a.2.2.2.2.1]
     cases q : f j with
     | group => have := a.2.2.1; rw [q, Nd.dp] at this; omega
     | layer => simp [Nd.nms, Nd.nm]
     | tone => simp [Nd.nms, Nd.nm]
   exact key _ fun j hj => List.mem_range.mp hj
 obtain ⟨ρ', e3, l, b7, b8, b9, b10, b11, b12, hρ, hl⟩ := z9 (g := A8 7) (f := bp9) (h := fun j : Nat => PyData.int j) (I := fun i ρ => ∃ (l : List Nd) (b7 b8 b9 b10 b11 b12 : Option B), ρ = [‹scr ns›, ‹.int at'›, ‹.int most›, ‹.list N›, ‹.str m.s›, ‹.int d1›, some (.own (Nd.ds l)), b7, b8, b9, b10, b11, b12] ∧ NOk N i most l) (List.range d2) 0 [‹scr ns›, ‹.int at'›, ‹.int most›, ‹.list N›, ‹.str m.s›, ‹.int d1›, some (.own (Nd.ds ((List.range d1).map f))), none, none, none, none, none, none] ⟨_, _, _, _, _, _, _, rfl, x8⟩ (fun j a hj ρ hρ => by
  obtain ⟨l, b7, b8, b9, b10, b11, b12, rfl, hl⟩ := hρ
  obtain ⟨hj1, hj2⟩ := List.getElem?_eq_some_iff.mp hj
  rw [List.length_range] at hj1
  rw [List.getElem_range] at hj2
  subst hj2
  refine ⟨_, rfl, ?_⟩
  simp only [xw0, xw1]
  have hll := hl.len
  obtain ⟨a, c, nm, m', s, sh, c8, c9, c10, c11, c12, eb, ac, cl, hs, hnm⟩ := bO4 ns hn at' most j ha (by omega) hmost N hN m l (by omega) (‹.int d1›) b8 b9 b10 b11 b12
  exact ⟨_, eb, _, _, _, _, _, _, _, rfl, hl.grp ac hs (by rw [hnm, Nat.zero_add]) (by omega)⟩)
 subst hρ
 rw [List.length_range, Nat.zero_add] at hl
 refine ⟨l, ?_, hl.ok, by have := hl.wg; omega, by have := hl.dp; omega, by have := hl.len; omega, hl.th, hl.nr, by
  obtain ⟨is, q1, q2, q3⟩ := hl.ix
  exact ⟨is, q1, q2, fun j hj => by have := q3 j hj; omega⟩⟩
 have rn : L6 (A2 A7 (A0 (A1 0) (A0 (A4 B4 (A1 1) (dC (.int 2))) (A0 (dC (.int 3)) A3)))) [‹scr ns›, ‹.int at'›, ‹.int most›, ‹.list N›, ‹.str m.s›, ‹.int d1›, some (.own (Nd.ds ((List.range d1).map f))), none, none, none, none, none, none] = _ := U5 (n := d2) (by wp_walk using evD, e2) (by omega)
 have g3 : gn3 [‹scr ns›, ‹.int at'›, ‹.int most›, ‹.list N›, ‹.str m.s›, ‹.int d1›, some (.own (Nd.ds ((List.range d1).map f))), none, none, none, none, none, none] = some (.nx [‹scr ns›, ‹.int at'›, ‹.int most›, ‹.list N›, ‹.str m.s›, ‹.int d1›, some (.own (Nd.ds l)), b7, b8, b9, b10, b11, b12]) := by
  unfold gn3 P8
  rw [rn]
  exact e3
 have g4 : gn4 [‹scr ns›, ‹.int at'›, ‹.int most›, ‹.list N›, ‹.str m.s›, ‹.int d1›, some (.own (Nd.ds l)), b7, b8, b9, b10, b11, b12] = some (.rt (.tuple (Nd.ds l))) := rfl
 refine A9 (ρ := [‹scr ns›, ‹.int at'›, ‹.int most›, ‹.list N›, none, none, none, none, none, none, none, none, none]) rfl ?_
 rw [bN9, C4 g0, C4 g1, C4 g2, C4 g3]
 exact g4
def K1 (w h : Nat) (l : List Nd) : D := .tuple [.int w, .int h, .tuple (Nd.ds l)]
theorem bf4 (ns : List Int) (hn : ns.length ≤ 63) (at' most : Nat) (ha : at' < 2 ^ 17) (hmost : most ≤ 6) (N : List D) (hN : most + 2 ≤ N.length) : ∃ (w h : Nat) (l : List Nd), Z6 [scr ns, .int at', .int most, .list N] = some (K1 w h l) ∧ NOk N 2 most l ∧ (1 ≤ w ∧ w ≤ 3) ∧ (1 ≤ h ∧ h ≤ 3) := by
 obtain ⟨d0, e0, l0⟩ := K9 ns hn (e := (at' : Int)) (m' := 3) at' 3 rfl rfl (by omega) (by decide)
 obtain ⟨d1, e1, l1⟩ := K9 ns hn (e := (at' : Int) + 1) (m' := 3) (at' + 1) 3 (by omega) rfl (by omega) (by decide)
 obtain ⟨l, el, hl⟩ := bJ6 ns hn (at' + 2) most (by omega) hmost N hN
 have e2 : (at' : Int) + 2 = ((at' + 2 : Nat) : Int) := by omega
 refine ⟨1 + d0, 1 + d1, l, ?_, hl, by omega, by omega⟩
 refine A9 (ρ := [‹scr ns›, ‹.int at'›, ‹.int most›, ‹.list N›, none, none]) rfl ?_
 wp_walk using evD, az5, e0, e1, ad1, e2, el, K1
def flL (w h : Nat) (l : List Nd) : List Q4 := (plc w (w * h)).map fun p => Nd.sw p.1 p.2 l q0
structure Small6 (l : List Nd) : Prop where
 ok : Nd.Oks l
 wg : Nd.wgs l ≤ 800
 dp : Nd.dps l ≤ 3
theorem ap1 {w h : Nat} {l : List Nd} (S : Small6 l) (x y : Int) : T6 [K1 w h l, .int x, .int y] = some (Nd.sw x y l q0).d := by
 have e := (bF6 x y l 11 S.ok (by have := S.dp; omega) (by have := S.wg; omega)).1
 refine A9 (ρ := [‹K1 w h l›, ‹.int x›, ‹.int y›]) rfl ?_
 wp_walk using evD, aO3, K1, e
theorem aS2 {l : List Nd} (S : Small6 l) (x y : Int) : P7 12 [.tuple (Nd.ds l), .int x, .int y] = some (Nd.sw x y l q0).d := bw8 x y l 11 S.ok (by have := S.dp; omega) (by have := S.wg; omega)
theorem cJ4 {w h : Nat} {l : List Nd} (S : Small6 l) (w1 : 1 ≤ w) (w8 : w ≤ 8) (h8 : h ≤ 8) : cB5 [K1 w h l] = some (shD w h (flL w h l)) := by
 have wh : w * h ≤ 64 := Nat.mul_le_mul w8 h8
 refine A9 (ρ := [‹K1 w h l›, none]) rfl ?_
 have c : D6 2 [0] (L4 (A2 S2 (A0 (dIx (A5 0) (dC (.int 0))) (A0 (dIx (A5 0) (dC (.int 1))) A3)))) (K6 2 (B0 (A8 0) (B0 (A8 1) L5))) G0 (A2 T6 (A0 (A1 2) (A0 (A1 0) (A0 (A1 1) A3)))) [‹K1 w h l›, none] = some ((flL w h l).map Q4.d) := by
  rw [bK1 (l := plc w (w * h)) (h1 := fun p => .int p.1) (h2 := fun p => .int p.2) (f := fun p => (Nd.sw p.1 p.2 l q0).d) (r := [‹K1 w h l›]) rfl ?_ (by rw [o9]; omega) ?_]
  ·unfold flL; rw [List.map_map]; rfl
  ·wp_walk using evD, K1, aL8 w1 w8 h8
  ·intro p _
   wp_walk using evD, ap1 S
 have g0 : ∀ v : Option B, dIx (A5 0) (dC (.int 0)) [‹K1 w h l›, v] = some (.int w) := fun _ => rfl
 have g1 : ∀ v : Option B, dIx (A5 0) (dC (.int 1)) [‹K1 w h l›, v] = some (.int h) := fun _ => rfl
 simp only [bT8, A6, N5, c, g0, g1, B2, J1, A0, A3, L8, A5, xw0, xw1, xms, xbs, xg0, xg1]
 rfl
theorem ay7 {w h : Nat} {l : List Nd} (S : Small6 l) (w1 : 1 ≤ w) (w8 : w ≤ 8) (h8 : h ≤ 8) : ab4 [K1 w h l] = some (shD w h (flL w h l)) := by
 have wh : w * h ≤ 64 := Nat.mul_le_mul w8 h8
 have mwh : K5 (.int w) (.int h) = some (.int ((w * h : Nat) : Int)) := O6 (by omega) (by omega)
 have pw : (0 : Int) < w := by omega
 have sw : L0 (w : Int) := sm8 (by omega) (by omega)
 have md : ∀ {n m : Nat}, ((n : Int) % (m : Int)) = ((n % m : Nat) : Int) := fun {n m} => by omega
 have dv : ∀ {n m : Nat}, ((n : Int) / (m : Int)) = ((n / m : Nat) : Int) := fun {n m} => by omega
 refine A9 (ρ := [‹K1 w h l›, none, none, none]) rfl ?_
 have c : D6 1 [3, 1] (L6 (A4 K5 (A1 1) (A1 2))) (A8 0) G0 (A2 (P7 12) (A0 (A1 1) (A0 (A4 U1 (A1 0) (A1 2)) (A0 (A4 X7 (A1 0) (A1 2)) A3)))) [‹K1 w h l›, ‹.int w›, ‹.int h›, ‹.tuple (Nd.ds l)›] = some ((flL w h l).map Q4.d) := by
  rw [X4 (l := List.range (w * h)) (h := fun k : Nat => PyData.int k) (f := fun k => (Nd.sw ((k % w : Nat) : Int) ((k / w : Nat) : Int) l q0).d) (r := [‹.tuple (Nd.ds l)›, ‹.int w›]) rfl (U5 ((t8 rfl rfl).trans mwh) (by omega)) (by rw [List.length_range]; omega) ?_]
  ·unfold flL plc
   rw [List.map_map, List.map_map]; rfl
  ·intro k _
   wp_walk using evD, am3 pw, am7 pw sw, md, dv, aS2 S
 have a0 : (V9 (A1 0) (K6 3 (B0 (A8 1) (B0 (A8 2) (B0 (A8 3) L5))))) [‹K1 w h l›, none, none, none] = some (.nx [‹K1 w h l›, ‹.int w›, ‹.int h›, ‹.tuple (Nd.ds l)›]) := rfl
 unfold bc5
 rw [C4 a0]
 simp only [B2, J1, A0, A3, L8, qN, c, A1, xms, xbs, xg0, xg1, xft, if_false]
 rfl
end Sh
namespace Sh
open PySem G L2
theorem aR4 (n : Nd) : n.nm ∈ n.nms := by
 cases n <;> simp [Nd.nm, Nd.nms]
theorem bn8 {n : Nd} {l : List Nd} (h : n ∈ l) {d : D} (hd : d ∈ n.nms) : d ∈ Nd.nmss l := by
 obtain ⟨a, b, rfl⟩ := List.append_of_mem h
 rw [Q5, Nd.nmss]
 simp [hd]
def at8 (d : D) : Prop := ∃ s : Str, d = .str s ∧ SOk s
def same (a b : D) : Bool := @decide (a = b) (Classical.propDecidable _)
theorem bt3 (a : D) : same a a = true := @decide_eq_true _ (Classical.propDecidable _) rfl
theorem bV4 {a b : D} (h : a ≠ b) : same a b = false := @decide_eq_false _ (Classical.propDecidable _) h
theorem cI1 {a b : D} (ha : at8 a) (hb : at8 b) : eqD a b = some (.bool (same a b)) := by
 obtain ⟨s, rfl, hs⟩ := ha
 obtain ⟨t, rfl, ht⟩ := hb
 refine B5 hs.ok ht.ok ?_
 by_cases e : s = t
 ·subst e; rw [bt3]; simp
 ·rw [bV4 (fun z => e (by cases z; rfl))]; simp [e]
theorem aY9 {g : D → Rho → Option Rho} {f : DS} {I : Rho → Prop} : ∀ (X : List D) (ρ : Rho), I ρ → (∀ x ∈ X, ∀ ρ, I ρ → ∃ ρ1, g x ρ = some ρ1 ∧ ∃ ρ', f ρ1 = some (.nx ρ') ∧ I ρ') → ∃ ρ', X6 g f X ρ = some (.nx ρ') ∧ I ρ'
 | [], ρ, h, _ => ⟨ρ, rfl, h⟩
 | x :: X, ρ, h, H => by
  obtain ⟨ρ1, e1, ρ2, e2, h2⟩ := H x (List.mem_cons_self ..) ρ h
  obtain ⟨ρ', e3, h3⟩ := aY9 X ρ2 h2 fun y hy => H y (List.mem_cons_of_mem _ hy)
  exact ⟨ρ', by simp only [X6, e1, xbs, e2, e3], h3⟩
theorem ay8 (n : Nd) : m8 [n.d] = some (.bool (match n with | .group .. => true | _ => false)) := by
 have e_tg : eqD (.str "tone") (.str "group") = some (.bool false) := B5 (by decide +kernel) (by decide +kernel) (by decide +kernel)
 cases n with
 | layer nm m s sh lf tp mk w h l kb => rw [Nd.d]; exact A9 (ρ := [‹.tuple [.str "layer", nm, .str m.s, fr s, .bool sh, .int lf, .int tp, mkD mk, shD w h l]›]) rfl (congrArg (Option.map Fl.rt) bi5)
 | tone nm r s sh => rw [Nd.d]; exact A9 (ρ := [‹.tuple [.str "tone", nm, .str r.s, fr s, .bool sh]›]) rfl (congrArg (Option.map Fl.rt) e_tg)
 | group nm m s sh ns => rw [Nd.d]; exact A9 (ρ := [‹.tuple [.str "group", nm, .str m.s, fr s, .bool sh, .tuple (Nd.ds ns)]›]) rfl (congrArg (Option.map Fl.rt) bQ6)
theorem cs6 {l : List Nd} (h : ∀ d ∈ Nd.nmss l, at8 d) : ∀ n ∈ l, at8 n.nm := fun n hn => h _ (bn8 hn (aR4 n))
theorem ac6 {l : List Nd} {n : Nd} (h : n ∈ l) : n.dp ≤ Nd.dps l := by
 obtain ⟨a, b, rfl⟩ := List.append_of_mem h
 rw [f9, Nd.dps]; omega
inductive Stands (a : List Nd) (n : Nd) (b : List Nd) : List Nd → Prop
 | top : Stands a n b (a ++ n :: b)
 | deep {c e : List Nd} {nm : D} {m : Man} {s : Rat} {sh : Bool} {ns : List Nd} : Stands a n b ns → Stands a n b (c ++ .group nm m s sh ns :: e)
theorem Stands.nm {a : List Nd} {n : Nd} {b l : List Nd} (h : Stands a n b l) : ∀ d ∈ n.nms, d ∈ Nd.nmss l := by
 induction h with
 | top => intro d hd; rw [Q5, Nd.nmss]; simp [hd]
 | deep _ ih => intro d hd; rw [Q5, Nd.nmss, Nd.nms]; simp [ih d hd]
end Sh
namespace Sh
open PySem G L2
end Sh
namespace Sh
open PySem G L2
structure StProps (a : List Nd) (n : Nd) (b l : List Nd) : Prop where
 ok : Nd.Oks l → n.Ok
 wg : n.wg ≤ Nd.wgs l
 dp : n.dp ≤ Nd.dps l
 nd : (Nd.nmss l).Nodup → (Nd.nmss (a ++ n :: b)).Nodup
 sub : ∀ d ∈ Nd.nmss (a ++ n :: b), d ∈ Nd.nmss l
 len : l.length ≤ 1000 → Nd.thins l → (a ++ n :: b).length ≤ 1000
theorem Stands.props {a b l : List Nd} {n : Nd} (h : Stands a n b l) : StProps a n b l := by
 induction h with
 | top =>
  refine ⟨fun o => (P4 _).mp o n (by simp), ?_, ?_, fun h => h, fun d h => h, fun h _ => h⟩
  ·rw [R6, Nd.wgs]; omega
  ·rw [f9, Nd.dps]; omega
 | @deep c e nm m s sh ns h ih =>
  refine ⟨fun o => ?_, ?_, ?_, fun hd => ?_, fun d hd => ?_, fun hl ht => ?_⟩
  ·have og := (P4 _).mp o (.group nm m s sh ns) (by simp)
   rw [Nd.Ok] at og
   exact ih.ok og.2
  ·have := ih.wg
   rw [R6, Nd.wgs, Nd.wg]; omega
  ·have := ih.dp
   rw [f9, Nd.dps, Nd.dp]; omega
  ·rw [Q5, Nd.nmss, Nd.nms] at hd
   exact ih.nd (List.nodup_cons.mp (List.nodup_append.mp (List.nodup_append.mp hd).2.1).1).2
  ·rw [Q5, Nd.nmss, Nd.nms]
   simp [ih.sub d hd]
  ·have tg := (Q9 _).mp ht (.group nm m s sh ns) (by simp)
   rw [Nd.thin] at tg
   exact ih.len tg.1 tg.2
def alb (f : Nat) : DS := (A6 (R3 1 (A1 2)) (sIf (tB2 eqD (dIx (A5 2) (dC (.int 0))) (dC (.str "group"))) (X3 1 (bw4 (A5 1) (qE (A2 (N7 f) (A0 (dIx (A5 2) (dC (.int 5))) A3))))) J2))
theorem e_tg : eqD (.str "tone") (.str "group") = some (.bool false) := B5 (by decide +kernel) (by decide +kernel) (by decide +kernel)
theorem aH1 {n : Nd} (f : Nat) (h : n.dp = 0) (a0 : Option B) (X : List D) (hX : X.length < 1000) : alb f [a0, some (.own X), some (.val n.d)] = some (.nx [a0, some (.own (X ++ [n.d])), some (.val n.d)]) := by
 have hx : X.length < 16777216 := by omega
 have s0 : (R3 1 (A1 2)) [a0, some (.own X), some (.val n.d)] = some (.nx [a0, some (.own (X ++ [n.d])), some (.val n.d)]) := by
  simp only [R3, xg0, xg1, if_pos hx, A1, xms, xw0, xw1]
 unfold alb
 rw [C4 s0]
 cases n with
 | group => rw [Nd.dp] at h; omega
 | layer => rw [Nd.d]; wp_walk using evD, aa6, bi5
 | tone => rw [Nd.d]; wp_walk using evD, ae2, e_tg
theorem aN5 {nm : D} {m : Man} {s : Rat} {sh : Bool} {ns : List Nd} (f : Nat) (a0 : Option B) (X Y : List D) (hX : X.length < 1000) (hY : Y.length < 1000) (e : N7 f [.tuple (Nd.ds ns)] = some (.list Y)) : alb f [a0, some (.own X), ‹Nd.d (.group nm m s sh ns)›] = some (.nx [a0, some (.own (X ++ [Nd.d (.group nm m s sh ns)] ++ Y)), ‹Nd.d (.group nm m s sh ns)›]) := by
 have hx : X.length < 16777216 := by omega
 have s0 : (R3 1 (A1 2)) [a0, some (.own X), ‹Nd.d (.group nm m s sh ns)›] = some (.nx [a0, some (.own (X ++ [Nd.d (.group nm m s sh ns)])), ‹Nd.d (.group nm m s sh ns)›]) := by
  simp only [R3, xg0, xg1, if_pos hx, A1, xms, xw0, xw1]
 unfold alb
 rw [C4 s0]
 have hc : bw4 (A5 1) (qE (A2 (N7 f) (A0 (dIx (A5 2) (dC (.int 5))) A3))) [a0, some (.own (X ++ [Nd.d (.group nm m s sh ns)])), ‹Nd.d (.group nm m s sh ns)›] = some (X ++ [Nd.d (.group nm m s sh ns)] ++ Y) := by
  have q2 : qE (A2 (N7 f) (A0 (dIx (A5 2) (dC (.int 5))) A3)) [a0, some (.own (X ++ [Nd.d (.group nm m s sh ns)])), ‹Nd.d (.group nm m s sh ns)›] = some (false, Y) := by
   rw [show Nd.d (.group nm m s sh ns) = .tuple [.str "group", nm, .str m.s, fr s, .bool sh, .tuple (Nd.ds ns)] by rw [Nd.d]]
   wp_walk using evD, aa7, e
  unfold bw4
  rw [q2]
  show (if false = false ∧ false = false ∧ (X ++ [Nd.d (.group nm m s sh ns)]).length + Y.length ≤ 16777216 then some (X ++ [Nd.d (.group nm m s sh ns)] ++ Y) else none) = _
  rw [if_pos ⟨rfl, rfl, by rw [List.length_append]; show X.length + 1 + Y.length ≤ _; omega⟩]
 have ht : tB2 eqD (dIx (A5 2) (dC (.int 0))) (dC (.str "group")) [a0, some (.own (X ++ [Nd.d (.group nm m s sh ns)])), ‹Nd.d (.group nm m s sh ns)›] = some true := by
  rw [show Nd.d (.group nm m s sh ns) = .tuple [.str "group", nm, .str m.s, fr s, .bool sh, .tuple (Nd.ds ns)] by rw [Nd.d]]
  wp_walk using evD, u6, bQ6
 simp only [sIf, ht, xbs, if_true, X3, hc, xms, xw0, xw1]
theorem bd1 (n : Nd) : 1 ≤ n.wg := by
 cases n <;> (rw [Nd.wg]; omega)
theorem bT5 : ∀ (k : Nat) (l : List Nd) (f : Nat), Nd.dps l ≤ k → k + 1 ≤ f → Nd.wgs l ≤ 900 → ∃ X : List D, N7 f [.tuple (Nd.ds l)] = some (.list X) ∧ X.length ≤ Nd.wgs l ∧ ∀ d ∈ X, ∃ a n b, d = Nd.d n ∧ Stands a n b l := by
 intro k
 induction k with
 | zero =>
  intro l f hd hf hw
  obtain ⟨f, rfl⟩ : ∃ g, f = g + 1 := ⟨f - 1, by omega⟩
  obtain ⟨ρ', e, X, a2, hρ, hX, hP⟩ := z9 (g := A8 2) (f := alb f) (h := Nd.d) (I := fun i ρ => ∃ X a2, ρ = [‹.tuple (Nd.ds l)›, some (.own X), a2] ∧ X.length ≤ Nd.wgs (l.take i) ∧ ∀ d ∈ X, ∃ a n b, d = Nd.d n ∧ Stands a n b l) l 0 [‹.tuple (Nd.ds l)›, some (.own []), none] ⟨[], none, rfl, Nat.zero_le _, fun d h => absurd h (by simp)⟩ (fun j n hj ρ hρ => by
   obtain ⟨X, a2, rfl, hX, hP⟩ := hρ
   rw [Nat.zero_add] at hX ⊢
   obtain ⟨hjl, rfl⟩ := List.getElem?_eq_some_iff.mp hj
   have hsp : l = l.take j ++ l[j] :: l.drop (j + 1) := by rw [← List.drop_eq_getElem_cons hjl, List.take_append_drop]
   have ww : Nd.wgs (l.take (j + 1)) = Nd.wgs (l.take j) + (l[j]).wg := by rw [List.take_succ_eq_append_getElem hjl, R6, Nd.wgs, Nd.wgs, Nat.add_zero]
   have wl : Nd.wgs (l.take j) ≤ Nd.wgs l := by
    have := congrArg Nd.wgs (List.take_append_drop j l)
    rw [R6] at this; omega
   have hdp := ac6 (List.getElem_mem hjl)
   have wp := bd1 l[j]
   refine ⟨_, rfl, _, aH1 f (by omega) _ X (by omega), _, _, rfl, by rw [List.length_append, ww]; show X.length + 1 ≤ _; omega, fun d hd => ?_⟩
   rcases List.mem_append.mp hd with q | q
   ·exact hP d q
   ·rw [List.mem_singleton.mp q]
    exact ⟨l.take j, l[j], l.drop (j + 1), rfl, by
     have := Stands.top (a := l.take j) (n := l[j]) (b := l.drop (j + 1))
     rwa [← hsp] at this⟩)
  subst hρ
  rw [Nat.zero_add, List.take_of_length_le (Nat.le_refl _)] at hX
  refine ⟨X, ?_, hX, hP⟩
  rw [← V2] at e
  refine A9 (g := aC5 (N7 f)) (ρ := [‹.tuple (Nd.ds l)›, none, none]) rfl ?_
  have s0 : (X3 1 A3) [‹.tuple (Nd.ds l)›, none, none] = some (.nx [‹.tuple (Nd.ds l)›, some (.own []), none]) := rfl
  have s1 : (P8 (L4 (A1 0)) (A8 2) (alb f)) [‹.tuple (Nd.ds l)›, some (.own []), none] = some (.nx [‹.tuple (Nd.ds l)›, some (.own X), a2]) := e
  have s2 : (aw6 1 (B2 (A1 1))) [‹.tuple (Nd.ds l)›, some (.own X), a2] = some (.rt (.list X)) := rfl
  exact (C4 s0).trans ((C4 s1).trans s2)
 | succ k ih =>
  intro l f hd hf hw
  obtain ⟨f, rfl⟩ : ∃ g, f = g + 1 := ⟨f - 1, by omega⟩
  obtain ⟨ρ', e, X, a2, hρ, hX, hP⟩ := z9 (g := A8 2) (f := alb f) (h := Nd.d) (I := fun i ρ => ∃ X a2, ρ = [‹.tuple (Nd.ds l)›, some (.own X), a2] ∧ X.length ≤ Nd.wgs (l.take i) ∧ ∀ d ∈ X, ∃ a n b, d = Nd.d n ∧ Stands a n b l) l 0 [‹.tuple (Nd.ds l)›, some (.own []), none] ⟨[], none, rfl, Nat.zero_le _, fun d h => absurd h (by simp)⟩ (fun j n hj ρ hρ => by
   obtain ⟨X, a2, rfl, hX, hP⟩ := hρ
   rw [Nat.zero_add] at hX ⊢
   obtain ⟨hjl, hn⟩ := List.getElem?_eq_some_iff.mp hj
   have hsp : l = l.take j ++ l[j] :: l.drop (j + 1) := by rw [← List.drop_eq_getElem_cons hjl, List.take_append_drop]
   have ww : Nd.wgs (l.take (j + 1)) = Nd.wgs (l.take j) + (l[j]).wg := by rw [List.take_succ_eq_append_getElem hjl, R6, Nd.wgs, Nd.wgs, Nat.add_zero]
   have wt : Nd.wgs (l.take j) + (l[j]).wg ≤ Nd.wgs l := by
    have := congrArg Nd.wgs (List.take_append_drop (j + 1) l)
    rw [R6] at this; omega
   have hdp := ac6 (List.getElem_mem hjl)
   rw [hn] at hsp ww wt hdp
   have wp := bd1 n
   have tp : Stands (l.take j) n (l.drop (j + 1)) l := by
    have := Stands.top (a := l.take j) (n := n) (b := l.drop (j + 1))
    rwa [← hsp] at this
   by_cases hg : n.dp = 0
   ·refine ⟨_, rfl, _, aH1 f hg _ X (by omega), _, _, rfl, by rw [List.length_append, ww]; show X.length + 1 ≤ _; omega, fun d hd => ?_⟩
    rcases List.mem_append.mp hd with q | q
    ·exact hP d q
    ·rw [List.mem_singleton.mp q]; exact ⟨_, n, _, rfl, tp⟩
   ·cases n with
    | layer => exact absurd rfl hg
    | tone => exact absurd rfl hg
    | group nm m s sh ns =>
     rw [Nd.dp] at hdp
     rw [Nd.wg] at ww wt
     obtain ⟨Y, eY, lY, hY⟩ := ih ns f (by omega) (by omega) (by omega)
     refine ⟨_, rfl, _, aN5 f _ X Y (by omega) (by omega) eY, _, _, rfl, by rw [List.length_append, List.length_append, ww]; show X.length + 1 + Y.length ≤ _; omega, fun d hd => ?_⟩
     rcases List.mem_append.mp hd with q | q
     ·rcases List.mem_append.mp q with q | q
      ·exact hP d q
      ·rw [List.mem_singleton.mp q]; exact ⟨_, _, _, rfl, tp⟩
     ·obtain ⟨a, n, b, rfl, st⟩ := hY d q
      refine ⟨a, n, b, rfl, ?_⟩
      have := Stands.deep (c := l.take j) (e := l.drop (j + 1)) (nm := nm) (m := m) (s := s) (sh := sh) st
      rwa [← hsp] at this)
  subst hρ
  rw [Nat.zero_add, List.take_of_length_le (Nat.le_refl _)] at hX
  refine ⟨X, ?_, hX, hP⟩
  rw [← V2] at e
  refine A9 (g := aC5 (N7 f)) (ρ := [‹.tuple (Nd.ds l)›, none, none]) rfl ?_
  have s0 : (X3 1 A3) [‹.tuple (Nd.ds l)›, none, none] = some (.nx [‹.tuple (Nd.ds l)›, some (.own []), none]) := rfl
  have s1 : (P8 (L4 (A1 0)) (A8 2) (alb f)) [‹.tuple (Nd.ds l)›, some (.own []), none] = some (.nx [‹.tuple (Nd.ds l)›, some (.own X), a2]) := e
  have s2 : (aw6 1 (B2 (A1 1))) [‹.tuple (Nd.ds l)›, some (.own X), a2] = some (.rt (.list X)) := rfl
  exact (C4 s0).trans ((C4 s1).trans s2)
end Sh
namespace Sh
open PySem G L2
theorem strength_of (n : Nd) : ∃ s, O2 [n.d] = some (fr s) ∧ (n.Ok → Sr 4 s) := by
 cases n with
 | layer nm m s sh lf tp mk w h l kb => exact ⟨s, by rw [Nd.d]; rfl, fun o => by rw [Nd.Ok] at o; exact o.1⟩
 | tone nm r s sh => exact ⟨s, by rw [Nd.d]; rfl, fun o => by rw [Nd.Ok] at o; exact o⟩
 | group nm m s sh ns => exact ⟨s, by rw [Nd.d]; rfl, fun o => by rw [Nd.Ok] at o; exact o.1⟩
theorem bY9 {n : Nd} {l : List Nd} (h : n ∈ l) : n.nms.length ≤ (Nd.nmss l).length := by
 obtain ⟨a, b, rfl⟩ := List.append_of_mem h
 rw [Q5, Nd.nmss, List.length_append, List.length_append]; omega
end Sh
namespace Sh
open PySem G L2
end Sh
namespace Sh
open PySem G L2
def mn (i j : Int) : Int := if j < i then j else i
def mx (i j : Int) : Int := if j > i then j else i
abbrev Bx := Option (Int × Int × Int × Int)
def bxD : Bx → D
 | none => .none
 | some (l, t, r, b) => .tuple [.int l, .int t, .int (r - l), .int (b - t)]
def btw (l t r b : Int) : Bx := if r ≤ l ∨ b ≤ t then none else some (l, t, r, b)
def jn : Bx → Bx → Bx
 | none, o => o
 | some a, none => some a
 | some (l, t, r, b), some (l', t', r', b') => btw (mn l l') (mn t t') (mx r r') (mx b b')
def Bx.wf : Bx → Prop
 | none => True
 | some (l, t, r, b) => l < r ∧ t < b
def Bx.has (B : Bx) (x y : Int) : Prop := match B with
 | none => False
 | some (l, t, r, b) => l ≤ x ∧ x < r ∧ t ≤ y ∧ y < b
def Bx.le (A B : Bx) : Prop := match A, B with
 | none, _ => True
 | some _, none => False
 | some (l, t, r, b), some (l', t', r', b') => l' ≤ l ∧ t' ≤ t ∧ r ≤ r' ∧ b ≤ b'
theorem ay6 (i j : Int) : mn i j ≤ i ∧ mn i j ≤ j := by unfold mn; split <;> omega
theorem ay5 (i j : Int) : i ≤ mx i j ∧ j ≤ mx i j := by unfold mx; split <;> omega
theorem bo2 (i j : Int) : mn i j = mn j i := by unfold mn; split <;> split <;> omega
theorem bn9 (i j : Int) : mx i j = mx j i := by unfold mx; split <;> split <;> omega
theorem cg5 {i j k : Int} (h1 : k ≤ i) (h2 : k ≤ j) : k ≤ mn i j := by unfold mn; split <;> omega
theorem cg4 {i j k : Int} (h1 : i ≤ k) (h2 : j ≤ k) : mx i j ≤ k := by unfold mx; split <;> omega
theorem bR5 (l t r b : Int) : Bx.wf (btw l t r b) := by
 unfold btw
 split
 ·exact trivial
 ·show l < r ∧ t < b; omega
theorem bp4 {l t r b l' t' r' b' : Int} (h1 : l < r) (h2 : t < b) : jn (some (l, t, r, b)) (some (l', t', r', b')) = some (mn l l', mn t t', mx r r', mx b b') := by
 have a1 := ay6 l l'
 have a2 := ay6 t t'
 have a3 := ay5 r r'
 have a4 := ay5 b b'
 show btw _ _ _ _ = _
 unfold btw
 rw [if_neg (by omega)]
theorem bp3 {A B : Bx} (ha : Bx.wf A) (hb : Bx.wf B) : Bx.wf (jn A B) := by
 cases A with
 | none => cases B <;> exact hb
 | some a =>
  cases B with
  | none => exact ha
  | some b => exact bR5 ..
theorem le_refl (A : Bx) : Bx.le A A := by
 cases A with
 | none => exact trivial
 | some a => show _ ∧ _ ∧ _ ∧ _; omega
theorem bo8 {A B : Bx} (ha : Bx.wf A) : Bx.le A (jn A B) := by
 cases A with
 | none => exact trivial
 | some a =>
  cases B with
  | none => exact le_refl _
  | some b =>
   obtain ⟨l, t, r, b1⟩ := a
   obtain ⟨l', t', r', b'⟩ := b
   rw [bp4 ha.1 ha.2]
   have a1 := ay6 l l'
   have a2 := ay6 t t'
   have a3 := ay5 r r'
   have a4 := ay5 b1 b'
   show _ ∧ _ ∧ _ ∧ _
   omega
theorem cb2 (A B : Bx) : jn A B = jn B A := by
 cases A with
 | none => cases B <;> rfl
 | some a =>
  cases B with
  | none => rfl
  | some b => show btw _ _ _ _ = btw _ _ _ _; rw [bo2, bo2 a.2.1, bn9, bn9 a.2.2.2]
theorem bK7 {A B : Bx} (hb : Bx.wf B) : Bx.le B (jn A B) := by rw [cb2]; exact bo8 hb
theorem aY3 {A B C : Bx} (wa : Bx.wf A) (ha : Bx.le A C) (hb : Bx.le B C) : Bx.le (jn A B) C := by
 cases A with
 | none => exact hb
 | some a =>
  cases B with
  | none => exact ha
  | some b =>
   cases C with
   | none => exact ha.elim
   | some c =>
    obtain ⟨l, t, r, b1⟩ := a
    obtain ⟨l', t', r', b'⟩ := b
    obtain ⟨p, q, u, v⟩ := c
    rw [bp4 wa.1 wa.2]
    exact ⟨cg5 ha.1 hb.1, cg5 ha.2.1 hb.2.1, cg4 ha.2.2.1 hb.2.2.1, cg4 ha.2.2.2 hb.2.2.2⟩
theorem le_trans {A B C : Bx} (h1 : Bx.le A B) (h2 : Bx.le B C) : Bx.le A C := by
 cases A with
 | none => exact trivial
 | some a =>
  cases B with
  | none => exact h1.elim
  | some b =>
   cases C with
   | none => exact h2.elim
   | some c =>
    obtain ⟨a1, a2, a3, a4⟩ := h1
    obtain ⟨b1, b2, b3, b4⟩ := h2
    exact ⟨Int.le_trans b1 a1, Int.le_trans b2 a2, Int.le_trans a3 b3, Int.le_trans a4 b4⟩
theorem bN8 {A B : Bx} {x y : Int} (h : Bx.le A B) (hx : Bx.has A x y) : Bx.has B x y := by
 cases A with
 | none => exact hx.elim
 | some a =>
  cases B with
  | none => exact h.elim
  | some b =>
   obtain ⟨a1, a2, a3, a4⟩ := h
   obtain ⟨b1, b2, b3, b4⟩ := hx
   exact ⟨Int.le_trans a1 b1, Int.lt_of_lt_of_le b2 a3, Int.le_trans a2 b3, Int.lt_of_lt_of_le b4 a4⟩
theorem cr7 {B : Bx} {x y : Int} (h : Bx.has B x y) : Bx.le (some (x, y, x + 1, y + 1)) B := by
 cases B with
 | none => exact h.elim
 | some b => obtain ⟨b1, b2, b3, b4⟩ := h; exact ⟨b1, b3, by omega, by omega⟩
theorem bR6 (l t r b : Int) : U3 [.int l, .int t, .int r, .int b] = some (bxD (btw l t r b)) := by
 refine A9 (ρ := [‹.int l›, ‹.int t›, ‹.int r›, ‹.int b›]) rfl ?_
 unfold btw
 by_cases h1 : r ≤ l
 ·rw [if_pos (.inl h1)]
  wp_walk using evD, Y9, decide_eq_true h1, bxD
 ·by_cases h2 : b ≤ t
  ·rw [if_pos (.inr h2)]
   wp_walk using evD, Y9, decide_eq_false h1, decide_eq_true h2, bxD
  ·rw [if_neg (by omega)]
   wp_walk using evD, Y9, decide_eq_false h1, decide_eq_false h2, bxD
theorem ch1 (A B : Bx) : Q2 [bxD A, bxD B] = some (bxD (jn A B)) := by
 refine A9 (ρ := [‹bxD A›, ‹bxD B›, none, none]) rfl ?_
 have i0 : isB .none .none = some (.bool true) := rfl
 cases A with
 | none => wp_walk using evD, i7, bxD, i0; rfl
 | some a =>
  obtain ⟨l, t, r, b⟩ := a
  cases B with
  | none => wp_walk using evD, i7, bxD, i0, ax5; rfl
  | some c =>
   obtain ⟨l', t', r', b'⟩ := c
   have e1 : l + (r - l) = r := by omega
   have e2 : t + (b - t) = b := by omega
   have e3 : l' + (r' - l') = r' := by omega
   have e4 : t' + (b' - t') = b' := by omega
   have bo := bR6 (mn l l') (mn t t') (mx r r') (mx b b')
   unfold mn mx at bo
   wp_walk using evD, i7, bxD, ax5, az1, az0, e1, e2, e3, e4, bo
   rfl
def jns : Bx → List Bx → Bx
 | A, [] => A
 | A, B :: r => jns (jn A B) r
theorem bM1 (L : List Bx) : S8 [.list (L.map bxD)] = some (bxD (jns none L)) := by
 have lp : ∀ (L : List Bx) (A : Bx) (a0 a2 : Option B), ∃ a2', X6 (A8 2) (B3 1 (A2 Q2 (A0 (A1 1) (A0 (A1 2) A3)))) (L.map bxD) [a0, ‹bxD A›, a2] = some (.nx [a0, ‹bxD (jns A L)›, a2']) := by
  intro L
  induction L with
  | nil => intro A a0 a2; exact ⟨a2, rfl⟩
  | cons X r ih =>
   intro A a0 a2
   obtain ⟨a2', e⟩ := ih (jn A X) a0 (‹bxD X›)
   refine ⟨a2', ?_⟩
   wp_walk using evD, xmc, X6, ch1
   exact e
 obtain ⟨a2', e⟩ := lp L none (‹.list (L.map bxD)›) none
 refine A9 (ρ := [‹.list (L.map bxD)›, none, none]) rfl ?_
 have s1 : (P8 (L4 (A1 0)) (A8 2) (B3 1 (A2 Q2 (A0 (A1 1) (A0 (A1 2) A3))))) [‹.list (L.map bxD)›, some (.val .none), none] = some (.nx [‹.list (L.map bxD)›, ‹bxD (jns none L)›, a2']) := e
 exact (C4 (ρ' := [‹.list (L.map bxD)›, some (.val .none), none]) rfl).trans ((C4 s1).trans rfl)
theorem bM0 : ∀ (L : List Bx) (A : Bx), Bx.wf A → (∀ X ∈ L, Bx.wf X) → Bx.wf (jns A L)
 | [], A, ha, _ => ha
 | X :: r, A, ha, h => bM0 r _ (bp3 ha (h X (List.mem_cons_self ..))) fun Y hY => h Y (List.mem_cons_of_mem _ hY)
theorem aM2 : ∀ (L : List Bx) (A C : Bx), Bx.wf A → (∀ X ∈ L, Bx.wf X) → Bx.le A C → (∀ X ∈ L, Bx.le X C) → Bx.le (jns A L) C
 | [], A, C, _, _, h, _ => h
 | X :: r, A, C, wa, wl, h, hl => aM2 r (jn A X) C (bp3 wa (wl X (List.mem_cons_self ..))) (fun Y hY => wl Y (List.mem_cons_of_mem _ hY)) (aY3 wa h (hl X (List.mem_cons_self ..))) fun Y hY => hl Y (List.mem_cons_of_mem _ hY)
def Nd.isT : Nd → Bool
 | .tone .. => true
 | _ => false
mutual
def Nd.bx (w h : Int) : Nd → Bx
 | .layer _ _ _ sh lf tp _ w' h' _ _ => if sh = true then btw (mx lf 0) (mx tp 0) (mn (lf + w') w) (mn (tp + h') h) else none
 | .tone _ _ _ sh => if sh = true then some (0, 0, w, h) else none
 | .group _ _ _ sh ns => if sh = true then jns none (Nd.bxs w h ns) else none
def Nd.bxs (w h : Int) : List Nd → List Bx
 | [] => []
 | n :: r => if n.isT = true then Nd.bxs w h r else n.bx w h :: Nd.bxs w h r
end
theorem bq9 (w h : Int) : ∀ l : List Nd, Nd.bxs w h l = (l.filter fun n => !n.isT).map (Nd.bx w h)
 | [] => by rw [Nd.bxs]; rfl
 | n :: r => by
  rw [Nd.bxs, bq9 w h r]
  cases q : n.isT
  ·rw [List.filter_cons_of_pos (by rw [q]; rfl)]; rfl
  ·rw [List.filter_cons_of_neg (by rw [q]; simp)]; rfl
mutual
theorem ci0 (w h : Int) (hw : 0 < w) (hh : 0 < h) : ∀ n : Nd, Bx.wf (n.bx w h)
 | .layer nm m s sh lf tp mk w' h' l kb => by
  rw [Nd.bx]
  split
  ·exact bR5 ..
  ·exact trivial
 | .tone nm r s sh => by
  rw [Nd.bx]
  split
  ·exact ⟨hw, hh⟩
  ·exact trivial
 | .group nm m s sh ns => by
  rw [Nd.bx]
  split
  ·exact bM0 _ _ trivial (bxs_wf w h hw hh ns)
  ·exact trivial
theorem bxs_wf (w h : Int) (hw : 0 < w) (hh : 0 < h) : ∀ l : List Nd, ∀ X ∈ Nd.bxs w h l, Bx.wf X
 | [], X, hX => by rw [Nd.bxs] at hX; simp at hX
 | n :: r, X, hX => by
  rw [Nd.bxs] at hX
  split at hX
  ·exact bxs_wf w h hw hh r X hX
  ·rcases List.mem_cons.mp hX with rfl | hX
   ·exact ci0 w h hw hh n
   ·exact bxs_wf w h hw hh r X hX
end
mutual
theorem ci1 (w h : Int) (hw : 0 < w) (hh : 0 < h) : ∀ n : Nd, Bx.le (n.bx w h) (some (0, 0, w, h))
 | .layer nm m s sh lf tp mk w' h' l kb => by
  rw [Nd.bx]
  split
  ·unfold btw
   split
   ·exact trivial
   ·exact ⟨(ay5 _ _).2, (ay5 _ _).2, (ay6 _ _).2, (ay6 _ _).2⟩
  ·exact trivial
 | .tone nm r s sh => by
  rw [Nd.bx]
  split
  ·exact le_refl _
  ·exact trivial
 | .group nm m s sh ns => by
  rw [Nd.bx]
  split
  ·exact aM2 _ _ _ trivial (bxs_wf w h hw hh ns) trivial (bxs_le w h hw hh ns)
  ·exact trivial
theorem bxs_le (w h : Int) (hw : 0 < w) (hh : 0 < h) : ∀ l : List Nd, ∀ X ∈ Nd.bxs w h l, Bx.le X (some (0, 0, w, h))
 | [], X, hX => by rw [Nd.bxs] at hX; simp at hX
 | n :: r, X, hX => by
  rw [Nd.bxs] at hX
  split at hX
  ·exact bxs_le w h hw hh r X hX
  ·rcases List.mem_cons.mp hX with rfl | hX
   ·exact ci1 w h hw hh n
   ·exact bxs_le w h hw hh r X hX
end
theorem bh7 (n : Nd) : R1 [n.d] = some (.bool n.isT) := by
 cases n with
 | layer => exact bh3
 | tone => exact bd5
 | group => exact bi0
theorem cA2 (w h : Nat) (l0 : List Nd) : ∀ (k : Nat) (n : Nd) (f : Nat), n.dp ≤ k → k + 1 ≤ f → n.thin → Q8 f [K1 w h l0, n.d] = some (bxD (n.bx w h)) := by
 have leaf : ∀ (n : Nd) (f : Nat), n.dp = 0 → Q8 (f + 1) [K1 w h l0, n.d] = some (bxD (n.bx w h)) := fun n f hd => by
  refine A9 (g := W5 (Q8 f)) (ρ := [‹K1 w h l0›, some (.val n.d)]) rfl ?_
  cases n with
  | group => rw [Nd.dp] at hd; omega
  | tone nm r s sh =>
   have wb : V6 [K1 w h l0] = some (.tuple [.int 0, .int 0, .int w, .int h]) := rfl
   rw [Nd.bx]
   cases sh with
   | false => wp_walk using evD, W5, aA5; rfl
   | true =>
    wp_walk using evD, W5, aA5, bd5, wb
    show _ = some (Fl.rt (.tuple [.int 0, .int 0, .int ((w : Int) - 0), .int ((h : Int) - 0)]))
    rw [Int.sub_zero, Int.sub_zero]
  | layer nm m s sh lf tp mk w' h' l kb =>
   rw [Nd.bx]
   cases sh with
   | false => wp_walk using evD, W5, aB0; rfl
   | true =>
    have bl : W7 [K1 w h l0, Nd.d (.layer nm m s true lf tp mk w' h' l kb)] = some (bxD (btw (mx lf 0) (mx tp 0) (mn (lf + w') w) (mn (tp + h') h))) := by
     refine A9 (ρ := [‹K1 w h l0›, ‹Nd.d (.layer nm m s true lf tp mk w' h' l kb)›, none, none, none, none, none]) rfl ?_
     have bo := bR6 (mx lf 0) (mx tp 0) (mn (lf + w') w) (mn (tp + h') h)
     unfold mx mn at bo
     wp_walk using evD, ah4, o8, o7, o6, o5, o0, n9, bL1, cg7, aB1, shD, K1, az0, az1, bo
     rfl
    have ig := ay8 (.layer nm m s true lf tp mk w' h' l kb)
    wp_walk using evD, W5, aB0, bh3, ig, bl, if_pos
 intro k
 induction k with
 | zero =>
  intro n f hd hf _
  obtain ⟨f, rfl⟩ : ∃ g, f = g + 1 := ⟨f - 1, by omega⟩
  exact leaf n f (by omega)
 | succ k ih =>
  intro n f hd hf ht
  obtain ⟨f, rfl⟩ : ∃ g, f = g + 1 := ⟨f - 1, by omega⟩
  by_cases hz : n.dp = 0
  ·exact leaf n f hz
  cases n with
  | layer => exact absurd rfl hz
  | tone => exact absurd rfl hz
  | group nm m s sh ns =>
   refine A9 (g := W5 (Q8 f)) (ρ := [‹K1 w h l0›, ‹Nd.d (.group nm m s sh ns)›]) rfl ?_
   rw [Nd.bx]
   rw [Nd.thin] at ht
   rw [Nd.dp] at hd
   have th := (Q9 ns).mp ht.2
   cases sh with
   | false => wp_walk using evD, W5, aB2; rfl
   | true =>
    have ig := ay8 (.group nm m s true ns)
    have c : D6 1 [0] (L4 (A2 P1 (A0 (A1 1) A3))) (A8 0) (O5 (S0 (A2 R1 (A0 (A1 0) A3)))) (A2 (Q8 f) (A0 (A1 1) (A0 (A1 0) A3))) [‹K1 w h l0›, ‹Nd.d (.group nm m s true ns)›] = some ((Nd.bxs w h ns).map bxD) := by
     rw [aA9 (l := ns) (h := Nd.d) (f := fun n => bxD (n.bx w h)) (p := fun n => !n.isT) (r := [‹K1 w h l0›]) rfl ?_ ht.1 ?_ ?_]
     ·rw [bq9, List.map_map]; rfl
     ·rw [← V2]; wp_walk using evD, bq0
     ·intro n hn
      wp_walk using evD, bh7
     ·intro n hn
      wp_walk using evD, ih n f (by have := ac6 hn; omega) (by omega) (th n hn)
    wp_walk using evD, W5, aB2, bi0, ig, c, bM1, if_pos
theorem bg6 (q q' : Q4) : ∃ b, neD q.d q'.d = some (.bool b) ∧ (b = true → q ≠ q') := by
 have : ∃ b, neD q.d q'.d = some (.bool b) := by
  unfold neD
  rw [if_pos ⟨(Ly.q4 q 0).shaped (by decide), (Ly.q4 q' 0).shaped (by decide)⟩]
  exact ⟨_, rfl⟩
 obtain ⟨b, e⟩ := this
 refine ⟨b, e, fun hb he => ?_⟩
 subst he hb
 rw [aR5 (Ly.q4 q 0) (by decide)] at e
 cases e
def neB (q q' : Q4) : Bool := (bg6 q q').choose
theorem bJ9 (q q' : Q4) : neD q.d q'.d = some (.bool (neB q q')) := (bg6 q q').choose_spec.1
theorem cs8 {q q' : Q4} (h : neB q q' = true) : q ≠ q' := (bg6 q q').choose_spec.2 h
theorem bQ9 {α : Type} {c : Rho → Option Bool} {e : DE} {r : Rho} {h1 h2 f : α → D} {p : α → Bool} : ∀ (l : List α) (x y : Option B), (∀ a ∈ l, c (‹h1 a› :: ‹h2 a› :: r) = some (p a)) → (∀ a ∈ l, e (‹h1 a› :: ‹h2 a› :: r) = some (f a)) → P5 (K6 2 (B0 (A8 0) (B0 (A8 1) L5))) c e (l.map fun a => .tuple [h1 a, h2 a]) (x :: y :: r) = some ((l.filter p).map f)
 | [], _, _, _, _ => rfl
 | a :: l, x, y, C, H => by
  have ih := bQ9 l (‹h1 a›) (‹h2 a›) (fun b hb => C b (List.mem_cons_of_mem _ hb)) (fun b hb => H b (List.mem_cons_of_mem _ hb))
  have hl : ([h1 a, h2 a] : List D).length = 2 := rfl
  cases q : p a with
  | true =>
   simp only [xmc, P5, K6, B0, L5, A8, hl, if_true, xw0, xw1, xbs, C a (List.mem_cons_self ..), q, H a (List.mem_cons_self ..), ih, xms, List.filter_cons_of_pos q]
  | false =>
   have q' : ¬ p a = true := by rw [q]; exact Bool.false_ne_true
   simp only [xmc, P5, K6, B0, L5, A8, hl, if_true, xw0, xw1, xbs, C a (List.mem_cons_self ..), q, xft, if_false, ih, List.filter_cons_of_neg q']
def unl (w h : Nat) (l l' : List Nd) : List (Int × Int) := (plc w (w * h)).filter fun a => neB (Nd.sw a.1 a.2 l q0) (Nd.sw a.1 a.2 l' q0)
theorem ba6 {w h : Nat} {l l' : List Nd} (S : Small6 l) (S' : Small6 l') (w1 : 1 ≤ w) (w8 : w ≤ 8) (h8 : h ≤ 8) : P2 [K1 w h l, K1 w h l'] = some (bxD (jns none ((unl w h l l').map fun a => some (a.1, a.2, a.1 + 1, a.2 + 1)))) := by
 have wh : w * h ≤ 64 := Nat.mul_le_mul w8 h8
 unfold unl
 obtain ⟨p, hp⟩ : ∃ p : Int × Int → Bool, p = fun a => neB (Nd.sw a.1 a.2 l q0) (Nd.sw a.1 a.2 l' q0) := ⟨_, rfl⟩
 rw [← hp]
 have wb : V6 [K1 w h l] = some (.tuple [.int 0, .int 0, .int w, .int h]) := rfl
 have pi : u8 [.tuple [.int 0, .int 0, .int w, .int h]] = some (.list ((plc w (w * h)).map fun a => .tuple [.int a.1, .int a.2])) := by
  refine A9 (ρ := [‹.tuple [.int 0, .int 0, .int w, .int h]›]) rfl ?_
  have c : D6 2 [0] (L4 (A2 S2 (A0 (dIx (A5 0) (dC (.int 2))) (A0 (dIx (A5 0) (dC (.int 3))) A3)))) (K6 2 (B0 (A8 0) (B0 (A8 1) L5))) G0 (J1 (A0 (A4 B4 (dIx (A5 2) (dC (.int 0))) (A1 0)) (A0 (A4 B4 (dIx (A5 2) (dC (.int 1))) (A1 1)) A3))) [‹.tuple [.int 0, .int 0, .int w, .int h]›] = some ((plc w (w * h)).map fun a => .tuple [.int a.1, .int a.2]) := by
   refine bK1 (l := plc w (w * h)) (h1 := fun p => .int p.1) (h2 := fun p => .int p.2) (r := [‹.tuple [.int 0, .int 0, .int w, .int h]›]) rfl ?_ (by rw [o9]; omega) ?_
   ·wp_walk using evD, aL8 w1 w8 h8
   ·intro a _
    wp_walk using evD, Int.zero_add
  wp_walk using evD, az4, ax5, c
 have c : D6 2 [0, 1] (L4 (A1 2)) (K6 2 (B0 (A8 0) (B0 (A8 1) L5))) (tB2 neD (A2 T6 (A0 (A1 2) (A0 (A1 0) (A0 (A1 1) A3)))) (A2 T6 (A0 (A1 3) (A0 (A1 0) (A0 (A1 1) A3))))) (J1 (A0 (A1 0) (A0 (A1 1) (A0 (dC (.int 1)) (A0 (dC (.int 1)) A3))))) [‹K1 w h l›, ‹K1 w h l'›, ‹.list ((plc w (w * h)).map fun a => .tuple [.int a.1, .int a.2])›] = some ((((plc w (w * h)).filter p).map fun a => some (a.1, a.2, a.1 + 1, a.2 + 1)).map bxD) := by
  unfold D6
  rw [show L4 (A1 2) [‹K1 w h l›, ‹K1 w h l'›, ‹.list ((plc w (w * h)).map fun a => .tuple [.int a.1, .int a.2])›] = some ((plc w (w * h)).map fun a => .tuple [.int a.1, .int a.2]) from rfl, xbs, if_pos (by rw [List.length_map, o9]; omega)]
  show P5 _ _ _ _ (none :: none :: [‹K1 w h l›, ‹K1 w h l'›]) = _
  rw [bQ9 (h1 := fun a => .int a.1) (h2 := fun a => .int a.2) (f := fun a => .tuple [.int a.1, .int a.2, .int 1, .int 1]) (p := p) (plc w (w * h)) none none ?_ ?_]
  ·rw [List.map_map]
   congr 1
   refine List.map_congr_left fun a _ => ?_
   show _ = PyData.tuple [.int a.1, .int a.2, .int (a.1 + 1 - a.1), .int (a.2 + 1 - a.2)]
   rw [show a.1 + 1 - a.1 = 1 by omega, show a.2 + 1 - a.2 = 1 by omega]
  ·intro a _
   wp_walk using evD, ap1 S, ap1 S', bJ9, hp
  ·intro a _
   wp_walk using evD
 refine A9 (ρ := [‹K1 w h l›, ‹K1 w h l'›, none]) rfl ?_
 wp_walk using evD, an3, wb, pi, c, bM1
theorem bm8 {a b : D} (h : same a b = true) : a = b := by
 unfold same at h
 exact @of_decide_eq_true _ (Classical.propDecidable _) h
end Sh
namespace Sh
open PySem G L2
abbrev Pt := Int × Int
def ptD (p : Pt) : D := .tuple [.int p.1, .int p.2]
def ap0 (A : Bx) (L : List Pt) : Prop := (∀ p ∈ L, Bx.has A p.1 p.2) ∧ ∀ C : Bx, (∀ p ∈ L, Bx.has C p.1 p.2) → Bx.le A C
theorem bZ4 {A B : Bx} (h1 : Bx.le A B) (h2 : Bx.le B A) : A = B := by
 cases A with
 | none =>
  cases B with
  | none => rfl
  | some b => exact h2.elim
 | some a =>
  cases B with
  | none => exact h1.elim
  | some b =>
   obtain ⟨l, t, r, c⟩ := a
   obtain ⟨l', t', r', c'⟩ := b
   obtain ⟨a1, a2, a3, a4⟩ := h1
   obtain ⟨b1, b2, b3, b4⟩ := h2
   rw [Int.le_antisymm b1 a1, Int.le_antisymm b2 a2, Int.le_antisymm a3 b3, Int.le_antisymm a4 b4]
theorem aC1 {A B : Bx} {L : List Pt} (h1 : ap0 A L) (h2 : ap0 B L) : A = B := bZ4 (h1.2 B h2.1) (h2.2 A h1.1)
theorem aU0 : ap0 none [] := ⟨fun p h => by simp at h, fun C _ => trivial⟩
theorem bk1 {A B : Bx} {L M : List Pt} (wa : Bx.wf A) (wb : Bx.wf B) (h1 : ap0 A L) (h2 : ap0 B M) : ap0 (jn A B) (L ++ M) := by
 refine ⟨fun p hp => ?_, fun C hC => aY3 wa (h1.2 C fun p hp => hC p (List.mem_append_left _ hp)) (h2.2 C fun p hp => hC p (List.mem_append_right _ hp))⟩
 rcases List.mem_append.mp hp with q | q
 ·exact bN8 (bo8 wa) (h1.1 p q)
 ·exact bN8 (bK7 wb) (h2.1 p q)
theorem cA6 (x y : Int) : ap0 (some (x, y, x + 1, y + 1)) [(x, y)] := by
 refine ⟨fun p hp => ?_, fun C hC => cr7 (hC (x, y) (List.mem_singleton.mpr rfl))⟩
 rw [List.mem_singleton.mp hp]
 show x ≤ x ∧ x < x + 1 ∧ y ≤ y ∧ y < y + 1
 omega
theorem br1 : ∀ (L : List Pt) (A : Bx) (M : List Pt), Bx.wf A → ap0 A M → ap0 (jns A (L.map fun a => some (a.1, a.2, a.1 + 1, a.2 + 1))) (M ++ L)
 | [], A, M, _, h => by rw [List.append_nil]; exact h
 | p :: L, A, M, wa, h => by
  have wp : Bx.wf (some (p.1, p.2, p.1 + 1, p.2 + 1)) := ⟨by omega, by omega⟩
  have := br1 L (jn A (some (p.1, p.2, p.1 + 1, p.2 + 1))) (M ++ [p]) (bp3 wa wp) (bk1 wa wp h (cA6 p.1 p.2))
  rwa [List.append_assoc] at this
def bb : List Pt → Bx
 | [] => none
 | p :: L => some (mnL ((p :: L).map (·.1)), mnL ((p :: L).map (·.2)), mxL ((p :: L).map (·.1)) + 1, mxL ((p :: L).map (·.2)) + 1)
theorem br3 : ∀ L : List Pt, ap0 (bb L) L
 | [] => aU0
 | p :: L => by
  have n1 : (p :: L).map (·.1) ≠ [] := by simp
  have n2 : (p :: L).map (·.2) ≠ [] := by simp
  obtain ⟨a1, a2⟩ := aF5 n1
  obtain ⟨b1, b2⟩ := aF5 n2
  obtain ⟨c1, c2⟩ := aF3 n1
  obtain ⟨d1, d2⟩ := aF3 n2
  refine ⟨fun q hq => ?_, fun C hC => ?_⟩
  ·have e1 := a2 _ (List.mem_map_of_mem (f := (·.1)) hq)
   have e2 := b2 _ (List.mem_map_of_mem (f := (·.2)) hq)
   have e3 := c2 _ (List.mem_map_of_mem (f := (·.1)) hq)
   have e4 := d2 _ (List.mem_map_of_mem (f := (·.2)) hq)
   exact ⟨e1, Int.lt_add_one_of_le e3, e2, Int.lt_add_one_of_le e4⟩
  ·obtain ⟨q1, h1, e1⟩ := List.mem_map.mp a1
   obtain ⟨q2, h2, e2⟩ := List.mem_map.mp b1
   obtain ⟨q3, h3, e3⟩ := List.mem_map.mp c1
   obtain ⟨q4, h4, e4⟩ := List.mem_map.mp d1
   have k1 := hC q1 h1
   have k2 := hC q2 h2
   have k3 := hC q3 h3
   have k4 := hC q4 h4
   cases C with
   | none => exact k1.elim
   | some c =>
    obtain ⟨l, t, r, b⟩ := c
    obtain ⟨k1, _⟩ := k1
    obtain ⟨_, _, k2, _⟩ := k2
    obtain ⟨_, k3, _⟩ := k3
    obtain ⟨_, _, _, k4⟩ := k4
    show l ≤ mnL _ ∧ t ≤ mnL _ ∧ mxL _ + 1 ≤ r ∧ mxL _ + 1 ≤ b
    rw [← e1, ← e2, ← e3, ← e4]
    exact ⟨k1, k2, k3, k4⟩
theorem aQ5 {w h : Nat} {x y : Int} (b : 0 ≤ x ∧ x < w ∧ 0 ≤ y ∧ y < h) : (x, y) ∈ plc w (w * h) := by
 obtain ⟨b1, b2, b3, b4⟩ := id b
 have pn := y8 b
 obtain ⟨X, rfl⟩ := Int.eq_ofNat_of_zero_le b1
 obtain ⟨Y, rfl⟩ := Int.eq_ofNat_of_zero_le b3
 have e : ((Y : Int) * w + X) = ((Y * w + X : Nat) : Int) := by rw [Int.natCast_add, Int.natCast_mul]
 rw [e] at pn
 have hk : Y * w + X < w * h := by omega
 have hX : X < w := by omega
 have m : (Y * w + X) % w = X := by rw [Nat.mul_comm, Nat.mul_add_mod, Nat.mod_eq_of_lt hX]
 have d : (Y * w + X) / w = Y := by rw [Nat.mul_comm, Nat.mul_add_div (by omega), Nat.div_eq_of_lt hX, Nat.add_zero]
 refine List.mem_map.mpr ⟨Y * w + X, List.mem_range.mpr hk, ?_⟩
 rw [m, d]
theorem bh0 (L : List Pt) : Ly 2 (.list (L.map ptD)) := Ly.lst fun x hx => by
 obtain ⟨p, _, rfl⟩ := List.mem_map.mp hx
 refine Ly.tup fun x hx => ?_
 simp only [List.mem_cons, List.not_mem_nil, or_false] at hx
 rcases hx with rfl | rfl <;> exact Ly.int _ _
theorem aG0 {α : Type} (f : α → Int) : ∀ L : List α, aM4 (L.map fun a => PyData.int (f a)) = some (L.map f)
 | [] => rfl
 | a :: L => by
  rw [xmc, aM4, aG0 f L]; rfl
theorem ah7 (L : List Pt) (hl : L.length ≤ 1000) : S6 [.list (L.map ptD)] = some (bxD (bb L)) := by
 have nil : eqD (.list []) (.list []) = some (.bool true) := bq1 (bh0 []) (by decide)
 cases L with
 | nil =>
  refine A9 (ρ := [‹.list []›, none, none, none, none]) rfl ?_
  unfold ap5
  rw [be9 (d := .none)]
  ·rfl
  ·wp_walk using evD, v2, nil
 | cons p L =>
  have ne : eqD (.list ((p :: L).map ptD)) (.list []) = some (.bool false) := by
   unfold eqD
   rw [if_pos ⟨(bh0 (p :: L)).shaped (by decide), (bh0 []).shaped (by decide)⟩]
   rfl
  obtain ⟨M, hM⟩ : ∃ M, M = p :: L := ⟨_, rfl⟩
  have bM : bb M = some (mnL (M.map (·.1)), mnL (M.map (·.2)), mxL (M.map (·.1)) + 1, mxL (M.map (·.2)) + 1) := by rw [hM]; rfl
  have n1 : M.map (·.1) ≠ [] := by rw [hM]; simp
  have n2 : M.map (·.2) ≠ [] := by rw [hM]; simp
  rw [← hM] at ne hl ⊢
  refine A9 (ρ := [‹.list (M.map ptD)›, none, none, none, none]) rfl ?_
  have c1 : ∀ r : Rho, D6 1 [] (L4 (A1 0)) (A8 0) G0 (dIx (A5 0) (dC (.int 0))) (‹.list (M.map ptD)› :: r) = some (M.map fun p => .int p.1) := fun r =>
   X4 (l := M) (h := ptD) (r := []) rfl rfl hl fun p _ => rfl
  have c2 : ∀ r : Rho, D6 1 [] (L4 (A1 0)) (A8 0) G0 (dIx (A5 0) (dC (.int 1))) (‹.list (M.map ptD)› :: r) = some (M.map fun p => .int p.2) := fun r =>
   X4 (l := M) (h := ptD) (r := []) rfl rfl hl fun p _ => rfl
  have i1 := aG0 (fun p : Pt => p.1) M
  have i2 := aG0 (fun p : Pt => p.2) M
  rw [bM]
  wp_walk using evD, ap5, v2, am2, am1, am0, al9, al8, ne, c1, c2, ba2, ba3, i1, i2, if_neg n1, if_neg n2, bxD
theorem bt6 {w h : Nat} (w1 : 1 ≤ w) (h1 : 1 ≤ h) (l t : Int) : ap0 (some (l, t, l + w, t + h)) ((plc w (w * h)).map fun p => (l + p.1, t + p.2)) := by
 refine ⟨fun p hp => ?_, fun C hC => ?_⟩
 ·obtain ⟨q, hq, rfl⟩ := List.mem_map.mp hp
  have := bn1 hq w1
  show l ≤ l + q.1 ∧ l + q.1 < l + w ∧ t ≤ t + q.2 ∧ t + q.2 < t + h
  omega
 ·have k1 := hC (l + 0, t + 0) (List.mem_map.mpr ⟨(0, 0), aQ5 (by omega), rfl⟩)
  have k2 := hC (l + ((w : Int) - 1), t + ((h : Int) - 1)) (List.mem_map.mpr ⟨((w : Int) - 1, (h : Int) - 1), aQ5 (by omega), rfl⟩)
  cases C with
  | none => exact k1.elim
  | some c =>
   obtain ⟨l', t', r', b'⟩ := c
   obtain ⟨a1, _, a3, _⟩ := k1
   obtain ⟨_, b2, _, b4⟩ := k2
   simp only at a1 a3 b2 b4
   show l' ≤ l ∧ t' ≤ t ∧ l + w ≤ r' ∧ t + h ≤ b'
   omega
theorem bh1 {w h : Nat} (w1 : 1 ≤ w) (w8 : w ≤ 30) (h8 : h ≤ 30) (l t : Int) : S4 [.tuple [.int l, .int t, .int w, .int h]] = some (.list (((plc w (w * h)).map fun p => (l + p.1, t + p.2)).map ptD)) := by
 have sw : L0 (w : Int) := S9 (k := 10) (by omega) (by decide)
 have wh : w * h ≤ 900 := Nat.mul_le_mul w8 h8
 have mwh : K5 (.int w) (.int h) = some (.int ((w * h : Nat) : Int)) := O6 (by omega) (by omega)
 have pw : (0 : Int) < w := by omega
 have md : ∀ {n m : Nat}, ((n : Int) % (m : Int)) = ((n % m : Nat) : Int) := fun {n m} => by omega
 have dv : ∀ {n m : Nat}, ((n : Int) / (m : Int)) = ((n / m : Nat) : Int) := fun {n m} => by omega
 refine A9 (ρ := [‹.tuple [.int l, .int t, .int w, .int h]›]) rfl ?_
 have c : D6 1 [0] (L6 (A4 K5 (dIx (A5 0) (dC (.int 2))) (dIx (A5 0) (dC (.int 3))))) (A8 0) G0 (J1 (A0 (A4 B4 (dIx (A5 1) (dC (.int 0))) (A4 U1 (A1 0) (dIx (A5 1) (dC (.int 2))))) (A0 (A4 B4 (dIx (A5 1) (dC (.int 1))) (A4 X7 (A1 0) (dIx (A5 1) (dC (.int 2))))) A3))) [‹.tuple [.int l, .int t, .int w, .int h]›] = some (((plc w (w * h)).map fun p => (l + p.1, t + p.2)).map ptD) := by
  rw [X4 (l := List.range (w * h)) (h := fun k : Nat => PyData.int k) (f := fun k => ptD (l + ((k % w : Nat) : Int), t + ((k / w : Nat) : Int))) (r := [‹.tuple [.int l, .int t, .int w, .int h]›]) rfl (U5 ((t8 rfl rfl).trans mwh) (by omega)) (by rw [List.length_range]; omega) ?_]
  ·unfold plc
   rw [List.map_map, List.map_map]; rfl
  ·intro k hk
   wp_walk using evD, am3 pw, am7 pw sw, md, dv, ptD
 wp_walk using evD, ap4, ax5, c
def aA0 (l r : Int) (p : Pt) : Bool := decide (l ≤ p.1) && decide (p.1 < r)
def bh9 (t b : Int) (p : Pt) : Bool := decide (t ≤ p.2) && decide (p.2 < b)
theorem ct8 {w h : Nat} (w1 : 1 ≤ w) (l t r b : Int) : ap0 (btw (mx l 0) (mx t 0) (mn r w) (mn b h)) (((plc w (w * h)).filter (aA0 l r)).filter (bh9 t b)) := by
 have mem : ∀ p : Pt, p ∈ ((plc w (w * h)).filter (aA0 l r)).filter (bh9 t b) ↔ (0 ≤ p.1 ∧ p.1 < w ∧ 0 ≤ p.2 ∧ p.2 < h) ∧ (l ≤ p.1 ∧ p.1 < r) ∧ (t ≤ p.2 ∧ p.2 < b) := fun p => by
  rw [List.mem_filter, List.mem_filter]
  unfold aA0 bh9
  rw [Bool.and_eq_true, Bool.and_eq_true, decide_eq_true_iff, decide_eq_true_iff, decide_eq_true_iff, decide_eq_true_iff]
  constructor
  ·rintro ⟨⟨h1, h2⟩, h3⟩
   exact ⟨bn1 h1 w1, h2, h3⟩
  ·rintro ⟨h1, h2, h3⟩
   exact ⟨⟨aQ5 h1, h2⟩, h3⟩
 have m1 : mx l 0 = l ∨ mx l 0 = 0 := by unfold mx; split <;> simp
 have m2 : mx t 0 = t ∨ mx t 0 = 0 := by unfold mx; split <;> simp
 have m3 : mn r w = r ∨ mn r w = w := by unfold mn; split <;> simp
 have m4 : mn b h = b ∨ mn b h = h := by unfold mn; split <;> simp
 have n1 := ay5 l 0
 have n2 := ay5 t 0
 have n3 := ay6 r w
 have n4 := ay6 b h
 refine ⟨fun p hp => ?_, fun C hC => ?_⟩
 ·obtain ⟨h1, h2, h3⟩ := (mem p).mp hp
  unfold btw
  rw [if_neg (by omega)]
  show mx l 0 ≤ p.1 ∧ p.1 < mn r w ∧ mx t 0 ≤ p.2 ∧ p.2 < mn b h
  omega
 ·unfold btw
  split
  ·exact trivial
  ·rename_i hb
   have k1 := hC (mx l 0, mx t 0) ((mem _).mpr (by simp only; omega))
   have k2 := hC (mn r w - 1, mn b h - 1) ((mem _).mpr (by simp only; omega))
   cases C with
   | none => exact k1.elim
   | some c =>
    obtain ⟨l', t', r', b'⟩ := c
    obtain ⟨a1, _, a3, _⟩ := k1
    obtain ⟨_, b2, _, b4⟩ := k2
    simp only at a1 a3 b2 b4
    show l' ≤ mx l 0 ∧ t' ≤ mx t 0 ∧ mn r w ≤ r' ∧ mn b h ≤ b'
    omega
theorem bH0 {w h : Nat} (w8 : w ≤ 8) (h8 : h ≤ 8) {B : Bx} (wf : Bx.wf B) (le : Bx.le B (some (0, 0, (w : Int), (h : Int)))) : ∃ P : List Pt, S4 [bxD B] = some (.list (P.map ptD)) ∧ ap0 B P ∧ P.length ≤ 64 := by
 cases B with
 | none =>
  refine ⟨[], ?_, aU0, by simp⟩
  have i0 : isB .none .none = some (.bool true) := rfl
  refine A9 (ρ := [some (.val .none)]) rfl ?_
  wp_walk using evD, ap4, i0
 | some c =>
  obtain ⟨l, t, r, b⟩ := c
  obtain ⟨f1, f2⟩ := wf
  obtain ⟨g1, g2, g3, g4⟩ := le
  obtain ⟨W, hW⟩ : ∃ W : Nat, r - l = W := ⟨(r - l).toNat, by omega⟩
  obtain ⟨H, hH⟩ : ∃ H : Nat, b - t = H := ⟨(b - t).toNat, by omega⟩
  have er : r = l + W := by omega
  have eb : b = t + H := by omega
  refine ⟨(plc W (W * H)).map fun p => (l + p.1, t + p.2), ?_, ?_, ?_⟩
  ·rw [bxD, hW, hH]; exact bh1 (by omega) (by omega) (by omega) l t
  ·rw [er, eb]; exact bt6 (by omega) (by omega) l t
  ·rw [List.length_map, o9]; exact Nat.mul_le_mul (show W ≤ 8 by omega) (show H ≤ 8 by omega)
theorem bq8 {xs ys : List D} (h : xs.length + ys.length ≤ 16777216) : B4 (.list xs) (.list ys) = some (.list (xs ++ ys)) := if_pos h
def lbb (f : Nat) : DS := (sIf (tB2 neD (dIx (A5 7) (dC (.int 0))) (dC (.str "tone"))) (B3 6 (A4 B4 (A1 6) (A2 S4 (A0 (A2 (O8 f) (A0 (A1 0) (A0 (A1 7) A3))) A3)))) J2)
theorem kd0 (n : Nd) : ∃ (ds : List D) (k : Str), n.d = .tuple ds ∧ atI ds 0 = some (.str k) ∧ neD (.str k) (.str "tone") = some (.bool (!n.isT)) := by
 cases n with
 | layer => exact ⟨_, _, by rw [Nd.d], rfl, U6 (b := true) (by decide +kernel) (by decide +kernel) (by decide +kernel)⟩
 | tone => exact ⟨_, _, by rw [Nd.d], rfl, U6 (b := false) (by decide +kernel) (by decide +kernel) (by decide +kernel)⟩
 | group => exact ⟨_, _, by rw [Nd.d], rfl, U6 (b := true) (by decide +kernel) (by decide +kernel) (by decide +kernel)⟩
theorem aS0 {w h : Nat} (w1 : 1 ≤ w) (w8 : w ≤ 8) (h1 : 1 ≤ h) (h8 : h ≤ 8) (l0 : List Nd) (f : Nat) (nd : Option B) : ∀ (ns : List Nd) (A : Bx) (L : List Pt) (r7 : Option B), Bx.wf A → ap0 A L → L.length + 64 * ns.length ≤ 1000 → (∀ n ∈ ns, O8 f [K1 w h l0, n.d] = some (bxD (n.bx w h))) →
  ∃ (L' : List Pt) (r7' : Option B), X6 (A8 7) (lbb f) (Nd.ds ns) [‹K1 w h l0›, nd, ‹.int w›, ‹.int h›, ‹.tuple (Nd.ds l0)›, ‹.list ((plc w (w * h)).map ptD)›, ‹.list (L.map ptD)›, r7, none, none] = some (.nx [‹K1 w h l0›, nd, ‹.int w›, ‹.int h›, ‹.tuple (Nd.ds l0)›, ‹.list ((plc w (w * h)).map ptD)›, ‹.list (L'.map ptD)›, r7', none, none]) ∧ ap0 (jns A (Nd.bxs w h ns)) L' ∧ L'.length ≤ 1000
 | [], A, L, r7, wa, hA, hl, H => ⟨L, r7, by rw [Nd.ds]; rfl, by rw [Nd.bxs]; exact hA, by simp at hl; omega⟩
 | n :: ns, A, L, r7, wa, hA, hl, H => by
  rw [List.length_cons] at hl
  have hw : (0 : Int) < (w : Int) := by omega
  have hh : (0 : Int) < (h : Int) := by omega
  have wn := ci0 (w : Int) h hw hh n
  obtain ⟨P, eP, hP, lP⟩ := bH0 w8 h8 wn (ci1 (w : Int) h hw hh n)
  have en := H n (List.mem_cons_self ..)
  have cl := bq8 (xs := L.map ptD) (ys := P.map ptD) (by rw [List.length_map, List.length_map]; omega)
  rw [← List.map_append] at cl
  obtain ⟨ds, k, ed, a0, ne⟩ := kd0 n
  rw [Nd.ds, Nd.bxs, ed]
  rw [ed] at en
  cases q : n.isT with
  | true =>
   rw [q] at ne
   obtain ⟨L', r7', e, i, l⟩ := aS0 w1 w8 h1 h8 l0 f nd ns A L (‹.tuple ds›) wa hA (by omega) fun x hx => H x (List.mem_cons_of_mem _ hx)
   refine ⟨L', r7', ?_, i, l⟩
   have b : lbb f [‹K1 w h l0›, nd, ‹.int w›, ‹.int h›, ‹.tuple (Nd.ds l0)›, ‹.list ((plc w (w * h)).map ptD)›, ‹.list (L.map ptD)›, ‹.tuple ds›, none, none] = some (.nx [‹K1 w h l0›, nd, ‹.int w›, ‹.int h›, ‹.tuple (Nd.ds l0)›, ‹.list ((plc w (w * h)).map ptD)›, ‹.list (L.map ptD)›, ‹.tuple ds›, none, none]) := by
    wp_walk using evD, lbb, a0, ne
   simp only [X6, A8, xw0, xw1, xbs, b]
   exact e
  | false =>
   rw [q] at ne
   obtain ⟨L', r7', e, i, l⟩ := aS0 w1 w8 h1 h8 l0 f nd ns (jn A (n.bx w h)) (L ++ P) (‹.tuple ds›) (bp3 wa wn) (bk1 wa wn hA hP) (by rw [List.length_append]; omega) fun x hx => H x (List.mem_cons_of_mem _ hx)
   refine ⟨L', r7', ?_, i, l⟩
   have b : lbb f [‹K1 w h l0›, nd, ‹.int w›, ‹.int h›, ‹.tuple (Nd.ds l0)›, ‹.list ((plc w (w * h)).map ptD)›, ‹.list (L.map ptD)›, ‹.tuple ds›, none, none] = some (.nx [‹K1 w h l0›, nd, ‹.int w›, ‹.int h›, ‹.tuple (Nd.ds l0)›, ‹.list ((plc w (w * h)).map ptD)›, ‹.list ((L ++ P).map ptD)›, ‹.tuple ds›, none, none]) := by
    wp_walk using evD, lbb, a0, ne, en, eP, cl
   simp only [X6, A8, xw0, xw1, xbs, b]
   exact e
theorem bh2 {w h : Nat} (w1 : 1 ≤ w) (w8 : w ≤ 8) (h8 : h ≤ 8) (l0 : List Nd) (nd : D) {f : DS} {z : Option Fl} (e : f [‹K1 w h l0›, some (.val nd), ‹.int w›, ‹.int h›, ‹.tuple (Nd.ds l0)›, ‹.list ((plc w (w * h)).map ptD)›, none, none, none, none] = z) : (A6 (V9 (A1 0) (K6 3 (B0 (A8 2) (B0 (A8 3) (B0 (A8 4) L5))))) (A6 (N5 5 (D6 1 [2] (L6 (A4 K5 (A1 2) (A1 3))) (A8 0) G0 (J1 (A0 (A4 U1 (A1 0) (A1 1)) (A0 (A4 X7 (A1 0) (A1 1)) A3))))) f)) [‹K1 w h l0›, some (.val nd), none, none, none, none, none, none, none, none] = z := by
 have wh : w * h ≤ 64 := Nat.mul_le_mul w8 h8
 have mwh : K5 (.int w) (.int h) = some (.int ((w * h : Nat) : Int)) := O6 (by omega) (by omega)
 have sw : L0 (w : Int) := S9 (k := 10) (by omega) (by decide)
 have pw : (0 : Int) < w := by omega
 have md : ∀ {n m : Nat}, ((n : Int) % (m : Int)) = ((n % m : Nat) : Int) := fun {n m} => by omega
 have dv : ∀ {n m : Nat}, ((n : Int) / (m : Int)) = ((n / m : Nat) : Int) := fun {n m} => by omega
 have a0 : (V9 (A1 0) (K6 3 (B0 (A8 2) (B0 (A8 3) (B0 (A8 4) L5))))) [‹K1 w h l0›, some (.val nd), none, none, none, none, none, none, none, none] = some (.nx [‹K1 w h l0›, some (.val nd), ‹.int w›, ‹.int h›, ‹.tuple (Nd.ds l0)›, none, none, none, none, none]) := rfl
 have c : D6 1 [2] (L6 (A4 K5 (A1 2) (A1 3))) (A8 0) G0 (J1 (A0 (A4 U1 (A1 0) (A1 1)) (A0 (A4 X7 (A1 0) (A1 1)) A3))) [‹K1 w h l0›, some (.val nd), ‹.int w›, ‹.int h›, ‹.tuple (Nd.ds l0)›, none, none, none, none, none] = some ((plc w (w * h)).map ptD) := by
  rw [X4 (l := List.range (w * h)) (h := fun k : Nat => PyData.int k) (f := fun k => ptD (((k % w : Nat) : Int), ((k / w : Nat) : Int))) (r := [‹.int w›]) rfl (U5 ((t8 rfl rfl).trans mwh) (by omega)) (by rw [List.length_range]; omega) ?_]
  ·unfold plc
   rw [List.map_map]; rfl
  ·intro k hk
   wp_walk using evD, am3 pw, am7 pw sw, md, dv, ptD
 have s1 : (N5 5 (D6 1 [2] (L6 (A4 K5 (A1 2) (A1 3))) (A8 0) G0 (J1 (A0 (A4 U1 (A1 0) (A1 1)) (A0 (A4 X7 (A1 0) (A1 1)) A3))))) [‹K1 w h l0›, some (.val nd), ‹.int w›, ‹.int h›, ‹.tuple (Nd.ds l0)›, none, none, none, none, none] = some (.nx [‹K1 w h l0›, some (.val nd), ‹.int w›, ‹.int h›, ‹.tuple (Nd.ds l0)›, ‹.list ((plc w (w * h)).map ptD)›, none, none, none, none]) := by
  simp only [N5, c, xms, xw0, xw1]
 rw [C4 a0, C4 s1]
 exact e
theorem bo9 {w h : Nat} (w1 : 1 ≤ w) (w8 : w ≤ 8) (h8 : h ≤ 8) (l0 : List Nd) (f : Nat) {nm : D} {r : Rul} {s : Rat} {sh : Bool} : O8 (f + 1) [K1 w h l0, Nd.d (.tone nm r s sh)] = some (bxD (Nd.bx w h (.tone nm r s sh))) := by
 refine A9 (g := aC4 (O8 f)) (ρ := [‹K1 w h l0›, ‹Nd.d (.tone nm r s sh)›, none, none, none, none, none, none, none, none]) rfl (bh2 w1 w8 h8 l0 _ ?_)
 rw [Nd.d, Nd.bx]
 cases sh with
 | false => wp_walk using evD, ah3; rfl
 | true =>
  wp_walk using evD, ah3, ae2, cz3
  show _ = some (Fl.rt (.tuple [.int 0, .int 0, .int ((w : Int) - 0), .int ((h : Int) - 0)]))
  rw [Int.sub_zero, Int.sub_zero]
theorem bK8 {w h : Nat} (w1 : 1 ≤ w) (w8 : w ≤ 8) (h1 : 1 ≤ h) (h8 : h ≤ 8) (l0 : List Nd) (f : Nat) {nm : D} {m : Man} {s : Rat} {sh : Bool} {ns : List Nd} (hl : 64 * ns.length ≤ 1000) (H : ∀ n ∈ ns, O8 f [K1 w h l0, n.d] = some (bxD (n.bx w h))) : O8 (f + 1) [K1 w h l0, Nd.d (.group nm m s sh ns)] = some (bxD (Nd.bx w h (.group nm m s sh ns))) := by
 refine A9 (g := aC4 (O8 f)) (ρ := [‹K1 w h l0›, ‹Nd.d (.group nm m s sh ns)›, none, none, none, none, none, none, none, none]) rfl (bh2 w1 w8 h8 l0 _ ?_)
 rw [Nd.d, Nd.bx]
 cases sh with
 | false => wp_walk using evD, ah2; rfl
 | true =>
  obtain ⟨L', r7', e, i, l⟩ := aS0 w1 w8 h1 h8 l0 f (‹.tuple [.str "group", nm, .str m.s, fr s, .bool true, .tuple (Nd.ds ns)]›) ns none [] none trivial aU0 (by simpa using hl) H
  have jo := ah7 L' l
  rw [aC1 (br3 L') i] at jo
  have lp : (P8 (L4 (dIx (A5 1) (dC (.int 5)))) (A8 7) (lbb f)) [‹K1 w h l0›, ‹.tuple [.str "group", nm, .str m.s, fr s, .bool true, .tuple (Nd.ds ns)]›, ‹.int w›, ‹.int h›, ‹.tuple (Nd.ds l0)›, ‹.list ((plc w (w * h)).map ptD)›, ‹.list []›, none, none, none] = some (.nx [‹K1 w h l0›, ‹.tuple [.str "group", nm, .str m.s, fr s, .bool true, .tuple (Nd.ds ns)]›, ‹.int w›, ‹.int h›, ‹.tuple (Nd.ds l0)›, ‹.list ((plc w (w * h)).map ptD)›, ‹.list (L'.map ptD)›, r7', none, none]) := by
   unfold P8
   rw [show L4 (dIx (A5 1) (dC (.int 5))) [‹K1 w h l0›, ‹.tuple [.str "group", nm, .str m.s, fr s, .bool true, .tuple (Nd.ds ns)]›, ‹.int w›, ‹.int h›, ‹.tuple (Nd.ds l0)›, ‹.list ((plc w (w * h)).map ptD)›, ‹.list []›, none, none, none] = some (Nd.ds ns) by (wp_walk using evD, aa7), xbs]
   exact e
  have gr : (A6 (B3 6 (T4 A3)) (A6 (P8 (L4 (dIx (A5 1) (dC (.int 5)))) (A8 7) (lbb f)) (B2 (A2 S6 (A0 (A1 6) A3))))) [‹K1 w h l0›, ‹.tuple [.str "group", nm, .str m.s, fr s, .bool true, .tuple (Nd.ds ns)]›, ‹.int w›, ‹.int h›, ‹.tuple (Nd.ds l0)›, ‹.list ((plc w (w * h)).map ptD)›, none, none, none, none] = some (.rt (bxD (jns none (Nd.bxs w h ns)))) := by
   rw [C4 (ρ' := [‹K1 w h l0›, ‹.tuple [.str "group", nm, .str m.s, fr s, .bool true, .tuple (Nd.ds ns)]›, ‹.int w›, ‹.int h›, ‹.tuple (Nd.ds l0)›, ‹.list ((plc w (w * h)).map ptD)›, ‹.list []›, none, none, none]) rfl, C4 lp]
   wp_walk using evD, jo
  rw [C4 (ρ' := [‹K1 w h l0›, ‹.tuple [.str "group", nm, .str m.s, fr s, .bool true, .tuple (Nd.ds ns)]›, ‹.int w›, ‹.int h›, ‹.tuple (Nd.ds l0)›, ‹.list ((plc w (w * h)).map ptD)›, none, none, none, none]) (by wp_walk using evD, ah2), C4 (ρ' := [‹K1 w h l0›, ‹.tuple [.str "group", nm, .str m.s, fr s, .bool true, .tuple (Nd.ds ns)]›, ‹.int w›, ‹.int h›, ‹.tuple (Nd.ds l0)›, ‹.list ((plc w (w * h)).map ptD)›, none, none, none, none]) (by wp_walk using evD, u6, cz5)]
  refine be9 ?_
  have t : tB2 eqD (dIx (A5 1) (dC (.int 0))) (dC (.str "group")) [‹K1 w h l0›, ‹.tuple [.str "group", nm, .str m.s, fr s, .bool true, .tuple (Nd.ds ns)]›, ‹.int w›, ‹.int h›, ‹.tuple (Nd.ds l0)›, ‹.list ((plc w (w * h)).map ptD)›, none, none, none, none] = some true := by wp_walk using evD, u6, bQ6
  show ((tB2 eqD (dIx (A5 1) (dC (.int 0))) (dC (.str "group")) [‹K1 w h l0›, ‹.tuple [.str "group", nm, .str m.s, fr s, .bool true, .tuple (Nd.ds ns)]›, ‹.int w›, ‹.int h›, ‹.tuple (Nd.ds l0)›, ‹.list ((plc w (w * h)).map ptD)›, none, none, none, none]).bind fun c => if c = true then _ else _) = _
  rw [t, xbs, if_pos rfl]
  exact gr
theorem aY1 {w h : Nat} (w1 : 1 ≤ w) (w8 : w ≤ 8) (h8 : h ≤ 8) (l0 : List Nd) (f : Nat) {nm : D} {m : Man} {s : Rat} {sh : Bool} {lf tp : Int} {mk : Option (List Rat)} {w' h' : Nat} {l : List Q4} {kb : Nat} : O8 (f + 1) [K1 w h l0, Nd.d (.layer nm m s sh lf tp mk w' h' l kb)] = some (bxD (Nd.bx w h (.layer nm m s sh lf tp mk w' h' l kb))) := by
 refine A9 (g := aC4 (O8 f)) (ρ := [‹K1 w h l0›, ‹Nd.d (.layer nm m s sh lf tp mk w' h' l kb)›, none, none, none, none, none, none, none, none]) rfl (bh2 w1 w8 h8 l0 _ ?_)
 have wh : w * h ≤ 64 := Nat.mul_le_mul w8 h8
 rw [Nd.d, Nd.bx]
 cases sh with
 | false => wp_walk using evD, ah1; rfl
 | true =>
  have fl := List.length_filter_le (aA0 lf (lf + w')) (plc w (w * h))
  have fl2 := List.length_filter_le (bh9 tp (tp + h')) ((plc w (w * h)).filter (aA0 lf (lf + w')))
  rw [o9] at fl
  have jo := ah7 (((plc w (w * h)).filter (aA0 lf (lf + w'))).filter (bh9 tp (tp + h'))) (by omega)
  rw [aC1 (br3 _) (ct8 (h := h) w1 lf tp (lf + w') (tp + h'))] at jo
  have c1 : D6 1 [8, 1] (L4 (A1 5)) (A8 0) (ak7 (M5 leI ltI (A1 1) (dIx (A5 0) (dC (.int 0))) (A4 B4 (A1 1) (dIx (qE (dIx (A5 2) (dC (.int 8)))) (dC (.int 0)))))) (A1 0) [‹K1 w h l0›, ‹.tuple [.str "layer", nm, .str m.s, fr s, .bool true, .int lf, .int tp, mkD mk, shD w' h' l]›, ‹.int w›, ‹.int h›, ‹.tuple (Nd.ds l0)›, ‹.list ((plc w (w * h)).map ptD)›, none, none, ‹.int lf›, ‹.int tp›] = some (((plc w (w * h)).filter (aA0 lf (lf + w'))).map ptD) := by
   refine aA9 (l := plc w (w * h)) (h := ptD) (r := [‹.int lf›, ‹.tuple [.str "layer", nm, .str m.s, fr s, .bool true, .int lf, .int tp, mkD mk, shD w' h' l]›]) rfl rfl (by rw [o9]; omega) (fun p _ => ?_) (fun p _ => rfl)
   unfold aA0
   by_cases q : lf ≤ p.1
   ·wp_walk using evD, ptD, shD, aa5, decide_eq_true q, Bool.true_and
   ·wp_walk using evD, ptD, shD, aa5, decide_eq_false q, Bool.false_and
  have c2 : D6 1 [9, 1] (L4 (A1 6)) (A8 0) (ak7 (M5 leI ltI (A1 1) (dIx (A5 0) (dC (.int 1))) (A4 B4 (A1 1) (dIx (qE (dIx (A5 2) (dC (.int 8)))) (dC (.int 1)))))) (A1 0) [‹K1 w h l0›, ‹.tuple [.str "layer", nm, .str m.s, fr s, .bool true, .int lf, .int tp, mkD mk, shD w' h' l]›, ‹.int w›, ‹.int h›, ‹.tuple (Nd.ds l0)›, ‹.list ((plc w (w * h)).map ptD)›, ‹.list (((plc w (w * h)).filter (aA0 lf (lf + w'))).map ptD)›, none, ‹.int lf›, ‹.int tp›] = some ((((plc w (w * h)).filter (aA0 lf (lf + w'))).filter (bh9 tp (tp + h'))).map ptD) := by
   refine aA9 (l := (plc w (w * h)).filter (aA0 lf (lf + w'))) (h := ptD) (r := [‹.int tp›, ‹.tuple [.str "layer", nm, .str m.s, fr s, .bool true, .int lf, .int tp, mkD mk, shD w' h' l]›]) rfl rfl (by omega) (fun p _ => ?_) (fun p _ => rfl)
   unfold bh9
   by_cases q : tp ≤ p.2
   ·wp_walk using evD, ptD, shD, aa5, decide_eq_true q, Bool.true_and
   ·wp_walk using evD, ptD, shD, aa5, decide_eq_false q, Bool.false_and
  have cut : ∀ a b c d e f g h i : D, al0 [a, b, c, d, e, f, g, h, i] (some 5) (some 7) = [f, g] := fun _ _ _ _ _ _ _ _ _ => rfl
  rw [C4 (ρ' := [‹K1 w h l0›, ‹.tuple [.str "layer", nm, .str m.s, fr s, .bool true, .int lf, .int tp, mkD mk, shD w' h' l]›, ‹.int w›, ‹.int h›, ‹.tuple (Nd.ds l0)›, ‹.list ((plc w (w * h)).map ptD)›, none, none, none, none]) (by wp_walk using evD, ah1), C4 (ρ' := [‹K1 w h l0›, ‹.tuple [.str "layer", nm, .str m.s, fr s, .bool true, .int lf, .int tp, mkD mk, shD w' h' l]›, ‹.int w›, ‹.int h›, ‹.tuple (Nd.ds l0)›, ‹.list ((plc w (w * h)).map ptD)›, none, none, none, none]) (by wp_walk using evD, aa6, cz4), C4 (ρ' := [‹K1 w h l0›, ‹.tuple [.str "layer", nm, .str m.s, fr s, .bool true, .int lf, .int tp, mkD mk, shD w' h' l]›, ‹.int w›, ‹.int h›, ‹.tuple (Nd.ds l0)›, ‹.list ((plc w (w * h)).map ptD)›, none, none, none, none]) (by wp_walk using evD, aa6, bi5), C4 (ρ' := [‹K1 w h l0›, ‹.tuple [.str "layer", nm, .str m.s, fr s, .bool true, .int lf, .int tp, mkD mk, shD w' h' l]›, ‹.int w›, ‹.int h›, ‹.tuple (Nd.ds l0)›, ‹.list ((plc w (w * h)).map ptD)›, none, none, ‹.int lf›, ‹.int tp›]) (by wp_walk using evD, aK1, cut; rfl), C4 (ρ' := [‹K1 w h l0›, ‹.tuple [.str "layer", nm, .str m.s, fr s, .bool true, .int lf, .int tp, mkD mk, shD w' h' l]›, ‹.int w›, ‹.int h›, ‹.tuple (Nd.ds l0)›, ‹.list ((plc w (w * h)).map ptD)›, ‹.list (((plc w (w * h)).filter (aA0 lf (lf + w'))).map ptD)›, none, ‹.int lf›, ‹.int tp›]) (by simp only [N5, c1, xms, xw0, xw1])]
  simp only [B2, A2, A0, A3, T4, c2, xms, xbs, jo]
  rfl
theorem aY0 : ∀ l : List Nd, l.length ≤ (Nd.nmss l).length
 | [] => Nat.zero_le _
 | n :: r => by
  rw [Nd.nmss, List.length_append, List.length_cons]
  have := aY0 r
  have : 1 ≤ n.nms.length := List.length_pos_of_mem (aR4 n)
  omega
theorem bZ5 {w h : Nat} (w1 : 1 ≤ w) (w8 : w ≤ 8) (h1 : 1 ≤ h) (h8 : h ≤ 8) (l0 : List Nd) : ∀ (k : Nat) (n : Nd) (f : Nat), n.dp ≤ k → k + 1 ≤ f → n.nms.length ≤ 15 → O8 f [K1 w h l0, n.d] = some (bxD (n.bx w h)) := by
 intro k
 induction k with
 | zero =>
  intro n f hd hf _
  obtain ⟨f, rfl⟩ : ∃ g, f = g + 1 := ⟨f - 1, by omega⟩
  cases n with
  | layer => exact aY1 w1 w8 h8 l0 f
  | tone => exact bo9 w1 w8 h8 l0 f
  | group => rw [Nd.dp] at hd; omega
 | succ k ih =>
  intro n f hd hf hn
  obtain ⟨f, rfl⟩ : ∃ g, f = g + 1 := ⟨f - 1, by omega⟩
  cases n with
  | layer => exact aY1 w1 w8 h8 l0 f
  | tone => exact bo9 w1 w8 h8 l0 f
  | group nm m s sh ns =>
   rw [Nd.dp] at hd
   rw [Nd.nms, List.length_cons] at hn
   have := aY0 ns
   exact bK8 w1 w8 h1 h8 l0 f (by omega) fun n' h' => ih n' f (by have := ac6 h'; omega) (by omega) (by have := bY9 h'; omega)
end Sh
namespace Sh
open PySem G L2
theorem aV6 (ns : List Int) (hn : ns.length ≤ 63) (at' : Nat) (ha : at' < 2 ^ 18) : ∃ B : Bx, Q1 [scr ns, .int at'] = some (bxD B) ∧ Bx.wf B ∧ Bx.le B (some (0, 0, ((8 : Nat) : Int), ((8 : Nat) : Int))) := by
 obtain ⟨d, e, l⟩ := K9 ns hn (e := (at' : Int)) (m' := 5) at' 5 rfl rfl (by omega) (by decide)
 have H : ∀ k : Nat, ∃ c : Nat, k < 4 → A7 [scr ns, .int ((at' : Int) + 1 + k), .int 4] = some (.int c) ∧ c < 4 := fun k => by
  by_cases hk : k < 4
  ·obtain ⟨c, e, l⟩ := K9 ns hn (e := (at' : Int) + 1 + k) (m' := 4) (at' + 1 + k) 4 (by omega) rfl (by omega) (by decide)
   exact ⟨c, fun _ => ⟨e, l⟩⟩
  ·exact ⟨0, fun z => absurd z hk⟩
 obtain ⟨c, hc⟩ := Classical.axiomOfChoice H
 have l0 := (hc 0 (by decide)).2
 have l1 := (hc 1 (by decide)).2
 have l2 := (hc 2 (by decide)).2
 have l3 := (hc 3 (by decide)).2
 by_cases h0 : d = 0
 ·subst h0
  refine ⟨none, ?_, trivial, trivial⟩
  refine A9 (ρ := [‹scr ns›, ‹.int at'›]) rfl ?_
  wp_walk using evD, ad9, e
  rfl
 ·have z : ((d : Int) == 0) = false := beq_eq_false_iff_ne.mpr (by omega)
  refine ⟨some ((c 0 : Int), (c 1 : Int), (c 0 : Int) + ((c 2 : Int) + 1), (c 1 : Int) + ((c 3 : Int) + 1)), ?_, ⟨by omega, by omega⟩, ⟨by omega, by omega, by omega, by omega⟩⟩
  refine A9 (ρ := [‹scr ns›, ‹.int at'›]) rfl ?_
  have s2 : L0 2 := S9 (k := 10) (n := 2) (by omega) (by decide)
  have cm : D6 1 [0, 1] (L6 (dC (.int 4))) (A8 0) G0 (A4 B4 (A2 A7 (A0 (A1 1) (A0 (A4 B4 (A4 B4 (A1 2) (dC (.int 1))) (A1 0)) (A0 (dC (.int 4)) A3)))) (A4 X7 (A1 0) (dC (.int 2)))) [‹scr ns›, ‹.int at'›] = some ((List.range 4).map fun k => .int ((c k : Int) + (k : Int) / 2)) := by
   refine X4 (l := List.range 4) (h := fun k : Nat => PyData.int k) (r := [‹scr ns›, ‹.int at'›]) rfl (U5 rfl (by decide)) (by decide) fun k hk => ?_
   have := (hc k (List.mem_range.mp hk)).1
   wp_walk using evD, this, am7 (show (0 : Int) < 2 by decide) s2
  wp_walk using evD, ad9, e, aa0, z, cm
  show some (Fl.rt (.tuple [.int ((c 0 : Int) + 0), .int ((c 1 : Int) + 0), .int ((c 2 : Int) + 1), .int ((c 3 : Int) + 1)])) = some (Fl.rt (.tuple [.int (c 0 : Int), .int (c 1 : Int), .int ((c 0 : Int) + ((c 2 : Int) + 1) - (c 0 : Int)), .int ((c 1 : Int) + ((c 3 : Int) + 1) - (c 1 : Int))]))
  rw [Int.add_zero, Int.add_zero, show (c 0 : Int) + ((c 2 : Int) + 1) - (c 0 : Int) = (c 2 : Int) + 1 by omega, show (c 1 : Int) + ((c 3 : Int) + 1) - (c 1 : Int) = (c 3 : Int) + 1 by omega]
theorem aG6 {w h : Nat} {l l' : List Nd} (S : Small6 l) (S' : Small6 l') (w1 : 1 ≤ w) (w8 : w ≤ 8) (h8 : h ≤ 8) : P2 [K1 w h l, K1 w h l'] = some (bxD (bb (unl w h l l'))) := by
 have b := br1 (unl w h l l') none [] trivial aU0
 rw [xna] at b
 rw [aC1 (br3 _) b]
 exact ba6 S S' w1 w8 h8
theorem bJ8 (q : Q4) : neB q q = false := by
 cases h : neB q q with
 | false => rfl
 | true => exact absurd rfl (cs8 h)
theorem bE4 (w h : Nat) (l : List Nd) : unl w h l l = [] := by
 unfold unl
 exact List.filter_eq_nil_iff.mpr fun a _ => by rw [bJ8]; exact Bool.false_ne_true
theorem bT4 {w h : Nat} (l : List Nd) {k : Nat} (hk : k < w * h) : atI ((flL w h l).map Q4.d) (k : Int) = some (Nd.sw ((k % w : Nat) : Int) ((k / w : Nat) : Int) l q0).d := by
 unfold atI
 rw [List.length_map]
 have hl : (flL w h l).length = w * h := by unfold flL; rw [List.length_map, o9]
 rw [hl, ao8 (by omega) (by omega), xbs, Int.toNat_natCast, List.getElem?_map]
 unfold flL plc
 rw [List.getElem?_map, List.getElem?_map, List.getElem?_range hk]
 rfl
mutual
def Nd.ws (nm : D) (oth : List Nd) : Nd → Nd
 | .layer n m s sh lf tp mk w h l kb => .layer n m s sh lf tp mk w h l kb
 | .tone n r s sh => .tone n r s sh
 | .group n m s sh ns => .group n m s sh (Nd.wss nm oth ns)
def Nd.wss (nm : D) (oth : List Nd) : List Nd → List Nd
 | [] => []
 | n :: r => if same n.nm nm = true then oth ++ Nd.wss nm oth r else n.ws nm oth :: Nd.wss nm oth r
end
def cnt (nm : D) (L : List D) : Nat := L.countP fun d => same d nm
theorem bR1 {nm : D} : ∀ L : List D, L.Nodup → cnt nm L ≤ 1
 | [], _ => Nat.zero_le _
 | d :: L, h => by
  obtain ⟨h1, h2⟩ := List.nodup_cons.mp h
  unfold cnt
  rw [List.countP_cons]
  cases q : same d nm with
  | false =>
   have := bR1 (nm := nm) L h2
   unfold cnt at this
   simpa using this
  | true =>
   have : L.countP (fun d => same d nm) = 0 := List.countP_eq_zero.mpr fun x hx z => h1 (by rw [bm8 q, ← bm8 z]; exact hx)
   rw [this]; simp
mutual
theorem bE2 {nm : D} {oth : List Nd} (oo : Nd.Oks oth) (ow : Nd.wgs oth ≤ 40) (od : Nd.dps oth = 0) : ∀ n : Nd, (n.Ok → (n.ws nm oth).Ok) ∧ (n.ws nm oth).wg ≤ n.wg + 40 * cnt nm n.nms ∧ (n.ws nm oth).dp ≤ n.dp
 | .layer .. => by rw [Nd.ws]; exact ⟨id, Nat.le_add_right .., Nat.le_refl _⟩
 | .tone .. => by rw [Nd.ws]; exact ⟨id, Nat.le_add_right .., Nat.le_refl _⟩
 | .group n m s sh ns => by
  obtain ⟨i1, i2, i3⟩ := wss_small (nm := nm) oo ow od ns
  rw [Nd.ws, Nd.Ok, Nd.Ok, Nd.wg, Nd.wg, Nd.dp, Nd.dp, Nd.nms]
  have : cnt nm (Nd.nmss ns) ≤ cnt nm (n :: Nd.nmss ns) := by unfold cnt; rw [List.countP_cons]; omega
  exact ⟨fun z => ⟨z.1, i1 z.2⟩, by omega, by omega⟩
theorem wss_small {nm : D} {oth : List Nd} (oo : Nd.Oks oth) (ow : Nd.wgs oth ≤ 40) (od : Nd.dps oth = 0) : ∀ l : List Nd, (Nd.Oks l → Nd.Oks (Nd.wss nm oth l)) ∧ Nd.wgs (Nd.wss nm oth l) ≤ Nd.wgs l + 40 * cnt nm (Nd.nmss l) ∧ Nd.dps (Nd.wss nm oth l) ≤ Nd.dps l
 | [] => by rw [Nd.wss]; exact ⟨id, Nat.le_add_right .., Nat.le_refl _⟩
 | n :: r => by
  obtain ⟨i1, i2, i3⟩ := bE2 (nm := nm) oo ow od n
  obtain ⟨j1, j2, j3⟩ := wss_small (nm := nm) oo ow od r
  have ca : cnt nm (Nd.nmss (n :: r)) = cnt nm n.nms + cnt nm (Nd.nmss r) := by rw [Nd.nmss]; unfold cnt; exact List.countP_append
  rw [Nd.wss, ca, Nd.wgs, Nd.dps]
  cases q : same n.nm nm with
  | true =>
   rw [if_pos rfl, R6, f9]
   have : 1 ≤ cnt nm n.nms := List.countP_pos_iff.mpr ⟨n.nm, aR4 n, q⟩
   refine ⟨fun z => ?_, by omega, by omega⟩
   rw [P4] at z ⊢
   intro x hx
   rcases List.mem_append.mp hx with h | h
   ·exact (P4 oth).mp oo x h
   ·exact (P4 _).mp (j1 ((P4 r).mpr fun y hy => z y (List.mem_cons_of_mem _ hy))) x h
  | false =>
   rw [if_neg (by simp), Nd.wgs, Nd.dps]
   refine ⟨fun z => ?_, by omega, by omega⟩
   rw [P4] at z ⊢
   intro x hx
   rcases List.mem_cons.mp hx with rfl | h
   ·exact i1 (z n (List.mem_cons_self ..))
   ·exact (P4 _).mp (j1 ((P4 r).mpr fun y hy => z y (List.mem_cons_of_mem _ hy))) x h
end
theorem cz6 (a b : List Nd) : Nd.ds (a ++ b) = Nd.ds a ++ Nd.ds b := by rw [V2, V2, V2, List.map_append]
def wsb (f : Nat) : DS := (sIf (tB2 eqD (dIx (A5 4) (dC (.int 1))) (A1 1)) (bt4 3 (A1 2)) (sIf (tB2 eqD (dIx (A5 4) (dC (.int 0))) (dC (.str "group"))) (R3 3 (A4 B4 (aK1 (A1 4) O1 (L3 (dC (.int 5)))) (J1 (A0 (A2 (Q7 f) (A0 (dIx (A5 4) (dC (.int 5))) (A0 (A1 1) (A0 (A1 2) A3)))) A3)))) (R3 3 (A1 4))))
theorem aO5 {nm : D} (hn : at8 nm) {oth : List Nd} (ho : oth.length ≤ 1) (f : Nat) : ∀ (l : List Nd) (X : List D) (a0 a4 : Option B), (∀ n ∈ l, at8 n.nm) → X.length + l.length ≤ 1000 → (∀ n ∈ l, ∀ nm' m s sh ns, n = .group nm' m s sh ns → Q7 f [.tuple (Nd.ds ns), nm, .tuple (Nd.ds oth)] = some (.tuple (Nd.ds (Nd.wss nm oth ns)))) →
  ∃ a4', X6 (A8 4) (wsb f) (Nd.ds l) [a0, some (.val nm), ‹.tuple (Nd.ds oth)›, some (.own X), a4] = some (.nx [a0, some (.val nm), ‹.tuple (Nd.ds oth)›, some (.own (X ++ Nd.ds (Nd.wss nm oth l))), a4'])
 | [], X, a0, a4, _, _, _ => ⟨a4, by rw [Nd.wss, Nd.ds, List.append_nil]; rfl⟩
 | n :: l, X, a0, a4, hs, hl, H => by
  have hi := cI1 (hs n (List.mem_cons_self ..)) hn
  rw [List.length_cons] at hl
  have hx : X.length < 16777216 := by omega
  have lo : (Nd.ds oth).length ≤ 1 := by rw [V2, List.length_map]; exact ho
  have hx' : X.length + (Nd.ds oth).length ≤ 16777216 := by omega
  rw [Nd.ds, Nd.wss]
  have n1 : ∃ ds : List D, n.d = .tuple ds ∧ atI ds 1 = some n.nm := by
   cases n <;> exact ⟨_, by rw [Nd.d], rfl⟩
  cases q : same n.nm nm with
  | true =>
   rw [q] at hi
   obtain ⟨a4', e⟩ := aO5 hn ho f l (X ++ Nd.ds oth) a0 (some (.val n.d)) (fun x hx => hs x (List.mem_cons_of_mem _ hx)) (by rw [List.length_append]; omega) (fun x hx => H x (List.mem_cons_of_mem _ hx))
   refine ⟨a4', ?_⟩
   have b : wsb f [a0, some (.val nm), ‹.tuple (Nd.ds oth)›, some (.own X), some (.val n.d)] = some (.nx [a0, some (.val nm), ‹.tuple (Nd.ds oth)›, some (.own (X ++ Nd.ds oth)), some (.val n.d)]) := by
    obtain ⟨ds, ed, e1⟩ := n1
    rw [ed]
    wp_walk using evD, wsb, e1, hi, bt4, if_pos hx'
   simp only [X6, A8, xw0, xw1, xbs, b, if_true, cz6]
   rw [List.append_assoc] at e
   exact e
  | false =>
   rw [q] at hi
   obtain ⟨a4', e⟩ := aO5 hn ho f l (X ++ [(n.ws nm oth).d]) a0 (some (.val n.d)) (fun x hx => hs x (List.mem_cons_of_mem _ hx)) (by rw [List.length_append]; show X.length + 1 + l.length ≤ 1000; omega) (fun x hx => H x (List.mem_cons_of_mem _ hx))
   refine ⟨a4', ?_⟩
   have b : wsb f [a0, some (.val nm), ‹.tuple (Nd.ds oth)›, some (.own X), some (.val n.d)] = some (.nx [a0, some (.val nm), ‹.tuple (Nd.ds oth)›, some (.own (X ++ [(n.ws nm oth).d])), some (.val n.d)]) := by
    cases n with
    | layer => rw [Nd.ws, Nd.d]; rw [Nd.nm] at hi; wp_walk using evD, wsb, am9, aa6, hi, bi5, R3, if_pos hx
    | tone => rw [Nd.ws, Nd.d]; rw [Nd.nm] at hi; wp_walk using evD, wsb, an2, ae2, hi, e_tg, R3, if_pos hx
    | group nm' m s sh ns =>
     have e1 := H _ (List.mem_cons_self ..) nm' m s sh ns rfl
     have cut : ∀ a b c d e f : D, al0 [a, b, c, d, e, f] none (some 5) = [a, b, c, d, e] := fun _ _ _ _ _ _ => rfl
     have ct : ∀ a b c d e f : D, B4 (.tuple [a, b, c, d, e]) (.tuple [f]) = some (.tuple [a, b, c, d, e, f]) := fun _ _ _ _ _ _ => rfl
     rw [Nd.ws, Nd.d, Nd.d]
     rw [Nd.nm] at hi
     wp_walk using evD, wsb, an1, u6, aa7, hi, bQ6, R3, if_pos hx, aK1, cut, e1, ct
   simp only [X6, A8, xw0, xw1, xbs, b, xft, if_false, Nd.ds]
   rw [List.append_assoc] at e
   exact e
theorem ci6 {nm : D} (hn : at8 nm) {oth : List Nd} (ho : oth.length ≤ 1) : ∀ (k : Nat) (l : List Nd) (f : Nat), Nd.dps l ≤ k → k + 1 ≤ f → l.length ≤ 1000 → Nd.thins l → (∀ d ∈ Nd.nmss l, at8 d) → Q7 f [.tuple (Nd.ds l), nm, .tuple (Nd.ds oth)] = some (.tuple (Nd.ds (Nd.wss nm oth l))) := by
 have step : ∀ (l : List Nd) (f : Nat), l.length ≤ 1000 → (∀ d ∈ Nd.nmss l, at8 d) → (∀ n ∈ l, ∀ nm' m s sh ns, n = .group nm' m s sh ns → Q7 f [.tuple (Nd.ds ns), nm, .tuple (Nd.ds oth)] = some (.tuple (Nd.ds (Nd.wss nm oth ns)))) → Q7 (f + 1) [.tuple (Nd.ds l), nm, .tuple (Nd.ds oth)] = some (.tuple (Nd.ds (Nd.wss nm oth l))) := fun l f hl hs H => by
  obtain ⟨a4', e⟩ := aO5 hn ho f l [] (‹.tuple (Nd.ds l)›) none (cs6 hs) (by simpa using hl) H
  refine A9 (g := bc1 (Q7 f)) (ρ := [‹.tuple (Nd.ds l)›, some (.val nm), ‹.tuple (Nd.ds oth)›, none, none]) rfl ?_
  have s1 : (P8 (L4 (A1 0)) (A8 4) (wsb f)) [‹.tuple (Nd.ds l)›, some (.val nm), ‹.tuple (Nd.ds oth)›, some (.own []), none] = some (.nx [‹.tuple (Nd.ds l)›, some (.val nm), ‹.tuple (Nd.ds oth)›, some (.own ([] ++ Nd.ds (Nd.wss nm oth l))), a4']) := e
  exact (C4 (ρ' := [‹.tuple (Nd.ds l)›, some (.val nm), ‹.tuple (Nd.ds oth)›, some (.own []), none]) rfl).trans ((C4 s1).trans rfl)
 intro k
 induction k with
 | zero =>
  intro l f hd hf hl ht hs
  obtain ⟨f, rfl⟩ : ∃ g, f = g + 1 := ⟨f - 1, by omega⟩
  refine step l f hl hs fun n hn' nm' m s sh ns e => ?_
  have := ac6 hn'
  rw [e, Nd.dp] at this; omega
 | succ k ih =>
  intro l f hd hf hl ht hs
  obtain ⟨f, rfl⟩ : ∃ g, f = g + 1 := ⟨f - 1, by omega⟩
  refine step l f hl hs fun n hn' nm' m s sh ns e => ?_
  have h1 := ac6 hn'
  have h2 := (Q9 l).mp ht n hn'
  rw [e, Nd.dp] at h1
  rw [e, Nd.thin] at h2
  exact ih ns f (by omega) (by omega) h2.1 h2.2 fun d hd' => hs d (bn8 hn' (by rw [e, Nd.nms]; exact List.mem_cons_of_mem _ hd'))
theorem cB0 {l : List Nd} (hl : l ≠ []) {f : Nat} (hf : Nd.dps l + 1 ≤ f) (hw : Nd.wgs l ≤ 900) {X : List D} (eX : N7 f [.tuple (Nd.ds l)] = some (.list X)) : X ≠ [] := by
 obtain ⟨f, rfl⟩ : ∃ g, f = g + 1 := ⟨f - 1, by omega⟩
 obtain ⟨ρ', e, Y, a2, hρ, hY, hP⟩ := z9 (g := A8 2) (f := alb f) (h := Nd.d) (I := fun i ρ => ∃ X a2, ρ = [‹.tuple (Nd.ds l)›, some (.own X), a2] ∧ X.length ≤ Nd.wgs (l.take i) ∧ i ≤ X.length) l 0 [‹.tuple (Nd.ds l)›, some (.own []), none] ⟨[], none, rfl, Nat.zero_le _, Nat.zero_le _⟩ (fun j n hj ρ hρ => by
  obtain ⟨X, a2, rfl, hX, hP⟩ := hρ
  rw [Nat.zero_add] at hX hP ⊢
  obtain ⟨hjl, hn⟩ := List.getElem?_eq_some_iff.mp hj
  have ww : Nd.wgs (l.take (j + 1)) = Nd.wgs (l.take j) + (l[j]).wg := by rw [List.take_succ_eq_append_getElem hjl, R6, Nd.wgs, Nd.wgs, Nat.add_zero]
  have wt : Nd.wgs (l.take j) + (l[j]).wg ≤ Nd.wgs l := by
   have := congrArg Nd.wgs (List.take_append_drop (j + 1) l)
   rw [R6] at this; omega
  have hdp := ac6 (List.getElem_mem hjl)
  rw [hn] at ww wt hdp
  have wp := bd1 n
  by_cases hg : n.dp = 0
  ·exact ⟨_, rfl, _, aH1 f hg _ X (by omega), _, _, rfl, by rw [List.length_append, ww]; show X.length + 1 ≤ _; omega, by rw [List.length_append]; show j + 1 ≤ X.length + 1; omega⟩
  ·cases n with
   | layer => exact absurd rfl hg
   | tone => exact absurd rfl hg
   | group nm m s sh ns =>
    rw [Nd.dp] at hdp
    rw [Nd.wg] at ww wt
    obtain ⟨Y, eY, lY, hY⟩ := bT5 (Nd.dps ns) ns f (Nat.le_refl _) (by omega) (by omega)
    exact ⟨_, rfl, _, aN5 f _ X Y (by omega) (by omega) eY, _, _, rfl, by rw [List.length_append, List.length_append, ww]; show X.length + 1 + Y.length ≤ _; omega, by rw [List.length_append, List.length_append]; show j + 1 ≤ X.length + 1 + Y.length; omega⟩)
 subst hρ
 rw [← V2] at e
 have r : N7 (f + 1) [.tuple (Nd.ds l)] = some (.list Y) := by
  refine A9 (g := aC5 (N7 f)) (ρ := [‹.tuple (Nd.ds l)›, none, none]) rfl ?_
  have s0 : (X3 1 A3) [‹.tuple (Nd.ds l)›, none, none] = some (.nx [‹.tuple (Nd.ds l)›, some (.own []), none]) := rfl
  have s1 : (P8 (L4 (A1 0)) (A8 2) (alb f)) [‹.tuple (Nd.ds l)›, some (.own []), none] = some (.nx [‹.tuple (Nd.ds l)›, some (.own Y), a2]) := e
  have s2 : (aw6 1 (B2 (A1 1))) [‹.tuple (Nd.ds l)›, some (.own Y), a2] = some (.rt (.list Y)) := rfl
  exact (C4 s0).trans ((C4 s1).trans s2)
 rw [r] at eX
 cases eX
 intro z
 have hP : 0 + l.length ≤ 0 := by rw [z] at hP; exact hP
 have := List.length_pos_iff.mpr hl
 omega
end Sh
namespace G
open PySem PySem.Spec PyProof.Rows L2
section
variable {X : Cx} {S : Sg} {c : Kx}
theorem U2 {e : Expr} : JE X e dNo := fun ρ d h => by cases h
theorem cg9 {e : Expr} : JQ X e qNo := fun ρ t d h => by cases h
theorem aM3 {e : Expr} : JN X e aNo := fun ρ d h => by cases h
theorem bp0 {e : Expr} : JT X e tNo := fun ρ d h => by cases h
theorem cG8 {e : Expr} : JW X e tNo := fun ρ d h => by cases h
theorem aY4 {e : Expr} : JG X e gNo := by
 unfold JG PG
 intros
 rename_i h
 obtain ⟨d, ρ, ρ', H0, Hf, z, _⟩ := h
 cases z
theorem cH4 {es : List Expr} : JA X es aNo := ⟨fun ρ d h => (nomatch h), fun ρ d h => (nomatch h)⟩
theorem cu5 {es : List Expr} : JTs X es tNo := fun pins s σ H Q I ⟨ρ, b, h, _⟩ => by cases h
theorem ah6 (hu : X.A.units + 64 < cLine) : ∀ op : CmpOp, OpD X (compareOp op) (bj6 op)
 | .Lt => cF4 | .LtE => cF5 | .Gt => cF8 | .GtE => cF9 | .Eq => cG0 hu | .NotEq => cF3 hu | .Is => cF6 | .IsNot => bI2 | .In => cF7 | .NotIn => bI1
theorem bI0 (hu : X.A.units + 64 < cLine) (S : Sg) (c : Kx) (op : CmpOp) (b : Expr) : OpD X (compareOp op) (opW S c op b) := by
 unfold opW
 split
 ·split
  ·exact cs3
  ·exact bu4
  ·exact ah6 hu _
 ·exact ah6 hu op
theorem aY5 {f : Expr → DE} (h : ∀ e, JE X e (f e)) : ∀ es, JA X es (evA f es)
 | [] => cy3
 | e :: es => by
  unfold evA
  split
  ·rename_i p; exact cc5 (h e) (aY5 h es) (M8 p es _)
  ·exact cH4
theorem aS6 {f : Expr → DE} (h : ∀ e, JE X e (f e)) (op : BoolOp) (pos : Pos) : ∀ vs, JE X (.BoolOp op vs pos) (bP1 f op vs)
 | [] => U2
 | [a] => cx2 (h a)
 | a :: b :: r => by
  unfold bP1
  cases op
  ·exact cy0 (h a) (aS6 h .And pos (b :: r))
  ·exact cH1 (h a) (aS6 h .Or pos (b :: r))
theorem aS5 {f : Expr → DT} (h : ∀ e, JT X e (f e)) (op : BoolOp) (pos : Pos) : ∀ vs, JW X (.BoolOp op vs pos) (bP0 f op vs)
 | [] => cG8
 | [a] => by cases op; exact bZ8 (h a); exact cu3 (h a)
 | a :: b :: r => by
  unfold bP0
  cases op
  ·exact cu4 (h a) (aS5 h .And pos (b :: r))
  ·exact cG7 (h a) (aS5 h .Or pos (b :: r))
theorem am5 {f : Expr → DE} (h : ∀ e, JE X e (f e)) : ∀ o, JO X o (evO f o)
 | none => ca9
 | some e => ca8 (h e)
theorem cu6 {f : Expr → DT} (h : ∀ e, JT X e (f e)) : ∀ l, JTs X l (bO8 f l)
 | [] => ca0
 | [t] => bZ9 (h t)
 | _ :: _ :: _ => cu5
theorem bM2 {f : Expr → DG} (h : ∀ e, JG X e (f e)) : ∀ es, es.all pl = true → JGs X es (cz1 f es)
 | [], _ => cb4
 | e :: es, p => by
  simp only [List.all_cons, Bool.and_eq_true] at p
  refine bM3 (h e) (bM2 h es p.2) ?_
  have p1 := p.1
  cases e <;> first | rfl | cases p1
theorem br4 {env : Env} : ∀ {es : List Expr}, es.all pl = true → (assignEach es env).length = es.length ∧ (assignEach es env).findIdx? (·.1) = none
 | [], _ => ⟨rfl, rfl⟩
 | e :: es, p => by
  simp only [List.all_cons, Bool.and_eq_true] at p
  obtain ⟨h1, h2⟩ := br4 (env := env) p.2
  have p1 := p.1
  have q : assignEach (e :: es) env = (false, assign e env) :: assignEach es env := by cases e <;> first | rfl | cases p1
  rw [q]
  refine ⟨by simp [h1], ?_⟩
  simp [List.findIdx?_cons, h2]
structure Sound (S : Sg) (r : Ev) : Prop where
 e : ∀ {c X}, Fit S c X → ∀ ex, JE X ex (r.e c ex)
 q : ∀ {c X}, Fit S c X → ∀ ex, JQ X ex (r.q c ex)
 n : ∀ {c X}, Fit S c X → ∀ ex, JN X ex (r.n c ex)
 t : ∀ {c X}, Fit S c X → ∀ ex, JT X ex (r.t c ex)
 g : ∀ {c X}, Fit S c X → ∀ ex, JG X ex (r.g c ex)
 b : ∀ {c X}, Fit S c X → ∀ sts, JSs X sts (r.b c sts)
theorem Fit.hx (F : Fit S c X) : ∀ e s, X.xe e s → False := fun e s h => by rw [F.xe] at h; exact h
theorem Fit.po (F : Fit S c X) : PassesOwn (model X.prog X.w) X.A X.env X.xe := by rw [F.xe]; exact PassesOwn.never
theorem Fit.slot (F : Fit S c X) {x : Str} {i : Nat} (h : ao7 x c.N = some i) : X.N[i]? = some x := by rw [F.N]; exact aY6 h
theorem Fit.inner {tn : List Str} {caps : List Nat} {scope : Scope} {C : Addr} {s0 : Shared} {H0 : Hp} {ex : List Addr} (F : Fit S c X) (hn : (G.inner c tn caps scope).N.Nodup) : Fit S (G.inner c tn caps scope) (M0 X (G.inner c tn caps scope).N scope C s0 H0 ex) :=
 ⟨rfl, by show relabel scope X.env = rl scope c.sc; rw [← F.sc]; rfl, hn, F.calm, rfl, F.units, (fun h => by cases h), F.fns, F.css, F.bls⟩
variable {r : Ev}
theorem ch2 (R : Sound S r) (F : Fit S c X) (tg it : Expr) : JI X tg it (evI S r c tg it) := by
 unfold evI
 split
 ·rename_i x p a pos
  split
  ·rename_i h
   simp only [Bool.and_eq_true] at h
   obtain ⟨rfl, h1, h2⟩ := R5 F h.1
   exact bx5 h1 h2 (R.e F a) (M8 h.2 _ _)
  ·split
   ·rename_i h
    simp only [Bool.and_eq_true] at h
    obtain ⟨rfl, h1, h2⟩ := R5 F h.1.1
    have ht := h.1.2
    cases tg <;> first | (exact cb3 h1 h2 (R.e F a) (M8 h.2 _ _)) | (exact nomatch ht)
   ·exact bh6 (R.e F _)
 ·rename_i x p a b pos
  split
  ·rename_i h
   simp only [Bool.and_eq_true] at h
   obtain ⟨rfl, h1, h2⟩ := R5 F h.1.1
   exact bx4 h1 h2 (R.e F a) (R.e F b) (by rw [M8 h.1.2, M8 h.2]; rfl) (M8 h.2 _ _)
  ·split
   ·rename_i h
    simp only [Bool.and_eq_true] at h
    obtain ⟨rfl, h1, h2⟩ := R5 F h.1.1.1
    have ht := h.1.1.2
    cases tg <;> first | (exact cw3 h1 h2 (R.e F a) (R.e F b) (by rw [M8 h.1.2, M8 h.2]; rfl) (M8 h.2 _ _)) | (exact nomatch ht)
   ·exact bh6 (R.e F _)
 ·split
  ·exact cw4 (R.e F _)
  ·exact bh6 (R.e F _)
theorem bq5 (R : Sound S r) (F : Fit S c X) {elt tgt iter : Expr} {ifs : List Expr} {scope : Scope} {caps : List Nat}
  (h : (aC0 c.N (G.inner c (Z8 tgt) caps scope).N (Z8 tgt).length caps c.sc scope && ax3 (G.inner c (Z8 tgt) caps scope).N && pl iter) = true) :
  CompSc X (G.inner c (Z8 tgt) caps scope).N (Z8 tgt).length caps scope ∧ JI X tgt iter (evI S r c tgt iter) ∧ (∀ C s0 H0 ex, JG (M0 X (G.inner c (Z8 tgt) caps scope).N scope C s0 H0 ex) tgt (r.g (G.inner c (Z8 tgt) caps scope) tgt)) ∧
  (∀ C s0 H0 ex, JTs (M0 X (G.inner c (Z8 tgt) caps scope).N scope C s0 H0 ex) ifs (bO8 (r.t (G.inner c (Z8 tgt) caps scope)) ifs)) ∧ (∀ C s0 H0 ex, JE (M0 X (G.inner c (Z8 tgt) caps scope).N scope C s0 H0 ex) elt (r.e (G.inner c (Z8 tgt) caps scope) elt)) ∧
  ∀ x, foldedSetIterable iter X.env x = pure x := by
 simp only [Bool.and_eq_true] at h
 obtain ⟨⟨h1, h2⟩, h3⟩ := h
 have hn := ax2 h2
 exact ⟨bA3 h1 F.N F.sc, ch2 R F tgt iter, fun C s0 H0 ex => R.g (F.inner hn) tgt, fun C s0 H0 ex => cu6 (R.t (F.inner hn)) ifs, fun C s0 H0 ex => R.e (F.inner hn) elt, bn2 h3 _⟩
theorem cH0 (R : Sound S r) (F : Fit S c X) (ex : Expr) : JN X ex (evC S r c ex) := by
 unfold evC
 split
 ·rename_i elt tgt iter ifs scope pos
  dsimp only
  split
  ·rename_i h
   obtain ⟨h1, h2, h3, h4, h5, h6⟩ := bq5 (ifs := ifs) (elt := elt) R F h
   exact cb1 h1 F.hx h2 h3 h4 h5 F.calm h6
  ·exact aM3
 ·exact aM3
theorem bs3 {x : Str} {T : String} (h : ci9 x = some T) : bootBuiltins x = some (.type T) ∧ x ≠ "__name__" ∧ (x == ("__debug__" : Str)) = false := by
 unfold ci9 at h
 split at h
 ·rename_i e; cases h; simp only [beq_iff_eq] at e; subst e; exact ⟨bk0, by decide, by decide⟩
 ·split at h
  ·rename_i e; cases h; simp only [beq_iff_eq] at e; subst e; exact ⟨ce1, by decide, by decide⟩
  ·split at h
   ·rename_i e; cases h; simp only [beq_iff_eq] at e; subst e; exact ⟨bS0, by decide, by decide⟩
   ·split at h
    ·rename_i e; cases h; simp only [beq_iff_eq] at e; subst e; exact ⟨ba9, by decide, by decide⟩
    ·split at h
     ·rename_i e; cases h; simp only [beq_iff_eq] at e; subst e; exact ⟨br2, by decide, by decide⟩
     ·cases h
theorem bn3 {e : Expr} (h : pl e = true) (pos : Pos) (env : Env) : (backTo pos (starEach [e] env)).any (·.1) = false := by
 rw [M8 h]; rfl
theorem aE8 (pos : Pos) (env : Env) : ∀ {es : List Expr}, es.all pl = true → (starEach es env).any (·.1) = false
 | [], _ => rfl
 | e :: es, h => by
  simp only [List.all_cons, Bool.and_eq_true] at h
  rw [M8 h.1, List.any_cons, aE8 pos env h.2]; rfl
end
end G
namespace G
open PySem PySem.Spec PyProof.Rows L2
section
variable {X : Cx} {S : Sg} {c : Kx} {r : Ev}
theorem bU2 (R : Sound S r) (F : Fit S c X) (a i : Expr) (pos : Pos) : JE X (.Subscript a i pos) (ci3 r c a i) := by
 unfold ci3
 split
 ·split
  ·exact bM6 (R.e F _) (am5 (R.e F) _) (am5 (R.e F) _)
  ·split
   ·exact cw9 (R.e F _) (am5 (R.e F) _) (am5 (R.e F) _)
   ·split
    ·exact cx0 (R.q F _) (am5 (R.e F) _) (am5 (R.e F) _)
    ·exact cx1 (R.e F _) (am5 (R.e F) _) (am5 (R.e F) _)
 ·exact cb7 (R.e F _) (bM7 bN0)
 ·split
  ·rename_i h
   split
   ·exact cx5 (R.e F _) (R.e F _) (cf8 h)
   ·exact cH2 (R.q F _) (R.e F _) (cf8 h)
  ·exact U2
theorem bs1 (R : Sound S r) (F : Fit S c X) (x : Str) (a : Expr) (p pos : Pos) : JE X (.Call (.Name x p) [a] [] pos) (bd0 S r c x a) := by
 unfold bd0
 split
 ·exact U2
 rename_i hp
 have hp : pl a = true := by simpa using hp
 have hs := M8 hp [] X.env
 split
 ·rename_i h
  obtain ⟨rfl, h1, h2⟩ := R5 F h
  split
  ·rename_i y py e ppos
   split
   ·rename_i hy
    simp only [Bool.and_eq_true] at hy
    obtain ⟨rfl, g1, g2⟩ := R5 F hy.1
    exact bx6 h1 h2 g1 g2 (R.q F _) F.calm (M8 hy.2 _ _)
   ·exact bM8 h1 h2 (R.q F _) hs
  ·split
   ·exact cc2 h1 h2 (R.e F a) hs
   ·exact bM8 h1 h2 (R.q F a) hs
 split
 ·rename_i h; obtain ⟨rfl, h1, h2⟩ := R5 F h; exact cb6 h1 h2 (R.q F a) hs
 split
 ·rename_i h; obtain ⟨rfl, h1, h2⟩ := R5 F h; exact cy1 h1 h2 (R.q F a) F.calm hs
 split
 ·rename_i h; obtain ⟨rfl, h1, h2⟩ := R5 F h; exact bM9 h1 h2 (R.e F a) hs
 split
 ·rename_i h; obtain ⟨rfl, h1, h2⟩ := R5 F h; exact bM5 h1 h2 (R.e F a) hs
 split
 ·rename_i h; obtain ⟨rfl, h1, h2⟩ := R5 F h; exact cy2 h1 h2 (R.e F a) hs
 split
 ·rename_i h; obtain ⟨rfl, h1, h2⟩ := R5 F h; exact cb8 h1 h2 (R.q F a) F.calm hs
 split
 ·rename_i h; obtain ⟨rfl, h1, h2⟩ := R5 F h; exact cc0 h1 h2 (R.q F a) F.calm hs
 exact U2
theorem bs0 (R : Sound S r) (F : Fit S c X) (x : Str) (a b : Expr) (p pos : Pos) : JE X (.Call (.Name x p) [a, b] [] pos) (bc9 S r c x a b) := by
 unfold bc9
 split
 ·exact U2
 rename_i hp
 have hp : pl a = true := by simpa using hp
 split
 ·rename_i h
  obtain ⟨rfl, h1, h2⟩ := R5 F h
  split
  ·rename_i y py
   split
   ·rename_i T hT
    split
    ·rename_i hy
     obtain ⟨_, g1, g2⟩ := R5 F hy
     obtain ⟨t1, t2, t3⟩ := bs3 hT
     exact cx6 h1 h2 g1 g2 t1 (R.e F a) t2 t3 (M8 hp _ _) rfl rfl
    ·exact U2
   ·exact U2
  ·exact U2
 split
 ·exact U2
 rename_i hb
 have hb : pl b = true := by simpa using hb
 split
 ·rename_i h; obtain ⟨rfl, h1, h2⟩ := R5 F h; exact cb9 h1 h2 (R.e F a) (R.e F b) F.calm (M8 hp _ _) (M8 hb _ _) (bn3 hb pos _)
 split
 ·rename_i h; obtain ⟨rfl, h1, h2⟩ := R5 F h; exact cc1 h1 h2 (R.e F a) (R.e F b) F.calm (M8 hp _ _) (M8 hb _ _) (bn3 hb pos _)
 exact U2
theorem bb7 (pos : Pos) : ∀ l : List (Bool × Sem Value), (backTo pos l).any (·.1) = l.any (·.1)
 | [] => rfl
 | (b, t) :: r => by
  have ih := bb7 pos r
  unfold backTo at ih ⊢
  rw [xmc, List.any_cons, List.any_cons, ih]
theorem bD9 (R : Sound S r) (F : Fit S c X) (x : Str) (args : List Expr) (p pos : Pos) : JE X (.Call (.Name x p) args [] pos) (bE0 S r c x args (.Call (.Name x p) args [] pos)) := by
 unfold bE0
 split
 ·rename_i Fn n hl
  split
  ·rename_i h
   simp only [Bool.and_eq_true, beq_iff_eq] at h
   obtain ⟨⟨hg, hn⟩, hp⟩ := h
   obtain ⟨g1, g2⟩ := aS8 F hg
   obtain ⟨k, f, fd, ps, hk, hr, hm, hkp, hb⟩ := F.fns _ _ _ hl
   cases args with
   | nil => cases hn; exact bN2 hk hr g1 hm hkp hb g2
   | cons e es =>
    simp only [List.all_cons, Bool.and_eq_true] at hp
    exact cc4 hk hr g1 hm hkp hb (aY5 (R.e F) (e :: es)) hn g2 (M8 hp.1 _ _) ((bb7 pos _).trans (aE8 pos _ hp.2))
  ·exact U2
 ·split
  ·split
   ·exact aF7 (R.n F _)
   ·exact bs1 R F _ _ _ _
  ·exact bs0 R F _ _ _ _ _
  ·exact U2
theorem cC3 (R : Sound S r) (F : Fit S c X) (ex : Expr) : JE X ex (xE S r c ex) := by
 have hu := F.units
 unfold xE
 split
 ·exact cx4
 ·exact cH3
 ·exact bN0
 ·exact cw8
 ·split
  ·rename_i i h
   split
   ·rename_i v; obtain ⟨h1, h2, h3⟩ := aA4 F v; exact cw6 i (F.slot h) h1 h2 h3
   ·exact U2
  ·split
   ·rename_i d hd
    split
    ·rename_i g; obtain ⟨u, k1, k2⟩ := F.css _ _ hd; obtain ⟨g1, g2⟩ := aS8 F g; exact cx8 k1 g1 k2 g2
    ·exact U2
   ·exact U2
 ·split
  ·rename_i h; exact cw7 (aY5 (R.e F) _) h
  ·exact U2
 ·exact aF7 (R.n F _)
 ·exact aF7 (R.n F _)
 ·split
  ·exact w9 bI3 (R.e F _) (R.e F _)
  ·exact w9 bY2 (R.e F _) (R.e F _)
 ·exact w9 cr8 (R.e F _) (R.e F _)
 ·split
  ·exact w9 aQ9 (R.e F _) (R.e F _)
  ·split
   ·split
    ·exact w9 bY1 (R.e F _) (R.e F _)
    ·exact w9 bn7 (R.e F _) (R.e F _)
   ·exact w9 bn7 (R.e F _) (R.e F _)
 ·exact w9 cs4 (R.e F _) (R.e F _)
 ·exact w9 cs1 (R.e F _) (R.e F _)
 ·exact w9 cr9 (R.e F _) (R.e F _)
 ·exact bM7 (R.e F _)
 ·exact cx3 (R.e F _)
 ·split
  ·rename_i h; exact cx9 (bI0 hu S c _ _) (R.e F _) (R.e F _) (aA8 h _)
  ·exact U2
 ·split
  ·rename_i h; exact bN1 (ah6 hu _) (ah6 hu _) (R.e F _) (R.e F _) (R.e F _) (aA8 h _)
  ·exact U2
 ·exact aS6 (R.e F) _ _ _
 ·exact cx7 (R.t F _) (R.e F _) (R.e F _)
 ·exact bU2 R F _ _ _
 ·split
  ·rename_i h
   simp only [Bool.and_eq_true, beq_iff_eq] at h
   obtain ⟨⟨⟨hm, hn⟩, hl⟩, hp⟩ := h
   subst hm
   have hs := M8 hp [] X.env
   exact cc3 (R.e F _) (R.q F _) (aX4 hn _ _ _) (by rw [hs]; rfl) (by simpa using hl) hs
  ·exact U2
 ·exact bD9 R F _ _ _ _
 ·exact U2
theorem cC0 (R : Sound S r) (F : Fit S c X) (ex : Expr) : JQ X ex (xQ S r c ex) := by
 unfold xQ
 split
 ·split
  ·rename_i i h
   split
   ·rename_i v; obtain ⟨h1, h2, h3⟩ := aA4 F v; exact cv9 i (F.slot h) h1 h2 h3
   ·exact cg9
  ·exact bL9 (R.e F _)
 ·exact cw0 (R.n F _)
 ·exact cw0 (R.n F _)
 ·split
  ·exact cw0 (R.n F _)
  ·exact bL9 (R.e F _)
 ·exact bL9 (R.e F _)
theorem cC1 (R : Sound S r) (F : Fit S c X) (ex : Expr) : JN X ex (xN S r c ex) := by
 unfold xN
 split
 ·split
  ·rename_i h; exact cw1 (aY5 (R.e F) _) h
  ·exact aM3
 ·exact cH0 R F _
 ·split
  ·rename_i h
   simp only [Bool.and_eq_true] at h
   obtain ⟨rfl, h1, h2⟩ := R5 F h.1
   exact cb0 h1 h2 (R.q F _) (M8 h.2 _ _)
  ·exact aM3
 ·exact cw2 (R.q F _) (R.q F _)
 ·exact aM3
theorem cB8 (R : Sound S r) (F : Fit S c X) (ex : Expr) : JT X ex (xT S r c ex) := by
 have hu := F.units
 unfold xT
 split
 ·split
  ·rename_i h; exact cu9 (bI0 hu S c _ _) (R.e F _) (R.e F _) (aA8 h _)
  ·exact bp0
 ·split
  ·rename_i h; exact bL3 (ah6 hu _) (ah6 hu _) (R.e F _) (R.e F _) (R.e F _) (aA8 h _)
  ·exact bp0
 ·exact bL2 (aS5 (R.t F) _ _ _)
 ·exact cu8 (R.t F _)
 ·split
  ·rename_i h; exact cu7 (R.e F _) (bH1 h _)
  ·exact bp0
theorem cC2 (R : Sound S r) (F : Fit S c X) (ex : Expr) : JG X ex (xG r c ex) := by
 unfold xG
 split
 ·split
  ·rename_i i h
   split
   ·rename_i v; obtain ⟨h1, h2⟩ := bo6 F v; exact cb5 i (by rw [F.N]; exact F.nd) (F.slot h) h1 h2
   ·exact aY4
  ·exact aY4
 ·split
  ·rename_i h
   obtain ⟨h1, h2⟩ := br4 (env := X.env) h
   exact cw5 (bM2 (R.g F) _ h) F.calm h1 h2
  ·exact aY4
 ·exact aY4
theorem bp1 {st : Stmt} {f : DS} (h : ∀ ρ, f ρ = none) : JS X st f := fun ρ fl q => by rw [h ρ] at q; cases q
theorem bR9 (F : Fit S c X) (h : c.df = true) : X.env.blockKind = .function := by
 unfold Env.blockKind
 rw [F.sc, (F.df h).2]; rfl
theorem aL4 (elt : Expr) (gens : List Comprehension) (sc : Scope) (pv p' : Pos) (x : Str) (l : Nat) (env : Env) : swapsWith (.ListComp elt gens sc pv) (some (.Name x p')) l env =
  pure (env.blockKind == .function && env.kindOf x == some .local && p'.line == pv.line && !(sc.names.any fun (n, k) => n == x && (k == .local || k == .cell))) := rfl
theorem bp2 (R : Sound S r) (F : Fit S c X) {x : Str} {p' pv p : Pos} {elt : Expr} {gens : List Comprehension} {sc : Scope} {i : Nat} (hi : ao7 x c.N = some i) (hl : (c.sc.names.lookup x == some .local) = true)
  (h : (c.df && p'.line == pv.line && !(sc.names.any fun (n, k) => n == x && (k == .local || k == .cell))) = true) :
  JS X (.Assign [.Name x p'] (.ListComp elt gens sc pv) p) (X3 i (evC S r c (.ListComp elt gens sc pv))) ∧ JS X (.Assign [.Name x p'] (.ListComp elt gens sc pv) p) (N5 i (evC S r c (.ListComp elt gens sc pv))) := by
 unfold evC
 simp only [Bool.and_eq_true] at h
 have hl' : X.env.scope.names.lookup x = some .local := by rw [F.sc]; simpa using hl
 have hsw : swapsWith (.ListComp elt gens sc pv) (some (.Name x p')) p.line X.env = pure true := by
  rw [aL4, bR9 F h.1.1, h.1.2, h.2]
  unfold Env.kindOf
  rw [hl']; rfl
 split
 ·rename_i elt tgt iter ifs scope pos he
  cases he
  dsimp only
  split
  ·rename_i hc
   obtain ⟨h1, h2, h3, h4, h5, h6⟩ := bq5 (ifs := ifs) (elt := elt) R F hc
   exact ⟨ca4 i (by rw [F.N]; exact F.nd) h1 F.hx h2 h3 h4 h5 (F.slot hi) hl' hsw F.calm h6, ca6 i (by rw [F.N]; exact F.nd) h1 F.hx h2 h3 h4 h5 (F.slot hi) hl' hsw F.calm h6⟩
  ·exact ⟨bp1 fun ρ => rfl, bp1 fun ρ => rfl⟩
 ·exact ⟨bp1 fun ρ => rfl, bp1 fun ρ => rfl⟩
theorem bU4 (R : Sound S r) (F : Fit S c X) (tg v : Expr) (p : Pos) : JS X (.Assign [tg] v p) (ci5 S r c tg v p) := by
 have nd : X.N.Nodup := by rw [F.N]; exact F.nd
 unfold ci5
 split
 ·rename_i x p'
  split
  ·exact N4
  ·rename_i i hi
   split
   ·exact N4
   ·rename_i hlo
    have hlo : bK6 c x = true := by simpa using hlo
    obtain ⟨l1, l2⟩ := bo6 F hlo
    split
    ·rename_i elt gens sc pv
     split
     ·rename_i hl
      split
      ·rename_i h
       split
       ·exact (bp2 R F hi hl h).1
       ·exact (bp2 R F hi hl h).2
      ·exact N4
     ·rename_i hl
      refine bL6 i nd (R.e F _) (F.slot hi) l1 ?_ l2
      rw [aL4]
      have : (X.env.kindOf x == some .local) = false := by
       unfold Env.kindOf
       rw [F.sc]; simpa using hl
      rw [this, Bool.and_false]; rfl
    ·split
     ·exact N4
     ·rename_i hc
      have hc : isC v = false := by simpa using hc
      split
      ·exact cv3 i nd (R.n F _) (F.slot hi) l1 (aF2 hc _ _ _) l2
      ·exact bL6 i nd (R.e F _) (F.slot hi) l1 (aF2 hc _ _ _) l2
 ·split
  ·exact N4
  ·rename_i i hi
   split
   ·rename_i h
    simp only [Bool.and_eq_true, Bool.not_eq_true'] at h
    obtain ⟨h1, h2, h3⟩ := aA4 F h.1
    exact cv0 i (R.n F _) (am5 (R.e F) _) (am5 (R.e F) _) (F.slot hi) h1 h2 h3 (aF2 h.2 _ _ _)
   ·exact N4
 ·rename_i x px y py kt pt
  split
  ·rename_i a b k2 p2
   split
   ·rename_i i j hi hj
    split
    ·rename_i h
     unfold cE7 at h
     simp only [Bool.and_eq_true, Bool.not_eq_true', beq_iff_eq] at h
     obtain ⟨⟨⟨⟨⟨⟨⟨⟨hd, ha⟩, hb⟩, hxy⟩, hl⟩, hx⟩, hy⟩, hf⟩, hcs⟩ := h
     have hx' : X.env.scope.names.lookup x = some .local := by rw [F.sc]; exact hx
     have hy' : X.env.scope.names.lookup y = some .local := by rw [F.sc]; exact hy
     have hne : i ≠ j := fun z => by
      subst z
      have := (F.slot hi).symm.trans (F.slot hj)
      cases this
      simp at hxy
     refine cv2 nd (aY5 (R.e F) [a, b]) ?_ hne (F.slot hi) (F.slot hj) hx' hy' F.calm rfl
     have kx : X.env.kindOf x = some .local := hx'
     have ky : X.env.kindOf y = some .local := hy'
     have st : ∀ e : Expr, pl e = true → (match e with | .Starred .. => true | _ => false) = false := fun e he => by cases e <;> first | rfl | cases he
     have sa := st a ha
     have sb := st b hb
     have hyx : (y == x) = false := by
      cases q : (y == x) with
      | false => rfl
      | true => simp only [beq_iff_eq] at q; subst q; simp at hxy
     simp only [swappedStores, List.length_cons, List.length_nil, List.head?_cons, xms, Option.getD_some, Expr.pos, List.filterMap_cons, List.filterMap_nil, kx, ky, bR9 F hd, hf, hcs, hl, sa, sb, List.any_cons, List.any_nil]
     simp [List.eraseDups, List.eraseDupsBy, List.eraseDupsBy.loop, hxy, hyx]
     intro z
     rcases z with z | z
     ·cases a <;> first | exact absurd (show false = true from z) Bool.false_ne_true | exact nomatch ha
     ·cases b <;> first | exact absurd (show false = true from z) Bool.false_ne_true | exact nomatch hb
    ·exact N4
   ·exact N4
  ·exact N4
  ·rename_i h1 h2
   refine bL7 (R.e F _) (R.g F _) ?_ ?_ rfl
   ·cases v <;> rfl
   ·cases v <;> first | rfl | exact (h2 _ _ _ rfl).elim
 ·rename_i es kt pt _
  split
  ·exact N4
  ·rename_i h
   refine bL7 (R.e F _) (R.g F _) ?_ ?_ rfl
   ·cases v <;> rfl
   ·cases v <;> first | rfl | skip
    rename_i vs k3 p3
    have h : (es.length == 2 || es.length == 3) = false := by simpa [bp6] using h
    unfold swappedStores
    simp only [h, xnf, Bool.true_or, if_true]
 ·exact N4
end
end G
namespace G
open PySem PySem.Spec PyProof.Rows L2
section
variable {X : Cx} {S : Sg} {c : Kx} {r : Ev}
theorem bU3 (R : Sound S r) (F : Fit S c X) (x m : Str) (e : Expr) (p apos cpos pos : Pos) (hl : (apos.endLine == cpos.line) = true) : JS X (.Expr (.Call (.Attribute (.Name x p) m apos) [e] [] cpos) pos) (ci4 r c x m e) := by
 unfold ci4
 split
 ·exact N4
 ·rename_i i hi
  split
  ·rename_i h
   simp only [Bool.and_eq_true] at h
   obtain ⟨h1, h2, h3⟩ := aA4 F h.1
   have hs := M8 h.2 [] X.env
   split
   ·rename_i hm
    simp only [beq_iff_eq] at hm
    subst hm
    exact cv8 i (R.e F e) (F.slot hi) h1 h2 h3 rfl (by rw [hs]; rfl) hl hs rfl
   ·split
    ·rename_i hm
     simp only [beq_iff_eq] at hm
     subst hm
     exact cv6 i (R.e F e) (F.slot hi) h1 h2 h3 hl hs
    ·exact N4
  ·exact N4
theorem bD8 (R : Sound S r) (F : Fit S c X) (st : Stmt) : JS X st (xS0 S r c st) := by
 unfold xS0
 split
 ·exact cv1 (R.e F _)
 ·exact cG9 (R.t F _) (R.b F _) (R.b F _)
 ·exact bL5 (R.t F _) (R.b F _) F.po
 ·split
  ·rename_i h; exact cv5 (ch2 R F _ _) (R.g F _) (R.b F _) F.po F.calm (bn2 h _)
  ·exact N4
 ·exact bU4 R F _ _ _
 ·split
  ·rename_i h; exact bU3 R F _ _ _ _ _ _ _ h
  ·exact N4
 ·exact ca5
 ·exact cv7
 ·exact ca3
 ·exact N4
theorem bO6 {st : Stmt} : ∀ (l : List Nat) {g : DS}, JS X st g → JS X st (l.foldl (fun g i => aw6 i g) g)
 | [], _, h => h
 | i :: l, _, h => bO6 l (cv4 i h)
theorem cB9 (R : Sound S r) (F : Fit S c X) (st : Stmt) : JS X st (xS S r c st) := by
 unfold xS fzW
 split
 ·exact bD8 R F st
 ·exact bO6 _ (bD8 R F st)
theorem bO9 {f : Stmt → DS} (h : ∀ st, JS X st (f st)) : ∀ sts, JSs X sts (evB f sts)
 | [] => ca2
 | [s] => ca1 (h s)
 | s :: t :: W0 => bL4 (h s) (bO9 h (t :: W0))
theorem bV0 (R : Sound S r) : Sound S (step S r) :=
 ⟨fun F => cC3 R F, fun F => cC0 R F, fun F => cC1 R F, fun F => cB8 R F, fun F => cC2 R F, fun F => bO9 (cB9 R F)⟩
theorem ch5 (S : Sg) : ∀ n, Sound S (ev S n)
 | 0 => ⟨fun _ _ => U2, fun _ _ => cg9, fun _ _ => aM3, fun _ _ => bp0, fun _ _ => aY4, fun _ _ ρ fl q => by cases q⟩
 | n + 1 => bV0 (ch5 S n)
end
structure Fd where
 x : Str
 st : Stmt
 ps : List Str
 N : List Str
 own : List Nat := []
 tx : List Nat := []
 old : Bool := false
 fz : List (Nat × List Nat) := []
 hc : List ((Nat × Nat) × List Nat) := []
def Fd.c (d : Fd) : Kx := { N := d.N, sc := M9 d.st, df := true, own := d.own, cpt := [], tx := d.tx, old := d.old, fz := d.fz, hc := d.hc }
def Fd.okB (d : Fd) : Bool := let sc := M9 d.st
 sc.kind == .function && !sc.isCoroutine && !sc.isGenerator && ax3 d.N && d.N.take d.ps.length == d.ps && (d.ps.all fun x => match sc.names.lookup x with | some .local => true | some .cell => true | _ => false) && sc.names.all fun y => match y.2 with | .free => false | _ => true
theorem Fd.sc {d : Fd} (h : d.okB = true) : FnScope d.N d.ps (M9 d.st) := by
 unfold Fd.okB at h
 simp only [Bool.and_eq_true, Bool.not_eq_true', beq_iff_eq, List.all_eq_true] at h
 obtain ⟨⟨⟨⟨⟨⟨h1, h2⟩, h3⟩, h4⟩, h5⟩, h6⟩, h7⟩ := h
 refine ⟨h1, h2, h3, ax2 h4, h5, fun x hx => ?_, fun y hy e => ?_⟩
 ·have := h6 x hx
  split at this
  ·rename_i q; exact .inl q
  ·rename_i q; exact .inr q
  ·cases this
 ·have := h7 y hy
  rw [e] at this
  cases this
def KF (K : PySem.W.Frag) (x : Str) (st : Stmt) : Prop := ∃ (f : Addr) (oc : Value) (od : Option Addr) (sl : Array (Option Value)) (kV dc pm : Value) (an : Option Addr) (cd ct : Value),
 PySem.W.nsIn K mainGlobals x = some (some (.ref f)) ∧ K.lookup f = some ⟨oc, od, .func (PySem.W.fnOf x x (g7 st) (U7 st) (M9 st) .none kV dc pm an cd ct), sl⟩ ∧ PySem.W.codeIn K cd x = true ∧ PySem.W.keepIn K (.ref f) = true
theorem cG6 {K : PySem.W.Frag} {x : Str} {st : Stmt} {f : Addr} {oc : Value} {od : Option Addr} {sl : Array (Option Value)} {kV dc pm : Value} {an : Option Addr} {cd ct : Value} (a : PySem.W.nsIn K mainGlobals x = some (some (.ref f)))
  (l : K.lookup f = some ⟨oc, od, .func (PySem.W.fnOf x x (g7 st) (U7 st) (M9 st) .none kV dc pm an cd ct), sl⟩) (c : PySem.W.codeIn K cd x = true) (k : PySem.W.keepIn K (.ref f) = true) : KF K x st := ⟨f, oc, od, sl, kV, dc, pm, an, cd, ct, a, l, c, k⟩
abbrev Tab := List (Str × FnD × Nat)
section
variable {P : Program} {w : World} {K : PySem.W.Frag} {mg : Str → Option Value} {base : Heap} {cs : List (Str × D)} {bl : List Str}
structure Md (K : PySem.W.Frag) (mg : Str → Option Value) (cs : List (Str × D)) (bl : List Str) : Prop where
 ns : ∀ x v, PySem.W.nsIn K mainGlobals x = some (some v) → mg x = some v
 css : ∀ x d, cs.lookup x = some d → ∃ u, bl3 K d u ∧ mg x = some u
 bls : ∀ x, bl.contains x = true → mg x = none
def TOk (P : Program) (w : World) (K : PySem.W.Frag) (mg : Str → Option Value) (base : Heap) (k : Nat) (tab : Tab) : Prop := ∀ x F n, tab.lookup x = some (F, n) → ∃ (f : Addr) (fd : FuncData) (ps : List Str),
 FnOk P w K mg base CX0 k f fd ps (spF K n F) ∧ mg x = some (.ref f) ∧ PySem.W.keepIn K (.ref f) = true ∧ c7 K fd ps []
theorem TOk.nil : TOk P w K mg base 0 [] := fun x F n h => by cases h
theorem TOk.mono {j k : Nat} {tab : Tab} (T : TOk P w K mg base j tab) (h : j ≤ k) : TOk P w K mg base k tab := fun x F n e =>
 let ⟨f, fd, ps, h1, h2, h3, h4⟩ := T x F n e; ⟨f, fd, ps, h1.mono h, h2, h3, h4⟩
def Bd (d : Fd) : Prop := ∀ (kV doc pm : Value) (an : Option Addr) (cdv ct : Value) (us : List Value), us.length = d.ps.length → bindArgs (PySem.W.fnOf d.x d.x (g7 d.st) (U7 d.st) (M9 d.st) .none kV doc pm an cdv ct) ⟨us, []⟩ = pure (d.ps.zip us)
def rd (tab : Tab) (cs : List (Str × D)) (bl : List Str) (d : Fd) : FnD := K2 ((ev ⟨tab, cs, bl⟩ 99).b d.c (U7 d.st)) d.N.length
theorem ay9 {k : Nat} {tab : Tab} {d : Fd} {f : Addr} {fd : FuncData} (M : Md K mg cs bl) (T : TOk P w K mg base k tab) (ok : d.okB = true) (Fn : Fun K d.x d.x d.st f fd) : FnOk P w K mg base CX0 (k + 1) f fd d.ps (spF K d.ps.length (rd tab cs bl d)) := by
 have Sc := Fd.sc ok
 refine cd0 (N := d.N) Fn Sc fun cdv A outer s H E hr => (ch5 ⟨tab, cs, bl⟩ 99).b (c := d.c) ?_ _
 refine ⟨rfl, rfl, Sc.nd, rfl, rfl, hr.units, fun _ => ⟨fun _ => rfl, Sc.kind⟩, fun x F n h => ?_, M.css, M.bls⟩
 obtain ⟨f', fd', ps, h1, h2, h3, h4⟩ := T x F n h
 exact ⟨k, f', fd', ps, h1, hr, h2, h3, h4⟩
theorem ag9 {x : Str} {st : Stmt} (h : KF K x st) (M : Md K mg cs bl) : ∃ (f : Addr) (kV dc pm : Value) (an : Option Addr) (cd ct : Value), Fun K x x st f (PySem.W.fnOf x x (g7 st) (U7 st) (M9 st) .none kV dc pm an cd ct) ∧ mg x = some (.ref f) := by
 obtain ⟨f, oc, od, sl, kV, dc, pm, an, cd, ct, a, l, cc, kk⟩ := h
 exact ⟨f, kV, dc, pm, an, cd, ct, cy9 l cc kk, M.ns _ _ a⟩
theorem TOk.cons {k : Nat} {tab : Tab} {x : Str} {F : FnD} {n : Nat} (T : TOk P w K mg base k tab) (h : ∃ (f : Addr) (fd : FuncData) (ps : List Str), FnOk P w K mg base CX0 k f fd ps (spF K n F) ∧ mg x = some (.ref f) ∧ PySem.W.keepIn K (.ref f) = true ∧ c7 K fd ps []) :
  TOk P w K mg base k ((x, F, n) :: tab) := fun y G m e => by
 rw [List.lookup_cons] at e
 split at e
 ·rename_i q
  cases e
  simp only [beq_iff_eq] at q
  subst q
  exact h
 ·exact T y G m e
theorem TOk.add {k n : Nat} {tab : Tab} {F : FnD} (T : TOk P w K mg base k tab) (M : Md K mg cs bl) (d : Fd) (h : KF K d.x d.st) (bd : Bd d) (ok : d.okB = true) (hn : d.ps.length = n) (e : rd tab cs bl d = F) : TOk P w K mg base (k + 1) ((d.x, F, n) :: tab) := by
 subst hn e
 obtain ⟨f, kV, dc, pm, an, cd, ct, Fn, hm⟩ := ag9 h M
 exact (T.mono (Nat.le_succ k)).cons ⟨f, _, d.ps, ay9 M T ok Fn, hm, Fn.kp, .all (bd kV dc pm an cd ct)⟩
theorem TOk.rec {k n : Nat} {tab : Tab} {F : Nat → FnD} (T : TOk P w K mg base k tab) (M : Md K mg cs bl) (d : Fd) (h : KF K d.x d.st) (bd : Bd d) (ok : d.okB = true) (hn : d.ps.length = n) (e0 : F 0 = fun _ => none) (e : ∀ j, rd ((d.x, F j, n) :: tab) cs bl d = F (j + 1)) (j : Nat) :
  TOk P w K mg base (k + j) ((d.x, F j, n) :: tab) := by
 subst hn
 obtain ⟨f, kV, dc, pm, an, cd, ct, Fn, hm⟩ := ag9 h M
 have bb : c7 K _ d.ps [] := .all (bd kV dc pm an cd ct)
 have main : ∀ j, FnOk P w K mg base CX0 (k + j) f (PySem.W.fnOf d.x d.x (g7 d.st) (U7 d.st) (M9 d.st) .none kV dc pm an cd ct) d.ps (spF K d.ps.length (F j)) := fun j => by
  induction j with
  | zero =>
   rw [e0]
   exact ⟨fun vs H Q E h => h.1, fun A outer s H args us vs Q E hr e0 hb hv hs => by obtain ⟨_, Hf, ds, d, _, _, e, _⟩ := hs; cases e⟩
  | succ j ih =>
   rw [← e j]
   exact ay9 M ((T.mono (Nat.le_add_right k j)).cons ⟨f, _, d.ps, ih, hm, Fn.kp, bb⟩) ok Fn
 exact (T.mono (Nat.le_add_right k j)).cons ⟨f, _, d.ps, main j, hm, Fn.kp, bb⟩
theorem TOk.rec2 {k n m : Nat} {tab : Tab} {F G : Nat → FnD} (T : TOk P w K mg base k tab) (M : Md K mg cs bl) (d d' : Fd) (h : KF K d.x d.st) (h' : KF K d'.x d'.st) (bd : Bd d) (bd' : Bd d') (ok : d.okB = true) (ok' : d'.okB = true) (hn : d.ps.length = n) (hm : d'.ps.length = m)
  (e0 : F 0 = fun _ => none) (e0' : G 0 = fun _ => none) (e : ∀ j, rd ((d.x, F j, n) :: (d'.x, G j, m) :: tab) cs bl d = F (j + 1)) (e' : ∀ j, rd ((d.x, F j, n) :: (d'.x, G j, m) :: tab) cs bl d' = G (j + 1)) (j : Nat) :
  TOk P w K mg base (k + j) ((d.x, F j, n) :: (d'.x, G j, m) :: tab) := by
 subst hn hm
 obtain ⟨f, kV, dc, pm, an, cd, ct, Fn, hm⟩ := ag9 h M
 obtain ⟨f', kV', dc', pm', an', cd', ct', Fn', hm'⟩ := ag9 h' M
 have b1 : c7 K _ d.ps [] := .all (bd kV dc pm an cd ct)
 have b2 : c7 K _ d'.ps [] := .all (bd' kV' dc' pm' an' cd' ct')
 have none_ok : ∀ {f : Addr} {fd : FuncData} {ps : List Str}, FnOk P w K mg base CX0 (k + 0) f fd ps (spF K ps.length fun _ => none) := fun {f fd ps} =>
  ⟨fun vs H Q E h => h.1, fun A outer s H args us vs Q E hr e0 hb hv hs => by obtain ⟨_, Hf, ds, d, _, _, e, _⟩ := hs; cases e⟩
 have main : ∀ j, TOk P w K mg base (k + j) ((d.x, F j, d.ps.length) :: (d'.x, G j, d'.ps.length) :: tab) := fun j => by
  induction j with
  | zero => rw [e0, e0']; exact ((T.mono (Nat.le_refl _)).cons ⟨f', _, d'.ps, none_ok, hm', Fn'.kp, b2⟩).cons ⟨f, _, d.ps, none_ok, hm, Fn.kp, b1⟩
  | succ j ih =>
   have o1 := ay9 M ih ok Fn
   have o2 := ay9 M ih ok' Fn'
   rw [e j] at o1
   rw [e' j] at o2
   exact ((T.mono (Nat.le_add_right k (j + 1))).cons ⟨f', _, d'.ps, o2, hm', Fn'.kp, b2⟩).cons ⟨f, _, d.ps, o1, hm, Fn.kp, b1⟩
 exact main j
theorem TOk.rec3 {k n1 n2 n3 : Nat} {tab : Tab} {F1 F2 F3 : Nat → FnD} (T : TOk P w K mg base k tab) (M : Md K mg cs bl) (d1 d2 d3 : Fd) (h1 : KF K d1.x d1.st) (h2 : KF K d2.x d2.st) (h3 : KF K d3.x d3.st) (q1 : Bd d1) (q2 : Bd d2) (q3 : Bd d3) (ok1 : d1.okB = true) (ok2 : d2.okB = true) (ok3 : d3.okB = true)
  (m1 : d1.ps.length = n1) (m2 : d2.ps.length = n2) (m3 : d3.ps.length = n3) (z1 : F1 0 = fun _ => none) (z2 : F2 0 = fun _ => none) (z3 : F3 0 = fun _ => none)
  (e1 : ∀ j, rd ((d1.x, F1 j, n1) :: (d2.x, F2 j, n2) :: (d3.x, F3 j, n3) :: tab) cs bl d1 = F1 (j + 1)) (e2 : ∀ j, rd ((d1.x, F1 j, n1) :: (d2.x, F2 j, n2) :: (d3.x, F3 j, n3) :: tab) cs bl d2 = F2 (j + 1))
  (e3 : ∀ j, rd ((d1.x, F1 j, n1) :: (d2.x, F2 j, n2) :: (d3.x, F3 j, n3) :: tab) cs bl d3 = F3 (j + 1)) (j : Nat) :
  TOk P w K mg base (k + j) ((d1.x, F1 j, n1) :: (d2.x, F2 j, n2) :: (d3.x, F3 j, n3) :: tab) := by
 subst m1 m2 m3
 obtain ⟨f1, a1, a2, a3, a4, a5, a6, Fn1, hm1⟩ := ag9 h1 M
 obtain ⟨f2, c1, c2, c3, c4, c5, c6, Fn2, hm2⟩ := ag9 h2 M
 obtain ⟨f3, g1, g2, g3, g4, g5, g6, Fn3, hm3⟩ := ag9 h3 M
 have b1 : c7 K _ d1.ps [] := .all (q1 a1 a2 a3 a4 a5 a6)
 have b2 : c7 K _ d2.ps [] := .all (q2 c1 c2 c3 c4 c5 c6)
 have b3 : c7 K _ d3.ps [] := .all (q3 g1 g2 g3 g4 g5 g6)
 have none_ok : ∀ {f : Addr} {fd : FuncData} {ps : List Str}, FnOk P w K mg base CX0 (k + 0) f fd ps (spF K ps.length fun _ => none) := fun {f fd ps} =>
  ⟨fun vs H Q E h => h.1, fun A outer s H args us vs Q E hr e0 hb hv hs => by obtain ⟨_, Hf, ds, d, _, _, e, _⟩ := hs; cases e⟩
 induction j with
 | zero => rw [z1, z2, z3]; exact (((T.mono (Nat.le_refl _)).cons ⟨f3, _, d3.ps, none_ok, hm3, Fn3.kp, b3⟩).cons ⟨f2, _, d2.ps, none_ok, hm2, Fn2.kp, b2⟩).cons ⟨f1, _, d1.ps, none_ok, hm1, Fn1.kp, b1⟩
 | succ j ih =>
  have o1 := ay9 M ih ok1 Fn1
  have o2 := ay9 M ih ok2 Fn2
  have o3 := ay9 M ih ok3 Fn3
  rw [e1 j] at o1
  rw [e2 j] at o2
  rw [e3 j] at o3
  exact (((T.mono (Nat.le_add_right k (j + 1))).cons ⟨f3, _, d3.ps, o3, hm3, Fn3.kp, b3⟩).cons ⟨f2, _, d2.ps, o2, hm2, Fn2.kp, b2⟩).cons ⟨f1, _, d1.ps, o1, hm1, Fn1.kp, b1⟩
theorem bZ6 {k : Nat} {tab : Tab} {F : FnD} {fa : Addr} {x : Str} (M : Md K mg cs bl) (T : ∀ base : Heap, TOk P w K mg base k tab) (d : Fd) (h : KF K d.x d.st) (bd : Bd d) (ok : d.okB = true) (hp : d.ps = [x]) (e : rd tab cs bl d = F) (hm : mg d.x = some (.ref fa)) :
  ∃ fd : FuncData, (∀ (s : Shared) (u : Value), BindsTo s fd ⟨[u], []⟩ [(x, u)]) ∧ ∀ base : Heap, FnOk P w K mg base CX0 (k + 1) fa fd [x] (spF K 1 F) := by
 subst e
 obtain ⟨f, kV, dc, pm, an, cd, ct, Fn, hm'⟩ := ag9 h M
 cases hm.symm.trans hm'
 refine ⟨PySem.W.fnOf d.x d.x (g7 d.st) (U7 d.st) (M9 d.st) .none kV dc pm an cd ct, fun s u => .of_eq ?_, fun base => ?_⟩
 ·have := bd kV dc pm an cd ct [u] (by rw [hp]; rfl)
  rw [hp] at this
  exact this
 ·have := ay9 M (T base) ok Fn
  rw [hp] at this
  exact this
end
end G
namespace Lk60
open PySem PySem.Spec PyProof.Rows L2 G Sh
def top (i : Nat) : Stmt := PySem.Challenge.pw_glazework_k60_boxes.main.body.getD i (.Pass ⟨0, 0, 0, 0⟩)
abbrev X1 : Stmt := top 2
abbrev ac0 : Stmt := top 3
abbrev ac3 : Stmt := top 4
abbrev aP7 : Stmt := top 5
abbrev an7 : Stmt := top 6
abbrev aP3 : Stmt := top 7
abbrev au9 : Stmt := top 8
abbrev v9 : Stmt := top 9
abbrev aw0 : Stmt := top 11
abbrev ao1 : Stmt := top 12
abbrev ao2 : Stmt := top 13
abbrev aw1 : Stmt := top 14
abbrev ag1 : Stmt := top 15
abbrev au8 : Stmt := top 16
abbrev v3 : Stmt := top 17
abbrev ao0 : Stmt := top 18
abbrev av1 : Stmt := top 19
abbrev aD3 : Stmt := top 20
abbrev av0 : Stmt := top 21
abbrev an6 : Stmt := top 22
abbrev v6 : Stmt := top 23
abbrev an4 : Stmt := top 27
abbrev Z9 : Stmt := top 28
abbrev X2 : Stmt := top 29
abbrev aw5 : Stmt := top 30
abbrev aw3 : Stmt := top 31
abbrev aP4 : Stmt := top 32
abbrev aP2 : Stmt := top 33
abbrev af9 : Stmt := top 35
abbrev ag4 : Stmt := top 36
abbrev W1 : Stmt := top 37
abbrev au7 : Stmt := top 38
abbrev v5 : Stmt := top 40
abbrev aw4 : Stmt := top 41
abbrev v4 : Stmt := top 42
abbrev an5 : Stmt := top 43
abbrev aw2 : Stmt := top 44
abbrev v8 : Stmt := top 46
abbrev ac2 : Stmt := top 47
abbrev j6 : Stmt := top 48
abbrev af8 : Stmt := top 49
abbrev ag0 : Stmt := top 50
abbrev j7 : Stmt := top 51
abbrev aE3 : Stmt := top 52
abbrev v7 : Stmt := top 53
abbrev aE2 : Stmt := top 55
abbrev av8 : Stmt := top 56
abbrev aD9 : Stmt := top 57
abbrev aD8 : Stmt := top 58
abbrev av2 : Stmt := top 59
abbrev aD7 : Stmt := top 60
abbrev av5 : Stmt := top 61
abbrev aD6 : Stmt := top 62
abbrev av4 : Stmt := top 63
abbrev av9 : Stmt := top 64
abbrev aD5 : Stmt := top 65
abbrev av7 : Stmt := top 66
abbrev aE0 : Stmt := top 67
abbrev av6 : Stmt := top 68
abbrev ag2 : Stmt := top 69
abbrev ag3 : Stmt := top 70
abbrev av3 : Stmt := top 71
abbrev aE1 : Stmt := top 72
abbrev aP6 : Stmt := top 73
abbrev aD4 : Stmt := top 74
abbrev an9 : Stmt := top 75
abbrev an8 : Stmt := top 76
abbrev aP5 : Stmt := top 77
abbrev ac1 : Stmt := top 78
abbrev cf4 : Stmt := top 79
def be4 : DS := (B3 1 (A2 Z6 (A0 (A1 0) (A0 (dC (.int 30)) (A0 (dC (.int 4)) (A0 (A2 ab3 (A0 (A1 0) (A0 (dC (.int 0)) (A0 (dC (.int 6)) A3)))) A3))))))
def be3 : DS := (V9 (A1 1) (K6 3 (B0 (A8 2) (B0 (A8 3) (B0 (A8 4) L5)))))
def bF4 : DS := (P8 (L4 (A2 (N7 12) (A0 (A1 4) A3))) (A8 5) (sIf (tB2 neD (A2 (Q8 12) (A0 (A1 1) (A0 (A1 5) A3))) (A2 (O8 12) (A0 (A1 1) (A0 (A1 5) A3)))) (B2 (dC (.bool false))) J2))
def be2 : DS := (B3 6 (A2 Q1 (A0 (A1 0) (A0 (dC (.int 800)) A3))))
def be1 : DS := (B3 7 (A2 Q1 (A0 (A1 0) (A0 (dC (.int 806)) A3))))
def be0 : DS := (sIf (tB2 neD (A2 Q2 (A0 (A1 6) (A0 (A1 7) A3))) (A2 S6 (A0 (A4 B4 (A2 S4 (A0 (A1 6) A3)) (A2 S4 (A0 (A1 7) A3))) A3))) (B2 (dC (.bool false))) J2)
def bd9 : DS := (B3 8 (A1 4))
def aO7 : DS := (sIf (tB2 neD (A1 4) (J1 A3)) (A6 (B3 5 (dIx (qE (A2 (N7 12) (A0 (A1 4) A3))) (A2 A7 (A0 (A1 0) (A0 (dC (.int 812)) (A0 (i5 (qE (A2 (N7 12) (A0 (A1 4) A3)))) A3)))))) (A6 (B3 9 (dIx (qE (J1 (A0 (J1 A3) (A0 (J1 (A0 (A2 W6 (A0 (A1 0) (A0 (dC (.int 820)) (A0 (dIx (A5 5) (dC (.int 1))) (A0 (dC (.str "over")) A3))))) A3)) A3)))) (A2 A7 (A0 (A1 0) (A0 (dC (.int 813)) (A0 (dC (.int 2)) A3)))))) (B3 8 (A2 (Q7 12) (A0 (A1 4) (A0 (dIx (A5 5) (dC (.int 1))) (A0 (A1 9) A3))))))) J2)
def bd8 : DS := (B3 10 (dIx (qE (A2 ab4 (A0 (A1 1) A3))) (dC (.int 2))))
def bd7 : DS := (B3 11 (dIx (qE (A2 ab4 (A0 (J1 (A0 (A1 2) (A0 (A1 3) (A0 (A1 8) A3)))) A3))) (dC (.int 2))))
def aO9 : DS := (N5 12 (D6 1 [2, 10, 11] (L6 (A4 K5 (A1 2) (A1 3))) (A8 0) (tB2 neD (dIx (A5 2) (A1 0)) (dIx (A5 3) (A1 0))) (J1 (A0 (A4 U1 (A1 0) (A1 1)) (A0 (A4 X7 (A1 0) (A1 1)) A3)))))
def aO8 : DS := (B2 (aa2 (A4 eqD (A2 P2 (A0 (A1 1) (A0 (J1 (A0 (A1 2) (A0 (A1 3) (A0 (A1 8) A3)))) A3))) (A2 S6 (A0 (A1 12) A3))) (A4 isB (A2 P2 (A0 (A1 1) (A0 (A1 1) A3))) (dC .none))))
def ci2 : DS := (A6 be4 (A6 be3 (A6 bF4 (A6 be2 (A6 be1 (A6 be0 (A6 bd9 (A6 aO7 (A6 bd8 (A6 bd7 (A6 aO9 aO8)))))))))))
def br8 : List D → Option D := K2 ci2 13
end Lk60
namespace Lk60
open PySem G L2 Sh
theorem aR7 {d : D} (h : at8 d) (n : Nat) : Ly n d := by
 obtain ⟨s, rfl, o⟩ := h
 exact ⟨o.ok, Nat.zero_le _⟩
theorem bo4 (r : Rat) : Ly 1 (fr r) := Ly.tup fun x hx => by
 simp only [List.mem_cons, List.not_mem_nil, or_false] at hx
 rcases hx with rfl | rfl <;> exact Ly.int _ _
theorem bK5 (m : Man) (n : Nat) : Ly n (.str m.s) := ⟨by cases m <;> decide +kernel, Nat.zero_le _⟩
theorem ct4 {nm : D} {m : Man} {s : Rat} {sh : Bool} {lf tp : Int} {mk : Option (List Rat)} {w h : Nat} {l : List Q4} {kb : Nat} (hn : at8 nm) : Ly 5 (Nd.d (.layer nm m s sh lf tp mk w h l kb)) := by
 rw [Nd.d]
 refine Ly.tup fun x hx => ?_
 simp only [List.mem_cons, List.not_mem_nil, or_false] at hx
 rcases hx with rfl | rfl | rfl | rfl | rfl | rfl | rfl | rfl | rfl
 ·exact ⟨by decide +kernel, Nat.zero_le _⟩
 ·exact aR7 hn _
 ·exact bK5 m _
 ·exact (bo4 s).mono (by decide)
 ·exact ⟨rfl, Nat.zero_le _⟩
 ·exact Ly.int _ _
 ·exact Ly.int _ _
 ·cases mk with
  | none => exact ⟨rfl, Nat.zero_le _⟩
  | some ms =>
   refine Ly.mono (m := 2) (Ly.tup fun x hx => ?_) (by decide)
   obtain ⟨r, _, rfl⟩ := List.mem_map.mp hx
   exact bo4 r
 ·exact Ly.sheet w h l
theorem ct3 (r : Rul) (n : Nat) : Ly n (.str r.s) := ⟨by cases r <;> decide +kernel, Nat.zero_le _⟩
mutual
theorem cG5 : ∀ n : Nd, (∀ d ∈ n.nms, at8 d) → Ly (5 + 2 * n.dp) n.d
 | .layer nm m s sh lf tp mk w h l kb, hs => (ct4 (hs nm (by rw [Nd.nms]; simp))).mono (by omega)
 | .tone nm r s sh, hs => by
  rw [Nd.d, Nd.dp]
  refine Ly.tup fun x hx => ?_
  simp only [List.mem_cons, List.not_mem_nil, or_false] at hx
  rcases hx with rfl | rfl | rfl | rfl | rfl
  ·exact ⟨by decide +kernel, Nat.zero_le _⟩
  ·exact aR7 (hs _ (by rw [Nd.nms]; simp)) _
  ·exact ct3 r _
  ·exact (bo4 s).mono (by decide)
  ·exact ⟨rfl, Nat.zero_le _⟩
 | .group nm m s sh ns, hs => by
  rw [Nd.nms] at hs
  have i := ly_nds ns fun d hd => hs d (List.mem_cons_of_mem _ hd)
  rw [Nd.d, Nd.dp]
  refine Ly.mono (m := 6 + 2 * Nd.dps ns + 1) (Ly.tup fun x hx => ?_) (by omega)
  simp only [List.mem_cons, List.not_mem_nil, or_false] at hx
  rcases hx with rfl | rfl | rfl | rfl | rfl | rfl
  ·exact ⟨by decide +kernel, Nat.zero_le _⟩
  ·exact aR7 (hs _ (List.mem_cons_self ..)) _
  ·exact bK5 m _
  ·exact (bo4 s).mono (by omega)
  ·exact ⟨rfl, Nat.zero_le _⟩
  ·exact ⟨i.1, by show PyData.depthAll (Nd.ds ns) + 1 ≤ _; omega⟩
theorem ly_nds : ∀ l : List Nd, (∀ d ∈ Nd.nmss l, at8 d) → PyData.canLayAll0 (Nd.ds l) = true ∧ PyData.depthAll (Nd.ds l) ≤ 5 + 2 * Nd.dps l
 | [], _ => by rw [Nd.ds]; exact ⟨rfl, Nat.zero_le _⟩
 | n :: r, hs => by
  rw [Nd.nmss] at hs
  obtain ⟨i1, i2⟩ := cG5 n fun d hd => hs d (List.mem_append_left _ hd)
  obtain ⟨j1, j2⟩ := ly_nds r fun d hd => hs d (List.mem_append_right _ hd)
  rw [Nd.ds, Nd.dps]
  refine ⟨?_, ?_⟩
  ·show (PyData.canLay0 n.d && PyData.canLayAll0 (Nd.ds r)) = true
   rw [i1, j1]; rfl
  ·show max (PyData.depth n.d) (PyData.depthAll (Nd.ds r)) ≤ _
   omega
end
theorem cg6 (A : Bx) : Ly 1 (bxD A) := by
 cases A with
 | none => exact ⟨rfl, Nat.zero_le _⟩
 | some a =>
  refine Ly.tup fun x hx => ?_
  simp only [List.mem_cons, List.not_mem_nil, or_false] at hx
  rcases hx with rfl | rfl | rfl | rfl <;> exact Ly.int _ _
theorem cg3 (A : Bx) : neD (bxD A) (bxD A) = some (.bool false) := aR5 (cg6 A) (by decide)
theorem ix1 (n : Nd) : ∃ ds : List D, n.d = .tuple ds ∧ atI ds 1 = some n.nm := by
 cases n <;> exact ⟨_, by rw [Nd.d], rfl⟩
theorem bU7 {a b l : List Nd} {n : Nd} (h : Stands a n b l) : Nd.thins l → n.thin := by
 induction h with
 | top => intro t; exact (Q9 _).mp t n (by simp)
 | @deep c e nm m s sh ns h ih =>
  intro t
  have := (Q9 _).mp t (.group nm m s sh ns) (by simp)
  rw [Nd.thin] at this
  exact ih this.2
structure Good (l : List Nd) : Prop where
 ok : Nd.Oks l
 wg : Nd.wgs l ≤ 400
 dp : Nd.dps l ≤ 3
 len : l.length ≤ 100
 th : Nd.thins l
 hs : ∀ d ∈ Nd.nmss l, at8 d
 nd : (Nd.nmss l).Nodup
 nl : (Nd.nmss l).length ≤ 15
abbrev en (ns : List Int) (w h : Nat) (l : List Nd) (r5 r6 r7 r8 r9 r10 r11 r12 : Option B) : Rho := [‹scr ns›, ‹K1 w h l›, ‹.int w›, ‹.int h›, ‹.tuple (Nd.ds l)›, r5, r6, r7, r8, r9, r10, r11, r12]
def bd : DS := (sIf (tB2 neD (A2 (Q8 12) (A0 (A1 1) (A0 (A1 5) A3))) (A2 (O8 12) (A0 (A1 1) (A0 (A1 5) A3)))) (B2 (dC (.bool false))) J2)
theorem main : ∀ ns : List Int, ns.length ≤ 63 → br8 [.list (ns.map PyData.int)] = some (.bool true) := by
 intro ns hn
 obtain ⟨N, eN, hN, b, hP⟩ := bK0 ns hn 0 6 (by decide) (by decide)
 have eN : ab3 [scr ns, .int 0, .int 6] = some (.list N) := eN
 obtain ⟨w, h, l, ep, hl, hw, hh⟩ := bf4 ns hn 30 4 (by decide) (by decide) N (by omega)
 have ep : Z6 [scr ns, .int 30, .int 4, .list N] = some (K1 w h l) := ep
 have w1 := hw.1
 have w8 : w ≤ 8 := by omega
 have h1 := hh.1
 have h8 : h ≤ 8 := by omega
 obtain ⟨is, q1, q2, q3⟩ := hl.ix
 have nmv : ∀ j, j < 6 → ∃ y, N.getD j .none = .str (nmS b j y) ∧ SOk y ∧ y.length ≤ 4 := fun j hj => by
  obtain ⟨y, e1, e2⟩ := hP j hj
  exact ⟨y, by rw [List.getD_eq_getElem?_getD, e1]; rfl, e2⟩
 have lw := hl.wg
 have ld := hl.dp
 have ll := hl.len
 have g : Good l := by
  refine ⟨hl.ok, by omega, by omega, by omega, hl.th, fun d hd => ?_, ?_, ?_⟩
  ·rw [q1] at hd
   obtain ⟨j, hj, rfl⟩ := List.mem_map.mp hd
   obtain ⟨y, e1, e2, e3⟩ := nmv j (by have := q3 j hj; omega)
   exact ⟨_, e1, bZ0 b (by have := q3 j hj; omega) e2⟩
  ·rw [q1]
   refine List.pairwise_map.mpr (List.Pairwise.imp_of_mem (fun {i j} hi hj ne e => ?_) q2)
   obtain ⟨y, e1, _⟩ := nmv i (by have := q3 i hi; omega)
   obtain ⟨z, e2, _⟩ := nmv j (by have := q3 j hj; omega)
   rw [e1, e2] at e
   exact ne (bZ1 (PyData.str.inj e))
  ·rw [q1, List.length_map]
   have := List.Nodup.length_le_of_subset (l₂ := List.range 6) q2 fun j hj => List.mem_range.mpr (by have := q3 j hj; omega)
   rw [List.length_range] at this; omega
 have S : Small6 l := ⟨hl.ok, by omega, by omega⟩
 obtain ⟨X, eX, _, hX⟩ := bT5 3 l 12 (by omega) (by decide) (by omega)
 have wh : w * h ≤ 64 := Nat.mul_le_mul w8 h8
 have mwh : K5 (.int w) (.int h) = some (.int ((w * h : Nat) : Int)) := O6 (by omega) (by omega)
 have sw : L0 (w : Int) := S9 (k := 10) (by omega) (by decide)
 have pw : (0 : Int) < w := by omega
 have md : ∀ {n m : Nat}, ((n : Int) % (m : Int)) = ((n % m : Nat) : Int) := fun {n m} => by omega
 have dv : ∀ {n m : Nat}, ((n : Int) / (m : Int)) = ((n / m : Nat) : Int) := fun {n m} => by omega
 obtain ⟨A, eA, wA, lA⟩ := aV6 ns hn 800 (by decide)
 have eA : Q1 [scr ns, .int 800] = some (bxD A) := eA
 obtain ⟨B, eB, wB, lB⟩ := aV6 ns hn 806 (by decide)
 have eB : Q1 [scr ns, .int 806] = some (bxD B) := eB
 obtain ⟨P, eP, iP, lP⟩ := bH0 (w := 8) (h := 8) (by decide) (by decide) wA lA
 obtain ⟨Q, eQ, iQ, lQ⟩ := bH0 (w := 8) (h := 8) (by decide) (by decide) wB lB
 have cl := bq8 (xs := P.map ptD) (ys := Q.map ptD) (by rw [List.length_map, List.length_map]; omega)
 rw [← List.map_append] at cl
 have jo := ah7 (P ++ Q) (by rw [List.length_append]; omega)
 rw [aC1 (br3 _) (bk1 wA wB iP iQ)] at jo
 refine A9 (ρ := [‹scr ns›, none, none, none, none, none, none, none, none, none, none, none, none]) rfl ?_
 have s0 : be4 [‹scr ns›, none, none, none, none, none, none, none, none, none, none, none, none] = some (.nx [‹scr ns›, ‹K1 w h l›, none, none, none, none, none, none, none, none, none, none, none]) := by
  wp_walk using evD, be4, eN, ep
 have s1 : be3 [‹scr ns›, ‹K1 w h l›, none, none, none, none, none, none, none, none, none, none, none] = some (.nx (en ns w h l none none none none none none none none)) := by
  wp_walk using evD, be3, en, K1
  rfl
 obtain ⟨ρ', e2, r5, hρ⟩ := aY9 (g := A8 5) (f := bd) (I := fun ρ => ∃ r5, ρ = (en ns w h l r5 none none none none none none none)) X (en ns w h l none none none none none none none none) ⟨none, rfl⟩ (fun d hd ρ hρ => by
  obtain ⟨a', n, b', rfl, St⟩ := hX d hd
  obtain ⟨r5, rfl⟩ := hρ
  have Pp := St.props
  have dpn := Pp.dp
  have nda := Pp.nd g.nd
  rw [Q5, Nd.nmss] at nda
  have ndn := (List.nodup_append.mp (List.nodup_append.mp nda).2.1).1
  have ln := List.Nodup.length_le_of_subset ndn St.nm
  have gn := g.nl
  have b1 := cA2 w h l 3 n 12 (by omega) (by decide) (bU7 St g.th)
  have b2 := bZ5 w1 w8 h1 h8 l 3 n 12 (by omega) (by decide) (by omega)
  refine ⟨_, rfl, (en ns w h l (some (.val n.d)) none none none none none none none), ?_, some (.val n.d), rfl⟩
  show bd (en ns w h l (some (.val n.d)) none none none none none none none) = _
  wp_walk using evD, bd, en, b1, b2, cg3)
 subst hρ
 have s2 : bF4 (en ns w h l none none none none none none none none) = some (.nx (en ns w h l r5 none none none none none none none)) := by
  show P8 (L4 (A2 (N7 12) (A0 (A1 4) A3))) (A8 5) bd _ = _
  unfold P8
  rw [show L4 (A2 (N7 12) (A0 (A1 4) A3)) (en ns w h l none none none none none none none none) = some X by (wp_walk using evD, en, eX), xbs]
  exact e2
 have s3 : be2 (en ns w h l r5 none none none none none none none) = some (.nx (en ns w h l r5 (‹bxD A›) none none none none none none)) := by
  wp_walk using evD, be2, en, eA
 have s4 : be1 (en ns w h l r5 (‹bxD A›) none none none none none none) = some (.nx (en ns w h l r5 (‹bxD A›) (‹bxD B›) none none none none none)) := by
  wp_walk using evD, be1, en, eB
 have s5 : be0 (en ns w h l r5 (‹bxD A›) (‹bxD B›) none none none none none) = some (.nx (en ns w h l r5 (‹bxD A›) (‹bxD B›) none none none none none)) := by
  wp_walk using evD, be0, en, ch1, eP, eQ, cl, jo, cg3
 have s6 : bd9 (en ns w h l r5 (‹bxD A›) (‹bxD B›) none none none none none) = some (.nx (en ns w h l r5 (‹bxD A›) (‹bxD B›) (‹.tuple (Nd.ds l)›) none none none none)) := by
  wp_walk using evD, bd9, en
 obtain ⟨l', r5', r9, s7, S'⟩ : ∃ l' r5' r9, aO7 (en ns w h l r5 (‹bxD A›) (‹bxD B›) (‹.tuple (Nd.ds l)›) none none none none) = some (.nx (en ns w h l r5' (‹bxD A›) (‹bxD B›) (‹.tuple (Nd.ds l')›) r9 none none none)) ∧ Small6 l' := by
  by_cases q : l = []
  ·refine ⟨l, r5, none, ?_, S⟩
   have ne : neD (.tuple (Nd.ds l)) (.tuple []) = some (.bool false) := by
    rw [q, Nd.ds]; exact aR5 (n := 1) ⟨rfl, Nat.le_refl _⟩ (by decide)
   wp_walk using evD, aO7, en, ne
  ·have ln := ly_nds l g.hs
   have ne : neD (.tuple (Nd.ds l)) (.tuple []) = some (.bool true) := by
    unfold neD
    rw [if_pos ⟨Ly.shaped (n := 20) ⟨ln.1, by show PyData.depthAll (Nd.ds l) + 1 ≤ 20; omega⟩ (by decide), rfl⟩]
    cases l with
    | nil => exact absurd rfl q
    | cons n r => rw [Nd.ds]; rfl
   have nX := List.length_pos_iff.mpr (cB0 q (by omega) (by omega) eX)
   obtain ⟨d1, e1, l1⟩ := K9 ns hn (e := 812) (m' := ((X.length : Nat) : Int)) 812 X.length rfl rfl (by decide) nX
   obtain ⟨d2, e2', l2⟩ := K9 ns hn (e := 813) (m' := 2) 813 2 rfl rfl (by decide) (by decide)
   obtain ⟨x, hx, ex⟩ : ∃ x, x ∈ X ∧ atI X (d1 : Int) = some x := ⟨X[d1], List.getElem_mem l1, by unfold atI; rw [ao8 (by omega) (by omega)]; exact List.getElem?_eq_getElem l1⟩
   obtain ⟨a', n, b', rfl, St⟩ := hX x hx
   obtain ⟨o, eo, oo, od, ow, onm, _⟩ := bo7 ns hn 820 (by decide) n.nm .over
   have eo : W6 [scr ns, .int 820, n.nm, .str "over"] = some o.d := eo
   have hin := St.nm n.nm (aR4 n)
   obtain ⟨oth, eo2, p1, p2, p3, p4⟩ : ∃ oth : List Nd, atI [PyData.tuple [], .tuple [o.d]] (d2 : Int) = some (.tuple (Nd.ds oth)) ∧ oth.length ≤ 1 ∧ Nd.Oks oth ∧ Nd.wgs oth ≤ 40 ∧ Nd.dps oth = 0 := by
    rcases (show d2 = 0 ∨ d2 = 1 by omega) with rfl | rfl
    ·exact ⟨[], by rw [Nd.ds]; rfl, Nat.zero_le _, by rw [P4]; simp, by rw [Nd.wgs]; omega, by rw [Nd.dps]⟩
    ·exact ⟨[o], by rw [Nd.ds, Nd.ds]; rfl, Nat.le_refl _, by rw [P4]; simpa using oo, by rw [Nd.wgs, Nd.wgs]; omega, by rw [Nd.dps, Nd.dps]; omega⟩
   have ew := ci6 (g.hs _ hin) p1 3 l 12 (by omega) (by decide) (by omega) g.th g.hs
   obtain ⟨t1, t2, t3⟩ := wss_small (nm := n.nm) p2 p3 p4 l
   have ct := bR1 (nm := n.nm) _ g.nd
   refine ⟨Nd.wss n.nm oth l, some (.val n.d), ‹.tuple (Nd.ds oth)›, ?_, ⟨t1 hl.ok, by omega, by omega⟩⟩
   obtain ⟨ds, ed, a1⟩ := ix1 n
   rw [ed] at ex ⊢
   wp_walk using evD, aO7, en, ne, eX, e1, ex, a1, eo, e2', eo2, ew
 have ef := ay7 S w1 w8 h8
 have ef' : ab4 [.tuple [.int w, .int h, .tuple (Nd.ds l')]] = some (shD w h (flL w h l')) := ay7 S' w1 w8 h8
 have s8 : bd8 (en ns w h l r5' (‹bxD A›) (‹bxD B›) (‹.tuple (Nd.ds l')›) r9 none none none) = some (.nx (en ns w h l r5' (‹bxD A›) (‹bxD B›) (‹.tuple (Nd.ds l')›) r9 (‹.tuple ((flL w h l).map Q4.d)›) none none)) := by
  wp_walk using evD, bd8, en, ef, shD
 have s9 : bd7 (en ns w h l r5' (‹bxD A›) (‹bxD B›) (‹.tuple (Nd.ds l')›) r9 (‹.tuple ((flL w h l).map Q4.d)›) none none) = some (.nx (en ns w h l r5' (‹bxD A›) (‹bxD B›) (‹.tuple (Nd.ds l')›) r9 (‹.tuple ((flL w h l).map Q4.d)›) (‹.tuple ((flL w h l').map Q4.d)›) none)) := by
  wp_walk using evD, bd7, en, ef', shD
 have c : D6 1 [2, 10, 11] (L6 (A4 K5 (A1 2) (A1 3))) (A8 0) (tB2 neD (dIx (A5 2) (A1 0)) (dIx (A5 3) (A1 0))) (J1 (A0 (A4 U1 (A1 0) (A1 1)) (A0 (A4 X7 (A1 0) (A1 1)) A3))) (en ns w h l r5' (‹bxD A›) (‹bxD B›) (‹.tuple (Nd.ds l')›) r9 (‹.tuple ((flL w h l).map Q4.d)›) (‹.tuple ((flL w h l').map Q4.d)›) none) = some ((unl w h l l').map ptD) := by
  refine (aA9 (l := List.range (w * h)) (h := fun k : Nat => PyData.int k) (f := fun k => ptD (((k % w : Nat) : Int), ((k / w : Nat) : Int))) (p := fun k => neB (Nd.sw ((k % w : Nat) : Int) ((k / w : Nat) : Int) l q0) (Nd.sw ((k % w : Nat) : Int) ((k / w : Nat) : Int) l' q0)) (r := [‹.int w›, ‹.tuple ((flL w h l).map Q4.d)›, ‹.tuple ((flL w h l').map Q4.d)›]) rfl (U5 ((t8 rfl rfl).trans mwh) (by omega)) (by rw [List.length_range]; omega) (fun k hk => ?_) (fun k hk => ?_)).trans ?_
  ·wp_walk using evD, bT4 l (List.mem_range.mp hk), bT4 l' (List.mem_range.mp hk), bJ9
  ·wp_walk using evD, am3 pw, am7 pw sw, md, dv, ptD
  ·unfold unl plc
   rw [List.filter_map, List.map_map]; rfl
 have s10 : aO9 (en ns w h l r5' (‹bxD A›) (‹bxD B›) (‹.tuple (Nd.ds l')›) r9 (‹.tuple ((flL w h l).map Q4.d)›) (‹.tuple ((flL w h l').map Q4.d)›) none) = some (.nx (en ns w h l r5' (‹bxD A›) (‹bxD B›) (‹.tuple (Nd.ds l')›) r9 (‹.tuple ((flL w h l).map Q4.d)›) (‹.tuple ((flL w h l').map Q4.d)›) (‹.list ((unl w h l l').map ptD)›))) := by
  unfold aO9 N5
  rw [c]; rfl
 have u1 : P2 [K1 w h l, .tuple [.int w, .int h, .tuple (Nd.ds l')]] = some (bxD (bb (unl w h l l'))) := aG6 S S' w1 w8 h8
 have u2 := ah7 (unl w h l l') (by
  have := List.length_filter_le (fun a : Int × Int => neB (Nd.sw a.1 a.2 l q0) (Nd.sw a.1 a.2 l' q0)) (plc w (w * h))
  rw [o9] at this
  unfold unl; omega)
 have u3 := aG6 S S w1 w8 h8
 rw [bE4] at u3
 have u4 : eqD (bxD (bb (unl w h l l'))) (bxD (bb (unl w h l l'))) = some (.bool true) := bq1 (cg6 _) (by decide)
 have u5 : isB (bxD (bb [])) .none = some (.bool true) := rfl
 have s11 : aO8 (en ns w h l r5' (‹bxD A›) (‹bxD B›) (‹.tuple (Nd.ds l')›) r9 (‹.tuple ((flL w h l).map Q4.d)›) (‹.tuple ((flL w h l').map Q4.d)›) (‹.list ((unl w h l l').map ptD)›)) = some (.rt (.bool true)) := by
  wp_walk using evD, aO8, en, u1, u2, u3, u4, u5
 unfold ci2
 rw [C4 s0, C4 s1, C4 s2, C4 s3, C4 s4, C4 s5, C4 s6, C4 s7, C4 s8, C4 s9, C4 s10]
 exact s11
end Lk60
namespace Lk60
open PySem PySem.Spec PyProof.Rows L2 G Sh
def zcs : List (Str × D) := [("ONE", (.tuple [(.int 1), (.int 1)])), ("CLEAR", (.tuple [(.tuple [(.int 0), (.int 1)]), (.tuple [(.int 0), (.int 1)]), (.tuple [(.int 0), (.int 1)]), (.tuple [(.int 0), (.int 1)])])), ("THIRD", (.tuple [(.int 1), (.int 3)]))]
def zbl : List Str := ["int", "len", "max", "min", "range", "tuple", "zip"]
def tb0 : Tab := []
def T2 : Fd := { x := "common_divisor", st := X1, ps := ["one", "other"], N := ["one", "other", "left_over"], old := true }
theorem ax8 : Bd T2 := (fun _ _ _ _ _ _ us hl => match us, hl with | [_, _], _ => rfl)
theorem ax0 : T2.okB = true := by kernel_rfl
theorem ax6 : rd tb0 zcs zbl T2 = T7 := by kernel_rfl
def tb1 : Tab := ("common_divisor", T7, 2) :: tb0
def g8 : Fd := { x := "least_form", st := ac0, ps := ["top", "under"], N := ["top", "under", "divisor"], old := true }
theorem aU1 : Bd g8 := (fun _ _ _ _ _ _ us hl => match us, hl with | [_, _], _ => rfl)
theorem aR0 : g8.okB = true := by kernel_rfl
theorem aT1 : rd tb1 zcs zbl g8 = T5 := by kernel_rfl
def tb2 : Tab := ("least_form", T5, 2) :: tb1
def i4 : Fd := { x := "is_at_most", st := ac3, ps := ["one", "other"], N := ["one", "other"], old := true }
theorem aU4 : Bd i4 := (fun _ _ _ _ _ _ us hl => match us, hl with | [_, _], _ => rfl)
theorem aR3 : i4.okB = true := by kernel_rfl
theorem aT4 : rd tb2 zcs zbl i4 = i9 := by kernel_rfl
def tb3 : Tab := ("is_at_most", i9, 2) :: tb2
def aB9 : Fd := { x := "added", st := aP7, ps := ["one", "other"], N := ["one", "other"], old := true }
theorem ce7 : Bd aB9 := (fun _ _ _ _ _ _ us hl => match us, hl with | [_, _], _ => rfl)
theorem bY8 : aB9.okB = true := by kernel_rfl
theorem cd8 : rd tb3 zcs zbl aB9 = R9 := by kernel_rfl
def tb4 : Tab := ("added", R9, 2) :: tb3
def ad0 : Fd := { x := "lessened", st := an7, ps := ["one", "other"], N := ["one", "other"], old := true }
theorem bk5 : Bd ad0 := (fun _ _ _ _ _ _ us hl => match us, hl with | [_, _], _ => rfl)
theorem bf9 : ad0.okB = true := by kernel_rfl
theorem bi6 : rd tb4 zcs zbl ad0 = Q0 := by kernel_rfl
def tb5 : Tab := ("lessened", Q0, 2) :: tb4
def aB5 : Fd := { x := "times", st := aP3, ps := ["one", "other"], N := ["one", "other"], old := true }
theorem ce3 : Bd aB5 := (fun _ _ _ _ _ _ us hl => match us, hl with | [_, _], _ => rfl)
theorem bY4 : aB5.okB = true := by kernel_rfl
theorem cd4 : rd tb5 zcs zbl aB5 = R8 := by kernel_rfl
def tb6 : Tab := ("times", R8, 2) :: tb5
def ai0 : Fd := { x := "rest_of", st := au9, ps := ["share"], N := ["share"], old := true }
theorem bB3 : Bd ai0 := (fun _ _ _ _ _ _ us hl => match us, hl with | [_], _ => rfl)
theorem bu7 : ai0.okB = true := by kernel_rfl
theorem by2 : rd tb6 zcs zbl ai0 = X9 := by kernel_rfl
def tb7 : Tab := ("rest_of", X9, 1) :: tb6
def Y7 : Fd := { x := "at_most_one", st := v9, ps := ["fraction"], N := ["fraction"], old := true }
theorem aL0 : Bd Y7 := (fun _ _ _ _ _ _ us hl => match us, hl with | [_], _ => rfl)
theorem aJ0 : Y7.okB = true := by kernel_rfl
theorem aK0 : rd tb7 zcs zbl Y7 = U4 := by kernel_rfl
def tb8 : Tab := ("at_most_one", U4, 1) :: tb7
def aj1 : Fd := { x := "kind_of", st := aw0, ps := ["node"], N := ["node"] }
theorem bC4 : Bd aj1 := (fun _ _ _ _ _ _ us hl => match us, hl with | [_], _ => rfl)
theorem bv8 : aj1.okB = true := by kernel_rfl
theorem bz3 : rd tb8 zcs zbl aj1 = ab5 := by kernel_rfl
def tb9 : Tab := ("kind_of", ab5, 1) :: tb8
def ad5 : Fd := { x := "is_layer", st := ao1, ps := ["node"], N := ["node"] }
theorem bk9 : Bd ad5 := (fun _ _ _ _ _ _ us hl => match us, hl with | [_], _ => rfl)
theorem bg3 : ad5.okB = true := by kernel_rfl
theorem bj0 : rd tb9 zcs zbl ad5 = m7 := by kernel_rfl
def co5 : Tab := ("is_layer", m7, 1) :: tb9
def ad6 : Fd := { x := "is_group", st := ao2, ps := ["node"], N := ["node"] }
theorem bl0 : Bd ad6 := (fun _ _ _ _ _ _ us hl => match us, hl with | [_], _ => rfl)
theorem bg4 : ad6.okB = true := by kernel_rfl
theorem bj1 : rd co5 zcs zbl ad6 = m8 := by kernel_rfl
def co4 : Tab := ("is_group", m8, 1) :: co5
def aj2 : Fd := { x := "is_tone", st := aw1, ps := ["node"], N := ["node"] }
theorem bC5 : Bd aj2 := (fun _ _ _ _ _ _ us hl => match us, hl with | [_], _ => rfl)
theorem bv9 : aj2.okB = true := by kernel_rfl
theorem bz4 : rd co4 zcs zbl aj2 = R1 := by kernel_rfl
def co3 : Tab := ("is_tone", R1, 1) :: co4
def p8 : Fd := { x := "manner_of", st := ag1, ps := ["node"], N := ["node"] }
theorem bb3 : Bd p8 := (fun _ _ _ _ _ _ us hl => match us, hl with | [_], _ => rfl)
theorem aW9 : p8.okB = true := by kernel_rfl
theorem aZ5 : rd co3 zcs zbl p8 = Z5 := by kernel_rfl
def co2 : Tab := ("manner_of", Z5, 1) :: co3
def ah9 : Fd := { x := "rule_of", st := au8, ps := ["tone"], N := ["tone"] }
theorem bB2 : Bd ah9 := (fun _ _ _ _ _ _ us hl => match us, hl with | [_], _ => rfl)
theorem bu6 : ah9.okB = true := by kernel_rfl
theorem by1 : rd co2 zcs zbl ah9 = ak2 := by kernel_rfl
def co1 : Tab := ("rule_of", ak2, 1) :: co2
def Y1 : Fd := { x := "strength_of", st := v3, ps := ["node"], N := ["node"] }
theorem aK4 : Bd Y1 := (fun _ _ _ _ _ _ us hl => match us, hl with | [_], _ => rfl)
theorem aI4 : Y1.okB = true := by kernel_rfl
theorem aJ4 : rd co1 zcs zbl Y1 = O2 := by kernel_rfl
def co0 : Tab := ("strength_of", O2, 1) :: co1
def ad4 : Fd := { x := "is_shown", st := ao0, ps := ["node"], N := ["node"] }
theorem bk8 : Bd ad4 := (fun _ _ _ _ _ _ us hl => match us, hl with | [_], _ => rfl)
theorem bg2 : ad4.okB = true := by kernel_rfl
theorem bi9 : rd co0 zcs zbl ad4 = V3 := by kernel_rfl
def cn9 : Tab := ("is_shown", V3, 1) :: co0
def ai2 : Fd := { x := "left_of", st := av1, ps := ["layer"], N := ["layer"] }
theorem bB5 : Bd ai2 := (fun _ _ _ _ _ _ us hl => match us, hl with | [_], _ => rfl)
theorem bu9 : ai2.okB = true := by kernel_rfl
theorem by4 : rd cn9 zcs zbl ai2 = ab0 := by kernel_rfl
def cn8 : Tab := ("left_of", ab0, 1) :: cn9
def ar5 : Fd := { x := "top_of", st := aD3, ps := ["layer"], N := ["layer"] }
theorem bS3 : Bd ar5 := (fun _ _ _ _ _ _ us hl => match us, hl with | [_], _ => rfl)
theorem bI4 : ar5.okB = true := by kernel_rfl
theorem bP6 : rd cn8 zcs zbl ar5 = ah5 := by kernel_rfl
def cn7 : Tab := ("top_of", ah5, 1) :: cn8
def ai1 : Fd := { x := "mask_of", st := av0, ps := ["layer"], N := ["layer"] }
theorem bB4 : Bd ai1 := (fun _ _ _ _ _ _ us hl => match us, hl with | [_], _ => rfl)
theorem bu8 : ai1.okB = true := by kernel_rfl
theorem by3 : rd cn7 zcs zbl ai1 = ak4 := by kernel_rfl
def cn6 : Tab := ("mask_of", ak4, 1) :: cn7
def ac9 : Fd := { x := "sheet_of", st := an6, ps := ["layer"], N := ["layer"] }
theorem bk4 : Bd ac9 := (fun _ _ _ _ _ _ us hl => match us, hl with | [_], _ => rfl)
theorem bf8 : ac9.okB = true := by kernel_rfl
theorem bi4 : rd cn6 zcs zbl ac9 = k7 := by kernel_rfl
def cn5 : Tab := ("sheet_of", k7, 1) :: cn6
def Y4 : Fd := { x := "inner_nodes", st := v6, ps := ["group"], N := ["group"] }
theorem aK7 : Bd Y4 := (fun _ _ _ _ _ _ us hl => match us, hl with | [_], _ => rfl)
theorem aI7 : Y4.okB = true := by kernel_rfl
theorem aJ7 : rd cn5 zcs zbl Y4 = P1 := by kernel_rfl
def cn4 : Tab := ("inner_nodes", P1, 1) :: cn5
def ac7 : Fd := { x := "weighted", st := an4, ps := ["spot", "share"], N := ["spot", "share"], old := true, hc := [((55, 17), [1])] }
theorem bk2 : Bd ac7 := (fun _ _ _ _ _ _ us hl => match us, hl with | [_, _], _ => rfl)
theorem bf6 : ac7.okB = true := by kernel_rfl
theorem bi2 : rd cn4 zcs zbl ac7 = k6 := by kernel_rfl
def cn3 : Tab := ("weighted", k6, 2) :: cn4
def U8 : Fd := { x := "blended_cover", st := Z9, ps := ["manner", "c", "d"], N := ["manner", "c", "d"], old := true }
theorem aA3 : Bd U8 := (fun _ _ _ _ _ _ us hl => match us, hl with | [_, _, _], _ => rfl)
theorem az8 : U8.okB = true := by kernel_rfl
theorem aA2 : rd cn3 zcs zbl U8 = U9 := by kernel_rfl
def cn2 : Tab := ("blended_cover", U9, 3) :: cn3
def T3 : Fd := { x := "blended_colour", st := X2, ps := ["manner", "c", "d", "x", "y"], N := ["manner", "c", "d", "x", "y", "through"], old := true }
theorem ax9 : Bd T3 := (fun _ _ _ _ _ _ us hl => match us, hl with | [_, _, _, _, _], _ => rfl)
theorem ax1 : T3.okB = true := by kernel_rfl
theorem ax7 : rd cn2 zcs zbl T3 = T8 := by kernel_rfl
def cn1 : Tab := ("blended_colour", T8, 5) :: cn2
def aj6 : Fd := { x := "blended", st := aw5, ps := ["manner", "above", "below"], N := ["manner", "above", "below", "c", "d", "colours"], old := true, hc := [((80, 14), [0, 3, 4])] }
theorem bC9 : Bd aj6 := (fun _ _ _ _ _ _ us hl => match us, hl with | [_, _, _], _ => rfl)
theorem bw3 : aj6.okB = true := by kernel_rfl
theorem bz8 : rd cn1 zcs zbl aj6 = j5 := by kernel_rfl
def cn0 : Tab := ("blended", j5, 3) :: cn1
def aj4 : Fd := { x := "by_rule", st := aw3, ps := ["rule", "spot"], N := ["rule", "spot", "cover", "red", "green", "blue", "mean"], old := true }
theorem bC7 : Bd aj4 := (fun _ _ _ _ _ _ us hl => match us, hl with | [_, _], _ => rfl)
theorem bw1 : aj4.okB = true := by kernel_rfl
theorem bz6 : rd cn0 zcs zbl aj4 = ak6 := by kernel_rfl
def cm9 : Tab := ("by_rule", ak6, 2) :: cn0
def aB6 : Fd := { x := "mixed", st := aP4, ps := ["strength", "new", "old"], N := ["strength", "new", "old"], old := true }
theorem ce4 : Bd aB6 := (fun _ _ _ _ _ _ us hl => match us, hl with | [_, _, _], _ => rfl)
theorem bY5 : aB6.okB = true := by kernel_rfl
theorem cd5 : rd cm9 zcs zbl aB6 = aC7 := by kernel_rfl
def cm8 : Tab := ("mixed", aC7, 3) :: cm9
def aB4 : Fd := { x := "toned", st := aP2, ps := ["rule", "spot", "strength"], N := ["rule", "spot", "strength"], old := true, hc := [((96, 17), [2])] }
theorem ce2 : Bd aB4 := (fun _ _ _ _ _ _ us hl => match us, hl with | [_, _, _], _ => rfl)
theorem bY3 : aB4.okB = true := by kernel_rfl
theorem cd3 : rd cm8 zcs zbl aB4 = au2 := by kernel_rfl
def cm7 : Tab := ("toned", au2, 3) :: cm8
def p6 : Fd := { x := "places_of", st := af9, ps := ["wide", "high"], N := ["wide", "high"], hc := [((99, 11), [0])] }
theorem bb1 : Bd p6 := (fun _ _ _ _ _ _ us hl => match us, hl with | [_, _], _ => rfl)
theorem aW7 : p6.okB = true := by kernel_rfl
theorem aZ3 : rd cm7 zcs zbl p6 = S2 := by kernel_rfl
def cm6 : Tab := ("places_of", S2, 2) :: cm7
def t7 : Fd := { x := "has_place", st := ag4, ps := ["sheet", "x", "y"], N := ["sheet", "x", "y"] }
theorem bb6 : Bd t7 := (fun _ _ _ _ _ _ us hl => match us, hl with | [_, _, _], _ => rfl)
theorem aX2 : t7.okB = true := by kernel_rfl
theorem aZ8 : rd cm6 zcs zbl t7 = V7 := by kernel_rfl
def cm5 : Tab := ("has_place", V7, 3) :: cm6
def R7 : Fd := { x := "number_of_place", st := W1, ps := ["sheet", "x", "y"], N := ["sheet", "x", "y"] }
theorem as8 : Bd R7 := (fun _ _ _ _ _ _ us hl => match us, hl with | [_, _, _], _ => rfl)
theorem aq6 : R7.okB = true := by kernel_rfl
theorem ar2 : rd cm5 zcs zbl R7 = N6 := by kernel_rfl
def cm4 : Tab := ("number_of_place", N6, 3) :: cm5
def ah8 : Fd := { x := "spot_at", st := au7, ps := ["sheet", "x", "y"], N := ["sheet", "x", "y"] }
theorem bB1 : Bd ah8 := (fun _ _ _ _ _ _ us hl => match us, hl with | [_, _, _], _ => rfl)
theorem bu5 : ah8.okB = true := by kernel_rfl
theorem by0 : rd cm4 zcs zbl ah8 = ak0 := by kernel_rfl
def cm3 : Tab := ("spot_at", ak0, 3) :: cm4
def Y3 : Fd := { x := "masked_spot", st := v5, ps := ["layer", "x", "y"], N := ["layer", "x", "y", "sheet", "mask", "spot"] }
theorem aK6 : Bd Y3 := (fun _ _ _ _ _ _ us hl => match us, hl with | [_, _, _], _ => rfl)
theorem aI6 : Y3.okB = true := by kernel_rfl
theorem aJ6 : rd cm3 zcs zbl Y3 = Z1 := by kernel_rfl
def bE9 : Tab := ("masked_spot", Z1, 3) :: cm3
def aj5 : Fd := { x := "brought", st := aw4, ps := ["node", "x", "y"], N := ["node", "x", "y", "spot"] }
theorem bC8 : Bd aj5 := (fun _ _ _ _ _ _ us hl => match us, hl with | [_, _, _], _ => rfl)
theorem bw2 : aj5.okB = true := by kernel_rfl
def Y2 : Fd := { x := "shown_above", st := v4, ps := ["node", "below", "x", "y"], N := ["node", "below", "x", "y"] }
theorem aK5 : Bd Y2 := (fun _ _ _ _ _ _ us hl => match us, hl with | [_, _, _, _], _ => rfl)
theorem aI5 : Y2.okB = true := by kernel_rfl
def ac8 : Fd := { x := "shown_by", st := an5, ps := ["nodes", "x", "y"], N := ["nodes", "x", "y", "spot", "node"] }
theorem bk3 : Bd ac8 := (fun _ _ _ _ _ _ us hl => match us, hl with | [_, _, _], _ => rfl)
theorem bf7 : ac8.okB = true := by kernel_rfl
theorem bz7 (j : Nat) : rd (("brought", V8 j, 3) :: ("shown_above", P0 j, 4) :: ("shown_by", O9 j, 3) :: bE9) zcs zbl aj5 = V8 (j + 1) := by kernel_rfl
theorem aJ5 (j : Nat) : rd (("brought", V8 j, 3) :: ("shown_above", P0 j, 4) :: ("shown_by", O9 j, 3) :: bE9) zcs zbl Y2 = P0 (j + 1) := by kernel_rfl
theorem bi3 (j : Nat) : rd (("brought", V8 j, 3) :: ("shown_above", P0 j, 4) :: ("shown_by", O9 j, 3) :: bE9) zcs zbl ac8 = O9 (j + 1) := by kernel_rfl
def cm2 : Tab := ("brought", V8 12, 3) :: ("shown_above", P0 12, 4) :: ("shown_by", O9 12, 3) :: bE9
def aj3 : Fd := { x := "flat_at", st := aw2, ps := ["picture", "x", "y"], N := ["picture", "x", "y"] }
theorem bC6 : Bd aj3 := (fun _ _ _ _ _ _ us hl => match us, hl with | [_, _, _], _ => rfl)
theorem bw0 : aj3.okB = true := by kernel_rfl
theorem bz5 : rd cm2 zcs zbl aj3 = T6 := by kernel_rfl
def cm1 : Tab := ("flat_at", T6, 3) :: cm2
def Y6 : Fd := { x := "box_between", st := v8, ps := ["left", "top", "right", "bottom"], N := ["left", "top", "right", "bottom"] }
theorem aK9 : Bd Y6 := (fun _ _ _ _ _ _ us hl => match us, hl with | [_, _, _, _], _ => rfl)
theorem aI9 : Y6.okB = true := by kernel_rfl
theorem aJ9 : rd cm1 zcs zbl Y6 = U3 := by kernel_rfl
def cm0 : Tab := ("box_between", U3, 4) :: cm1
def h9 : Fd := { x := "joined_box", st := ac2, ps := ["one", "other"], N := ["one", "other", "right", "bottom"] }
theorem aU3 : Bd h9 := (fun _ _ _ _ _ _ us hl => match us, hl with | [_, _], _ => rfl)
theorem aR2 : h9.okB = true := by kernel_rfl
theorem aT3 : rd cm0 zcs zbl h9 = Q2 := by kernel_rfl
def cl9 : Tab := ("joined_box", Q2, 2) :: cm0
def W3 : Fd := { x := "joined_boxes", st := j6, ps := ["boxes"], N := ["boxes", "joined", "box"] }
theorem aG7 : Bd W3 := (fun _ _ _ _ _ _ us hl => match us, hl with | [_], _ => rfl)
theorem aF0 : W3.okB = true := by kernel_rfl
theorem aG1 : rd cl9 zcs zbl W3 = S8 := by kernel_rfl
def cl8 : Tab := ("joined_boxes", S8, 1) :: cl9
def p5 : Fd := { x := "whole_box", st := af8, ps := ["picture"], N := ["picture"] }
theorem bb0 : Bd p5 := (fun _ _ _ _ _ _ us hl => match us, hl with | [_], _ => rfl)
theorem aW6 : p5.okB = true := by kernel_rfl
theorem aZ2 : rd cl8 zcs zbl p5 = V6 := by kernel_rfl
def cl7 : Tab := ("whole_box", V6, 1) :: cl8
def p7 : Fd := { x := "places_in", st := ag0, ps := ["box"], N := ["box"], hc := [((158, 11), [0])] }
theorem bb2 : Bd p7 := (fun _ _ _ _ _ _ us hl => match us, hl with | [_], _ => rfl)
theorem aW8 : p7.okB = true := by kernel_rfl
theorem aZ4 : rd cl7 zcs zbl p7 = u8 := by kernel_rfl
def cl6 : Tab := ("places_in", u8, 1) :: cl7
def W4 : Fd := { x := "box_of_layer", st := j7, ps := ["picture", "layer"], N := ["picture", "layer", "left", "top", "sheet", "right", "bottom"] }
theorem aG8 : Bd W4 := (fun _ _ _ _ _ _ us hl => match us, hl with | [_, _], _ => rfl)
theorem aF1 : W4.okB = true := by kernel_rfl
theorem aG2 : rd cl6 zcs zbl W4 = W7 := by kernel_rfl
def cl5 : Tab := ("box_of_layer", W7, 2) :: cl6
def as5 : Fd := { x := "box_of", st := aE3, ps := ["picture", "node"], N := ["picture", "node"], hc := [((172, 28), [0])] }
theorem bT3 : Bd as5 := (fun _ _ _ _ _ _ us hl => match us, hl with | [_, _], _ => rfl)
theorem bJ4 : as5.okB = true := by kernel_rfl
theorem bQ7 (j : Nat) : rd (("box_of", Q8 j, 2) :: cl5) zcs zbl as5 = Q8 (j + 1) := by kernel_rfl
def cl4 : Tab := ("box_of", Q8 12, 2) :: cl5
def Y5 : Fd := { x := "changed_box", st := v7, ps := ["one", "other"], N := ["one", "other", "places"], hc := [((176, 24), [0, 1])] }
theorem aK8 : Bd Y5 := (fun _ _ _ _ _ _ us hl => match us, hl with | [_, _], _ => rfl)
theorem aI8 : Y5.okB = true := by kernel_rfl
theorem aJ8 : rd cl4 zcs zbl Y5 = P2 := by kernel_rfl
def cl3 : Tab := ("changed_box", P2, 2) :: cl4
def as4 : Fd := { x := "_law_cell", st := aE2, ps := ["_law_script", "_law_k"], N := ["_law_script", "_law_k"], old := true }
theorem bT2 : Bd as4 := (fun _ _ _ _ _ _ us hl => match us, hl with | [_, _], _ => rfl)
theorem bJ3 : as4.okB = true := by kernel_rfl
theorem bQ5 : rd cl3 zcs zbl as4 = au3 := by kernel_rfl
def cl2 : Tab := ("_law_cell", au3, 2) :: cl3
def ai9 : Fd := { x := "_law_drawn", st := av8, ps := ["_law_script", "_law_k", "_law_many"], N := ["_law_script", "_law_k", "_law_many", "_law_cell_here"], old := true }
theorem bC2 : Bd ai9 := (fun _ _ _ _ _ _ us hl => match us, hl with | [_, _, _], _ => rfl)
theorem bv6 : ai9.okB = true := by kernel_rfl
theorem bz1 : rd cl2 zcs zbl ai9 = A7 := by kernel_rfl
def cl1 : Tab := ("_law_drawn", A7, 3) :: cl2
def as1 : Fd := { x := "_law_made", st := aD9, ps := ["_law_top", "_law_under"], N := ["_law_top", "_law_under", "_law_one", "_law_by"], old := true }
theorem bS9 : Bd as1 := (fun _ _ _ _ _ _ us hl => match us, hl with | [_, _], _ => rfl)
theorem bJ0 : as1.okB = true := by kernel_rfl
theorem bQ2 : rd cl1 zcs zbl as1 = S5 := by kernel_rfl
def cl0 : Tab := ("_law_made", S5, 2) :: cl1
def as0 : Fd := { x := "_law_plus", st := aD8, ps := ["_law_one", "_law_other"], N := ["_law_one", "_law_other"], old := true }
theorem bS8 : Bd as0 := (fun _ _ _ _ _ _ us hl => match us, hl with | [_, _], _ => rfl)
theorem bI9 : as0.okB = true := by kernel_rfl
theorem bQ1 : rd cl0 zcs zbl as0 = J0 := by kernel_rfl
def ck9 : Tab := ("_law_plus", J0, 2) :: cl0
def ai3 : Fd := { x := "_law_times", st := av2, ps := ["_law_one", "_law_other"], N := ["_law_one", "_law_other"], old := true }
theorem bB6 : Bd ai3 := (fun _ _ _ _ _ _ us hl => match us, hl with | [_, _], _ => rfl)
theorem bv0 : ai3.okB = true := by kernel_rfl
theorem by5 : rd ck9 zcs zbl ai3 = D5 := by kernel_rfl
def ck8 : Tab := ("_law_times", D5, 2) :: ck9
def ar9 : Fd := { x := "_law_rest", st := aD7, ps := ["_law_one"], N := ["_law_one"], old := true }
theorem bS7 : Bd ar9 := (fun _ _ _ _ _ _ us hl => match us, hl with | [_], _ => rfl)
theorem bI8 : ar9.okB = true := by kernel_rfl
theorem bQ0 : rd ck8 zcs zbl ar9 = S3 := by kernel_rfl
def ck7 : Tab := ("_law_rest", S3, 1) :: ck8
def ai6 : Fd := { x := "_law_share", st := av5, ps := ["_law_script", "_law_at"], N := ["_law_script", "_law_at", "_law_under", "_law_drawn_here"], old := true }
theorem bB9 : Bd ai6 := (fun _ _ _ _ _ _ us hl => match us, hl with | [_, _], _ => rfl)
theorem bv3 : ai6.okB = true := by kernel_rfl
theorem by8 : rd ck7 zcs zbl ai6 = O3 := by kernel_rfl
def ck6 : Tab := ("_law_share", O3, 2) :: ck7
def ar8 : Fd := { x := "_law_spot", st := aD6, ps := ["_law_script", "_law_at"], N := ["_law_script", "_law_at", "_law_cover"], old := true, hc := [((204, 33), [2, 0, 1])] }
theorem bS6 : Bd ar8 := (fun _ _ _ _ _ _ us hl => match us, hl with | [_, _], _ => rfl)
theorem bI7 : ar8.okB = true := by kernel_rfl
theorem bP9 : rd ck6 zcs zbl ar8 = k8 := by kernel_rfl
def ck5 : Tab := ("_law_spot", k8, 2) :: ck6
def ai5 : Fd := { x := "_law_sheet", st := av4, ps := ["_law_script", "_law_at", "_law_wide", "_law_high"], N := ["_law_script", "_law_at", "_law_wide", "_law_high", "_law_spots"], hc := [((206, 17), [0, 1])] }
theorem bB8 : Bd ai5 := (fun _ _ _ _ _ _ us hl => match us, hl with | [_, _, _, _], _ => rfl)
theorem bv2 : ai5.okB = true := by kernel_rfl
theorem by7 : rd ck5 zcs zbl ai5 = ab2 := by kernel_rfl
def ck4 : Tab := ("_law_sheet", ab2, 4) :: ck5
def aj0 : Fd := { x := "_law_blend", st := av9, ps := ["_law_manner", "_law_above", "_law_below"], N := ["_law_manner", "_law_above", "_law_below", "_law_c", "_law_d", "_law_left", "_law_cover", "_law_found", "_law_x", "_law_y", "_law_kept"], own := [7], old := true, fz := [(235, [7])] }
theorem bC3 : Bd aj0 := (fun _ _ _ _ _ _ us hl => match us, hl with | [_, _, _], _ => rfl)
theorem bv7 : aj0.okB = true := by kernel_rfl
theorem bz2 : rd ck4 zcs zbl aj0 = Y0 := by kernel_rfl
def ck3 : Tab := ("_law_blend", Y0, 3) :: ck4
def ar7 : Fd := { x := "_law_tone", st := aD5, ps := ["_law_rule", "_law_spot_here", "_law_strength"], N := ["_law_rule", "_law_spot_here", "_law_strength", "_law_cover", "_law_red", "_law_green", "_law_blue", "_law_third", "_law_ruled", "_law_left"], old := true, hc := [((241, 43), [3]), ((245, 17), [2, 9])] }
theorem bS5 : Bd ar7 := (fun _ _ _ _ _ _ us hl => match us, hl with | [_, _, _], _ => rfl)
theorem bI6 : ar7.okB = true := by kernel_rfl
theorem bP8 : rd ck3 zcs zbl ar7 = ab1 := by kernel_rfl
def ck2 : Tab := ("_law_tone", ab1, 3) :: ck3
def ai8 : Fd := { x := "_law_names", st := av7, ps := ["_law_script", "_law_at", "_law_many"], N := ["_law_script", "_law_at", "_law_many", "_law_is_first", "_law_found", "_law_k", "_law_word"], own := [4], tx := [6], fz := [(253, [4])], hc := [((250, 28), [0, 1, 5])] }
theorem bC1 : Bd ai8 := (fun _ _ _ _ _ _ us hl => match us, hl with | [_, _, _], _ => rfl)
theorem bv5 : ai8.okB = true := by kernel_rfl
theorem bz0 : rd ck2 zcs zbl ai8 = ab3 := by kernel_rfl
def ck1 : Tab := ("_law_names", ab3, 3) :: ck2
def as2 : Fd := { x := "_law_leaf", st := aE0, ps := ["_law_script", "_law_at", "_law_name", "_law_main"], N := ["_law_script", "_law_at", "_law_name", "_law_main", "_law_strength", "_law_is_shown", "_law_manner", "_law_wide", "_law_high", "_law_mask", "_law_left", "_law_top", "_law_sheet_here"], hc := [((266, 26), [0, 1])] }
theorem bT0 : Bd as2 := (fun _ _ _ _ _ _ us hl => match us, hl with | [_, _, _, _], _ => rfl)
theorem bJ1 : as2.okB = true := by kernel_rfl
theorem bQ3 : rd ck1 zcs zbl as2 = W6 := by kernel_rfl
def ck0 : Tab := ("_law_leaf", W6, 4) :: ck1
def ai7 : Fd := { x := "_law_nodes", st := av6, ps := ["_law_script", "_law_at", "_law_most", "_law_names_here"], N := ["_law_script", "_law_at", "_law_most", "_law_names_here", "_law_main", "_law_many", "_law_found", "_law_k", "_law_first", "_law_last", "_law_strength", "_law_manner", "_law_group"], own := [6], hc := [((276, 17), [0, 4, 3, 1])] }
theorem bC0 : Bd ai7 := (fun _ _ _ _ _ _ us hl => match us, hl with | [_, _, _, _], _ => rfl)
theorem bv4 : ai7.okB = true := by kernel_rfl
theorem by9 : rd ck0 zcs zbl ai7 = ak5 := by kernel_rfl
def cj9 : Tab := ("_law_nodes", ak5, 4) :: ck0
def p9 : Fd := { x := "_law_picture", st := ag2, ps := ["_law_script", "_law_at", "_law_most", "_law_names_here"], N := ["_law_script", "_law_at", "_law_most", "_law_names_here", "_law_wide", "_law_high"] }
theorem bb4 : Bd p9 := (fun _ _ _ _ _ _ us hl => match us, hl with | [_, _, _, _], _ => rfl)
theorem aX0 : p9.okB = true := by kernel_rfl
theorem aZ6 : rd cj9 zcs zbl p9 = Z6 := by kernel_rfl
def bU8 : Tab := ("_law_picture", Z6, 4) :: cj9
def t5 : Fd := { x := "_law_brought", st := ag3, ps := ["_law_node", "_law_x", "_law_y"], N := ["_law_node", "_law_x", "_law_y", "_law_wide", "_law_high", "_law_spots", "_law_across", "_law_down", "_law_share_here"], hc := [((291, 21), [0]), ((300, 17), [8])] }
theorem bb5 : Bd t5 := (fun _ _ _ _ _ _ us hl => match us, hl with | [_, _, _], _ => rfl)
theorem aX1 : t5.okB = true := by kernel_rfl
def ai4 : Fd := { x := "_law_shown", st := av3, ps := ["_law_nodes_here", "_law_x", "_law_y"], N := ["_law_nodes_here", "_law_x", "_law_y", "_law_found", "_law_node"] }
theorem bB7 : Bd ai4 := (fun _ _ _ _ _ _ us hl => match us, hl with | [_, _, _], _ => rfl)
theorem bv1 : ai4.okB = true := by kernel_rfl
theorem aZ7 (j : Nat) : rd (("_law_brought", S7 j, 3) :: ("_law_shown", P7 j, 3) :: bU8) zcs zbl t5 = S7 (j + 1) := by kernel_rfl
theorem by6 (j : Nat) : rd (("_law_brought", S7 j, 3) :: ("_law_shown", P7 j, 3) :: bU8) zcs zbl ai4 = P7 (j + 1) := by kernel_rfl
def cj8 : Tab := ("_law_brought", S7 12, 3) :: ("_law_shown", P7 12, 3) :: bU8
def as3 : Fd := { x := "_law_flat", st := aE1, ps := ["_law_picture_here"], N := ["_law_picture_here", "_law_wide", "_law_high", "_law_nodes_here"], hc := [((311, 40), [3, 1])] }
theorem bT1 : Bd as3 := (fun _ _ _ _ _ _ us hl => match us, hl with | [_], _ => rfl)
theorem bJ2 : as3.okB = true := by kernel_rfl
theorem bQ4 : rd cj8 zcs zbl as3 = ab4 := by kernel_rfl
def cj7 : Tab := ("_law_flat", ab4, 1) :: cj8
def aB8 : Fd := { x := "_law_all", st := aP6, ps := ["_law_nodes_here"], N := ["_law_nodes_here", "_law_found", "_law_node"], own := [1], fz := [(318, [1])] }
theorem ce6 : Bd aB8 := (fun _ _ _ _ _ _ us hl => match us, hl with | [_], _ => rfl)
theorem bY7 : aB8.okB = true := by kernel_rfl
theorem cd7 (j : Nat) : rd (("_law_all", N7 j, 1) :: cj7) zcs zbl aB8 = N7 (j + 1) := by kernel_rfl
def cj6 : Tab := ("_law_all", N7 12, 1) :: cj7
def ar6 : Fd := { x := "_law_with", st := aD4, ps := ["_law_nodes_here", "_law_name", "_law_others"], N := ["_law_nodes_here", "_law_name", "_law_others", "_law_found", "_law_node"], own := [3] }
theorem bS4 : Bd ar6 := (fun _ _ _ _ _ _ us hl => match us, hl with | [_, _, _], _ => rfl)
theorem bI5 : ar6.okB = true := by kernel_rfl
theorem bP7 (j : Nat) : rd (("_law_with", Q7 j, 3) :: cj6) zcs zbl ar6 = Q7 (j + 1) := by kernel_rfl
def cj5 : Tab := ("_law_with", Q7 12, 3) :: cj6
def ad3 : Fd := { x := "_law_joined", st := an9, ps := ["_law_some"], N := ["_law_some", "_law_across", "_law_down", "_law_left", "_law_top"] }
theorem bk7 : Bd ad3 := (fun _ _ _ _ _ _ us hl => match us, hl with | [_], _ => rfl)
theorem bg1 : ad3.okB = true := by kernel_rfl
theorem bi8 : rd cj5 zcs zbl ad3 = S6 := by kernel_rfl
def cj4 : Tab := ("_law_joined", S6, 1) :: cj5
def ad2 : Fd := { x := "_law_places", st := an8, ps := ["_law_box_here"], N := ["_law_box_here"], hc := [((340, 11), [0])] }
theorem bk6 : Bd ad2 := (fun _ _ _ _ _ _ us hl => match us, hl with | [_], _ => rfl)
theorem bg0 : ad2.okB = true := by kernel_rfl
theorem bi7 : rd cj4 zcs zbl ad2 = S4 := by kernel_rfl
def cj3 : Tab := ("_law_places", S4, 1) :: cj4
def aB7 : Fd := { x := "_law_box", st := aP5, ps := ["_law_picture_here", "_law_node"], N := ["_law_picture_here", "_law_node", "_law_wide", "_law_high", "_law_nodes_here", "_law_whole", "_law_some", "_law_one", "_law_left", "_law_top"], hc := [((343, 17), [2]), ((355, 16), [8, 1]), ((356, 23), [9, 1])] }
theorem ce5 : Bd aB7 := (fun _ _ _ _ _ _ us hl => match us, hl with | [_, _], _ => rfl)
theorem bY6 : aB7.okB = true := by kernel_rfl
theorem cd6 (j : Nat) : rd (("_law_box", O8 j, 2) :: cj3) zcs zbl aB7 = O8 (j + 1) := by kernel_rfl
def cj2 : Tab := ("_law_box", O8 12, 2) :: cj3
def g9 : Fd := { x := "_law_some_box", st := ac1, ps := ["_law_script", "_law_at"], N := ["_law_script", "_law_at"], hc := [((360, 17), [0, 1])] }
theorem aU2 : Bd g9 := (fun _ _ _ _ _ _ us hl => match us, hl with | [_, _], _ => rfl)
theorem aR1 : g9.okB = true := by kernel_rfl
theorem aT2 : rd cj2 zcs zbl g9 = Q1 := by kernel_rfl
def cj1 : Tab := ("_law_some_box", Q1, 2) :: cj2
def bq3 : Fd := { x := "law", st := cf4, ps := ["_law_script"], N := ["_law_script", "_law_picture_here", "_law_wide", "_law_high", "_law_nodes_here", "_law_node", "_law_one", "_law_other", "_law_made_here", "_law_others", "_law_here", "_law_there", "_law_unlike"], hc := [((378, 18), [2, 10, 11])] }
theorem cI9 : Bd bq3 := (fun _ _ _ _ _ _ us hl => match us, hl with | [_], _ => rfl)
theorem cG1 : bq3.okB = true := by kernel_rfl
theorem cI2 : rd cj1 zcs zbl bq3 = br8 := by kernel_rfl
theorem cJ6 {P : Program} {w : World} {K : PySem.W.Frag} {mg : Str → Option Value} (M : Md K mg zcs zbl) (h_common_divisor : KF K "common_divisor" X1) (h_least_form : KF K "least_form" ac0) (h_is_at_most : KF K "is_at_most" ac3) (h_added : KF K "added" aP7) (h_lessened : KF K "lessened" an7) (h_times : KF K "times" aP3) (h_rest_of : KF K "rest_of" au9) (h_at_most_one : KF K "at_most_one" v9) (h_kind_of : KF K "kind_of" aw0) (h_is_layer : KF K "is_layer" ao1) (h_is_group : KF K "is_group" ao2) (h_is_tone : KF K "is_tone" aw1) (h_manner_of : KF K "manner_of" ag1) (h_rule_of : KF K "rule_of" au8) (h_strength_of : KF K "strength_of" v3) (h_is_shown : KF K "is_shown" ao0) (h_left_of : KF K "left_of" av1) (h_top_of : KF K "top_of" aD3) (h_mask_of : KF K "mask_of" av0) (h_sheet_of : KF K "sheet_of" an6) (h_inner_nodes : KF K "inner_nodes" v6) (h_weighted : KF K "weighted" an4) (h_blended_cover : KF K "blended_cover" Z9) (h_blended_colour : KF K "blended_colour" X2) (h_blended : KF K "blended" aw5) (h_by_rule : KF K "by_rule" aw3) (h_mixed : KF K "mixed" aP4) (h_toned : KF K "toned" aP2) (h_places_of : KF K "places_of" af9) (h_has_place : KF K "has_place" ag4) (h_number_of_place : KF K "number_of_place" W1) (h_spot_at : KF K "spot_at" au7) (h_masked_spot : KF K "masked_spot" v5) (h_brought : KF K "brought" aw4) (h_shown_above : KF K "shown_above" v4) (h_shown_by : KF K "shown_by" an5) (h_flat_at : KF K "flat_at" aw2) (h_box_between : KF K "box_between" v8) (h_joined_box : KF K "joined_box" ac2) (h_joined_boxes : KF K "joined_boxes" j6) (h_whole_box : KF K "whole_box" af8) (h_places_in : KF K "places_in" ag0) (h_box_of_layer : KF K "box_of_layer" j7) (h_box_of : KF K "box_of" aE3) (h_changed_box : KF K "changed_box" v7) (h_l_cell : KF K "_law_cell" aE2) (h_l_drawn : KF K "_law_drawn" av8) (h_l_made : KF K "_law_made" aD9) (h_l_plus : KF K "_law_plus" aD8) (h_l_times : KF K "_law_times" av2) (h_l_rest : KF K "_law_rest" aD7) (h_l_share : KF K "_law_share" av5) (h_l_spot : KF K "_law_spot" aD6) (h_l_sheet : KF K "_law_sheet" av4) (h_l_blend : KF K "_law_blend" av9) (h_l_tone : KF K "_law_tone" aD5) (h_l_names : KF K "_law_names" av7) (h_l_leaf : KF K "_law_leaf" aE0) (h_l_nodes : KF K "_law_nodes" av6) (h_l_picture : KF K "_law_picture" ag2) (h_l_brought : KF K "_law_brought" ag3) (h_l_shown : KF K "_law_shown" av3) (h_l_flat : KF K "_law_flat" aE1) (h_l_all : KF K "_law_all" aP6) (h_l_with : KF K "_law_with" aD4) (h_l_joined : KF K "_law_joined" an9) (h_l_places : KF K "_law_places" an8) (h_l_box : KF K "_law_box" aP5) (h_l_some_box : KF K "_law_some_box" ac1) (base : Heap) : TOk P w K mg base 132 cj1 := by
 have t : TOk P w K mg base 0 tb0 := TOk.nil
 have t : TOk P w K mg base 1 tb1 := t.add M T2 h_common_divisor ax8 ax0 rfl ax6
 have t : TOk P w K mg base 2 tb2 := t.add M g8 h_least_form aU1 aR0 rfl aT1
 have t : TOk P w K mg base 3 tb3 := t.add M i4 h_is_at_most aU4 aR3 rfl aT4
 have t : TOk P w K mg base 4 tb4 := t.add M aB9 h_added ce7 bY8 rfl cd8
 have t : TOk P w K mg base 5 tb5 := t.add M ad0 h_lessened bk5 bf9 rfl bi6
 have t : TOk P w K mg base 6 tb6 := t.add M aB5 h_times ce3 bY4 rfl cd4
 have t : TOk P w K mg base 7 tb7 := t.add M ai0 h_rest_of bB3 bu7 rfl by2
 have t : TOk P w K mg base 8 tb8 := t.add M Y7 h_at_most_one aL0 aJ0 rfl aK0
 have t : TOk P w K mg base 9 tb9 := t.add M aj1 h_kind_of bC4 bv8 rfl bz3
 have t : TOk P w K mg base 10 co5 := t.add M ad5 h_is_layer bk9 bg3 rfl bj0
 have t : TOk P w K mg base 11 co4 := t.add M ad6 h_is_group bl0 bg4 rfl bj1
 have t : TOk P w K mg base 12 co3 := t.add M aj2 h_is_tone bC5 bv9 rfl bz4
 have t : TOk P w K mg base 13 co2 := t.add M p8 h_manner_of bb3 aW9 rfl aZ5
 have t : TOk P w K mg base 14 co1 := t.add M ah9 h_rule_of bB2 bu6 rfl by1
 have t : TOk P w K mg base 15 co0 := t.add M Y1 h_strength_of aK4 aI4 rfl aJ4
 have t : TOk P w K mg base 16 cn9 := t.add M ad4 h_is_shown bk8 bg2 rfl bi9
 have t : TOk P w K mg base 17 cn8 := t.add M ai2 h_left_of bB5 bu9 rfl by4
 have t : TOk P w K mg base 18 cn7 := t.add M ar5 h_top_of bS3 bI4 rfl bP6
 have t : TOk P w K mg base 19 cn6 := t.add M ai1 h_mask_of bB4 bu8 rfl by3
 have t : TOk P w K mg base 20 cn5 := t.add M ac9 h_sheet_of bk4 bf8 rfl bi4
 have t : TOk P w K mg base 21 cn4 := t.add M Y4 h_inner_nodes aK7 aI7 rfl aJ7
 have t : TOk P w K mg base 22 cn3 := t.add M ac7 h_weighted bk2 bf6 rfl bi2
 have t : TOk P w K mg base 23 cn2 := t.add M U8 h_blended_cover aA3 az8 rfl aA2
 have t : TOk P w K mg base 24 cn1 := t.add M T3 h_blended_colour ax9 ax1 rfl ax7
 have t : TOk P w K mg base 25 cn0 := t.add M aj6 h_blended bC9 bw3 rfl bz8
 have t : TOk P w K mg base 26 cm9 := t.add M aj4 h_by_rule bC7 bw1 rfl bz6
 have t : TOk P w K mg base 27 cm8 := t.add M aB6 h_mixed ce4 bY5 rfl cd5
 have t : TOk P w K mg base 28 cm7 := t.add M aB4 h_toned ce2 bY3 rfl cd3
 have t : TOk P w K mg base 29 cm6 := t.add M p6 h_places_of bb1 aW7 rfl aZ3
 have t : TOk P w K mg base 30 cm5 := t.add M t7 h_has_place bb6 aX2 rfl aZ8
 have t : TOk P w K mg base 31 cm4 := t.add M R7 h_number_of_place as8 aq6 rfl ar2
 have t : TOk P w K mg base 32 cm3 := t.add M ah8 h_spot_at bB1 bu5 rfl by0
 have t : TOk P w K mg base 33 bE9 := t.add M Y3 h_masked_spot aK6 aI6 rfl aJ6
 have t : TOk P w K mg base 45 cm2 := TOk.rec3 (F1 := V8) (F2 := P0) (F3 := O9) t M aj5 Y2 ac8 h_brought h_shown_above h_shown_by bC8 aK5 bk3 bw2 aI5 bf7 rfl rfl rfl rfl rfl rfl bz7 aJ5 bi3 12
 have t : TOk P w K mg base 46 cm1 := t.add M aj3 h_flat_at bC6 bw0 rfl bz5
 have t : TOk P w K mg base 47 cm0 := t.add M Y6 h_box_between aK9 aI9 rfl aJ9
 have t : TOk P w K mg base 48 cl9 := t.add M h9 h_joined_box aU3 aR2 rfl aT3
 have t : TOk P w K mg base 49 cl8 := t.add M W3 h_joined_boxes aG7 aF0 rfl aG1
 have t : TOk P w K mg base 50 cl7 := t.add M p5 h_whole_box bb0 aW6 rfl aZ2
 have t : TOk P w K mg base 51 cl6 := t.add M p7 h_places_in bb2 aW8 rfl aZ4
 have t : TOk P w K mg base 52 cl5 := t.add M W4 h_box_of_layer aG8 aF1 rfl aG2
 have t : TOk P w K mg base 64 cl4 := TOk.rec (F := Q8) t M as5 h_box_of bT3 bJ4 rfl rfl bQ7 12
 have t : TOk P w K mg base 65 cl3 := t.add M Y5 h_changed_box aK8 aI8 rfl aJ8
 have t : TOk P w K mg base 66 cl2 := t.add M as4 h_l_cell bT2 bJ3 rfl bQ5
 have t : TOk P w K mg base 67 cl1 := t.add M ai9 h_l_drawn bC2 bv6 rfl bz1
 have t : TOk P w K mg base 68 cl0 := t.add M as1 h_l_made bS9 bJ0 rfl bQ2
 have t : TOk P w K mg base 69 ck9 := t.add M as0 h_l_plus bS8 bI9 rfl bQ1
 have t : TOk P w K mg base 70 ck8 := t.add M ai3 h_l_times bB6 bv0 rfl by5
 have t : TOk P w K mg base 71 ck7 := t.add M ar9 h_l_rest bS7 bI8 rfl bQ0
 have t : TOk P w K mg base 72 ck6 := t.add M ai6 h_l_share bB9 bv3 rfl by8
 have t : TOk P w K mg base 73 ck5 := t.add M ar8 h_l_spot bS6 bI7 rfl bP9
 have t : TOk P w K mg base 74 ck4 := t.add M ai5 h_l_sheet bB8 bv2 rfl by7
 have t : TOk P w K mg base 75 ck3 := t.add M aj0 h_l_blend bC3 bv7 rfl bz2
 have t : TOk P w K mg base 76 ck2 := t.add M ar7 h_l_tone bS5 bI6 rfl bP8
 have t : TOk P w K mg base 77 ck1 := t.add M ai8 h_l_names bC1 bv5 rfl bz0
 have t : TOk P w K mg base 78 ck0 := t.add M as2 h_l_leaf bT0 bJ1 rfl bQ3
 have t : TOk P w K mg base 79 cj9 := t.add M ai7 h_l_nodes bC0 bv4 rfl by9
 have t : TOk P w K mg base 80 bU8 := t.add M p9 h_l_picture bb4 aX0 rfl aZ6
 have t : TOk P w K mg base 92 cj8 := TOk.rec2 (F := S7) (G := P7) t M t5 ai4 h_l_brought h_l_shown bb5 bB7 aX1 bv1 rfl rfl rfl rfl aZ7 by6 12
 have t : TOk P w K mg base 93 cj7 := t.add M as3 h_l_flat bT1 bJ2 rfl bQ4
 have t : TOk P w K mg base 105 cj6 := TOk.rec (F := N7) t M aB8 h_l_all ce6 bY7 rfl rfl cd7 12
 have t : TOk P w K mg base 117 cj5 := TOk.rec (F := Q7) t M ar6 h_l_with bS4 bI5 rfl rfl bP7 12
 have t : TOk P w K mg base 118 cj4 := t.add M ad3 h_l_joined bk7 bg1 rfl bi8
 have t : TOk P w K mg base 119 cj3 := t.add M ad2 h_l_places bk6 bg0 rfl bi7
 have t : TOk P w K mg base 131 cj2 := TOk.rec (F := O8) t M aB7 h_l_box ce5 bY6 rfl rfl cd6 12
 have t : TOk P w K mg base 132 cj1 := t.add M g9 h_l_some_box aU2 aR1 rfl aT2
 exact t
theorem zmd {K : PySem.W.Frag} {h : Heap} {mg : Str → Option Value} {q0 q1t0 q1t1 q1t2 q1t3 q1 q2 : Addr} {e0 e1t0 e1t1 e1t2 e1t3 e1 e2 : Option Addr} {y0 y1t0 y1t1 y1t2 y1t3 y1 y2 : Array (Option Value)} {g0t0 g0t1 g1t0t0 g1t0t1 g1t1t0 g1t1t1 g1t2t0 g1t2t1 g1t3t0 g1t3t1 g2t0 g2t1 : Tok} {n0 n1t0 n1t1 n1t2 n1t3 n1 n2 : Nat} (X : K.In h) (G : h.Ns mainGlobals mg) (p0 : PySem.W.nsIn K mainGlobals "ONE" = some (some (.ref q0))) (r0 : K.lookup q0 = some ⟨.type "tuple", e0, .seq #[.int 1 g0t0, .int 1 g0t1] n0, y0⟩) (p1 : PySem.W.nsIn K mainGlobals "CLEAR" = some (some (.ref q1))) (r1 : K.lookup q1 = some ⟨.type "tuple", e1, .seq #[.ref q1t0, .ref q1t1, .ref q1t2, .ref q1t3] n1, y1⟩) (r1t3 : K.lookup q1t3 = some ⟨.type "tuple", e1t3, .seq #[.int 0 g1t3t0, .int 1 g1t3t1] n1t3, y1t3⟩) (r1t2 : K.lookup q1t2 = some ⟨.type "tuple", e1t2, .seq #[.int 0 g1t2t0, .int 1 g1t2t1] n1t2, y1t2⟩) (r1t1 : K.lookup q1t1 = some ⟨.type "tuple", e1t1, .seq #[.int 0 g1t1t0, .int 1 g1t1t1] n1t1, y1t1⟩) (r1t0 : K.lookup q1t0 = some ⟨.type "tuple", e1t0, .seq #[.int 0 g1t0t0, .int 1 g1t0t1] n1t0, y1t0⟩) (p2 : PySem.W.nsIn K mainGlobals "THIRD" = some (some (.ref q2))) (r2 : K.lookup q2 = some ⟨.type "tuple", e2, .seq #[.int 1 g2t0, .int 3 g2t1] n2, y2⟩) (z0 : PySem.W.nsIn K mainGlobals "int" = some none) (z1 : PySem.W.nsIn K mainGlobals "len" = some none) (z2 : PySem.W.nsIn K mainGlobals "max" = some none) (z3 : PySem.W.nsIn K mainGlobals "min" = some none) (z4 : PySem.W.nsIn K mainGlobals "range" = some none) (z5 : PySem.W.nsIn K mainGlobals "tuple" = some none) (z6 : PySem.W.nsIn K mainGlobals "zip" = some none) : Md K mg zcs zbl := by
 refine ⟨fun x v e => PySem.W.mg_of X G e, fun x d e => ?_, fun x e => ?_⟩
 ·unfold zcs at e
  rw [List.lookup_cons] at e
  split at e
  ·rename_i q; cases e; simp only [beq_iff_eq] at q; subst q; exact ⟨_, (j8 r0 rfl rfl (by show 2 ≤ 1000; decide) (L9 (Q6 1 g0t0) (L9 (Q6 1 g0t1) X5))), PySem.W.mg_of X G p0⟩
  rw [List.lookup_cons] at e
  split at e
  ·rename_i q; cases e; simp only [beq_iff_eq] at q; subst q; exact ⟨_, (j8 r1 rfl rfl (by show 4 ≤ 1000; decide) (L9 (j8 r1t0 rfl rfl (by show 2 ≤ 1000; decide) (L9 (Q6 0 g1t0t0) (L9 (Q6 1 g1t0t1) X5))) (L9 (j8 r1t1 rfl rfl (by show 2 ≤ 1000; decide) (L9 (Q6 0 g1t1t0) (L9 (Q6 1 g1t1t1) X5))) (L9 (j8 r1t2 rfl rfl (by show 2 ≤ 1000; decide) (L9 (Q6 0 g1t2t0) (L9 (Q6 1 g1t2t1) X5))) (L9 (j8 r1t3 rfl rfl (by show 2 ≤ 1000; decide) (L9 (Q6 0 g1t3t0) (L9 (Q6 1 g1t3t1) X5))) X5))))), PySem.W.mg_of X G p1⟩
  rw [List.lookup_cons] at e
  split at e
  ·rename_i q; cases e; simp only [beq_iff_eq] at q; subst q; exact ⟨_, (j8 r2 rfl rfl (by show 2 ≤ 1000; decide) (L9 (Q6 1 g2t0) (L9 (Q6 3 g2t1) X5))), PySem.W.mg_of X G p2⟩
  cases e
 ·unfold zbl at e
  simp only [List.contains_cons, List.contains_nil, Bool.or_false, Bool.or_eq_true, beq_iff_eq] at e
  rcases e with e | e | e | e | e | e | e
  ·subst e; exact PySem.W.mg_none_of X G z0
  ·subst e; exact PySem.W.mg_none_of X G z1
  ·subst e; exact PySem.W.mg_none_of X G z2
  ·subst e; exact PySem.W.mg_none_of X G z3
  ·subst e; exact PySem.W.mg_none_of X G z4
  ·subst e; exact PySem.W.mg_none_of X G z5
  ·subst e; exact PySem.W.mg_none_of X G z6
theorem cB7 {l : PySem.W.OpenLaw} {q : Program} {loose : List Str} {XP : (Str → Option Value) → Heap → Prop} {YP : World → Heap → Prop} {d : DefRec} {K : Params → PySem.W.Frag} (hn : l.most = some 63) (hdf : d.params.defaults = [])
  (hY : ∀ (w : World) (h : Heap), YP w h → (K w.params).In h) (hd : d.name = "law")
  (F : ∀ (w : World) (mg : Str → Option Value) (h : Heap), (K w.params).In h → h.Ns mainGlobals mg → Md (K w.params) mg zcs zbl)
  (Q : ∀ w : World, KF (K w.params) "common_divisor" X1 ∧ KF (K w.params) "least_form" ac0 ∧ KF (K w.params) "is_at_most" ac3 ∧ KF (K w.params) "added" aP7 ∧ KF (K w.params) "lessened" an7 ∧ KF (K w.params) "times" aP3 ∧ KF (K w.params) "rest_of" au9 ∧ KF (K w.params) "at_most_one" v9 ∧ KF (K w.params) "kind_of" aw0 ∧ KF (K w.params) "is_layer" ao1 ∧ KF (K w.params) "is_group" ao2 ∧ KF (K w.params) "is_tone" aw1 ∧ KF (K w.params) "manner_of" ag1 ∧ KF (K w.params) "rule_of" au8 ∧ KF (K w.params) "strength_of" v3 ∧ KF (K w.params) "is_shown" ao0 ∧ KF (K w.params) "left_of" av1 ∧ KF (K w.params) "top_of" aD3 ∧ KF (K w.params) "mask_of" av0 ∧ KF (K w.params) "sheet_of" an6 ∧ KF (K w.params) "inner_nodes" v6 ∧ KF (K w.params) "weighted" an4 ∧ KF (K w.params) "blended_cover" Z9 ∧ KF (K w.params) "blended_colour" X2 ∧ KF (K w.params) "blended" aw5 ∧ KF (K w.params) "by_rule" aw3 ∧ KF (K w.params) "mixed" aP4 ∧ KF (K w.params) "toned" aP2 ∧ KF (K w.params) "places_of" af9 ∧ KF (K w.params) "has_place" ag4 ∧ KF (K w.params) "number_of_place" W1 ∧ KF (K w.params) "spot_at" au7 ∧ KF (K w.params) "masked_spot" v5 ∧ KF (K w.params) "brought" aw4 ∧ KF (K w.params) "shown_above" v4 ∧ KF (K w.params) "shown_by" an5 ∧ KF (K w.params) "flat_at" aw2 ∧ KF (K w.params) "box_between" v8 ∧ KF (K w.params) "joined_box" ac2 ∧ KF (K w.params) "joined_boxes" j6 ∧ KF (K w.params) "whole_box" af8 ∧ KF (K w.params) "places_in" ag0 ∧ KF (K w.params) "box_of_layer" j7 ∧ KF (K w.params) "box_of" aE3 ∧ KF (K w.params) "changed_box" v7 ∧ KF (K w.params) "_law_cell" aE2 ∧ KF (K w.params) "_law_drawn" av8 ∧ KF (K w.params) "_law_made" aD9 ∧ KF (K w.params) "_law_plus" aD8 ∧ KF (K w.params) "_law_times" av2 ∧ KF (K w.params) "_law_rest" aD7 ∧ KF (K w.params) "_law_share" av5 ∧ KF (K w.params) "_law_spot" aD6 ∧ KF (K w.params) "_law_sheet" av4 ∧ KF (K w.params) "_law_blend" av9 ∧ KF (K w.params) "_law_tone" aD5 ∧ KF (K w.params) "_law_names" av7 ∧ KF (K w.params) "_law_leaf" aE0 ∧ KF (K w.params) "_law_nodes" av6 ∧ KF (K w.params) "_law_picture" ag2 ∧ KF (K w.params) "_law_brought" ag3 ∧ KF (K w.params) "_law_shown" av3 ∧ KF (K w.params) "_law_flat" aE1 ∧ KF (K w.params) "_law_all" aP6 ∧ KF (K w.params) "_law_with" aD4 ∧ KF (K w.params) "_law_joined" an9 ∧ KF (K w.params) "_law_places" an8 ∧ KF (K w.params) "_law_box" aP5 ∧ KF (K w.params) "_law_some_box" ac1 ∧ KF (K w.params) "law" cf4)
  (M : ∀ ns : List Int, ns.length ≤ 63 → br8 [.list (ns.map PyData.int)] = some (.bool true)) :
  PySem.W.WalkO q loose XP YP l.row.toRowW d [] (fun f vs => PySem.call f vs) :=
 L2.bU6 (n := 63) (k := 133) (x := "_law_script") (CX := fun _ => CX0) (sp := fun w => spF (K w.params) 1 br8) hn (by decide) hdf ⟨rfl, by decide, by decide⟩ hY
  (fun w mg fa h hk hg hm => by
   have N := F w mg h hk hg
   obtain ⟨h_common_divisor, h_least_form, h_is_at_most, h_added, h_lessened, h_times, h_rest_of, h_at_most_one, h_kind_of, h_is_layer, h_is_group, h_is_tone, h_manner_of, h_rule_of, h_strength_of, h_is_shown, h_left_of, h_top_of, h_mask_of, h_sheet_of, h_inner_nodes, h_weighted, h_blended_cover, h_blended_colour, h_blended, h_by_rule, h_mixed, h_toned, h_places_of, h_has_place, h_number_of_place, h_spot_at, h_masked_spot, h_brought, h_shown_above, h_shown_by, h_flat_at, h_box_between, h_joined_box, h_joined_boxes, h_whole_box, h_places_in, h_box_of_layer, h_box_of, h_changed_box, h_l_cell, h_l_drawn, h_l_made, h_l_plus, h_l_times, h_l_rest, h_l_share, h_l_spot, h_l_sheet, h_l_blend, h_l_tone, h_l_names, h_l_leaf, h_l_nodes, h_l_picture, h_l_brought, h_l_shown, h_l_flat, h_l_all, h_l_with, h_l_joined, h_l_places, h_l_box, h_l_some_box, h_law⟩ := Q w
   rw [hd] at hm
   obtain ⟨fd, b1, b2⟩ := bZ6 N (fun base => cJ6 N h_common_divisor h_least_form h_is_at_most h_added h_lessened h_times h_rest_of h_at_most_one h_kind_of h_is_layer h_is_group h_is_tone h_manner_of h_rule_of h_strength_of h_is_shown h_left_of h_top_of h_mask_of h_sheet_of h_inner_nodes h_weighted h_blended_cover h_blended_colour h_blended h_by_rule h_mixed h_toned h_places_of h_has_place h_number_of_place h_spot_at h_masked_spot h_brought h_shown_above h_shown_by h_flat_at h_box_between h_joined_box h_joined_boxes h_whole_box h_places_in h_box_of_layer h_box_of h_changed_box h_l_cell h_l_drawn h_l_made h_l_plus h_l_times h_l_rest h_l_share h_l_spot h_l_sheet h_l_blend h_l_tone h_l_names h_l_leaf h_l_nodes h_l_picture h_l_brought h_l_shown h_l_flat h_l_all h_l_with h_l_joined h_l_places h_l_box h_l_some_box base) bq3 h_law cI9 cG1 rfl cI2 hm
   exact ⟨fd, b1, fun base _ _ => b2 base⟩)
  (fun w H a ns hl _ hS => ⟨rfl, H, [.list (ns.map PyData.int)], .bool true, M6.refl _, ⟨.ref a, [], rfl, ⟨a, _, rfl, hS, Reps.ints ns⟩, rfl⟩, M ns hl, fun v H' Hf' g r => r⟩) fun _ _ _ _ _ z => z
end Lk60
def PySem.W.Fast.tw3270915767185666550 : Unit := ()
def PySem.W.Fast.tw954693485826032132 : Unit := ()
def PySem.W.Fast.tw14039891716793319287 : Unit := ()
def PySem.W.Fast.tw14678219931700785767 : Unit := ()
def PySem.W.Fast.tw10019774586592828259 : Unit := ()
def PySem.W.Fast.tw2675596129691615998 : Unit := ()
def PySem.W.Fast.tw12099965610985643672 : Unit := ()
def PySem.W.Fast.tw6563444276445587426 : Unit := ()
def PySem.W.Fast.tw13143143731777635016 : Unit := ()
def PySem.W.Fast.tw3930590562627431264 : Unit := ()
def PySem.W.Fast.tw4671997270015162665 : Unit := ()
def PySem.W.Fast.tw370475841164004972 : Unit := ()
def PySem.W.Fast.tw8406183743119174771 : Unit := ()
def PySem.W.Fast.tw1000685676036083086 : Unit := ()
def PySem.W.Fast.tw9912122210790550502 : Unit := ()
def PySem.W.Fast.tw4398535822655881823 : Unit := ()
def PySem.W.Fast.tw11799908942358061675 : Unit := ()
def PySem.W.Fast.tw11336851316341887533 : Unit := ()
def PySem.W.Fast.tw2707558367071359686 : Unit := ()
def PySem.W.Fast.tw6829762133932244233 : Unit := ()
def PySem.W.Fast.tw6802666480960266408 : Unit := ()
def PySem.W.Fast.tw18257457215574051445 : Unit := ()
def PySem.W.Fast.tw11826802686909793885 : Unit := ()
def PySem.W.Fast.tw5537331652462827049 : Unit := ()
def PySem.W.Fast.tw14026615649446797408 : Unit := ()
def PySem.W.Fast.tw17729654708585221890 : Unit := ()
def PySem.W.Fast.tw14741853994950934324 : Unit := ()
def PySem.W.Fast.tw14423431245149828772 : Unit := ()
def PySem.W.Fast.tw11574477098840373096 : Unit := ()
def PySem.W.Fast.tw10015119478896263943 : Unit := ()
def PySem.W.Fast.tw1020793590792397189 : Unit := ()
def PySem.W.Fast.tw18049626544961942620 : Unit := ()
def PySem.W.Fast.tw8791819384380084421 : Unit := ()
def PySem.W.Fast.tw14105405194351147616 : Unit := ()
def PySem.W.Fast.tw6591577712134785284 : Unit := ()
def PySem.W.Fast.tw8632772361577077335 : Unit := ()
def PySem.W.Fast.tw13751569753152920852 : Unit := ()
def PySem.W.Fast.tw12931450360728559721 : Unit := ()
def PySem.W.Fast.tw50106953590015506 : Unit := ()
def PySem.W.Fast.tw667695960025193054 : Unit := ()
def PySem.W.Fast.tw13843387979937613701 : Unit := ()
def PySem.W.Fast.tw9835615533387418179 : Unit := ()
def PySem.W.Fast.tw4275853864345288023 : Unit := ()
def PySem.W.Fast.tw12503935809186830496 : Unit := ()
def PySem.W.Fast.tw16918143988244860950 : Unit := ()
def PySem.W.Fast.tw5217743060145867781 : Unit := ()
def PySem.W.Fast.tw9478477162736764196 : Unit := ()
def PySem.W.Fast.tw9209572603973469973 : Unit := ()
def PySem.W.Fast.tw6729254880941291724 : Unit := ()
def PySem.W.Fast.tw5362337775099761447 : Unit := ()
def PySem.W.Fast.tw11668238059620361145 : Unit := ()
def PySem.W.Fast.tw2697823219188880911 : Unit := ()
def PySem.W.Fast.tw17025768262207443570 : Unit := ()
def PySem.W.Fast.tw16269551193313269663 : Unit := ()
def PySem.W.Fast.tw10919589914097644221 : Unit := ()
def PySem.W.Fast.tw15016358325440906470 : Unit := ()
def PySem.W.Fast.tw15475314805859414073 : Unit := ()
def PySem.W.Fast.tw3228660441884700910 : Unit := ()
def PySem.W.Fast.tw14299023257554312796 : Unit := ()
def PySem.W.Fast.tw402719294286508724 : Unit := ()
def PySem.W.Fast.tw16571768581398414221 : Unit := ()
def PySem.W.Fast.tw10729336845462365828 : Unit := ()
def PySem.W.Fast.tw4982472966249206073 : Unit := ()
def PySem.W.Fast.tw4024887361306579264 : Unit := ()
def PySem.W.Fast.tw1988283963320907499 : Unit := ()
def PySem.W.Fast.tw12139300925400235691 : Unit := ()
def PySem.W.Fast.tw11524122564698707241 : Unit := ()
def PySem.W.Fast.tw653915130738818637 : Unit := ()
def PySem.W.Fast.tw6789562031179819020 : Unit := ()
def PySem.W.Fast.tw5878223833347418486 : Unit := ()
def PySem.W.Fast.tw4199011510187374190 : Unit := ()
def PySem.W.Fast.tw14505069608483624481 : Unit := ()
def PySem.W.Fast.tw1136970463977994404 : Unit := ()
namespace Lk60
open PySem PySem.W PyProof.Rows
set_option maxHeartbeats 0 in
open_top head for PySem.Challenge.rw_glazework_k60_boxes
end Lk60
open PySem PySem.W PyProof.Rows
set_option maxRecDepth 100000 in
set_option maxHeartbeats 0 in
theorem PySem.Challenge.cw_glazework_k60_boxes_holds : PySem.Challenge.rw_glazework_k60_boxes.Holds := by
 refine Lk60.head ?_
 k_fill
 refine Lk60.cB7 (l := PySem.Challenge.rw_glazework_k60_boxes) rfl rfl (fun w h Y => PySem.W.kIn_of Y) rfl ?F ?Q Lk60.main
 case F =>
  intro w mg h KX G
  refine' Lk60.zmd KX G ?p0 ?r0 ?p1 ?r1 ?r1t3 ?r1t2 ?r1t1 ?r1t0 ?p2 ?r2 ?z0 ?z1 ?z2 ?z3 ?z4 ?z5 ?z6
  (case p0 => k_is); (case r0 => k_is); (case p1 => k_is); (case r1 => k_is); (case r1t3 => k_is); (case r1t2 => k_is); (case r1t1 => k_is); (case r1t0 => k_is); (case p2 => k_is); (case r2 => k_is); (case z0 => k_is); (case z1 => k_is); (case z2 => k_is); (case z3 => k_is); (case z4 => k_is); (case z5 => k_is); (case z6 => k_is)
 case Q =>
  intro w
  refine ⟨?_, ?_, ?_, ?_, ?_, ?_, ?_, ?_, ?_, ?_, ?_, ?_, ?_, ?_, ?_, ?_, ?_, ?_, ?_, ?_, ?_, ?_, ?_, ?_, ?_, ?_, ?_, ?_, ?_, ?_, ?_, ?_, ?_, ?_, ?_, ?_, ?_, ?_, ?_, ?_, ?_, ?_, ?_, ?_, ?_, ?_, ?_, ?_, ?_, ?_, ?_, ?_, ?_, ?_, ?_, ?_, ?_, ?_, ?_, ?_, ?_, ?_, ?_, ?_, ?_, ?_, ?_, ?_, ?_, ?_⟩
  all_goals (refine' G.cG6 ?a ?l ?c ?k; (case a => k_is); (case l => k_is); (case c => k_is); (case k => k_is))
