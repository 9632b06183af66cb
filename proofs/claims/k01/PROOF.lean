import PyProof.Rows.All
import Wide.All
import OpenK.AllK
import Wide.FinOn
import Lean
import PyProof.EqAt
import PyProof.EqKinds
import PyProof.TupleCall
import PySem.Challenge.RW_glazework_k01_spots_known
set_option Elab.async false
set_option linter.all false
set_option maxRecDepth 100000
namespace L2
open PySem PySem.Spec PyProof.Rows
abbrev Key := Sum Int Str
def keyIs : Key → Value → Bool
  | .inl k, v => Value.isInt k v
  | .inr x, v => Value.isStrOf x v
def keyH (w : World) : Key → Int
  | .inl k => hashInt k
  | .inr x => hashStr w x
theorem keyIs_shape : ∀ {k : Key} {v : Value}, keyIs k v = true → (∃ i t, k = Sum.inl i ∧ v = Value.int i t) ∨ (∃ x t, k = Sum.inr x ∧ v = Value.str x t)
  | .inl i, v, h => by
    obtain ⟨t, e⟩ := Value.isInt_shape (k := i) (v := v) h
    exact .inl ⟨i, t, rfl, e⟩
  | .inr x, v, h => by
    obtain ⟨t, e⟩ := Value.isStrOf_shape (x := x) (v := v) h
    exact .inr ⟨x, t, rfl, e⟩
theorem key_ll (a b : Int) : decide ((Sum.inl a : Key) = Sum.inl b) = (a == b) := by
  by_cases e : a = b
  · subst e; simp
  · have h : ¬ (Sum.inl a : Key) = Sum.inl b := fun q => e (Sum.inl.inj q)
    rw [decide_eq_false h]
    exact (beq_eq_false_iff_ne.mpr e).symm
theorem key_rr (a b : Str) : decide ((Sum.inr a : Key) = Sum.inr b) = decide (a = b) := by
  by_cases e : a = b
  · subst e; simp
  · have h : ¬ (Sum.inr a : Key) = Sum.inr b := fun q => e (Sum.inr.inj q)
    rw [decide_eq_false h, decide_eq_false e]
theorem key_lr (a : Int) (b : Str) : decide ((Sum.inl a : Key) = Sum.inr b) = false := decide_eq_false (fun q => nomatch q)
theorem key_rl (a : Str) (b : Int) : decide ((Sum.inr a : Key) = Sum.inl b) = false := decide_eq_false (fun q => nomatch q)
def mixKind (prog : Program) (w : World) : PySem.KeyKind prog w Key where
  is := keyIs
  hash := keyH w
  inj := fun v a b ha hb => by
    rcases keyIs_shape ha with ⟨i, t, rfl, rfl⟩ | ⟨x, t, rfl, rfl⟩
    · rcases keyIs_shape hb with ⟨j, u, rfl, e⟩ | ⟨y, u, rfl, e⟩
      · injection e with e1 _; rw [e1]
      · exact nomatch e
    · rcases keyIs_shape hb with ⟨j, u, rfl, e⟩ | ⟨y, u, rfl, e⟩
      · exact nomatch e
      · injection e with e1 _; rw [e1]
  byValue := fun k v h => by
    rcases keyIs_shape h with ⟨i, t, rfl, rfl⟩ | ⟨x, t, rfl, rfl⟩ <;> rfl
  pyHash := fun hv h => by
    rcases keyIs_shape hv with ⟨i, t, rfl, rfl⟩ | ⟨x, t, rfl, rfl⟩
    · exact wpAny_pyHash_int h
    · exact wpAny_pyHash_str h
  eqBool := fun hu hv h => by
    rcases keyIs_shape hu with ⟨i, t, rfl, rfl⟩ | ⟨x, t, rfl, rfl⟩
    · rcases keyIs_shape hv with ⟨j, u, rfl, rfl⟩ | ⟨y, u, rfl, rfl⟩
      · rw [key_ll] at h; exact wpAny_eqBool_int h
      · rw [key_lr] at h; exact SeqAt.EqAt.int_str i t y u _ _ _ _ h
    · rcases keyIs_shape hv with ⟨j, u, rfl, rfl⟩ | ⟨y, u, rfl, rfl⟩
      · rw [key_rl] at h; exact SeqAt.EqAt.str_int x t j u _ _ _ _ h
      · rw [key_rr] at h; exact wpAny_eqBool_str h
  «strs» := fun k x t v h => by
    rcases keyIs_shape h with ⟨i, u, rfl, e⟩ | ⟨y, u, rfl, e⟩
    · exact nomatch e
    · injection e with e1 _
      subst e1
      cases v <;> rfl
end L2
namespace L2
open PySem PySem.Spec PyProof.Rows
inductive V where
  | non | bl (b : Bool) | int (i : Int) | str (x : Str) | byt (b : Array UInt8) | flt (b : UInt64) | ref (a : Addr) | ty (n : String)
  deriving DecidableEq
def RelV : V → Value → Prop
  | .non, u => u = Value.none
  | .bl b, u => u = Value.bool b
  | .int i, u => ∃ t, u = Value.int i t
  | .str x, u => ∃ t, u = Value.str x t
  | .byt b, u => ∃ t, u = Value.bytes b t
  | .flt b, u => ∃ t, u = Value.float b t
  | .ref a, u => u = Value.ref a
  | .ty n, u => u = Value.type n
abbrev Vals : List V → List Value → Prop := Paired RelV
theorem Vals.length {xs : List V} {us : List Value} (r : Vals xs us) : xs.length = us.length := Paired.length r
theorem Vals.get : ∀ {xs : List V} {us : List Value} {i : Nat} {x : V}, Vals xs us → xs[i]? = some x → ∃ u, us[i]? = some u ∧ RelV x u
  | _, _, _, _, .nil, e => by simp at e
  | _, _, 0, _, .cons r _, e => by simp at e; subst e; exact ⟨_, rfl, r⟩
  | _, _, i + 1, x, .cons _ t, e => by
    obtain ⟨u, h1, h2⟩ := Vals.get (i := i) (x := x) t (by simpa using e)
    exact ⟨u, by simpa using h1, h2⟩
theorem Vals.set {x : V} {u : Value} (r : RelV x u) : ∀ {xs : List V} {us : List Value} (i : Nat), Vals xs us → Vals (xs.set i x) (us.set i u)
  | _, _, _, .nil => .nil
  | _, _, 0, .cons _ t => .cons r t
  | _, _, i + 1, .cons q t => .cons q (Vals.set r i t)
theorem Vals.append : ∀ {xs ys : List V} {us ws : List Value}, Vals xs us → Vals ys ws → Vals (xs ++ ys) (us ++ ws)
  | _, _, _, _, .nil, s => s
  | _, _, _, _, .cons r t, s => .cons r (Vals.append t s)
theorem Vals.take : ∀ {xs : List V} {us : List Value} (n : Nat), Vals xs us → Vals (xs.take n) (us.take n)
  | _, _, 0, _ => .nil
  | _, _, _ + 1, .nil => .nil
  | _, _, n + 1, .cons r t => .cons r (Vals.take n t)
theorem Vals.drop : ∀ {xs : List V} {us : List Value} (n : Nat), Vals xs us → Vals (xs.drop n) (us.drop n)
  | _, _, 0, r => r
  | _, _, _ + 1, .nil => .nil
  | _, _, n + 1, .cons _ t => Vals.drop n t
def RelO : Option V → Option Value → Prop
  | some v, some u => RelV v u
  | none, none => True
  | _, _ => False
def KV {κ : Type} : List (κ × V) → List (κ × Value) → Prop := Paired fun (p : κ × V) (q : κ × Value) => p.1 = q.1 ∧ RelV p.2 q.2
def kV : Key → V
  | .inl i => .int i
  | .inr x => .str x
inductive HO where
  /-- a list -/
  | lst (xs : List V)
  /-- a tuple (never changes) -/
  | tup (xs : List V)
  /-- a dict whose keys are ints and texts; one whose keys are tuples of ints and texts (the empty one is both) -/
  | dK (kvs : List (Key × V)) | dT (kvs : List (List Key × V))
  /-- a set of ints: its members, its size -/
  | set (S : Int → Bool) (n : Nat)
  /-- an instance of the class at C, its dict at dx, its attributes -/
  | ins (C dx : Addr) (fs : List (Str × V))
  /-- the dict of the instance at x -/
  | own (x : Addr)
  /-- the dict of an exception -/
  | xd (fs : List (Str × V))
  /-- a bound method, f of x -/
  | met (f x : Addr)
  /-- a range object lo, lo + 1, .. below hi -/
  | rng (lo hi : Int)
  /-- a thing that is known to the object (the script; a dict while a loop walks it): read, never written while it is so -/
  | frz (o : Obj) (u : HO)
  /-- a code object's table -/
  | tbl (ps : Array Value)
  /-- any other thing, by what is true of its one object (a def of one's own: SetO a S n := HO.ext fun h => ..) -/
  | ext (φ : Heap → Prop)
abbrev Hp := Addr → Option HO
def upd (H : Hp) (a : Addr) (o : HO) : Hp := fun b => if b = a then some o else H b
theorem upd_same {H : Hp} {a : Addr} {o : HO} : upd H a o a = some o := by unfold upd; rw [if_pos rfl]
theorem upd_ne {H : Hp} {a b : Addr} {o : HO} (h : b ≠ a) : upd H a o b = H b := by unfold upd; rw [if_neg h]
theorem ne_of_none {H : Hp} {a b : Addr} {o : HO} (h : H a = some o) (h' : H b = none) : a ≠ b := by
  intro e; subst e; rw [h] at h'; cases h'
section
variable (P : Program) (w : World)
def ObjOk (H : Hp) (h : Heap) (a : Addr) : HO → Prop
  | .lst xs => xs.length ≤ sizeLine ∧ ∃ (its : List Value) (n : Nat), Vals xs its ∧ h.get? a = some { cls := .type "list", data := .seq its.toArray n }
  | .tup xs => xs.length ≤ sizeLine ∧ ∃ its : List Value, Vals xs its ∧ IsTup h a its.toArray
  | .dK kvs => kvs.length ≤ sizeLine ∧ (a == sysModules) = false ∧ ∃ vs, KV kvs vs ∧ h.DictOf (mixKind P w) a vs
  | .dT kvs => kvs.length ≤ sizeLine ∧ (a == sysModules) = false ∧ ∃ xs : List (List Key × Addr × Value),
      Paired (fun (p : List Key × V) (q : List Key × Addr × Value) => p.1 = q.1 ∧ H q.2.1 = some (.tup (p.1.map kV)) ∧ RelV p.2 q.2.2) kvs xs ∧
      ∃ o es ep, h.get? a = some o ∧ o.ExactDict ∧ o.data = .dict es ep ∧ es.toList = xs.map (entryOfKey (tupleKind (mixKind P w))) ∧ (xs.map (·.1)).Nodup
  | .set S n => h.SetOf (intKind P w) a S n
  | .ins C dx fs => H dx = some (.own a) ∧ fs.length ≤ 1000 ∧ dx ≠ a ∧ h.get? a = some (PySem.W.instObj C dx) ∧
      ∃ mA, h.Ns1 dx mA ∧ (∀ f, RelO (fs.lookup f) (mA f)) ∧ PySem.Within mA (fs.map (·.1))
  | .own _ => ∃ o, h.get? a = some o
  | .xd fs => ∃ mA, h.Ns1 a mA ∧ ∀ f, RelO (fs.lookup f) (mA f)
  | .rng lo hi => ∃ t u v, h.get? a = some { cls := .type "range", data := .fields #[.int lo t, .int hi u, .int 1 v] }
  | .frz o u => h.get? a = some o ∧ ObjOk H h a u
  | .tbl ps => h.get? a = some { cls := .none, data := .fields ps }
  | .met f x => h.get? a = some (PySem.W.methodObj (.ref f) (.ref x))
  | .ext φ => φ h ∧ (∃ o, h.get? a = some o) ∧ ∀ h1 h2 : Heap, φ h1 → (∀ o, h1.get? a = some o → h2.get? a = some o) → φ h2
def HOk (H : Hp) (h : Heap) : Prop := ∀ a o, H a = some o → ObjOk P w H h a o
end
section
variable {P : Program} {w : World} {H H' : Hp} {h h' : Heap} {a : Addr} {o : HO}
theorem ObjOk.lt (x : ObjOk P w H h a o) : a < h.objs.size := by
  cases o with
  | lst xs => obtain ⟨_, _, _, _, e⟩ := x; exact Heap.lt_size e
  | tup xs => obtain ⟨_, _, _, p⟩ := x; exact p.lt
  | dK kvs => obtain ⟨_, _, _, _, o, _, _, e, _⟩ := x; exact Heap.lt_size e
  | dT kvs => obtain ⟨_, _, _, _, o, _, _, e, _⟩ := x; exact Heap.lt_size e
  | set S n => obtain ⟨o, _, _, _, e, _⟩ := x; exact Heap.lt_size e
  | ins C dx fs => obtain ⟨_, _, _, e, _⟩ := x; exact Heap.lt_size e
  | own y => obtain ⟨_, e⟩ := x; exact Heap.lt_size e
  | xd fs => obtain ⟨_, ⟨_, _, _, e, _⟩, _⟩ := x; exact Heap.lt_size e
  | rng lo hi => obtain ⟨_, _, _, e⟩ := x; exact Heap.lt_size e
  | frz ob u => obtain ⟨e, _⟩ := x; exact Heap.lt_size e
  | tbl ps => exact Heap.lt_size (show h.get? a = some _ from x)
  | met f y => exact Heap.lt_size (show h.get? a = some _ from x)
  | ext φ => obtain ⟨_, ⟨_, e⟩, _⟩ := x; exact Heap.lt_size e
theorem Paired.mapP {α β : Type} {F G : α → β → Prop} : ∀ {l₁ : List α} {l₂ : List β}, Paired F l₁ l₂ → (∀ a b, F a b → G a b) → Paired G l₁ l₂
  | _, _, .nil, _ => .nil
  | _, _, .cons r t, f => .cons (f _ _ r) (Paired.mapP t f)
theorem ObjOk.stay (x : ObjOk P w H h a o) (k : ∀ b u, (b = a ∨ H b = some (.own a)) → h.get? b = some u → h'.get? b = some u)
    (ho : ∀ b, H b = some (.own a) → H' b = some (.own a)) (ht : ∀ b xs, H b = some (.tup xs) → H' b = some (.tup xs)) : ObjOk P w H' h' a o := by
  induction o with
  | lst xs => obtain ⟨z, its, n, r, e⟩ := x; exact ⟨z, its, n, r, k _ _ (.inl rfl) e⟩
  | tup xs => obtain ⟨z, its, r, ob, e, c⟩ := x; exact ⟨z, its, r, ob, k _ _ (.inl rfl) e, c⟩
  | dK kvs => obtain ⟨z, y, vs, r, ob, es, ep, e, c⟩ := x; exact ⟨z, y, vs, r, ob, es, ep, k _ _ (.inl rfl) e, c⟩
  | dT kvs =>
    obtain ⟨z, y, xs, r, ob, es, ep, e, c⟩ := x
    exact ⟨z, y, xs, Paired.mapP r fun p q z => ⟨z.1, ht _ _ z.2.1, z.2.2⟩, ob, es, ep, k _ _ (.inl rfl) e, c⟩
  | set S n => obtain ⟨ob, es, ep, t, e, c⟩ := x; exact ⟨ob, es, ep, t, k _ _ (.inl rfl) e, c⟩
  | ins C dx fs =>
    obtain ⟨d, z, ne, e, mA, ⟨od, es, ep, e2, c⟩, r⟩ := x
    exact ⟨ho _ d, z, ne, k _ _ (.inl rfl) e, mA, ⟨od, es, ep, k _ _ (.inr d) e2, c⟩, r⟩
  | own y => obtain ⟨ob, e⟩ := x; exact ⟨ob, k _ _ (.inl rfl) e⟩
  | xd fs => obtain ⟨mA, ⟨od, es, ep, e, c⟩, r⟩ := x; exact ⟨mA, ⟨od, es, ep, k _ _ (.inl rfl) e, c⟩, r⟩
  | rng lo hi => obtain ⟨t, u, v, e⟩ := x; exact ⟨t, u, v, k _ _ (.inl rfl) e⟩
  | frz ob u ih => obtain ⟨e, q⟩ := x; exact ⟨k _ _ (.inl rfl) e, ih q⟩
  | tbl ps =>
    have e : h.get? a = some { cls := .none, data := .fields ps } := x
    show h'.get? a = some { cls := .none, data := .fields ps }
    exact k a _ (.inl rfl) e
  | met f y =>
    have e : h.get? a = some (PySem.W.methodObj (.ref f) (.ref y)) := x
    show h'.get? a = some (PySem.W.methodObj (.ref f) (.ref y))
    exact k a _ (.inl rfl) e
  | ext φ => obtain ⟨p, ⟨o, e⟩, st⟩ := x; exact ⟨st _ _ p fun o q => k _ _ (.inl rfl) q, ⟨o, k _ _ (.inl rfl) e⟩, st⟩
theorem HOk.lt (x : HOk P w H h) (e : H a = some o) : a < h.objs.size := (x a o e).lt
theorem HOk.fresh (x : HOk P w H h) (e : h.objs.size ≤ a) : H a = none := by
  cases q : H a with
  | none => rfl
  | some u => exact absurd (Nat.lt_of_lt_of_le (x.lt q) e) (Nat.lt_irrefl _)
theorem HOk.kept (x : HOk P w H h) (k : ∀ b u, h.get? b = some u → h'.get? b = some u) : HOk P w H h' := fun a o e =>
  (x a o e).stay (fun b u _ q => k b u q) (fun _ q => q) fun _ _ q => q
theorem HOk.laid (x : HOk P w H h) (k : ∀ b u, h.get? b = some u → h'.get? b = some u) (hp : h.objs.size ≤ a) (new : ObjOk P w (upd H a o) h' a o) : HOk P w (upd H a o) h' := fun b u e => by
  have hn := x.fresh hp
  by_cases hb : b = a
  · subst hb; rw [upd_same] at e; cases e; exact new
  · rw [upd_ne hb] at e
    exact (x b u e).stay (fun c v _ q => k c v q) (fun c q => by rw [upd_ne (ne_of_none q hn)]; exact q) fun c xs q => by rw [upd_ne (ne_of_none q hn)]; exact q
end
def Rd (H : Hp) (a : Addr) (u : HO) : Prop := H a = some u ∨ ∃ o, H a = some (.frz o u)
theorem Rd.of {H : Hp} {a : Addr} {u : HO} (h : H a = some u) : Rd H a u := .inl h
theorem Rd.ok {P : Program} {w : World} {H : Hp} {h : Heap} {a : Addr} {u : HO} (r : Rd H a u) (x : HOk P w H h) : ObjOk P w H h a u := by
  rcases r with r | ⟨o, r⟩
  · exact x a u r
  · obtain ⟨_, q⟩ := x a _ r
    exact q
def Mut : Option HO → Prop
  | some (.lst _) => True
  | some (.dK _) => True
  | some (.dT _) => True
  | some (.set _ _) => True
  | some (.ins _ _ _) => True
  | some (.ext _) => True
  | _ => False
section
variable {P : Program} {w : World} {H : Hp} {h h' : Heap} {x e : Addr} {o' : HO}
theorem HOk.write (ok : HOk P w H h) (mu : Mut (H x)) (he : e = x ∨ H e = some (.own x)) (k : ∀ b u, b ≠ e → h.get? b = some u → h'.get? b = some u) (heo : ∃ u, h'.get? e = some u)
    (new : ObjOk P w (upd H x o') h' x o') : HOk P w (upd H x o') h' := fun b u q => by
  have nown : ∀ c y, H c = some (.own y) → c ≠ x := fun c y r z => by subst z; rw [r] at mu; exact mu
  have ntup : ∀ c xs, H c = some (.tup xs) → c ≠ x := fun c xs r z => by subst z; rw [r] at mu; exact mu
  by_cases hb : b = x
  · subst hb; rw [upd_same] at q; cases q; exact new
  · rw [upd_ne hb] at q
    by_cases hbe : b = e
    · have q' : H b = some (.own x) := by
        rcases he with z | z
        · exact absurd (hbe.trans z) hb
        · rw [hbe]; exact z
      rw [q] at q'; cases q'
      obtain ⟨v, hv⟩ := heo
      exact ⟨v, by rw [hbe]; exact hv⟩
    · refine (ok b u q).stay (fun c v hc r => k c v ?_ r) (fun c r => by rw [upd_ne (nown c b r)]; exact r) fun c xs r => by rw [upd_ne (ntup c xs r)]; exact r
      rcases hc with rfl | hc
      · exact hbe
      · rintro rfl
        rcases he with z | z
        · exact nown c b hc z
        · rw [hc] at z; cases z; exact hb rfl
end
structure Un (fs ex : List Addr) (H H' : Hp) (h h' : Heap) : Prop where
  keep : ∀ b o, h.get? b = some o → H b = none → b ∉ fs → b ∉ ex → h'.get? b = some o
  slot : ∀ b o, h.get? b = some o → H b = none → b ∈ fs → b ∉ ex → ∃ sl, h'.get? b = some { o with slots := sl }
  free : ∀ b o, h.get? b = some o → H b = none → b ∉ ex → H' b = none
  there : ∀ b o, h.get? b = some o → b ∉ ex → ∃ o', h'.get? b = some o'
  tups : ∀ b xs, H b = some (.tup xs) → H' b = some (.tup xs)
  frzs : ∀ b o u, H b = some (.frz o u) → H' b = some (.frz o u)
  tbls : ∀ b ps, H b = some (.tbl ps) → ∃ more, H' b = some (.tbl (ps ++ more))
section
variable {fs fs' ex ex' : List Addr} {H H1 H2 : Hp} {h h1 h2 h' : Heap} {a x e : Addr} {o : HO}
theorem Un.any (u : Un fs ex H H1 h h1) {b : Addr} {ob : Obj} (q : h.get? b = some ob) (n : H b = none) (hx : b ∉ ex) : ∃ sl, h1.get? b = some { ob with slots := sl } := by
  by_cases hb : b ∈ fs
  · exact u.slot b ob q n hb hx
  · exact ⟨ob.slots, u.keep b ob q n hb hx⟩
theorem Un.trans (a : Un fs ex H H1 h h1) (b : Un fs ex H1 H2 h1 h2) : Un fs ex H H2 h h2 where
  keep := fun c ob q n hc hx => b.keep c ob (a.keep c ob q n hc hx) (a.free c ob q n hx) hc hx
  slot := fun c ob q n hc hx => by
    obtain ⟨sl, e1⟩ := a.slot c ob q n hc hx
    obtain ⟨sl', e2⟩ := b.slot c _ e1 (a.free c ob q n hx) hc hx
    exact ⟨sl', e2⟩
  free := fun c ob q n hx => by
    obtain ⟨o', e1⟩ := a.there c ob q hx
    exact b.free c o' e1 (a.free c ob q n hx) hx
  there := fun c ob q hx => by
    obtain ⟨o', e1⟩ := a.there c ob q hx
    exact b.there c o' e1 hx
  tups := fun c xs q => b.tups c xs (a.tups c xs q)
  frzs := fun c ob xs q => b.frzs c ob xs (a.frzs c ob xs q)
  tbls := fun c ps q => by
    obtain ⟨m1, e1⟩ := a.tbls c ps q
    obtain ⟨m2, e2⟩ := b.tbls c _ e1
    exact ⟨m1 ++ m2, by rw [e2, Array.append_assoc]⟩
theorem Un.kept (k : ∀ b u, h.get? b = some u → h'.get? b = some u) : Un fs ex H H h h' :=
  ⟨fun b ob q _ _ _ => k b ob q, fun b ob q _ _ _ => ⟨ob.slots, k b ob q⟩, fun _ _ _ n _ => n, fun b ob q _ => ⟨ob, k b ob q⟩, fun _ _ q => q, fun _ _ _ q => q, fun _ ps q => ⟨#[], by rw [q]; simp⟩⟩
theorem Un.refl : Un fs ex H H h h := Un.kept fun _ _ q => q
theorem Un.laid (k : ∀ b u, h.get? b = some u → h'.get? b = some u) (hp : h.objs.size ≤ a) (hn : H a = none) : Un fs ex H (upd H a o) h h' where
  keep := fun b u q _ _ _ => k b u q
  slot := fun b u q _ _ _ => ⟨u.slots, k b u q⟩
  free := fun b u q n _ => by rw [upd_ne (Nat.ne_of_lt (Nat.lt_of_lt_of_le (Heap.lt_size q) hp))]; exact n
  there := fun b u q _ => ⟨u, k b u q⟩
  tups := fun b xs q => by rw [upd_ne (ne_of_none q hn)]; exact q
  frzs := fun b u xs q => by rw [upd_ne (ne_of_none q hn)]; exact q
  tbls := fun b ps q => ⟨#[], by rw [upd_ne (ne_of_none q hn), q]; simp⟩
theorem Un.write (mu : Mut (H x)) (he : e = x ∨ H e = some (.own x)) (k : ∀ b u, b ≠ e → h.get? b = some u → h'.get? b = some u) (heo : ∃ u, h'.get? e = some u) : Un fs ex H (upd H x o) h h' := by
  have hx : ∀ b, H b = none → b ≠ x := fun b n z => by subst z; rw [n] at mu; exact mu
  have hb : ∀ b, H b = none → b ≠ e := fun b n z => by
    subst z
    rcases he with r | r
    · exact hx b n r
    · rw [n] at r; cases r
  have hm : ∀ b u, H b = some u → ¬ Mut (some u) → b ≠ x := fun b u q nm z => by subst z; rw [q] at mu; exact nm mu
  refine ⟨fun b u q n _ _ => k b u (hb b n) q, fun b u q n _ _ => ⟨u.slots, k b u (hb b n) q⟩, fun b u q n _ => by rw [upd_ne (hx b n)]; exact n, fun b u q _ => ?_,
    fun b xs q => by rw [upd_ne (hm b _ q fun z => z)]; exact q, fun b u xs q => by rw [upd_ne (hm b _ q fun z => z)]; exact q, fun b ps q => ⟨#[], by rw [upd_ne (hm b _ q fun z => z), q]; simp⟩⟩
  by_cases hbe : b = e
  · subst hbe; exact heo
  · exact ⟨u, k b u hbe q⟩
theorem Un.mono (u : Un fs ex H H1 h h1) (hs : ∀ b ∈ fs, b ∈ fs') (hx : ∀ b ∈ ex, b ∈ ex') : Un fs' ex' H H1 h h1 :=
  ⟨fun b ob q n hb he => u.keep b ob q n (fun z => hb (hs b z)) fun z => he (hx b z), fun _ _ q n _ he => u.any q n fun z => he (hx _ z), fun b ob q n he => u.free b ob q n fun z => he (hx b z), fun b ob q he => u.there b ob q fun z => he (hx b z), u.tups, u.frzs, u.tbls⟩
end
def trk (h : Heap) (H : Hp) : List Addr := (List.range h.objs.size).filter fun a => (H a).isSome
def hidT (h : Heap) (H : Hp) : Heap := PySem.W.hideAll h (trk h H)
theorem hidT_size (h : Heap) (H : Hp) : (hidT h H).objs.size = h.objs.size := PySem.W.hideAll_size _ _
theorem hidT_get {h : Heap} {H : Hp} {b : Addr} {o : Obj} (e : h.get? b = some o) (n : H b = none) : (hidT h H).get? b = some o :=
  PySem.W.hideAll_get _ e fun hm => by
    have q : (H b).isSome = true := (List.mem_filter.mp hm).2
    rw [n] at q; simp at q
theorem of_hidT {h : Heap} {H : Hp} {b : Addr} {o : Obj} (e : (hidT h H).get? b = some o) : h.get? b = some o ∧ H b = none := by
  have e' : h.get? b = some o := PySem.W.of_hideAll (trk h H) e
  refine ⟨e', ?_⟩
  cases q : H b with
  | none => rfl
  | some x =>
    have hm : b ∈ trk h H := List.mem_filter.mpr ⟨List.mem_range.mpr (Heap.lt_size e'), by simp [q]⟩
    have z : (hidT h H).get? b = none := PySem.W.hideAll_none (trk h H) hm
    rw [z] at e; cases e
def allNews (g h : Heap) (L : Addr) : List (Addr × Obj) := (List.range h.objs.size).filterMap fun a => if a = L ∨ (g.get? a).isSome = true then none else (h.get? a).map fun o => (a, o)
def rest (g h : Heap) (L d : Addr) : List (Addr × Obj) := (allNews g h L).filter fun p => decide (p.1 ≠ d)
end L2
namespace L2
open PySem PySem.Spec PyProof.Rows
structure Mod (K : PySem.W.Frag) (mg : Str → Option Value) (base : Heap) : Prop where
  kin : K.In base
  glob : base.Ns mainGlobals mg
  blt : ∃ mb, base.Ns builtinsNs mb ∧ ∀ x : Str, x ≠ "__name__" → mb x = bootBuiltins x
  nolimit : base.NoLimit
structure Cx where
  prog : Program
  w : World
  K : PySem.W.Frag
  mg : Str → Option Value
  base : Heap
  A : Around
  N : List Str
  s₀ : Shared
  H₀ : Hp
  env : Env
  outer : List Env
  stack : List Env
  ex : List Addr
  fn : Str → Bool
  calm : Bool
  pn : List (Addr × Obj)
  xe : Value → Shared → Prop
def frs (l : List Env) : List Addr := l.filterMap (·.frame)
abbrev Cx.fs (X : Cx) : List Addr := frs X.outer
def Vis (sc : Scope) (x : Str) : Prop := sc.names.lookup x = some .local ∨ sc.names.lookup x = some .cell ∨ sc.names.lookup x = some .free
def Loc (sc : Scope) (x : Str) : Prop := sc.names.lookup x = some .local ∨ sc.names.lookup x = some .cell
def Look (env : Env) (h : Heap) (m : Str → Option Value) (x : Str) (u : Value) : Prop :=
  (env.kindOf x = some .local ∧ m x = some u) ∨ ((env.kindOf x = some .cell ∨ env.kindOf x = some .free) ∧ ∃ c, env.cells.lookup x = some c ∧ h.IsCell c (some u))
structure Cx.Ok (X : Cx) : Prop where
  mod : Mod X.K X.mg X.base
  kind : X.env.scope.kind = .function
  glob : X.env.globals = mainGlobals
  blt : X.env.builtins = builtinsNs
  above : X.s₀.heap.objs.size ≤ X.env.locals
  inj : ∀ x y c, X.env.cells.lookup x = some c → X.env.cells.lookup y = some c → x = y
  has : ∀ x, (X.env.kindOf x = some .cell ∨ X.env.kindOf x = some .free) → ∃ c, X.env.cells.lookup x = some c
  cab : ∀ x c, X.fn x = true → X.env.cells.lookup x = some c → X.s₀.heap.objs.size ≤ c
  hd : X.calm = true → X.A.handled = none
  frames : X.A.frames = some X.stack
  stk : X.stack = X.outer ∨ (X.stack = X.env :: X.outer ∧ X.env.frame = some X.env.locals)
  exf : ∀ b ∈ X.ex, b ≠ X.env.locals ∧ ∀ x c, X.env.cells.lookup x = some c → c ≠ b
  bs : ∀ b o, X.base.get? b = some o → X.s₀.heap.get? b = some o ∧ X.H₀ b = none
  bsz : X.base.objs.size ≤ X.s₀.heap.objs.size
  noex : ∀ b o, X.base.get? b = some o → b ∉ X.ex
  exfs : ∀ b ∈ X.ex, b ∉ X.fs
  funs : X.s₀.heap.FunFrames X.base X.outer
  frf : ∀ b ∈ X.fs, X.H₀ b = none
structure Inv (X : Cx) (pins : List (Addr × Obj)) (σ : List (Option V)) (H : Hp) (s : Shared) : Prop where
  ok : X.Ok
  os : s.os = X.s₀.os
  bare : AllBare s.gens
  base : Un X.fs X.ex X.H₀ H X.s₀.heap s.heap
  loc : ∃ m, s.heap.Ns X.env.locals m ∧ ∀ (i : Nat) (x : Str) (v : V), X.N[i]? = some x → σ[i]? = some (some v) → Vis X.env.scope x → ∃ u, RelV v u ∧ Look X.env s.heap m x u
  cell : ∀ x c, X.env.cells.lookup x = some c → ∃ v, s.heap.IsCell c v
  free : H X.env.locals = none
  freeC : ∀ x c, X.env.cells.lookup x = some c → H c = none
  pin : ∀ p ∈ X.pn ++ pins, s.heap.get? p.1 = some p.2 ∧ H p.1 = none ∧ p.1 ≠ X.env.locals ∧ p.1 ∉ X.fs ∧ ∀ v, p.2.data ≠ .cell v
  hok : HOk X.prog X.w H s.heap
  len : σ.length = X.N.length
section
variable {X : Cx} {pins : List (Addr × Obj)} {σ : List (Option V)} {H H' : Hp} {s : Shared} {h' : Heap}
theorem Cx.Ok.nofr (ok : X.Ok) {b : Addr} {o : Obj} (e : X.base.get? b = some o) : b ∉ X.fs := fun hb => by
  have := (ok.funs.mem hb).1
  rw [e] at this; cases this
theorem Inv.bs (I : Inv X pins σ H s) : ∀ b o, X.base.get? b = some o → s.heap.get? b = some o ∧ H b = none := fun b o e =>
  ⟨I.base.keep b o (I.ok.bs b o e).1 (I.ok.bs b o e).2 (I.ok.nofr e) (I.ok.noex b o e), I.base.free b o (I.ok.bs b o e).1 (I.ok.bs b o e).2 (I.ok.noex b o e)⟩
theorem Inv.bk (I : Inv X pins σ H s) : ∀ b o, X.base.get? b = some o → s.heap.get? b = some o := fun b o e => (I.bs b o e).1
theorem Inv.mod (I : Inv X pins σ H s) : Mod X.K X.mg X.base := I.ok.mod
theorem Inv.kIn (I : Inv X pins σ H s) : X.K.In s.heap := I.ok.mod.kin.keeps I.bk
theorem Inv.nolimit (I : Inv X pins σ H s) : s.heap.NoLimit := I.ok.mod.nolimit.keeps I.bk
theorem Inv.fr (I : Inv X pins σ H s) : ∃ m, Fr X.base X.env.locals s.heap m :=
  let ⟨m, hn, _⟩ := I.loc
  ⟨m, hn, I.bk, Nat.le_trans I.ok.bsz I.ok.above⟩
theorem Inv.lt (I : Inv X pins σ H s) : X.env.locals < s.heap.objs.size := let ⟨_, hn, _⟩ := I.loc; hn.lt
theorem Inv.sz (I : Inv X pins σ H s) : X.s₀.heap.objs.size ≤ s.heap.objs.size := Nat.le_trans I.ok.above (Nat.le_of_lt I.lt)
theorem Inv.nofs (I : Inv X pins σ H s) {a : Addr} (h : s.heap.objs.size ≤ a) : a ∉ X.fs := fun hb => by
  obtain ⟨_, o, ho, _⟩ := I.ok.funs.mem hb
  exact absurd (Nat.lt_of_lt_of_le (Heap.lt_size ho) (Nat.le_trans I.sz h)) (Nat.lt_irrefl _)
theorem Inv.cne (I : Inv X pins σ H s) : ∀ x c, X.env.cells.lookup x = some c → c ≠ X.env.locals := fun x c e z => by
  obtain ⟨v, o, ho, hd⟩ := I.cell x c e
  obtain ⟨m, ⟨o', es, ep, ho', hd', _⟩, _⟩ := I.loc
  rw [z, ho'] at ho; cases ho; rw [hd'] at hd; cases hd
theorem Inv.funs (I : Inv X pins σ H s) : s.heap.FunFrames X.base X.outer := by
  have all : ∀ (l : List Env), (∀ b ∈ frs l, b ∈ X.fs) → X.s₀.heap.FunFrames X.base l → s.heap.FunFrames X.base l := by
    intro l
    induction l with
    | nil => intro _ _; trivial
    | cons env r ih =>
      intro hs hl
      obtain ⟨hk, ⟨L, o, hf, hn, ho, hd⟩, hr⟩ := hl
      have hL : L ∈ X.fs := hs L (by unfold frs; rw [List.filterMap_cons, hf]; exact List.mem_cons_self)
      obtain ⟨sl, e⟩ := I.base.slot L o ho (I.ok.frf L hL) hL fun z => I.ok.exfs L z hL
      exact ⟨hk, ⟨L, _, hf, hn, e, hd⟩, ih (fun b hb => hs b (by unfold frs; rw [List.filterMap_cons, hf]; exact List.mem_cons_of_mem _ hb)) hr⟩
  exact all X.outer (fun _ hb => hb) I.ok.funs
theorem Inv.stack (I : Inv X pins σ H s) : s.heap.FunFrames X.base X.stack := by
  rcases I.ok.stk with e | ⟨e, hf⟩
  · rw [e]; exact I.funs
  · rw [e]
    obtain ⟨m, hn, _⟩ := I.loc
    refine .cons (by rw [I.ok.kind]; decide) hf hn ?_ I.funs
    exact Heap.get?_none_of_le (Nat.le_trans I.ok.bsz I.ok.above)
theorem Inv.stkSub (I : Inv X pins σ H s) : ∀ b ∈ frs X.stack, b ∈ X.env.locals :: X.fs := fun b hb => by
  rcases I.ok.stk with e | ⟨e, hf⟩
  · rw [e] at hb; exact List.mem_cons_of_mem _ hb
  · rw [e] at hb
    unfold frs at hb
    rw [List.filterMap_cons, hf] at hb
    exact hb
theorem Inv.stkFree (I : Inv X pins σ H s) : ∀ b ∈ frs X.stack, H b = none := fun b hb => by
  rcases List.mem_cons.mp (I.stkSub b hb) with e | hb
  · rw [e]; exact I.free
  · obtain ⟨_, o, ho, _⟩ := I.ok.funs.mem hb
    exact I.base.free b o ho (I.ok.frf b hb) fun z => I.ok.exfs b z hb
theorem Inv.step {g' : Array GenState} {t' : Nat} {d' : Drawn} {ch : List Addr} (I : Inv X pins σ H s)
    (hch : ∀ b ∈ ch, (b ∈ X.ex ∨ X.s₀.heap.objs.size ≤ b) ∧ b ≠ X.env.locals ∧ (∀ x c, X.env.cells.lookup x = some c → c ≠ b) ∧ ∀ p ∈ X.pn ++ pins, p.1 ≠ b)
    (keep : ∀ b o, b ≠ X.env.locals → b ∉ X.fs → b ∉ ch → s.heap.get? b = some o → H b = none → h'.get? b = some o)
    (slot : ∀ b o, b ≠ X.env.locals → b ∈ X.fs → b ∉ ch → s.heap.get? b = some o → H b = none → ∃ sl, h'.get? b = some { o with slots := sl }) (free : ∀ b o, b ∉ ch → s.heap.get? b = some o → H b = none → H' b = none)
    (there : ∀ b o, b ∉ ch → s.heap.get? b = some o → ∃ o', h'.get? b = some o')
    (tups : ∀ b xs, H b = some (.tup xs) → H' b = some (.tup xs)) (frzs : ∀ b o u, H b = some (.frz o u) → H' b = some (.frz o u)) (tbls : ∀ b ps, H b = some (.tbl ps) → ∃ more, H' b = some (.tbl (ps ++ more)))
    (ns : ∀ m, s.heap.Ns X.env.locals m → h'.Ns X.env.locals m) (hok : HOk X.prog X.w H' h') (hg : AllBare g') :
    Inv X pins σ H' { s with heap := h', gens := g', drawn := d', toks := t' } := by
  have neL : ∀ b o, X.s₀.heap.get? b = some o → b ≠ X.env.locals := fun b o e => Nat.ne_of_lt (Nat.lt_of_lt_of_le (Heap.lt_size e) I.ok.above)
  have neC : ∀ b o, X.s₀.heap.get? b = some o → b ∉ X.ex → b ∉ ch := fun b o e hx hb => by
    rcases (hch b hb).1 with z | z
    · exact hx z
    · exact absurd (Nat.lt_of_lt_of_le (Heap.lt_size e) z) (Nat.lt_irrefl _)
  have cellK : ∀ x c, X.env.cells.lookup x = some c → ∀ v, s.heap.IsCell c v → h'.IsCell c v := fun x c e v ⟨o, ho, hd⟩ => by
    have nch : c ∉ ch := fun z => (hch c z).2.2.1 x c e rfl
    by_cases hc : c ∈ X.fs
    · obtain ⟨sl, q⟩ := slot c o (I.cne x c e) hc nch ho (I.freeC x c e)
      exact ⟨_, q, hd⟩
    · exact ⟨o, keep c o (I.cne x c e) hc nch ho (I.freeC x c e), hd⟩
  refine ⟨I.ok, I.os, hg, ⟨fun b o e n hb hx => ?_, fun b o e n hb hx => ?_, fun b o e n hx => ?_, fun b o e hx => ?_, fun b xs e => tups b xs (I.base.tups b xs e), fun b o xs e => frzs b o xs (I.base.frzs b o xs e), fun b ps e => ?_⟩, ?_, fun x c e => ?_, ?_, fun x c e => ?_, fun p hp => ?_, hok, I.len⟩
  · exact keep b o (neL b o e) hb (neC b o e hx) (I.base.keep b o e n hb hx) (I.base.free b o e n hx)
  · obtain ⟨sl, e1⟩ := I.base.slot b o e n hb hx
    obtain ⟨sl', e2⟩ := slot b _ (neL b o e) hb (neC b o e hx) e1 (I.base.free b o e n hx)
    exact ⟨sl', e2⟩
  · obtain ⟨o', e1⟩ := I.base.there b o e hx
    exact free b o' (neC b o e hx) e1 (I.base.free b o e n hx)
  · obtain ⟨o', e1⟩ := I.base.there b o e hx
    exact there b o' (neC b o e hx) e1
  · obtain ⟨m1, e1⟩ := I.base.tbls b ps e
    obtain ⟨m2, e2⟩ := tbls b _ e1
    exact ⟨m1 ++ m2, by rw [e2, Array.append_assoc]⟩
  · obtain ⟨m, hn, hl⟩ := I.loc
    refine ⟨m, ns m hn, fun i x v e1 e2 e3 => ?_⟩
    obtain ⟨u, r, l⟩ := hl i x v e1 e2 e3
    refine ⟨u, r, ?_⟩
    rcases l with l | ⟨k, c, e, z⟩
    · exact .inl l
    · exact .inr ⟨k, c, e, cellK x c e _ z⟩
  · obtain ⟨v, z⟩ := I.cell x c e
    exact ⟨v, cellK x c e v z⟩
  · obtain ⟨m, ⟨o, _, _, ho, _⟩, _⟩ := I.loc
    exact free _ o (fun z => (hch _ z).2.1 rfl) ho I.free
  · obtain ⟨v, o, ho, hd⟩ := I.cell x c e
    exact free c o (fun z => (hch c z).2.2.1 x c e rfl) ho (I.freeC x c e)
  · obtain ⟨e, n, ne, nf, d⟩ := I.pin p hp
    have nch : p.1 ∉ ch := fun z => (hch p.1 z).2.2.2 p hp rfl
    exact ⟨keep p.1 p.2 ne nf nch e n, free p.1 p.2 nch e n, ne, nf, d⟩
theorem Inv.un {t' : Nat} (I : Inv X pins σ H s) (u : Un X.fs [] H H' s.heap h') (hok : HOk X.prog X.w H' h') : Inv X pins σ H' { s with heap := h', toks := t' } := by
  obtain ⟨m, ⟨o, es, ep, ho, r⟩, _⟩ := id I.loc
  obtain ⟨sl, hL⟩ := u.any ho I.free (by simp)
  exact I.step (g' := s.gens) (d' := s.drawn) (ch := []) (fun _ z => nomatch z) (fun b o _ hb _ e n => u.keep b o e n hb (by simp)) (fun b o _ hb _ e n => u.slot b o e n hb (by simp)) (fun b o _ e n => u.free b o e n (by simp)) (fun b o _ e => u.there b o e (by simp)) u.tups u.frzs u.tbls (fun m' hm => by
    obtain ⟨o', es', ep', ho', r'⟩ := hm
    rw [ho] at ho'; cases ho'
    exact ⟨_, es', ep', hL, r'⟩) hok I.bare
theorem Inv.call {g' : Array GenState} {t' : Nat} {d' : Drawn} {ch : List Addr} (I : Inv X pins σ H s) (u : Un (frs X.stack) ch H H' s.heap h') (hok : HOk X.prog X.w H' h') (hg : AllBare g')
    (hch : ∀ b ∈ ch, (b ∈ X.ex ∨ X.s₀.heap.objs.size ≤ b) ∧ b ≠ X.env.locals ∧ (∀ x c, X.env.cells.lookup x = some c → c ≠ b) ∧ ∀ p ∈ X.pn ++ pins, p.1 ≠ b) :
    Inv X pins σ H' { s with heap := h', gens := g', drawn := d', toks := t' } := by
  obtain ⟨m, ⟨o, es, ep, ho, r⟩, _⟩ := id I.loc
  obtain ⟨sl, hL⟩ := u.any ho I.free fun z => (hch _ z).2.1 rfl
  exact I.step (ch := ch) hch (fun b o hL hb hc e n => u.keep b o e n (fun z => (List.mem_cons.mp (I.stkSub b z)).elim hL hb) hc) (fun b o _ _ hc e n => u.any e n hc) (fun b o hc e n => u.free b o e n hc) (fun b o hc e => u.there b o e hc) u.tups u.frzs u.tbls (fun m' hm => by
    obtain ⟨o', es', ep', ho', r'⟩ := hm
    rw [ho] at ho'; cases ho'
    exact ⟨_, es', ep', hL, r'⟩) hok hg
theorem Inv.turned {t' : Nat} {it : Addr} (I : Inv X pins σ H s) (k : ∀ b o, b ≠ it → s.heap.get? b = some o → h'.get? b = some o) (hn : H it = none) (hL : it ≠ X.env.locals)
    (h1 : it ∈ X.ex ∨ X.s₀.heap.objs.size ≤ it) (h2 : ∀ x c, X.env.cells.lookup x = some c → c ≠ it) (h3 : ∀ p ∈ X.pn ++ pins, p.1 ≠ it) : Inv X pins σ H { s with heap := h', toks := t' } := by
  have nit : ∀ b u, H b = some u → b ≠ it := fun b u e z => by rw [z, hn] at e; cases e
  refine I.step (g' := s.gens) (d' := s.drawn) (ch := [it]) (fun b hb => ?_) (fun b o _ _ hc e _ => k b o (fun z => hc (by simp [z])) e) (fun b o _ _ hc e _ => ⟨o.slots, k b o (fun z => hc (by simp [z])) e⟩) (fun _ _ _ _ n => n)
    (fun b o hc e => ⟨o, k b o (fun z => hc (by simp [z])) e⟩) (fun _ _ e => e) (fun _ _ _ e => e) (fun b ps e => ⟨#[], by rw [e]; simp⟩) (fun m hm => ?_) (fun b u e => ?_) I.bare
  · have e : b = it := by simpa using hb
    subst e
    exact ⟨h1, hL, h2, h3⟩
  · obtain ⟨o, es, ep, ho, r⟩ := hm
    exact ⟨o, es, ep, k _ o (Ne.symm hL) ho, r⟩
  · refine (I.hok b u e).stay (fun c v hc q => k c v ?_ q) (fun _ q => q) fun _ _ q => q
    rcases hc with z | z
    · rw [z]; exact nit b u e
    · exact nit c _ z
theorem Inv.tok (I : Inv X pins σ H s) (t : Nat) : Inv X pins σ H { s with toks := t } := I.un (h' := s.heap) (t' := t) Un.refl I.hok
theorem Inv.kept {t' : Nat} (I : Inv X pins σ H s) (k : ∀ b u, s.heap.get? b = some u → h'.get? b = some u) : Inv X pins σ H { s with heap := h', toks := t' } := I.un (Un.kept k) (I.hok.kept k)
theorem Inv.laid {a : Addr} {o : HO} {t' : Nat} (I : Inv X pins σ H s) (k : ∀ b u, s.heap.get? b = some u → h'.get? b = some u) (hp : s.heap.objs.size ≤ a) (new : ObjOk X.prog X.w (upd H a o) h' a o) :
    Inv X pins σ (upd H a o) { s with heap := h', toks := t' } := I.un (Un.laid k hp (I.hok.fresh hp)) (I.hok.laid k hp new)
theorem Inv.write {x e : Addr} {o : HO} {t' : Nat} (I : Inv X pins σ H s) (mu : Mut (H x)) (he : e = x ∨ H e = some (.own x)) (k : ∀ b u, b ≠ e → s.heap.get? b = some u → h'.get? b = some u) (heo : ∃ u, h'.get? e = some u)
    (new : ObjOk X.prog X.w (upd H x o) h' x o) : Inv X pins σ (upd H x o) { s with heap := h', toks := t' } := I.un (Un.write mu he k heo) (I.hok.write mu he k heo new)
theorem Inv.pins_of {pins' : List (Addr × Obj)} (I : Inv X pins σ H s) (h : ∀ p ∈ pins', s.heap.get? p.1 = some p.2 ∧ H p.1 = none ∧ p.1 ≠ X.env.locals ∧ p.1 ∉ X.fs ∧ ∀ v, p.2.data ≠ .cell v) : Inv X pins' σ H s :=
  ⟨I.ok, I.os, I.bare, I.base, I.loc, I.cell, I.free, I.freeC, fun p hp => (List.mem_append.mp hp).elim (fun z => I.pin p (List.mem_append_left _ z)) (h p), I.hok, I.len⟩
theorem nodup_ix {N : List Str} (hN : N.Nodup) {i j : Nat} {x : Str} (a : N[i]? = some x) (b : N[j]? = some x) : i = j := by
  obtain ⟨h1, e1⟩ := List.getElem?_eq_some_iff.mp a
  obtain ⟨h2, e2⟩ := List.getElem?_eq_some_iff.mp b
  exact (List.getElem_inj hN).mp (e1.trans e2.symm)
theorem store_ok2 {M : Model} {A : Around} {E : Value → Shared → Prop} {i : Nat} {x : Str} {v : V} {u : Value} {Q : Unit → Shared → Prop} (I : Inv X pins σ H s) (hN : X.N.Nodup) (hi : X.N[i]? = some x) (hx : Loc X.env.scope x) (r : RelV v u)
    (h : ∀ s', Inv X pins (σ.set i (some v)) H s' → (∃ a, Heap.SameBut a s.heap s'.heap ∧ (a = X.env.locals ∨ X.env.cells.lookup x = some a)) → Q () s') (hf : X.fn x = true ∨ X.env.scope.names.lookup x = some .local := by first | exact .inl rfl | exact .inr rfl | assumption) : wpAny M A (storeName X.env x u) Q E s := by
  obtain ⟨m, hn, hl⟩ := id I.loc
  have hcls : (X.env.scope.kind == .class || (X.env.scope.kind == .module && X.env.locals != X.env.globals)) = false := by rw [I.ok.kind]; rfl
  have hiσ : i < σ.length := by rw [I.len]; exact (List.getElem?_eq_some_iff.mp hi).1
  have cne := I.cne
  have tracked : ∀ {a : Addr} {h' : Heap}, (∃ o, s.heap.get? a = some o ∧ H a = none) → Heap.SameBut a s.heap h' → HOk X.prog X.w H h' := fun {a h'} ha hs b ob e => by
    obtain ⟨_, _, hfree⟩ := ha
    refine (I.hok b ob e).stay (fun c w' hc q => (hs.2 c ?_).trans q) (fun _ q => q) fun _ _ q => q
    rintro rfl
    rcases hc with rfl | hc
    · rw [hfree] at e; cases e
    · rw [hfree] at hc; cases hc
  rcases hx with hk | hk
  · refine wpAny_storeName_local hk hn (fun h' hn' hs => ?_) hcls
    obtain ⟨oL, _, _, hoL, _⟩ := id hn
    refine h _ ⟨I.ok, I.os, I.bare, ⟨fun b o e n hb hx => ?_, fun b o e n hb hx => ?_, I.base.free, fun b o e hx => ?_, I.base.tups, I.base.frzs, I.base.tbls⟩, ⟨_, hn', fun j y v' e1 e2 e3 => ?_⟩, fun y c e => ?_, I.free, I.freeC, fun p hp => ?_, tracked ⟨oL, hoL, I.free⟩ hs, by simpa using I.len⟩ ⟨_, hs, .inl rfl⟩
    · exact (hs.2 b (Nat.ne_of_lt (Nat.lt_of_lt_of_le (Heap.lt_size e) I.ok.above))).trans (I.base.keep b o e n hb hx)
    · obtain ⟨sl, e1⟩ := I.base.slot b o e n hb hx
      exact ⟨sl, (hs.2 b (Nat.ne_of_lt (Nat.lt_of_lt_of_le (Heap.lt_size e) I.ok.above))).trans e1⟩
    · obtain ⟨o', e1⟩ := I.base.there b o e hx
      exact ⟨o', (hs.2 b (Nat.ne_of_lt (Nat.lt_of_lt_of_le (Heap.lt_size e) I.ok.above))).trans e1⟩
    · by_cases hj : j = i
      · subst hj
        rw [hi] at e1; cases e1
        rw [List.getElem?_set_self hiσ] at e2
        cases e2
        exact ⟨u, r, .inl ⟨hk, by simp⟩⟩
      · rw [List.getElem?_set_ne (Ne.symm hj)] at e2
        obtain ⟨u', r', q⟩ := hl j y v' e1 e2 e3
        refine ⟨u', r', ?_⟩
        rcases q with ⟨k, e⟩ | ⟨k, c, e, z⟩
        · refine .inl ⟨k, ?_⟩
          have : y ≠ x := fun e => hj (nodup_ix hN e1 (e ▸ hi))
          simp [this, e]
        · exact .inr ⟨k, c, e, z.sameBut hs (cne y c e)⟩
    · obtain ⟨w', z⟩ := I.cell y c e
      exact ⟨w', z.sameBut hs (cne y c e)⟩
    · obtain ⟨e, n, ne, nf, d⟩ := I.pin p hp
      exact ⟨(hs.2 p.1 ne).trans e, n, ne, nf, d⟩
  · have hfn : X.fn x = true := by
      rcases hf with z | z
      · exact z
      · rw [z] at hk; cases hk
    obtain ⟨c, hc⟩ := I.ok.has x (.inl hk)
    obtain ⟨w', z⟩ := I.cell x c hc
    refine wpAny_storeName_cell I.ok.kind hk hc z (fun h' hc' hs => ?_)
    obtain ⟨oc, hoc, hocd⟩ := id z
    refine h { s with heap := h' } ⟨I.ok, I.os, I.bare, ⟨fun b o e n hb hx => ?_, fun b o e n hb hx => ?_, I.base.free, fun b o e hx => ?_, I.base.tups, I.base.frzs, I.base.tbls⟩, ⟨m, hn.sameBut hs (Ne.symm (cne x c hc)), fun j y v' e1 e2 e3 => ?_⟩, fun y c' e => ?_, I.free, I.freeC, fun p hp => ?_, tracked ⟨oc, hoc, I.freeC x c hc⟩ hs, by simpa using I.len⟩ ⟨c, hs, .inr hc⟩
    · exact (hs.2 b (Nat.ne_of_lt (Nat.lt_of_lt_of_le (Heap.lt_size e) (I.ok.cab x c hfn hc)))).trans (I.base.keep b o e n hb hx)
    · obtain ⟨sl, e1⟩ := I.base.slot b o e n hb hx
      exact ⟨sl, (hs.2 b (Nat.ne_of_lt (Nat.lt_of_lt_of_le (Heap.lt_size e) (I.ok.cab x c hfn hc)))).trans e1⟩
    · obtain ⟨o', e1⟩ := I.base.there b o e hx
      exact ⟨o', (hs.2 b (Nat.ne_of_lt (Nat.lt_of_lt_of_le (Heap.lt_size e) (I.ok.cab x c hfn hc)))).trans e1⟩
    · by_cases hj : j = i
      · subst hj
        rw [hi] at e1; cases e1
        rw [List.getElem?_set_self hiσ] at e2
        cases e2
        exact ⟨u, r, .inr ⟨.inl hk, c, hc, hc'⟩⟩
      · rw [List.getElem?_set_ne (Ne.symm hj)] at e2
        obtain ⟨u', r', q⟩ := hl j y v' e1 e2 e3
        refine ⟨u', r', ?_⟩
        rcases q with q | ⟨k, c', e, z'⟩
        · exact .inl q
        · refine .inr ⟨k, c', e, z'.sameBut hs ?_⟩
          rintro rfl
          exact hj (nodup_ix hN e1 (I.ok.inj _ _ _ e hc ▸ hi))
    · by_cases hcc : c' = c
      · subst hcc; exact ⟨_, hc'⟩
      · obtain ⟨w2, z2⟩ := I.cell y c' e
        exact ⟨w2, z2.sameBut hs hcc⟩
    · obtain ⟨e, n, ne, nf, d⟩ := I.pin p hp
      refine ⟨(hs.2 p.1 ?_).trans e, n, ne, nf, d⟩
      intro q
      rw [q, hoc] at e
      have q' : oc = p.2 := Option.some.inj e
      exact d w' (by rw [← q']; exact hocd)
theorem store_ok {M : Model} {A : Around} {E : Value → Shared → Prop} {i : Nat} {x : Str} {v : V} {u : Value} {Q : Unit → Shared → Prop} (I : Inv X pins σ H s) (hN : X.N.Nodup) (hi : X.N[i]? = some x) (hx : Loc X.env.scope x) (r : RelV v u)
    (h : ∀ s', Inv X pins (σ.set i (some v)) H s' → Q () s') (hf : X.fn x = true ∨ X.env.scope.names.lookup x = some .local := by first | exact .inl rfl | exact .inr rfl | assumption) : wpAny M A (storeName X.env x u) Q E s :=
  store_ok2 I hN hi hx r (fun s' I' _ => h s' I') hf
theorem Inv.call' {s' : Shared} {ch : List Addr} (I : Inv X pins σ H s) (ho : s'.os = s.os) (u : Un (frs X.stack) ch H H' s.heap s'.heap) (hok : HOk X.prog X.w H' s'.heap) (hg : AllBare s'.gens)
    (hch : ∀ b ∈ ch, (b ∈ X.ex ∨ X.s₀.heap.objs.size ≤ b) ∧ b ≠ X.env.locals ∧ (∀ x c, X.env.cells.lookup x = some c → c ≠ b) ∧ ∀ p ∈ X.pn ++ pins, p.1 ≠ b) : Inv X pins σ H' s' := by
  obtain ⟨h', g', d', t', o'⟩ := s'
  have e : o' = s.os := ho
  subst e
  exact I.call (g' := g') (t' := t') (d' := d') u hok hg hch
end
abbrev XK := Value → Option Addr → Hp → Prop
abbrev St := List (Option V)
abbrev VK := V → Hp → Prop
abbrev TE := St → Hp → VK → Prop
abbrev TT := St → Hp → (Bool → Hp → Prop) → Prop
abbrev TA := St → Hp → (List V → Hp → Prop) → Prop
structure Ends where
  nx : St → Hp → Prop
  rt : VK
  bk : St → Hp → Prop := fun _ _ => False
  ct : St → Hp → Prop := fun _ _ => False
abbrev TS := Ends → St → Hp → Prop
def EP (X : Cx) (pins : List (Addr × Obj)) (σ : St) (Q : VK) (u : Value) (s' : Shared) : Prop := ∃ v H', Inv X pins σ H' s' ∧ RelV v u ∧ Q v H'
def TP (X : Cx) (pins : List (Addr × Obj)) (σ : St) (Q : Bool → Hp → Prop) (b : Bool) (s' : Shared) : Prop := ∃ H', Inv X pins σ H' s' ∧ Q b H'
def AP (X : Cx) (pins : List (Addr × Obj)) (σ : St) (Q : List V → Hp → Prop) (us : List Value) (s' : Shared) : Prop := ∃ vs H', Inv X pins σ H' s' ∧ Vals vs us ∧ Q vs H'
def SP (X : Cx) (pins : List (Addr × Obj)) (D : Ends) (f : Flow) (s' : Shared) : Prop :=
  match f with
  | .next => ∃ σ' H', Inv X pins σ' H' s' ∧ D.nx σ' H'
  | .brk => ∃ σ' H', Inv X pins σ' H' s' ∧ D.bk σ' H'
  | .cont => ∃ σ' H', Inv X pins σ' H' s' ∧ D.ct σ' H'
  | .ret u => ∃ v σ' H', Inv X pins σ' H' s' ∧ RelV v u ∧ D.rt v H'
def PE (X : Cx) (e : Expr) (t : TE) : Prop :=
  ∀ (pins : List (Addr × Obj)) (s : Shared) (σ : St) (H : Hp) (Q : VK), Inv X pins σ H s → t σ H Q → wpAny (model X.prog X.w) X.A (eval e X.env) (EP X pins σ Q) X.xe s
def PT (X : Cx) (e : Expr) (t : TT) : Prop :=
  ∀ (pins : List (Addr × Obj)) (s : Shared) (σ : St) (H : Hp) (Q : Bool → Hp → Prop), Inv X pins σ H s → t σ H Q → wpAny (model X.prog X.w) X.A (isTrue e X.env (eval e X.env)) (TP X pins σ Q) X.xe s
def PW (X : Cx) (e : Expr) (t : TT) : Prop :=
  ∀ (whole : Sem Value) (pins : List (Addr × Obj)) (s : Shared) (σ : St) (H : Hp) (Q : Bool → Hp → Prop), Inv X pins σ H s → t σ H Q → wpAny (model X.prog X.w) X.A (isTrue e X.env whole) (TP X pins σ Q) X.xe s
theorem PW.pt {X : Cx} {e : Expr} {t : TT} (h : PW X e t) : PT X e t := h _
def PA (X : Cx) (es : List Expr) (t : TA) : Prop :=
  ∀ (pos : Pos) (pins : List (Addr × Obj)) (s : Shared) (σ : St) (H : Hp) (Q : List V → Hp → Prop), Inv X pins σ H s → t σ H Q → wpAny (model X.prog X.w) X.A (spliced (backTo pos (starEach es X.env))) (AP X pins σ Q) X.xe s
def PS (X : Cx) (st : Stmt) (t : TS) : Prop :=
  ∀ (pins : List (Addr × Obj)) (s : Shared) (σ : St) (H : Hp) (D : Ends), Inv X pins σ H s → t D σ H → wpAny (model X.prog X.w) X.A (exec st X.env) (SP X pins D) X.xe s
def PSs (X : Cx) (st : List Stmt) (t : TS) : Prop :=
  ∀ (pins : List (Addr × Obj)) (s : Shared) (σ : St) (H : Hp) (D : Ends), Inv X pins σ H s → t D σ H → wpAny (model X.prog X.w) X.A (execs st X.env) (SP X pins D) X.xe s
theorem thn {α : Type} {t : Sem α} {Q Q' : α → Shared → Prop} {M : Model} {A : Around} {E : Value → Shared → Prop} {s : Shared} (h : wpAny M A t Q E s) (hQ : ∀ a s, Q a s → Q' a s) : wpAny M A t Q' E s := wpAny_mono h hQ fun _ _ x => x
end L2
namespace L2
open PySem PySem.Spec PyProof.Rows
section
variable {X : Cx}
def tVar (i : Nat) : TE := fun σ H Q => ∃ v, σ[i]? = some (some v) ∧ Q v H
def tC (v : V) : TE := fun _ H Q => Q v H
theorem pe_var {i : Nat} {x : Str} {pos : Pos} (hN : X.N[i]? = some x) (hv : Vis X.env.scope x) (hd : (x == ("__debug__" : Str)) = false := by decide) (hcd : (x == ("__classdict__" : Str)) = false := by decide) : PE X (.Name x pos) (tVar i) := by
  intro pins s σ H Q I h
  obtain ⟨v, e, h⟩ := h
  obtain ⟨m, hn, hl⟩ := I.loc
  obtain ⟨u, r, l⟩ := hl i x v hN e hv
  have fin : EP X pins σ Q u s := ⟨v, H, I, r, h⟩
  rcases l with ⟨hk, hm⟩ | ⟨hk, c, hc, hcell⟩
  · exact wpAny_Name (wpAny_loadName_local I.ok.kind hk hn hm fin) hd
  · rcases hk with hk | hk
    · exact wpAny_Name (wpAny_loadName_cell I.ok.kind hk hc hcell fin) hd
    · exact wpAny_Name (wpAny_loadName_free I.ok.kind hk hc hcell fin hcd) hd
theorem pe_int {i j pos} : PE X (.Constant (.int i) j pos) (tC (.int i)) := fun _ _ _ H _ I h => wpAny_Constant_int ⟨.int i, H, I.tok _, ⟨_, rfl⟩, h⟩
theorem pe_bl {b j pos} : PE X (.Constant (.bool b) j pos) (tC (.bl b)) := fun _ _ _ H _ I h => Constant_bool ⟨.bl b, H, I, rfl, h⟩
theorem pe_non {j pos} : PE X (.Constant .none j pos) (tC .non) := fun _ _ _ H _ I h => Constant_none ⟨.non, H, I, rfl, h⟩
theorem pe_str {x j pos} : PE X (.Constant (.str x) j pos) (tC (.str x)) := fun _ _ _ H _ I h => Calls.Constant_str ⟨.str x, H, I.tok _, ⟨_, rfl⟩, h⟩
def Gl (X : Cx) (x : Str) : Prop := X.env.kindOf x = some .globalImplicit
theorem ld_glob {E : Value → Shared → Prop} {pins : List (Addr × Obj)} {s : Shared} {σ : St} {H : Hp} {x : Str} {u : Value} {pos : Pos} {Q : Value → Shared → Prop} (I : Inv X pins σ H s) (hg : Gl X x) (hm : X.mg x = some u) (h : Q u s)
    (hd : (x == ("__debug__" : Str)) = false := by decide) : wpAny (model X.prog X.w) X.A (eval (.Name x pos) X.env) Q E s :=
  Calls.Name_function_global I.ok.kind hg (Calls.loadGlobal_global (by rw [I.ok.glob]; exact I.mod.glob.keeps I.bk) hm h) hd
theorem ld_blt {E : Value → Shared → Prop} {pins : List (Addr × Obj)} {s : Shared} {σ : St} {H : Hp} {x : Str} {u : Value} {pos : Pos} {Q : Value → Shared → Prop} (I : Inv X pins σ H s) (hg : Gl X x) (hm : X.mg x = none) (hv : bootBuiltins x = some u) (h : Q u s)
    (hn : x ≠ "__name__" := by decide) (hd : (x == ("__debug__" : Str)) = false := by decide) : wpAny (model X.prog X.w) X.A (eval (.Name x pos) X.env) Q E s := by
  obtain ⟨mb, h1, h2⟩ := I.mod.blt
  exact Calls.Name_function_global I.ok.kind hg (Calls.loadGlobal_builtin (by rw [I.ok.glob]; exact I.mod.glob.keeps I.bk) hm (by rw [I.ok.blt]; exact h1.keeps I.bk) ((h2 x hn).trans hv) h) hd
theorem pe_bltn {x : Str} {v : V} {u : Value} {pos : Pos} (hg : Gl X x) (hm : X.mg x = none) (hv : bootBuiltins x = some u) (r : RelV v u) (hn : x ≠ "__name__" := by decide) (hd : (x == ("__debug__" : Str)) = false := by decide) : PE X (.Name x pos) (tC v) :=
  fun _ _ _ H _ I h => ld_blt I hg hm hv ⟨v, H, I, r, h⟩ hn hd
variable {a b : Expr} {ta tb : TE} {pos : Pos}
variable {tA tB' : TT} {rest : List Expr}
def tAnd (t u : TT) : TT := fun σ H Q => t σ H fun c H1 => if c = true then u σ H1 Q else Q false H1
def tOr (t u : TT) : TT := fun σ H Q => t σ H fun c H1 => if c = true then Q true H1 else u σ H1 Q
def tNot (t : TT) : TT := fun σ H Q => t σ H fun c H1 => Q (!c) H1
theorem pw_and1 (ha : PT X a tA) : PW X (.BoolOp .And [a] pos) tA := by
  intro wh pins s σ H Q I h
  refine isTrue_and (thn (ha pins s σ H Q I h) fun c s1 e => ?_)
  cases c with
  | true => exact isTrue_and_nil e
  | false => exact e
theorem pw_or1 (ha : PT X a tA) : PW X (.BoolOp .Or [a] pos) tA := by
  intro wh pins s σ H Q I h
  refine isTrue_or (thn (ha pins s σ H Q I h) fun c s1 e => ?_)
  cases c with
  | false => exact isTrue_or_nil e
  | true => exact e
theorem pw_and (ha : PT X a tA) (hb : PW X (.BoolOp .And (b :: rest) pos) tB') : PW X (.BoolOp .And (a :: b :: rest) pos) (tAnd tA tB') := by
  intro wh pins s σ H Q I h
  refine isTrue_and (thn (ha pins s σ H _ I h) fun c s1 ⟨H1, I1, q1⟩ => ?_)
  cases c with
  | true => exact hb wh pins s1 σ H1 Q I1 q1
  | false => exact ⟨H1, I1, q1⟩
theorem pw_or (ha : PT X a tA) (hb : PW X (.BoolOp .Or (b :: rest) pos) tB') : PW X (.BoolOp .Or (a :: b :: rest) pos) (tOr tA tB') := by
  intro wh pins s σ H Q I h
  refine isTrue_or (thn (ha pins s σ H _ I h) fun c s1 ⟨H1, I1, q1⟩ => ?_)
  cases c with
  | true => exact ⟨H1, I1, q1⟩
  | false => exact hb wh pins s1 σ H1 Q I1 q1
theorem pt_not (ha : PT X a tA) : PT X (.UnaryOp .Not a pos) (tNot tA) := by
  intro pins s σ H Q I h
  exact isTrue_not (ha pins s σ H (fun c H1 => Q (!c) H1) I h)
def tAndV (ta tb : TE) : TE := fun σ H Q => ta σ H fun x H1 => ∃ c, x = .bl c ∧ if c = true then tb σ H1 Q else Q (.bl false) H1
def tNotV (ta : TE) : TE := fun σ H Q => ta σ H fun x H1 => ∃ c, x = .bl c ∧ Q (.bl (!c)) H1
theorem pe_one {op} {t : TE} (h : PE X a t) : PE X (.BoolOp op [a] pos) t := fun pins s σ H Q I hw => BoolOp_one (h pins s σ H Q I hw)
theorem pe_and (ha : PE X a ta) (hb : PE X (.BoolOp .And (b :: rest) pos) tb) : PE X (.BoolOp .And (a :: b :: rest) pos) (tAndV ta tb) := by
  intro pins s σ H Q I h
  refine BoolOp_and (thn (ha pins s σ H _ I h) fun v s1 ⟨x, H1, I1, r1, q1⟩ => ?_)
  obtain ⟨c, rfl, q1⟩ := q1
  cases r1
  refine wpAny_truthy_bool ?_
  cases c with
  | true => exact hb pins s1 σ H1 Q I1 q1
  | false => exact ⟨.bl false, H1, I1, rfl, q1⟩
theorem pe_not (ha : PE X a ta) : PE X (.UnaryOp .Not a pos) (tNotV ta) := by
  intro pins s σ H Q I h
  refine UnaryOp_ (thn (ha pins s σ H _ I h) fun v s1 ⟨x, H1, I1, r1, q1⟩ => ?_)
  obtain ⟨c, rfl, q1⟩ := q1
  cases r1
  exact not_of (wpAny_truthy_bool ⟨.bl (!c), H1, I1, rfl, q1⟩)
def tIf (t : TT) (ta tb : TE) : TE := fun σ H Q => t σ H fun c H1 => if c = true then ta σ H1 Q else tb σ H1 Q
theorem pe_ifExp {c : Expr} (hc : PT X c tA) (ha : PE X a ta) (hb : PE X b tb) : PE X (.IfExp c a b pos) (tIf tA ta tb) := by
  intro pins s σ H Q I h
  refine wpAny_IfExp (thn (hc pins s σ H _ I h) fun d s1 ⟨H1, I1, q1⟩ => ?_)
  cases d with
  | true => exact ha pins s1 σ H1 Q I1 q1
  | false => exact hb pins s1 σ H1 Q I1 q1
end
end L2
namespace L2
open PySem PySem.Spec PyProof.Rows
def SqL (K : PySem.W.Frag) (H : Hp) (a : Addr) (xs : List V) : Prop :=
  Rd H a (.lst xs) ∨
    ∃ (o : Obj) (its : Array Value) (n : Nat), K.lookup a = some o ∧ o.cls = .type "list" ∧ o.dict = none ∧ o.data = .seq its n ∧ its.size ≤ sizeLine ∧ Vals xs its.toList
def SqT (K : PySem.W.Frag) (H : Hp) (a : Addr) (xs : List V) : Prop :=
  Rd H a (.tup xs) ∨
    ∃ (o : Obj) (its : Array Value) (n : Nat), K.lookup a = some o ∧ o.cls = .type "tuple" ∧ o.data = .seq its n ∧ its.size ≤ sizeLine ∧ Vals xs its.toList
def absV : Value → Option V
  | .none => some .non
  | .bool b => some (.bl b)
  | .int i _ => some (.int i)
  | .str x _ => some (.str x)
  | .bytes b _ => some (.byt b)
  | .float b _ => some (.flt b)
  | .ref a => some (.ref a)
  | .type n => some (.ty n)
  | _ => none
theorem RelV.abs {x : V} {u : Value} (r : RelV x u) : absV u = some x := by
  cases x with
  | non => cases r; rfl
  | bl _ => cases r; rfl
  | int _ => obtain ⟨t, rfl⟩ := r; rfl
  | str _ => obtain ⟨t, rfl⟩ := r; rfl
  | byt _ => obtain ⟨t, rfl⟩ := r; rfl
  | flt _ => obtain ⟨t, rfl⟩ := r; rfl
  | ref _ => cases r; rfl
  | ty _ => cases r; rfl
theorem RelV.inj {x y : V} {u : Value} (r : RelV x u) (q : RelV y u) : x = y := Option.some.inj (r.abs.symm.trans q.abs)
theorem Vals.inj : ∀ {xs ys : List V} {us : List Value}, Vals xs us → Vals ys us → xs = ys
  | _, _, _, .nil, .nil => rfl
  | _, _, _, .cons r t, .cons r' t' => by rw [r.inj r', Vals.inj t t']
section
variable {X : Cx} {pins : List (Addr × Obj)} {σ : St} {H : Hp} {s : Shared} {a : Addr} {xs ys : List V}
theorem SqL.of {K : PySem.W.Frag} (h : H a = some (.lst xs)) : SqL K H a xs := .inl (.inl h)
theorem SqT.of {K : PySem.W.Frag} (h : H a = some (.tup xs)) : SqT K H a xs := .inl (.inl h)
theorem Inv.list (I : Inv X pins σ H s) (h : SqL X.K H a xs) : ∃ its : List Value, Vals xs its ∧ PlainL s.heap a its.toArray ∧ xs.length ≤ sizeLine := by
  rcases h with h | ⟨o, its, n, hk, hc, hd, hs, hz, r⟩
  · obtain ⟨z, its, n, r, e⟩ := h.ok I.hok
    exact ⟨its, r, ⟨_, n, e, rfl, rfl, rfl⟩, z⟩
  · refine ⟨its.toList, r, ⟨o, n, I.kIn a o hk, hc, hd, by simpa using hs⟩, ?_⟩
    have e := r.length
    simp only [Array.length_toList] at e
    omega
theorem Inv.tuple (I : Inv X pins σ H s) (h : SqT X.K H a xs) : ∃ its : List Value, Vals xs its ∧ IsTup s.heap a its.toArray ∧ xs.length ≤ sizeLine := by
  rcases h with h | ⟨o, its, n, hk, hc, hs, hz, r⟩
  · obtain ⟨z, its, r, p⟩ := h.ok I.hok
    exact ⟨its, r, p, z⟩
  · refine ⟨its.toList, r, ⟨o, I.kIn a o hk, hc, n, by simpa using hs⟩, ?_⟩
    have e := r.length
    simp only [Array.length_toList] at e
    omega
theorem Inv.list_inj (I : Inv X pins σ H s) (h : SqL X.K H a xs) (h' : SqL X.K H a ys) : xs = ys := by
  obtain ⟨its, r, ⟨o, n, e, _, _, d⟩, _⟩ := I.list h
  obtain ⟨its', r', ⟨o', n', e', _, _, d'⟩, _⟩ := I.list h'
  rw [e] at e'; cases e'
  rw [d] at d'
  injection d' with d1 _
  have : its = its' := by simpa using congrArg Array.toList d1
  subst this
  exact r.inj r'
theorem Inv.tuple_inj (I : Inv X pins σ H s) (h : SqT X.K H a xs) (h' : SqT X.K H a ys) : xs = ys := by
  obtain ⟨its, r, ⟨o, e, _, n, d⟩, _⟩ := I.tuple h
  obtain ⟨its', r', ⟨o', e', _, n', d'⟩, _⟩ := I.tuple h'
  rw [e] at e'; cases e'
  rw [d] at d'
  injection d' with d1 _
  have : its = its' := by simpa using congrArg Array.toList d1
  subst this
  exact r.inj r'
end
abbrev Cx.wish (X : Cx) (E : Value → Shared → Prop) : Cx := { X with xe := E }
abbrev Cx.nox (X : Cx) : Cx := X.wish fun _ _ => False
theorem Cx.Ok.wish {X : Cx} (ok : X.Ok) (E : Value → Shared → Prop) : (X.wish E).Ok :=
  ⟨ok.mod, ok.kind, ok.glob, ok.blt, ok.above, ok.inj, ok.has, ok.cab, ok.hd, ok.frames, ok.stk, ok.exf, ok.bs, ok.bsz, ok.noex, ok.exfs, ok.funs, ok.frf⟩
theorem Cx.Ok.unwish {X : Cx} {E : Value → Shared → Prop} (ok : (X.wish E).Ok) : X.Ok :=
  ⟨ok.mod, ok.kind, ok.glob, ok.blt, ok.above, ok.inj, ok.has, ok.cab, ok.hd, ok.frames, ok.stk, ok.exf, ok.bs, ok.bsz, ok.noex, ok.exfs, ok.funs, ok.frf⟩
section
variable {X : Cx} {pins : List (Addr × Obj)} {σ : St} {H : Hp} {s : Shared} {E : Value → Shared → Prop}
theorem Inv.wish (I : Inv X pins σ H s) (E : Value → Shared → Prop) : Inv (X.wish E) pins σ H s := ⟨I.ok.wish E, I.os, I.bare, I.base, I.loc, I.cell, I.free, I.freeC, I.pin, I.hok, I.len⟩
theorem Inv.unwish (I : Inv (X.wish E) pins σ H s) : Inv X pins σ H s := ⟨I.ok.unwish, I.os, I.bare, I.base, I.loc, I.cell, I.free, I.freeC, I.pin, I.hok, I.len⟩
theorem SP.unwish {D : Ends} {f : Flow} {s' : Shared} (h : SP (X.wish E) pins D f s') : SP X pins D f s' := by
  cases f with
  | next => obtain ⟨σ', H', I, q⟩ := h; exact ⟨σ', H', I.unwish, q⟩
  | brk => obtain ⟨σ', H', I, q⟩ := h; exact ⟨σ', H', I.unwish, q⟩
  | cont => obtain ⟨σ', H', I, q⟩ := h; exact ⟨σ', H', I.unwish, q⟩
  | ret u => obtain ⟨v, σ', H', I, r, q⟩ := h; exact ⟨v, σ', H', I.unwish, r, q⟩
theorem PE.nox {e : Expr} {t : TE} (h : PE X.nox e t) : PE X e t := fun pins s σ H Q I hw =>
  wpAny_mono (h pins s σ H Q (I.wish _) hw) (fun _ _ ⟨v, H', I', r, q⟩ => ⟨v, H', I'.unwish, r, q⟩) fun _ _ z => False.elim z
theorem PT.nox {e : Expr} {t : TT} (h : PT X.nox e t) : PT X e t := fun pins s σ H Q I hw =>
  wpAny_mono (h pins s σ H Q (I.wish _) hw) (fun _ _ ⟨H', I', q⟩ => ⟨H', I'.unwish, q⟩) fun _ _ z => False.elim z
theorem PSs.nox {st : List Stmt} {t : TS} (h : PSs X.nox st t) : PSs X st t := fun pins s σ H D I hw =>
  wpAny_mono (h pins s σ H D (I.wish _) hw) (fun _ _ q => q.unwish) fun _ _ z => False.elim z
end
section
variable {X : Cx} {st : Stmt} {rest : List Stmt} {t u : TS} {e : Expr} {te : TE} {pos : Pos}
def tNext : TS := fun D σ H => D.nx σ H
def tSeq (t u : TS) : TS := fun D σ H => t { D with nx := u D } σ H
theorem pss_nil : PSs X [] tNext := fun _ _ σ H _ I h => wpAny_execs_nil ⟨σ, H, I, h⟩
theorem pss_cons (h1 : PS X st t) (h2 : PSs X rest u) : PSs X (st :: rest) (tSeq t u) := by
  intro pins s σ H D I h
  refine wpAny_execs_cons (thn (h1 pins s σ H { D with nx := u D } I h) fun f s1 q => ?_)
  cases f with
  | next =>
    obtain ⟨σ', H', I', q⟩ := q
    exact h2 pins s1 σ' H' D I' q
  | ret v => exact q
  | brk => exact q
  | cont => exact q
theorem pss_one (h1 : PS X st t) : PSs X [st] t := by
  intro pins s σ H D I h
  refine wpAny_execs_cons (thn (h1 pins s σ H D I h) fun f s1 q => ?_)
  cases f with
  | next => exact wpAny_execs_nil q
  | ret v => exact q
  | brk => exact q
  | cont => exact q
def tRet (te : TE) : TS := fun D σ H => te σ H D.rt
theorem ps_ret (he : PE X e te) : PS X (.Return (some e) pos) (tRet te) := by
  intro pins s σ H D I h
  exact wpAny_Return_some (thn (he pins s σ H _ I h) fun v s1 ⟨x, H1, I1, r1, q1⟩ => ⟨x, σ, H1, I1, r1, q1⟩)
def tIfS (c : TT) (t u : TS) : TS := fun D σ H => c σ H fun b H1 => if b = true then t D σ H1 else u D σ H1
theorem ps_if {c : Expr} {a b : List Stmt} {tc : TT} (hc : PT X c tc) (ha : PSs X a t) (hb : PSs X b u) : PS X (.If c a b pos) (tIfS tc t u) := by
  intro pins s σ H D I h
  refine wpAny_If (thn (hc pins s σ H _ I h) fun d s1 ⟨H1, I1, q1⟩ => ?_)
  cases d with
  | true => exact ha pins s1 σ H1 D I1 q1
  | false => exact hb pins s1 σ H1 D I1 q1
def tNever : TS := fun _ _ _ => False
theorem pss_never {sts : List Stmt} : PSs X sts tNever := fun _ _ _ _ _ _ h => h.elim
end
abbrev TG := V → St → Hp → (St → Hp → Prop) → Prop
abbrev TGs := List V → St → Hp → (St → Hp → Prop) → Prop
def PG (X : Cx) (target : Expr) (t : TG) : Prop :=
  ∀ (pins : List (Addr × Obj)) (s : Shared) (σ : St) (H : Hp) (v : V) (u : Value) (Q : St → Hp → Prop), Inv X pins σ H s → RelV v u → t v σ H Q →
    wpAny (model X.prog X.w) X.A (assign target X.env u) (fun _ s' => ∃ σ' H', Inv X pins σ' H' s' ∧ Q σ' H') X.xe s
def PGs (X : Cx) (ts : List Expr) (t : TGs) : Prop :=
  ∀ (pins : List (Addr × Obj)) (s : Shared) (σ : St) (H : Hp) (vs : List V) (us : List Value) (Q : St → Hp → Prop), Inv X pins σ H s → Vals vs us → t vs σ H Q →
    wpAny (model X.prog X.w) X.A (assignInOrder ((assignEach ts X.env).map (·.2)) us) (fun _ s' => ∃ σ' H', Inv X pins σ' H' s' ∧ Q σ' H') X.xe s
section
variable {X : Cx} {pos : Pos}
def gName (i : Nat) : TG := fun v σ H Q => Q (σ.set i (some v)) H
theorem pg_name {i : Nat} {x : Str} (hN : X.N.Nodup) (hi : X.N[i]? = some x) (hx : Loc X.env.scope x) (hf : X.fn x = true ∨ X.env.scope.names.lookup x = some .local := by first | exact .inl rfl | exact .inr rfl | assumption) : PG X (.Name x pos) (gName i) := by
  intro pins s σ H v u Q I r h
  exact wpAny_assign_Name (store_ok I hN hi hx r (fun s' I' => ⟨_, H, I', h⟩) hf)
def gNil : TGs := fun vs σ H Q => vs = [] ∧ Q σ H
def gCons (t : TG) (u : TGs) : TGs := fun vs σ H Q => ∃ v r, vs = v :: r ∧ t v σ H fun σ' H' => u r σ' H' Q
theorem pgs_nil : PGs X [] gNil := by
  intro pins s σ H vs us Q I r h
  obtain ⟨e, h⟩ := h
  subst e
  cases r
  exact assignInOrder_nil ⟨σ, H, I, h⟩
theorem pgs_cons {e : Expr} {es : List Expr} {t : TG} {u : TGs} (h1 : PG X e t) (h2 : PGs X es u)
    (hs : (assignEach (e :: es) X.env).map (·.2) = assign e X.env :: (assignEach es X.env).map (·.2) := by rfl) : PGs X (e :: es) (gCons t u) := by
  intro pins s σ H vs us Q I r h
  obtain ⟨v, vr, e1, h⟩ := h
  subst e1
  cases r with
  | cons r rr =>
    rw [hs]
    refine assignInOrder_cons (thn (h1 pins s σ H _ _ _ I r h) fun _ s1 ⟨σ1, H1, I1, q1⟩ => ?_)
    exact h2 pins s1 σ1 H1 _ _ Q I1 rr q1
def gTup (K : PySem.W.Frag) (n : Nat) (t : TGs) : TG := fun v σ H Q => ∃ a xs, v = .ref a ∧ SqT K H a xs ∧ xs.length = n ∧ t xs σ H Q
theorem pg_tup {es : List Expr} {k : Nat} {t : TGs} {n : Nat} (hc : X.calm = true) (h : PGs X es t)
    (hn : (assignEach es X.env).length = n := by rfl) (hst : (assignEach es X.env).findIdx? (·.1) = none := by rfl) : PG X (.Tuple es k pos) (gTup X.K n t) := by
  intro pins s σ H v u Q I r hw
  obtain ⟨a, xs, e1, hq, hl, hw⟩ := hw
  subst e1
  cases r
  obtain ⟨its, rv, ht, hz⟩ := I.tuple hq
  refine assign_Tuple_tuple (I.ok.hd hc) ht (by simp [hn, ← hl, rv.length]) hst fun h' hx => ?_
  have I1 : Inv X pins σ H { s with heap := h' } := I.kept (t' := s.toks) fun b o e => hx b o (Nat.ne_of_lt (Heap.lt_size e)) e
  exact h pins _ σ H xs _ Q I1 (by simpa using rv) hw
def tAsg (te : TE) (g : TG) : TS := fun D σ H => te σ H fun x H1 => g x σ H1 D.nx
theorem ps_set {i : Nat} {x : Str} {e : Expr} {te : TE} {pos' : Pos} (hN : X.N.Nodup) (hi : X.N[i]? = some x) (hx : Loc X.env.scope x) (he : PE X e te) (hs : swapsWith e (some (.Name x pos')) pos.line X.env = pure false := by rfl) (hf : X.fn x = true ∨ X.env.scope.names.lookup x = some .local := by first | exact .inl rfl | exact .inr rfl | assumption) :
    PS X (.Assign [.Name x pos'] e pos) (tAsg te (gName i)) := by
  intro pins s σ H D I h
  refine wpAny_Assign_Name (thn (he pins s σ H _ I h) fun v s1 ⟨y, H1, I1, r1, q1⟩ => ?_) hs
  exact store_ok I1 hN hi hx r1 (fun s2 I2 => ⟨_, H1, I2, q1⟩) hf
def tPar (i j : Nat) (ta : TA) : TS := fun D σ H => ta σ H fun vs H1 => ∃ v w, vs = [v, w] ∧ D.nx ((σ.set i (some v)).set j (some w)) H1
theorem ps_par {i j : Nat} {x y : Str} {a b : Expr} {ta : TA} {px py pt : Pos} {kt k2 pt2} (hc : X.calm = true) (hN : X.N.Nodup) (hi : X.N[i]? = some x) (hj : X.N[j]? = some y) (hij : i ≠ j)
    (hx : X.env.scope.names.lookup x = some .local) (hy : X.env.scope.names.lookup y = some .local) (ha : PA X [a, b] ta)
    (hw : swappedStores [.Tuple [.Name x px, .Name y py] kt pt] (.Tuple [a, b] k2 pt2) X.env = pure (some [x, y]))
    (hs : swapsWithSole [.Tuple [.Name x px, .Name y py] kt pt] (.Tuple [a, b] k2 pt2) pos.line X.env = pure false := by rfl) :
    PS X (.Assign [.Tuple [.Name x px, .Name y py] kt pt] (.Tuple [a, b] k2 pt2) pos) (tPar i j ta) := by
  intro pins s σ H D I h
  rw [exec_Assign_arm]
  refine wpAny_bind (wpAny_standAt ?_)
  rw [hs]
  refine wpAny_bind (wpAny_pure ?_)
  rw [if_neg (by decide)]
  refine wpAny_bind (Tuple_ (thn (ha _ pins s σ H _ I h) fun us s1 ⟨vs, H1, I1, r1, q1⟩ => ?_))
  obtain ⟨v, w, e1, q1⟩ := q1
  subst e1
  obtain ⟨u1, u2, rfl, rv, rw'⟩ : ∃ u1 u2, us = [u1, u2] ∧ RelV v u1 ∧ RelV w u2 := by
    cases r1 with
    | cons p q =>
      cases q with
      | cons p' q' =>
        cases q'
        exact ⟨_, _, rfl, p, p'⟩
  refine wpAny_newObj_type ?_ (by show 2 ≤ sizeLine; decide)
  have I2 : Inv X pins σ H1 { s1 with heap := s1.heap.push { cls := .type "tuple", data := .seq [u1, u2].toArray } } := I1.kept (t' := s1.toks) fun b o e => Heap.get?_push_of_some _ e
  rw [hw]
  refine wpAny_bind (wpAny_pure ?_)
  show wpAny (model X.prog X.w) X.A (do rule "assign.swapped-stores"; let items ← unpackItems (.ref s1.heap.objs.size) 2 none; assignInOrder [fun v => bindName X.env y v, fun v => bindName X.env x v] items.reverse; pure Flow.next) _ _ _
  refine wpAny_bind (wpAny_rule (wpAny_bind (unpackItems_tuple (items := #[u1, u2]) (I.ok.hd hc) (IsTup.new s1.heap _) fun h' hx' => ?_)))
  have I3 := I2.kept (h' := h') (t' := s1.toks) fun b o e => hx' b o (Nat.ne_of_lt (Heap.lt_size e)) e
  show wpAny _ _ (assignInOrder [fun v => bindName X.env y v, fun v => bindName X.env x v] [u2, u1] >>= fun _ => pure Flow.next) _ _ _
  refine wpAny_bind (assignInOrder_cons (wpAny_bindName (store_ok I3 hN hj (.inl hy) rw' (fun s2 I4 => ?_) (.inr hy))))
  refine assignInOrder_cons (wpAny_bindName (store_ok I4 hN hi (.inl hx) rv (fun s3 I5 => assignInOrder_nil (wpAny_pure ?_)) (.inr hx)))
  rw [List.set_comm _ _ (Ne.symm hij)] at I5
  exact ⟨_, H1, I5, q1⟩
end
section
variable {X : Cx} {pos : Pos}
def tWhile (c : TT) (tb : TS) : TS := fun D σ H => ∃ W : Nat → St → Hp → Prop, (∃ m, W m σ H) ∧ ∀ m σ H, W m σ H →
  c σ H fun b H1 => if b = true then ∃ N : St → Hp → Prop, (∀ σ' H', N σ' H' → ∃ m', m' < m ∧ W m' σ' H') ∧ tb { D with nx := N, ct := N, bk := D.nx } σ H1 else D.nx σ H1
theorem ps_while {c : Expr} {body : List Stmt} {tc : TT} {tb : TS} (hp : PassesOwn (model X.prog X.w) X.A X.env X.xe) (hc : PT X c tc) (hb : PSs X body tb) : PS X (.While c body [] pos) (tWhile tc tb) := by
  intro pins s σ H D I h
  obtain ⟨W, ⟨m0, w0⟩, turn⟩ := h
  refine wpAny_While (codeAny_whileLoop (fun n s' => ∃ σ' H', Inv X pins σ' H' s' ∧ W n σ' H') ?_ m0 ⟨σ, H, I, w0⟩)
  rintro n s1 ⟨σ1, H1, I1, w1⟩
  refine wpAny_passesOwn hp (thn (hc pins s1 σ1 H1 _ I1 (turn n σ1 H1 w1)) fun b s2 ⟨H2, I2, q2⟩ => ?_)
  cases b with
  | true =>
    obtain ⟨N, hN, q2⟩ := q2
    rw [if_pos rfl]
    refine wpAny_passesOwn hp (thn (hb pins s2 σ1 H2 _ I2 q2) fun f s3 q3 => ?_)
    cases f with
    | next =>
      obtain ⟨σ3, H3, I3, n3⟩ := q3
      obtain ⟨m', hm, w3⟩ := hN σ3 H3 n3
      exact ⟨m', hm, σ3, H3, I3, w3⟩
    | cont =>
      obtain ⟨σ3, H3, I3, n3⟩ := q3
      obtain ⟨m', hm, w3⟩ := hN σ3 H3 n3
      exact ⟨m', hm, σ3, H3, I3, w3⟩
    | brk => exact q3
    | ret v => exact q3
  | false =>
    rw [if_neg Bool.false_ne_true]
    exact wpAny_execs_nil ⟨σ1, H2, I2, q2⟩
end
structure It where
  go : Nat → Hp → Prop
  yld : Nat → Hp → V → Hp → Prop
  stop : Nat → Hp → Prop
def FpOk (X : Cx) (pins : List (Addr × Obj)) (H : Hp) (b : Addr) : Prop :=
  H b = none ∧ b ≠ X.env.locals ∧ b ∉ X.fs ∧ (b ∈ X.ex ∨ X.s₀.heap.objs.size ≤ b) ∧ (∀ x c, X.env.cells.lookup x = some c → c ≠ b) ∧ ∀ p ∈ X.pn ++ pins, p.1 ≠ b
theorem Inv.fpOk {X : Cx} {pins : List (Addr × Obj)} {σ : St} {H H' : Hp} {s : Shared} {b : Addr} (I : Inv X pins σ H s) (hb : s.heap.objs.size ≤ b) (hn : H' b = none) : FpOk X pins H' b := by
  refine ⟨hn, Nat.ne_of_gt (Nat.lt_of_lt_of_le I.lt hb), I.nofs hb, .inr (Nat.le_trans I.sz hb), fun x c e z => ?_, fun p hp z => ?_⟩
  · obtain ⟨v, q⟩ := I.cell x c e
    exact absurd (Nat.lt_of_lt_of_le q.lt (by rw [z]; exact hb)) (Nat.lt_irrefl _)
  · exact absurd (Nat.lt_of_lt_of_le (Heap.lt_size (I.pin p hp).1) (by rw [z]; exact hb)) (Nat.lt_irrefl _)
structure Turn (P : Program) (w : World) (K : PySem.W.Frag) (tg : Expr) (J : It) (fp : List Addr) (it : Addr) (tn : Nat → Heap → Prop) : Prop where
  mem : it ∈ fp
  obj : ∀ i h, tn i h → ∀ b ∈ fp, ∃ o, h.get? b = some o ∧ ∀ v, o.data ≠ .cell v
  keep : ∀ i h h', tn i h → (∀ b ∈ fp, ∀ o, h.get? b = some o → h'.get? b = some o) → tn i h'
  item : ∀ (X : Cx), X.prog = P → X.w = w → X.K = K → X.calm = true → ∀ (i : Nat) (pins : List (Addr × Obj)) (s : Shared) (σ : St) (H : Hp) (E : Value → Shared → Prop), Inv X pins σ H s → (∀ b ∈ fp, FpOk X pins H b) → tn i s.heap → J.go i H →
    wpAny (model P w) X.A (pyNext (.ref it)) (fun r s1 => ∃ u, r = some u ∧
      wpAny (model P w) X.A (letOwnedTupleGo tg (.ref it) u) (fun _ s2 => ∃ x H', Inv X pins σ H' s2 ∧ RelV x u ∧ J.yld i H x H' ∧ tn (i + 1) s2.heap ∧ ∀ b ∈ fp, H' b = none) E s1) E s
  done : ∀ (X : Cx), X.prog = P → X.w = w → X.K = K → X.calm = true → ∀ (i : Nat) (pins : List (Addr × Obj)) (s : Shared) (σ : St) (H : Hp) (E : Value → Shared → Prop), Inv X pins σ H s → (∀ b ∈ fp, FpOk X pins H b) → tn i s.heap → J.stop i H →
    wpAny (model P w) X.A (pyNext (.ref it)) (fun r s1 => r = none ∧ Inv X pins σ H s1) E s
  self : ∀ (A : Around) (i : Nat) (s : Shared) (Q : Value → Shared → Prop) (E : Value → Shared → Prop), tn i s.heap → Q (.ref it) s → wpAny (model P w) A (pyIter (.ref it)) Q E s
abbrev TI := St → Hp → (It → Hp → Prop) → Prop
def PIE (X : Cx) (pins : List (Addr × Obj)) (σ : St) (tg : Expr) (R : It → Hp → Prop) (itv : Value) (s2 : Shared) : Prop :=
  ∃ (it : Addr) (fp : List Addr) (tn : Nat → Heap → Prop) (J : It) (H' : Hp), itv = .ref it ∧ Inv X pins σ H' s2 ∧ Turn X.prog X.w X.K tg J fp it tn ∧ tn 0 s2.heap ∧ (∀ b ∈ fp, FpOk X pins H' b) ∧ R J H'
def PI (X : Cx) (tg iter : Expr) (wi : TI) : Prop :=
  ∀ (pins : List (Addr × Obj)) (s : Shared) (σ : St) (H : Hp) (R : It → Hp → Prop), Inv X pins σ H s → wi σ H R →
    wpAny (model X.prog X.w) X.A (eval iter X.env) (fun v s1 => wpAny (model X.prog X.w) X.A (pyIter v) (PIE X pins σ tg R) X.xe s1) X.xe s
theorem go_of {M : Model} {A : Around} {E : Value → Shared → Prop} {s : Shared} {tg : Expr} {it : Addr} {u : Value} {o : Obj} {n : String} {vs : Array Value} {Q : Unit → Shared → Prop} (ho : s.heap.get? it = some o) (hc : o.cls = .type n) (hd : o.data = .fields vs)
    (hn : ["enumerate", "zip", "dict_itemiterator", "dict_reverseitemiterator", "odict_iterator", "itertools.zip_longest", "itertools.pairwise"].contains n = false) (hQ : Q () s) : wpAny M A (letOwnedTupleGo tg (.ref it) u) Q E s := by
  unfold letOwnedTupleGo
  cases tg <;> first
    | exact wpAny_pure hQ
    | (cases u <;> first
        | exact wpAny_pure hQ
        | (refine wpAny_bind (wpAny_load ho ?_)
           rw [hc, hd]
           show wpAny M A (if (["enumerate", "zip", "dict_itemiterator", "dict_reverseitemiterator", "odict_iterator", "itertools.zip_longest", "itertools.pairwise"].contains n && vs[0]? == some (rawInt _)) = true then _ else _) Q E s
           rw [if_neg (by intro h; rw [hn, Bool.false_and] at h; cases h)]
           exact wpAny_pure hQ))
def Itl (K : PySem.W.Frag) (a : Addr) : It :=
  ⟨fun i H => ∃ xs x, SqL K H a xs ∧ xs[i]? = some x, fun i H x H' => H' = H ∧ ∀ xs, SqL K H a xs → xs[i]? = some x, fun i H => ∃ xs, SqL K H a xs ∧ xs.length ≤ i⟩
def Itt (K : PySem.W.Frag) (a : Addr) : It :=
  ⟨fun i H => ∃ xs x, SqT K H a xs ∧ xs[i]? = some x, fun i H x H' => H' = H ∧ ∀ xs, SqT K H a xs → xs[i]? = some x, fun i H => ∃ xs, SqT K H a xs ∧ xs.length ≤ i⟩
def Itr (lo : Int) (n : Nat) : It := ⟨fun i _ => i < n, fun i H x H' => H' = H ∧ x = .int (lo + i), fun i _ => n ≤ i⟩
theorem turn_list {P : Program} {w : World} {K : PySem.W.Frag} {tg : Expr} (a it : Addr) : Turn P w K tg (Itl K a) [it] it (fun i h => h.IsListIter it a i) where
  mem := by simp
  obj := fun i h st b hb => by
    have e : b = it := by simpa using hb
    subst e
    obtain ⟨o, e, c, d⟩ := st
    exact ⟨o, e, fun v z => by rw [d] at z; cases z⟩
  keep := fun i h h' st k => st.at fun o e => k it (by simp) o e
  item := by
    intro X hP hw hK hc i pins s σ H E I hf st hg
    subst hP hw hK
    obtain ⟨xs, x, hq, hx⟩ := hg
    obtain ⟨its, rv, p, hz⟩ := I.list hq
    obtain ⟨u, hu, ru⟩ := rv.get hx
    obtain ⟨f0, f1, f2, f3, f4, f5⟩ := hf it (by simp)
    refine wpAny_pyNext_list_item st p.isList (x := u) (by simpa using hu) fun h' st' sb => ?_
    have I1 : Inv X pins σ H { s with heap := h' } := I.turned (t' := s.toks) (fun b o hb e => (sb.2 b hb).trans e) f0 f1 f3 f4 f5
    obtain ⟨o, e, c, d⟩ := id st'
    exact ⟨u, rfl, go_of (s := { s with heap := h' }) e c d (by decide) ⟨x, H, I1, ru, ⟨rfl, fun ys hy => by rw [I.list_inj hy hq]; exact hx⟩, st', fun b hb => (hf b hb).1⟩⟩
  done := by
    intro X hP hw hK hc i pins s σ H E I hf st hg
    subst hP hw hK
    obtain ⟨xs, hq, hx⟩ := hg
    obtain ⟨its, rv, p, hz⟩ := I.list hq
    obtain ⟨f0, f1, f2, f3, f4, f5⟩ := hf it (by simp)
    have hl := rv.length
    exact wpAny_pyNext_list_end (I.ok.hd hc) st p.isList (by simp; omega) fun h' eb => ⟨rfl, I.turned (t' := s.toks) (fun b o hb e => eb b o hb e) f0 f1 f3 f4 f5⟩
  self := fun _ _ _ _ _ st h => wpAny_pyIter_listiter st h
theorem turn_tuple {P : Program} {w : World} {K : PySem.W.Frag} {tg : Expr} (a it : Addr) : Turn P w K tg (Itt K a) [it] it (fun i h => h.IsTupleIter it a i) where
  mem := by simp
  obj := fun i h st b hb => by
    have e : b = it := by simpa using hb
    subst e
    obtain ⟨o, e, c, d⟩ := st
    exact ⟨o, e, fun v z => by rw [d] at z; cases z⟩
  keep := fun i h h' st k => st.at fun o e => k it (by simp) o e
  item := by
    intro X hP hw hK hc i pins s σ H E I hf st hg
    subst hP hw hK
    obtain ⟨xs, x, hq, hx⟩ := hg
    obtain ⟨its, rv, p, hz⟩ := I.tuple hq
    obtain ⟨u, hu, ru⟩ := rv.get hx
    obtain ⟨f0, f1, f2, f3, f4, f5⟩ := hf it (by simp)
    refine wpAny_pyNext_tuple_item st (show s.heap.IsTuple a its.toArray from p) (x := u) (by simpa using hu) fun h' st' sb => ?_
    have I1 : Inv X pins σ H { s with heap := h' } := I.turned (t' := s.toks) (fun b o hb e => (sb.2 b hb).trans e) f0 f1 f3 f4 f5
    obtain ⟨o, e, c, d⟩ := id st'
    exact ⟨u, rfl, go_of (s := { s with heap := h' }) e c d (by decide) ⟨x, H, I1, ru, ⟨rfl, fun ys hy => by rw [I.tuple_inj hy hq]; exact hx⟩, st', fun b hb => (hf b hb).1⟩⟩
  done := by
    intro X hP hw hK hc i pins s σ H E I hf st hg
    subst hP hw hK
    obtain ⟨xs, hq, hx⟩ := hg
    obtain ⟨its, rv, p, hz⟩ := I.tuple hq
    obtain ⟨f0, f1, f2, f3, f4, f5⟩ := hf it (by simp)
    have hl := rv.length
    exact wpAny_pyNext_tuple_end (I.ok.hd hc) st (show s.heap.IsTuple a its.toArray from p) (by simp; omega) fun h' eb => ⟨rfl, I.turned (t' := s.toks) (fun b o hb e => eb b o hb e) f0 f1 f3 f4 f5⟩
  self := fun _ _ _ _ _ st h => wpAny_pyIter_tupleiter st h
theorem turn_range {P : Program} {w : World} {K : PySem.W.Frag} {tg : Expr} (it : Addr) (lo : Int) (n : Nat) : Turn P w K tg (Itr lo n) [it] it (fun i h => IsRangeIter h it (lo + (i : Nat) * 1) ((n : Int) - (i : Nat)) 1) where
  mem := by simp
  obj := fun i h st b hb => by
    have e : b = it := by simpa using hb
    subst e
    exact ⟨_, st, fun v z => by
      have z' : Data.fields _ = Data.cell v := z
      cases z'⟩
  keep := fun i h h' st k => k it (by simp) _ st
  item := by
    intro X hP hw hK hc i pins s σ H E I hf st hg
    subst hP hw hK
    obtain ⟨f0, f1, f2, f3, f4, f5⟩ := hf it (by simp)
    have W := Walks.range (prog := X.prog) (w := X.w) (I.ok.hd hc) it lo 1 n
    refine W.item i s _ _ hg st fun v h' tk hv st' kk => ?_
    obtain ⟨t, rfl⟩ := hv
    have I1 : Inv X pins σ H { s with heap := h', toks := tk } := I.turned (fun b o hb e => kk b o (by simpa using hb) e) f0 f1 f3 f4 f5
    refine ⟨_, rfl, go_of (s := { s with heap := h', toks := tk }) (n := "range_iterator") st' rfl rfl (by decide) ⟨.int (lo + i), H, I1, ⟨t, ?_⟩, ⟨rfl, rfl⟩, st', fun b hb => (hf b hb).1⟩⟩
    rw [Int.mul_one]
  done := by
    intro X hP hw hK hc i pins s σ H E I hf st hg
    subst hP hw hK
    obtain ⟨f0, f1, f2, f3, f4, f5⟩ := hf it (by simp)
    exact wpAny_pyNext_range_end (I.ok.hd hc) st (by have : n ≤ i := hg; omega) fun h' eb => ⟨rfl, I.turned (t' := s.toks) (fun b o hb e => eb b o hb e) f0 f1 f3 f4 f5⟩
  self := fun _ _ _ _ _ st h => wpAny_pyIter_rangeiter st h
end L2
namespace L2
open PySem PySem.Spec PyProof.Rows
section
variable {X : Cx} {tg : Expr}
def iList (K : PySem.W.Frag) (tl : TE) : TI := fun σ H R => tl σ H fun x H1 => ∃ a, x = .ref a ∧ (∃ xs, SqL K H1 a xs) ∧ R (Itl K a) H1
def iTup (K : PySem.W.Frag) (tl : TE) : TI := fun σ H R => tl σ H fun x H1 => ∃ a, x = .ref a ∧ (∃ xs, SqT K H1 a xs) ∧ R (Itt K a) H1
theorem pi_list {l : Expr} {tl : TE} (hl : PE X l tl) : PI X tg l (iList X.K tl) := by
  intro pins s σ H R I h
  refine thn (hl pins s σ H _ I h) fun v s1 ⟨x, H1, I1, r1, q1⟩ => ?_
  obtain ⟨a, e, ⟨xs, hq⟩, q⟩ := q1
  subst e
  cases r1
  obtain ⟨its, rv, p, hz⟩ := I1.list hq
  refine wpAny_pyIter_list p.isList ?_
  refine ⟨s1.heap.objs.size, [s1.heap.objs.size], _, _, H1, rfl, I1.kept (t' := s1.toks) fun b o e => Heap.get?_push_of_some _ e, turn_list a _, ⟨_, Heap.get?_push_size _ rfl, rfl, rfl⟩, fun b hb => ?_, q⟩
  have e : b = s1.heap.objs.size := by simpa using hb
  subst e
  exact I1.fpOk (Nat.le_refl _) (I1.hok.fresh (Nat.le_refl _))
theorem pi_tup {l : Expr} {tl : TE} (hl : PE X l tl) : PI X tg l (iTup X.K tl) := by
  intro pins s σ H R I h
  refine thn (hl pins s σ H _ I h) fun v s1 ⟨x, H1, I1, r1, q1⟩ => ?_
  obtain ⟨a, e, ⟨xs, hq⟩, q⟩ := q1
  subst e
  cases r1
  obtain ⟨its, rv, p, hz⟩ := I1.tuple hq
  refine wpAny_pyIter_tuple (show s1.heap.IsTuple a its.toArray from p) ?_
  refine ⟨s1.heap.objs.size, [s1.heap.objs.size], _, _, H1, rfl, I1.kept (t' := s1.toks) fun b o e => Heap.get?_push_of_some _ e, turn_tuple a _, ⟨_, Heap.get?_push_size _ rfl, rfl, rfl⟩, fun b hb => ?_, q⟩
  have e : b = s1.heap.objs.size := by simpa using hb
  subst e
  exact I1.fpOk (Nat.le_refl _) (I1.hok.fresh (Nat.le_refl _))
theorem range_it {pins : List (Addr × Obj)} {σ : St} {H : Hp} {s : Shared} {R : It → Hp → Prop} {E : Value → Shared → Prop} {lo hi : Int} {t u v : Tok} {tk : Nat} (I : Inv X pins σ H s) (h1 : -(2 ^ 62) ≤ lo) (h2 : lo < 2 ^ 62) (h3 : -(2 ^ 62) ≤ hi) (h4 : hi < 2 ^ 62)
    (q : R (Itr lo (hi - lo).toNat) H) : wpAny (model X.prog X.w) X.A (pyIter (.ref s.heap.objs.size)) (PIE X pins σ tg R) E { s with heap := s.heap.push { cls := .type "range", data := .fields #[.int lo t, .int hi u, .int 1 v] }, toks := tk } := by
  refine wpAny_pyIter_range (IsRange.new ..) (small_one h1 h2 h3 h4) ?_
  have I1 : Inv X pins σ H { s with heap := s.heap.push { cls := .type "range", data := .fields #[.int lo t, .int hi u, .int 1 v] }, toks := tk } := I.kept fun b o e => Heap.get?_push_of_some _ e
  refine ⟨(s.heap.push { cls := .type "range", data := .fields #[.int lo t, .int hi u, .int 1 v] }).objs.size, [(s.heap.push { cls := .type "range", data := .fields #[.int lo t, .int hi u, .int 1 v] }).objs.size], _, _, H, rfl,
    I1.kept (t' := tk) fun b o e => Heap.get?_push_of_some _ e, turn_range _ lo (hi - lo).toNat, ?_, fun b hb => ?_, q⟩
  · have e1 : lo + ((0 : Nat) : Int) * 1 = lo := by simp
    have e2 : (((hi - lo).toNat : Nat) : Int) - ((0 : Nat) : Int) = Builtin.Range.rangeSize lo hi 1 := by rw [rangeSize_one]; split <;> omega
    show IsRangeIter _ _ (lo + ((0 : Nat) : Int) * 1) ((((hi - lo).toNat : Nat) : Int) - ((0 : Nat) : Int)) 1
    rw [e1, e2]
    exact Heap.get?_push_size _ rfl
  · have e : b = (s.heap.push { cls := .type "range", data := .fields #[.int lo t, .int hi u, .int 1 v] }).objs.size := by simpa using hb
    subst e
    exact I1.fpOk (Nat.le_refl _) (I1.hok.fresh (Nat.le_refl _))
def iRng1 (ta : TA) : TI := fun σ H R => ta σ H fun vs H1 => ∃ j : Int, vs = [.int j] ∧ -(2 ^ 62) ≤ j ∧ j < 2 ^ 62 ∧ R (Itr 0 j.toNat) H1
theorem pi_range1 {a : Expr} {ta : TA} {p pos : Pos} (hg : Gl X "range") (hm : X.mg "range" = none) (ha : PA X [a] ta) (hs : starEach [a] X.env = [(false, eval a X.env)] := by rfl) : PI X tg (.Call (.Name "range" p) [a] [] pos) (iRng1 ta) := by
  intro pins s σ H R I h
  refine Call_ (ld_blt I hg hm boot_range (PyProof.Rows.callWith_type1 (thn (ha pos pins s σ H _ I h) fun us s1 ⟨vs, H1, I1, r1, q1⟩ => ?_) hs rfl))
  obtain ⟨j, e, q1, q2, q⟩ := q1
  subst e
  cases r1 with
  | cons r rr =>
    cases rr
    obtain ⟨t, rfl⟩ := r
    exact call_range_1 (range_it I1 (by omega) (by omega) q1 q2 (by simpa using q))
def tFor (wi : TI) (g : TG) (tb : TS) : TS := fun D σ H => wi σ H fun J H1 => ∃ W : Nat → Nat → St → Hp → Prop, (∃ m, W 0 m σ H1) ∧ ∀ i m σ H, W i m σ H →
  (J.stop i H ∧ D.nx σ H) ∨ (J.go i H ∧ ∃ N : St → Hp → Prop, (∀ σ' H', N σ' H' → ∃ m', m' < m ∧ W (i + 1) m' σ' H') ∧ ∀ x H', J.yld i H x H' → g x σ H' fun σ2 H2 => tb { D with nx := N, ct := N, bk := D.nx } σ2 H2)
def pinsAt (fp : List Addr) (h : Heap) : List (Addr × Obj) := fp.filterMap fun b => (h.get? b).map fun o => (b, o)
theorem mem_pinsAt {fp : List Addr} {h : Heap} {b : Addr} {o : Obj} (hb : b ∈ fp) (e : h.get? b = some o) : (b, o) ∈ pinsAt fp h := List.mem_filterMap.mpr ⟨b, hb, by rw [e]; rfl⟩
theorem of_pinsAt {fp : List Addr} {h : Heap} {p : Addr × Obj} (hp : p ∈ pinsAt fp h) : p.1 ∈ fp ∧ h.get? p.1 = some p.2 := by
  obtain ⟨b, hb, e⟩ := List.mem_filterMap.mp hp
  cases q : h.get? b with
  | none => rw [q] at e; cases e
  | some o =>
    rw [q] at e
    have e' : (b, o) = p := Option.some.inj e
    subst e'
    exact ⟨hb, q⟩
theorem Inv.pinned {pins : List (Addr × Obj)} {σ : St} {H : Hp} {s : Shared} {fp : List Addr} (I : Inv X pins σ H s) (hf : ∀ b ∈ fp, FpOk X pins H b) (ho : ∀ b ∈ fp, ∃ o, s.heap.get? b = some o ∧ ∀ v, o.data ≠ .cell v) : Inv X (pins ++ pinsAt fp s.heap) σ H s :=
  I.pins_of fun p hp => (List.mem_append.mp hp).elim (fun z => I.pin p (List.mem_append_right _ z)) fun z => by
    obtain ⟨hb, e⟩ := of_pinsAt z
    obtain ⟨f0, f1, f2, _⟩ := hf p.1 hb
    obtain ⟨o, e', d⟩ := ho p.1 hb
    rw [e] at e'; cases e'
    exact ⟨e, f0, f1, f2, d⟩
theorem Inv.unpinned {pins pl : List (Addr × Obj)} {σ : St} {H : Hp} {s : Shared} (I : Inv X (pins ++ pl) σ H s) : Inv X pins σ H s := I.pins_of fun p hp => I.pin p (List.mem_append_right _ (List.mem_append_left _ hp))
theorem ps_for {iter : Expr} {body : List Stmt} {wi : TI} {g : TG} {tb : TS} {pos : Pos} (hp : PassesOwn (model X.prog X.w) X.A X.env X.xe) (hc : X.calm = true) (hi : PI X tg iter wi) (hg : PG X tg g) (hb : PSs X body tb)
    (hs : ∀ x, foldedSetIterable iter X.env x = pure x := by intro _; rfl) : PS X (.For tg iter body [] pos) (tFor wi g tb) := by
  intro pins s σ H D I h
  refine wpAny_For (thn (hi pins s σ H _ I h) fun v s1 h1 => thn h1 fun itv s2 h2 => ?_) hs
  obtain ⟨it, fp, tn, J, H2, e, I2, T, st2, f2, W, ⟨m0, w0⟩, turn⟩ := h2
  subst e
  -- what stays true of the iterator's objects through the loop
  have stat : ∀ {H' : Hp}, (∀ b ∈ fp, H' b = none) → ∀ b ∈ fp, FpOk X pins H' b := fun hn b hb => ⟨hn b hb, (f2 b hb).2⟩
  refine codeAny_forLoop_any (fun n s' => ∃ i σ' H', Inv X pins σ' H' s' ∧ tn i s'.heap ∧ (∀ b ∈ fp, H' b = none) ∧ W i n σ' H') ?_ m0 ⟨0, σ, H2, I2, st2, fun b hb => (f2 b hb).1, w0⟩
  rintro n s3 ⟨i, σ3, H3, I3, st3, fr3, w3⟩
  rcases turn i n σ3 H3 w3 with ⟨stop, qn⟩ | ⟨go, N, hN, step⟩
  · refine wpAny_passesOwn hp (thn (T.done X rfl rfl rfl hc i pins s3 σ3 H3 X.xe I3 (stat fr3) st3 stop) fun r s4 ⟨hr, I4⟩ => ?_)
    subst hr
    exact wpAny_execs_nil ⟨σ3, H3, I4, qn⟩
  · refine wpAny_passesOwn hp (thn (T.item X rfl rfl rfl hc i pins s3 σ3 H3 X.xe I3 (stat fr3) st3 go) fun r s4 ⟨u, hr, h4⟩ => ?_)
    subst hr
    refine wpAny_passesOwn hp (thn h4 fun _ s5 ⟨x, H5, I5, r5, y5, st5, fr5⟩ => ?_)
    have I5' := I5.pinned (stat fr5) (T.obj _ _ st5)
    refine wpAny_passesOwn hp (thn (hg _ s5 σ3 H5 x u _ I5' r5 (step x H5 y5)) fun _ s6 ⟨σ6, H6, I6, q6⟩ => ?_)
    refine wpAny_passesOwn hp (thn (hb _ s6 σ6 H6 _ I6 q6) fun f s7 q7 => ?_)
    have again : ∀ {σ7 : St} {H7 : Hp}, Inv X (pins ++ pinsAt fp s5.heap) σ7 H7 s7 → N σ7 H7 → ∃ m, m < n ∧ ∃ i σ' H', Inv X pins σ' H' s7 ∧ tn i s7.heap ∧ (∀ b ∈ fp, H' b = none) ∧ W i m σ' H' := fun {σ7 H7} I7 n7 => by
      obtain ⟨m', hm, w7⟩ := hN σ7 H7 n7
      refine ⟨m', hm, i + 1, σ7, H7, I7.unpinned, T.keep _ _ _ st5 fun b hb o e => (I7.pin (b, o) (List.mem_append_right _ (List.mem_append_right _ (mem_pinsAt hb e)))).1, fun b hb => ?_, w7⟩
      obtain ⟨o, e, d⟩ := T.obj _ _ st5 b hb
      exact (I7.pin (b, o) (List.mem_append_right _ (List.mem_append_right _ (mem_pinsAt hb e)))).2.1
    cases f with
    | next => obtain ⟨σ7, H7, I7, n7⟩ := q7; exact again I7 n7
    | cont => obtain ⟨σ7, H7, I7, n7⟩ := q7; exact again I7 n7
    | brk => obtain ⟨σ7, H7, I7, q7⟩ := q7; exact ⟨σ7, H7, I7.unpinned, q7⟩
    | ret v => obtain ⟨x7, σ7, H7, I7, r7, q7⟩ := q7; exact ⟨x7, σ7, H7, I7.unpinned, r7, q7⟩
end
end L2
namespace L2
open PySem PySem.Spec PyProof.Rows
abbrev R2 := V → V → Hp → VK → Prop
def OpR (X : Cx) (f : Value → Value → Sem Value) (r : R2) : Prop :=
  ∀ (pins : List (Addr × Obj)) (s : Shared) (σ : St) (H : Hp) (x y : V) (v u : Value) (Q : VK), Inv X pins σ H s → RelV x v → RelV y u → r x y H Q →
    wpAny (model X.prog X.w) X.A (f v u) (EP X pins σ Q) X.xe s
def UnR (X : Cx) (f : Value → Sem Value) (r : V → Hp → VK → Prop) : Prop :=
  ∀ (pins : List (Addr × Obj)) (s : Shared) (σ : St) (H : Hp) (x : V) (v : Value) (Q : VK), Inv X pins σ H s → RelV x v → r x H Q →
    wpAny (model X.prog X.w) X.A (f v) (EP X pins σ Q) X.xe s
def CallR (X : Cx) (f : Value) (r : List V → Hp → VK → Prop) : Prop :=
  ∀ (pins : List (Addr × Obj)) (s : Shared) (σ : St) (H : Hp) (xs : List V) (us : List Value) (Q : VK), Inv X pins σ H s → Vals xs us → r xs H Q →
    wpAny (model X.prog X.w) X.A (call f us) (EP X pins σ Q) X.xe s
def TruR (X : Cx) (r : V → Hp → (Bool → Hp → Prop) → Prop) : Prop :=
  ∀ (pins : List (Addr × Obj)) (s : Shared) (σ : St) (H : Hp) (x : V) (v : Value) (Q : Bool → Hp → Prop), Inv X pins σ H s → RelV x v → r x H Q →
    wpAny (model X.prog X.w) X.A (truthy v) (TP X pins σ Q) X.xe s
def tOp (r : R2) (ta tb : TE) : TE := fun σ H Q => ta σ H fun x H1 => tb σ H1 fun y H2 => r x y H2 Q
def tUn (r : V → Hp → VK → Prop) (ta : TE) : TE := fun σ H Q => ta σ H fun x H1 => r x H1 Q
def rI (C : Int → Int → Prop) (g : Int → Int → V) : R2 := fun x y H Q => ∃ i j, x = .int i ∧ y = .int j ∧ C i j ∧ Q (g i j) H
def rI0 (g : Int → Int → V) : R2 := fun x y H Q => ∃ i j, x = .int i ∧ y = .int j ∧ Q (g i j) H
def rU (g : Int → V) : V → Hp → VK → Prop := fun x H Q => ∃ i, x = .int i ∧ Q (g i) H
section
variable {X : Cx} {a b c : Expr} {ta tb tc : TE} {pos : Pos}
theorem binT (ha : PE X a ta) (hb : PE X b tb) {pins : List (Addr × Obj)} {s : Shared} {σ : St} {H : Hp} {R : V → V → Hp → Prop} (I : Inv X pins σ H s)
    (h : ta σ H fun x H1 => tb σ H1 fun y H2 => R x y H2) {Q : Value → Shared → Prop} {f : Value → Value → Sem Value}
    (hf : ∀ v u s2 x y H2, Inv X pins σ H2 s2 → RelV x v → RelV y u → R x y H2 → wpAny (model X.prog X.w) X.A (f v u) Q X.xe s2) :
    wpAny (model X.prog X.w) X.A (eval a X.env) (fun v s₁ => wpAny (model X.prog X.w) X.A (eval b X.env) (fun u s₂ => wpAny (model X.prog X.w) X.A (f v u) Q X.xe s₂) X.xe s₁) X.xe s := by
  refine thn (ha pins s σ H _ I h) fun v s1 ⟨x, H1, I1, r1, q1⟩ => ?_
  refine thn (hb pins s1 σ H1 _ I1 q1) fun u s2 ⟨y, H2, I2, r2, q2⟩ => ?_
  exact hf v u s2 x y H2 I2 r1 r2 q2
theorem pe_op {op : Operator} {r : R2} (ho : OpR X (binaryOp op) r) (ha : PE X a ta) (hb : PE X b tb) : PE X (.BinOp a op b pos) (tOp r ta tb) := by
  intro pins s σ H Q I h
  exact wpAny_BinOp (binT ha hb I h fun v u s2 x y H2 I2 rx ry q => ho pins s2 σ H2 x y v u Q I2 rx ry q)
theorem pe_un {op : UnaryOp} {r : V → Hp → VK → Prop} (ho : UnR X (unaryOp op) r) (ha : PE X a ta) : PE X (.UnaryOp op a pos) (tUn r ta) := by
  intro pins s σ H Q I h
  exact UnaryOp_ (thn (ha pins s σ H _ I h) fun v s1 ⟨x, H1, I1, r1, q1⟩ => ho pins s1 σ H1 x v Q I1 r1 q1)
theorem opI {f : Value → Value → Sem Value} {C : Int → Int → Prop} {g : Int → Int → Int}
    (rule : ∀ (i j : Int) (t u : Tok) (s : Shared) (Q : Value → Shared → Prop) (E : Value → Shared → Prop), C i j → Q (.int (g i j) s.toks) { s with toks := s.toks + 1 } → wpAny (model X.prog X.w) X.A (f (.int i t) (.int j u)) Q E s) :
    OpR X f (rI C fun i j => .int (g i j)) := by
  intro pins s σ H x y v u Q I rx ry h
  obtain ⟨i, j, rfl, rfl, hc, q⟩ := h
  obtain ⟨t, rfl⟩ := rx
  obtain ⟨t', rfl⟩ := ry
  exact rule i j t t' s _ _ hc ⟨.int (g i j), H, I.tok _, ⟨_, rfl⟩, q⟩
theorem opI0 {f : Value → Value → Sem Value} {g : Int → Int → Int}
    (rule : ∀ (i j : Int) (t u : Tok) (s : Shared) (Q : Value → Shared → Prop) (E : Value → Shared → Prop), Q (.int (g i j) s.toks) { s with toks := s.toks + 1 } → wpAny (model X.prog X.w) X.A (f (.int i t) (.int j u)) Q E s) :
    OpR X f (rI0 fun i j => .int (g i j)) := by
  intro pins s σ H x y v u Q I rx ry h
  obtain ⟨i, j, rfl, rfl, q⟩ := h
  obtain ⟨t, rfl⟩ := rx
  obtain ⟨t', rfl⟩ := ry
  exact rule i j t t' s _ _ ⟨.int (g i j), H, I.tok _, ⟨_, rfl⟩, q⟩
theorem opB0 {f : Value → Value → Sem Value} {g : Int → Int → Bool}
    (rule : ∀ (i j : Int) (t u : Tok) (s : Shared) (Q : Value → Shared → Prop) (E : Value → Shared → Prop), Q (.bool (g i j)) s → wpAny (model X.prog X.w) X.A (f (.int i t) (.int j u)) Q E s) :
    OpR X f (rI0 fun i j => .bl (g i j)) := by
  intro pins s σ H x y v u Q I rx ry h
  obtain ⟨i, j, rfl, rfl, q⟩ := h
  obtain ⟨t, rfl⟩ := rx
  obtain ⟨t', rfl⟩ := ry
  exact rule i j t t' s _ _ ⟨.bl (g i j), H, I, rfl, q⟩
def CPow (i j : Int) : Prop := 0 ≤ j ∧ j ≤ 1000000 ∧ i.natAbs < 2 ^ 64
def CMul (i j : Int) : Prop := (-(2 ^ 64) < i ∧ i < 2 ^ 64) ∨ (-(2 ^ 64) < j ∧ j < 2 ^ 64)
theorem CMul.ok {i j : Int} (h : CMul i j) : IntMulOk i j := by
  rcases h with ⟨h1, h2⟩ | ⟨h1, h2⟩
  · exact .of_left (intBits_le_64 h1 h2)
  · exact .of_right (intBits_le_64 h1 h2)
theorem op_add : OpR X (binaryOp .Add) (rI0 fun i j => .int (i + j)) := opI0 fun _ _ _ _ _ _ _ q => add_int q
theorem op_sub : OpR X (binaryOp .Sub) (rI0 fun i j => .int (i - j)) := opI0 fun _ _ _ _ _ _ _ q => sub_int q
theorem op_mod : OpR X (binaryOp .Mod) (rI (fun _ j => 0 < j) fun i j => .int (i % j)) := opI fun i j _ _ _ _ _ hc q => by
  have h1 : (0 : Int) < j := hc
  exact mod_int' (by omega) (by rw [Int.fmod_eq_emod_of_nonneg i (by omega)]; exact q)
theorem op_pow : OpR X (binaryOp .Pow) (rI CPow fun i j => .int (i ^ j.toNat)) := opI fun _ _ _ _ _ _ _ hc q => pow_int_small hc.1 hc.2.1 hc.2.2 q
theorem unI {f : Value → Sem Value} {g : Int → Int}
    (rule : ∀ (i : Int) (t : Tok) (s : Shared) (Q : Value → Shared → Prop) (E : Value → Shared → Prop), Q (.int (g i) s.toks) { s with toks := s.toks + 1 } → wpAny (model X.prog X.w) X.A (f (.int i t)) Q E s) :
    UnR X f (rU fun i => .int (g i)) := by
  intro pins s σ H x v Q I rx h
  obtain ⟨i, rfl, q⟩ := h
  obtain ⟨t, rfl⟩ := rx
  exact rule i t s _ _ ⟨.int (g i), H, I.tok _, ⟨_, rfl⟩, q⟩
theorem un_neg : UnR X (unaryOp .USub) (rU fun i => .int (-i)) := unI fun _ _ _ _ _ q => neg_int q
end
section
variable {X : Cx} {a b c : Expr} {ta tb tc : TE} {pos : Pos}
theorem fin_bl {pins : List (Addr × Obj)} {σ : St} {H : Hp} {s : Shared} {Q : VK} {k k' : Bool} (I : Inv X pins σ H s) (q : Q (.bl k) H) (e : k = k') : EP X pins σ Q (.bool k') s := by
  subst e
  exact ⟨.bl k, H, I, rfl, q⟩
theorem op_le : OpR X (compareOp .LtE) (rI0 fun i j => .bl (decide (i ≤ j))) := opB0 fun _ _ _ _ _ _ _ q => le_int q
theorem op_gt : OpR X (compareOp .Gt) (rI0 fun i j => .bl (decide (j < i))) := opB0 fun _ _ _ _ _ _ _ q => gt_int q
theorem op_isN : OpR X (compareOp .Is) (fun x y H Q => y = .non ∧ Q (.bl (decide (x = .non))) H) := by
  intro pins s σ H x y v u Q I rx ry h
  obtain ⟨rfl, q⟩ := h
  cases ry
  refine is_none_gen (fin_bl I q ?_)
  cases x <;> first
    | (cases rx; rfl)
    | (obtain ⟨t, rfl⟩ := rx; rfl)
theorem OpR.or {f : Value → Value → Sem Value} {r r' : R2} (h : OpR X f r) (h' : OpR X f r') : OpR X f (fun x y H Q => r x y H Q ∨ r' x y H Q) := by
  intro pins s σ H x y v u Q I rx ry q
  rcases q with q | q
  · exact h pins s σ H x y v u Q I rx ry q
  · exact h' pins s σ H x y v u Q I rx ry q
theorem nomark (b : Expr) {op : CmpOp} (h : op ≠ .In := by decide) (h2 : op ≠ .NotIn := by decide) : behindInMarks op b = false := by
  have e1 : (op == CmpOp.In) = false := by cases op <;> first | rfl | exact absurd rfl h
  have e2 : (op == CmpOp.NotIn) = false := by cases op <;> first | rfl | exact absurd rfl h2
  cases b <;> simp [behindInMarks, e1, e2]
theorem pe_cmpR {op : CmpOp} {r : R2} (ho : OpR X (compareOp op) r) (ha : PE X a ta) (hb : PE X b tb) (hm : behindInMarks op b = false) : PE X (.Compare a [op] [b] pos) (tOp r ta tb) := by
  intro pins s σ H Q I h
  exact wpAny_Compare1 (binT ha hb I h fun v u s2 x y H2 I2 rx ry q => ho pins s2 σ H2 x y v u Q I2 rx ry q) hm
def tTest (t : TE) : TT := fun σ H Q => t σ H fun x H' => ∃ k, x = .bl k ∧ Q k H'
theorem pt_cmpR {op : CmpOp} {r : R2} (ho : OpR X (compareOp op) r) (ha : PE X a ta) (hb : PE X b tb) (hm : behindInMarks op b = false) : PT X (.Compare a [op] [b] pos) (tTest (tOp r ta tb)) := by
  intro pins s σ H Q I h
  refine wpAny_isTrue_Compare1 (thn (ha pins s σ H _ I h) fun v s1 ⟨x, H1, I1, r1, q1⟩ => thn (hb pins s1 σ H1 _ I1 q1) fun u s2 ⟨y, H2, I2, r2, q2⟩ =>
    thn (ho pins s2 σ H2 x y v u _ I2 r1 r2 q2) fun c s3 ⟨z, H3, I3, r3, k, e, q3⟩ => ?_) hm
  subst e
  cases r3
  exact wpAny_truthy_bool ⟨H3, I3, q3⟩
def tChain (r r' : R2) (ta tb tc : TE) : TE := fun σ H Q => ta σ H fun x H1 => tb σ H1 fun y H2 => r x y H2 fun z H3 => ∃ k, z = .bl k ∧
  (if k = true then tc σ H3 fun w' H4 => r' y w' H4 Q else Q (.bl false) H3)
theorem pe_chain {op op' : CmpOp} {r r' : R2} (ho : OpR X (compareOp op) r) (ho' : OpR X (compareOp op') r') (ha : PE X a ta) (hb : PE X b tb) (hc : PE X c tc)
    (hm : lastMarks [op, op'] [b, c] = false := by with_unfolding_all rfl) : PE X (.Compare a [op, op'] [b, c] pos) (tChain r r' ta tb tc) := by
  intro pins s σ H Q I h
  refine Compare_chain (thn (ha pins s σ H _ I h) fun v s1 ⟨x, H1, I1, r1, q1⟩ => chain_link (thn (hb pins s1 σ H1 _ I1 q1) fun u s2 ⟨y, H2, I2, r2, q2⟩ =>
    thn (ho pins s2 σ H2 x y v u _ I2 r1 r2 q2) fun d s3 ⟨z, H3, I3, r3, k, e, q3⟩ => ?_)) hm
  subst e
  cases r3
  refine wpAny_truthy_bool ?_
  cases k with
  | false => exact ite_ff ⟨.bl false, H3, I3, rfl, q3⟩
  | true => exact ite_tt (chain_last (thn (hc pins s3 σ H3 _ I3 q3) fun w' s4 ⟨z', H4, I4, r4, q4⟩ => ho' pins s4 σ H4 y z' u w' Q I4 r2 r4 q4))
def TruV (K : PySem.W.Frag) (x : V) (H : Hp) (k : Bool) : Prop :=
  match x with
  | .non => k = false
  | .bl b => k = b
  | .int i => k = (i != 0)
  | .str y => y.length ≤ sizeLine ∧ k = ((y.length : Int) != 0)
  | .byt y => y.size ≤ sizeLine ∧ k = ((y.size : Int) != 0)
  | .ref p => (∃ xs, SqL K H p xs ∧ k = !xs.isEmpty) ∨ (∃ xs, SqT K H p xs ∧ k = !xs.isEmpty) ∨ ∃ kvs, H p = some (.dK kvs) ∧ k = !kvs.isEmpty
  | _ => False
theorem isEmpty_kv {κ : Type} {kvs : List (κ × V)} {vs : List (κ × Value)} (r : KV kvs vs) : (!vs.isEmpty) = !kvs.isEmpty := by
  cases r <;> rfl
theorem isEmpty_of {xs : List V} {its : List Value} (r : Vals xs its) : (!its.toArray.isEmpty) = !xs.isEmpty := by
  cases r <;> simp
theorem line63 : (sizeLine : Nat) < 2 ^ 63 := by rw [sizeLine_eq]; decide
theorem tru_ok : TruR X (fun x H Q => ∃ k, TruV X.K x H k ∧ Q k H) := by
  intro pins s σ H x v Q I rx h
  obtain ⟨k, e, q⟩ := h
  have hl := line63
  have hs : sizeLine = 16777216 := sizeLine_eq
  cases x with
  | non =>
    cases rx
    have e' : k = false := e
    subst e'
    exact truthy_none ⟨H, I, q⟩
  | bl b =>
    cases rx
    have e' : k = b := e
    subst e'
    exact wpAny_truthy_bool ⟨H, I, q⟩
  | int i =>
    obtain ⟨t, rfl⟩ := rx
    have e' : k = (i != 0) := e
    subst e'
    exact PySem.P.truthy_int ⟨H, I, q⟩
  | str y =>
    obtain ⟨t, rfl⟩ := rx
    obtain ⟨hy, e'⟩ : y.length ≤ sizeLine ∧ k = ((y.length : Int) != 0) := e
    subst e'
    exact PySem.P.truthy_str (by omega) ⟨H, I.tok _, q⟩
  | byt y =>
    obtain ⟨t, rfl⟩ := rx
    obtain ⟨hy, e'⟩ : y.size ≤ sizeLine ∧ k = ((y.size : Int) != 0) := e
    subst e'
    exact PySem.W.truthy_bytes (by omega) ⟨H, I.tok _, q⟩
  | ref p =>
    cases rx
    have e' : (∃ xs, SqL X.K H p xs ∧ k = !xs.isEmpty) ∨ (∃ xs, SqT X.K H p xs ∧ k = !xs.isEmpty) ∨ ∃ kvs, H p = some (.dK kvs) ∧ k = !kvs.isEmpty := e
    rcases e' with ⟨xs, hx, e'⟩ | ⟨xs, hx, e'⟩ | ⟨kvs, hx, e'⟩
    · subst e'
      obtain ⟨its, r, pl, hz⟩ := I.list hx
      have hlen := r.length
      exact wpAny_truthy_list pl.isList (by simp only [List.size_toArray]; omega) ⟨H, I.tok _, by rw [isEmpty_of r]; exact q⟩
    · subst e'
      obtain ⟨its, r, pl, hz⟩ := I.tuple hx
      have hlen := r.length
      exact truthy_tuple pl (by simp only [List.size_toArray]; omega) ⟨H, I.tok _, by rw [isEmpty_of r]; exact q⟩
    · subst e'
      obtain ⟨hz, hS, vs, r, m⟩ : kvs.length ≤ sizeLine ∧ (p == sysModules) = false ∧ ∃ vs, KV kvs vs ∧ s.heap.DictOf (mixKind X.prog X.w) p vs := I.hok p _ hx
      have hlen : kvs.length = vs.length := Paired.length r
      exact wpAny_truthy_dict hS m (by omega) ⟨H, I.tok _, by rw [isEmpty_kv r]; exact q⟩
  | _ => exact (show False from e).elim
theorem pt_truth (ha : PE X a ta) (he : ∀ whole, isTrue a X.env whole = (do let v ← whole; standAt a.pos; holding [v] (truthy v))) :
    PT X a (fun σ H Q => ta σ H fun x H' => ∃ k, TruV X.K x H' k ∧ Q k H') := by
  intro pins s σ H Q I h
  exact isTrue_plain (thn (ha pins s σ H _ I h) fun v s1 ⟨x, H1, I1, r1, q1⟩ => tru_ok pins s1 σ H1 x v Q I1 r1 q1) (he _)
theorem op_add_str : OpR X (binaryOp .Add) (fun x y H Q => ∃ i j, x = .str i ∧ y = .str j ∧ i.length + j.length ≤ sizeLine ∧ Q (.str (i ++ j)) H) := by
  intro pins s σ H x y v u Q I rx ry h
  obtain ⟨i, j, rfl, rfl, hz, q⟩ := h
  obtain ⟨t, rfl⟩ := rx
  obtain ⟨t', rfl⟩ := ry
  exact add_str (fun t' tk => ⟨.str (i ++ j), H, I.tok _, ⟨_, rfl⟩, q⟩) hz
theorem vals1 {x : V} {us : List Value} (r : Vals [x] us) : ∃ u, us = [u] ∧ RelV x u := by
  cases r with
  | cons r1 r2 => cases r2; exact ⟨_, rfl, r1⟩
theorem vals2 {x y : V} {us : List Value} (r : Vals [x, y] us) : ∃ u w', us = [u, w'] ∧ RelV x u ∧ RelV y w' := by
  cases r with
  | cons r1 r2 =>
    cases r2 with
    | cons r3 r4 => cases r4; exact ⟨_, _, rfl, r1, r3⟩
theorem call_str_int : CallR X (.type "str") (fun xs H Q => ∃ i, xs = [.int i] ∧ i.natAbs.log2 < 1920 ∧ Q (.str (toString i)) H) := by
  intro pins s σ H xs us Q I r h
  obtain ⟨i, rfl, hz, q⟩ := h
  obtain ⟨u, rfl, t, rfl⟩ := vals1 r
  exact PySem.P.str_of_int hz ⟨.str _, H, I.tok _, ⟨_, rfl⟩, q⟩
end
end L2
namespace L2
open PySem PySem.Spec PyProof.Rows
structure ObjM (h : Heap) (x dx C : Addr) (mA : Str → Option Value) : Prop where
  obj : h.get? x = some (PySem.W.instObj C dx)
  ns : h.Ns1 dx mA
  ne : dx ≠ x
section
variable {prog : Program} {w : World} {A : Around} {E : Value → Shared → Prop} {s : Shared} {K : PySem.W.Frag} {x dx C f : Addr} {mA : Str → Option Value} {name : Str} {v : Value}
end
section
variable {P : Program} {w : World} {H H' : Hp} {h h' : Heap} {a C dx : Addr} {fs fs' : List (Str × V)}
end
structure Cls (K : PySem.W.Frag) (C : Addr) : Prop where
  pg : PySem.W.plainGet K C Str.empty = true
  hd : PySem.W.hasDictIn K C = true
  po : PySem.W.plainOver K C = true
  sa : PySem.W.findIn K (.ref C) "__setattr__" = some (some (.builtin "object.__setattr__"))
theorem Cls.get {K : PySem.W.Frag} {C : Addr} (c : Cls K C) (f : Str) : PySem.W.plainGet K C f = true := c.pg
structure Con (K : PySem.W.Frag) (C : Addr) (f : Str) (v : V) (u : Value) : Prop where
  at_ : PySem.W.findIn K (.ref C) f = some (some u)
  rel : RelV v u
  get : PySem.W.specialIn K u "__get__" = some none
  cp : PySem.W.copiedNames.contains f = false
structure Meth (K : PySem.W.Frag) (C : Addr) (m : Str) (f : Addr) : Prop where
  at_ : PySem.W.findIn K (.ref C) m = some (some (.ref f))
  fn : PySem.W.isFn K (.ref f) = true
  kp : PySem.W.keepIn K (.ref f) = true
section
variable {X : Cx} {pins : List (Addr × Obj)} {σ : St} {H : Hp} {s : Shared} {a C dx : Addr} {fs : List (Str × V)} {f : Str} {v : V} {A : Around} {E : Value → Shared → Prop}
theorem Inv.made (I : Inv X pins σ H s) : Inv X pins σ (upd (upd H s.heap.objs.size (.own (s.heap.objs.size + 1))) (s.heap.objs.size + 1) (.ins C s.heap.objs.size []))
    { s with heap := (s.heap.push PySem.W.emptyDict).push (PySem.W.instObj C s.heap.objs.size) } := by
  have e1 : (s.heap.push PySem.W.emptyDict).get? s.heap.objs.size = some PySem.W.emptyDict := Heap.get?_push_size s.heap rfl
  have e2 : ((s.heap.push PySem.W.emptyDict).push (PySem.W.instObj C s.heap.objs.size)).get? (s.heap.objs.size + 1) = some (PySem.W.instObj C s.heap.objs.size) := by
    have := Heap.get?_push_size (s.heap.push PySem.W.emptyDict) (o := PySem.W.instObj C s.heap.objs.size) rfl
    rwa [Heap.size_push] at this
  have e3 : (s.heap.push PySem.W.emptyDict).Ns s.heap.objs.size (fun _ => none) := ⟨PySem.W.emptyDict, #[], _, e1, rfl, (fun e he => absurd he (by simp)), fun _ => rfl⟩
  have I1 := I.laid (a := s.heap.objs.size) (o := .own (s.heap.objs.size + 1)) (h' := s.heap.push PySem.W.emptyDict) (t' := s.toks) (fun b u q => Heap.get?_push_of_some _ q) (Nat.le_refl _) ⟨_, e1⟩
  refine I1.laid (a := s.heap.objs.size + 1) (o := .ins C s.heap.objs.size []) (t' := s.toks) (fun b u q => Heap.get?_push_of_some _ q) (Nat.le_of_eq (Heap.size_push _ _)) ?_
  have ne : s.heap.objs.size ≠ s.heap.objs.size + 1 := Nat.ne_of_lt (Nat.lt_succ_self _)
  refine ⟨by rw [upd_ne ne, upd_same], Nat.zero_le _, ne, e2, fun _ => none, (Heap.Ns1.of_empty e3).at fun o q => Heap.get?_push_of_some _ q, fun _ => True.intro, fun y hy => absurd rfl hy⟩
end
section
variable {X : Cx} {o e value : Expr} {f : Str} {pos pos' tpos : Pos} {ta tv : TE}
end
section
variable {X : Cx} {pins : List (Addr × Obj)} {σ : St} {H : Hp} {s : Shared} {A : Around} {E : Value → Shared → Prop} {Q : Value → Shared → Prop} {c : Value} {b : Bool}
inductive TyOf (K : PySem.W.Frag) (H : Hp) : V → Value → Prop where
  | non : TyOf K H .non (.type "NoneType")
  | bl (x : Bool) : TyOf K H (.bl x) (.type "bool")
  | int (i : Int) : TyOf K H (.int i) (.type "int")
  | str (x : Str) : TyOf K H (.str x) (.type "str")
  | flt (x : UInt64) : TyOf K H (.flt x) (.type "float")
  | lst {a : Addr} {xs : List V} (e : H a = some (.lst xs)) : TyOf K H (.ref a) (.type "list")
  | frz {a : Addr} {o : Obj} {xs : List V} (e : H a = some (.frz o (.lst xs))) : TyOf K H (.ref a) (.type "list")
  | tup {a : Addr} {xs : List V} (e : H a = some (.tup xs)) : TyOf K H (.ref a) (.type "tuple")
  | dK {a : Addr} {kvs : List (Key × V)} (e : H a = some (.dK kvs)) : TyOf K H (.ref a) (.type "dict")
  | dT {a : Addr} {kvs : List (List Key × V)} (e : H a = some (.dT kvs)) : TyOf K H (.ref a) (.type "dict")
  | ins {a C dx : Addr} {fs : List (Str × V)} (e : H a = some (.ins C dx fs)) (cl : Cls K C) (ha : PySem.W.findIn K (.ref C) "__class__" = some (some (.builtin "object.__class__")))
      (hn : PySem.W.specialIn K (.builtin "object.__class__") "__get__" = some (some (.builtin "getset_descriptor.__get__"))) (htk : PySem.W.takesIn K (.builtin "object.__class__") = some true)
      (hm : PySem.W.mroIn K C (.type "object") = some true) : TyOf K H (.ref a) (.ref C)
end
end L2
namespace L2
open PySem PySem.Spec PyProof.Rows
structure Room (k : Nat) (A : Around) : Prop where
  hd : A.handled = none
  dp : A.depth + 3 * k + 5 < recursionLimit
  un : A.units + 16 * k + 200 < cLine
theorem Room.mono {j k : Nat} {A : Around} (r : Room k A) (h : j ≤ k) : Room j A := ⟨r.hd, by have := r.dp; omega, by have := r.un; omega⟩
theorem Room.deeper {k : Nat} {A : Around} (r : Room (k + 1) A) (env : Env) : Room k (A.deeper env) :=
  ⟨r.hd, by have := r.dp; show A.depth + 1 + 3 * k + 5 < _; omega, by have := r.un; show A.units + 3 + 16 * k + 200 < _; omega⟩
theorem Room.in1 {k : Nat} {A : Around} (r : Room (k + 1) A) : Room k A.in1 :=
  ⟨r.hd, by have := r.dp; show A.depth + 3 * k + 5 < _; omega, by have := r.un; show A.units + 1 + 16 * k + 200 < _; omega⟩
theorem Room.depth {k : Nat} {A : Around} (r : Room k A) : A.depth < recursionLimit := by have := r.dp; omega
theorem Room.units {k : Nat} {A : Around} (r : Room k A) : A.units + 64 < cLine := by have := r.un; omega
def tNil : TA := fun _ H Q => Q [] H
def tCons (ta : TE) (tr : TA) : TA := fun σ H Q => ta σ H fun x H1 => tr σ H1 fun xs H2 => Q (x :: xs) H2
section
variable {X : Cx} {e : Expr} {es : List Expr} {te : TE} {t : TA} {pos : Pos}
theorem pa_nil : PA X [] tNil := fun _ _ _ _ H Q I h => Calls.spliced_nil ⟨[], H, I, .nil, h⟩
theorem pa_cons (ha : PE X e te) (hr : PA X es t) (hs : starEach (e :: es) X.env = (false, eval e X.env) :: starEach es X.env := by rfl) : PA X (e :: es) (tCons te t) := by
  intro pos pins s σ H Q I h
  rw [hs]
  show wpAny _ _ (spliced ((false, eval e X.env) :: backTo pos (starEach es X.env))) _ _ s
  refine Calls.spliced_cons (thn (ha pins s σ H _ I h) fun u s1 ⟨x, H1, I1, r1, q1⟩ => ?_)
  exact thn (hr pos pins s1 σ H1 _ I1 q1) fun us s2 ⟨xs, H2, I2, r2, q2⟩ => ⟨x :: xs, H2, I2, .cons r1 r2, q2⟩
def tTup (t : TA) : TE := fun σ H Q => t σ H fun xs H1 => xs.length ≤ sizeLine ∧ ∀ p, H1 p = none → Q (.ref p) (upd H1 p (.tup xs))
def tLst (t : TA) : TE := fun σ H Q => t σ H fun xs H1 => xs.length ≤ sizeLine ∧ ∀ p, H1 p = none → Q (.ref p) (upd H1 p (.lst xs))
theorem pe_tup {x1} (h : PA X es t) : PE X (.Tuple es x1 pos) (tTup t) := by
  intro pins s σ H Q I hq
  refine wpAny_Tuple_spliced (thn (h pos pins s σ H _ I hq) fun us s1 ⟨xs, H1, I1, r, z, q⟩ => ⟨by rw [← r.length]; exact z, ?_⟩)
  have hf : H1 s1.heap.objs.size = none := I1.hok.fresh (Nat.le_refl _)
  refine ⟨.ref s1.heap.objs.size, upd H1 s1.heap.objs.size (.tup xs), I1.laid (t' := s1.toks) (fun b u e => Heap.get?_push_of_some _ e) (Nat.le_refl _) ?_, rfl, q _ hf⟩
  exact ⟨z, us, r, ⟨_, Heap.get?_push_size _ rfl, rfl, _, rfl⟩⟩
theorem pe_lst (h : PA X es t) : PE X (.List es pos) (tLst t) := by
  intro pins s σ H Q I hq
  refine wpAny_List_spliced (thn (h pos pins s σ H _ I hq) fun us s1 ⟨xs, H1, I1, r, z, q⟩ => ⟨by rw [← r.length]; exact z, ?_⟩)
  have hf : H1 s1.heap.objs.size = none := I1.hok.fresh (Nat.le_refl _)
  refine ⟨.ref s1.heap.objs.size, upd H1 s1.heap.objs.size (.lst xs), I1.laid (t' := s1.toks) (fun b u e => Heap.get?_push_of_some _ e) (Nat.le_refl _) ?_, rfl, q _ hf⟩
  exact ⟨z, us, 0, r, Heap.get?_push_size _ rfl⟩
end
abbrev Sp := List V → Hp → VK → XK → Prop
abbrev CXT := List Env → Hp → Shared → XK → Value → Shared → Prop
structure Env0 (P : Program) (w : World) (K : PySem.W.Frag) (mg : Str → Option Value) (base : Heap) (A : Around) (outer : List Env) (s : Shared) (H : Hp) : Prop where
  frames : A.frames = some outer
  mod : Mod K mg base
  bs : ∀ b o, base.get? b = some o → s.heap.get? b = some o ∧ H b = none
  bsz : base.objs.size ≤ s.heap.objs.size
  funs : s.heap.FunFrames base outer
  frf : ∀ b ∈ frs outer, H b = none
  hok : HOk P w H s.heap
  bare : AllBare s.gens
def CE (outer : List Env) (P : Program) (w : World) (H : Hp) (s : Shared) (Q : VK) (u : Value) (s' : Shared) : Prop :=
  ∃ v H', s'.os = s.os ∧ AllBare s'.gens ∧ Un (frs outer) [] H H' s.heap s'.heap ∧ HOk P w H' s'.heap ∧ RelV v u ∧ Q v H'
def CR (CX : CXT) (outer : List Env) (P : Program) (w : World) (H : Hp) (s : Shared) (Q : VK) (E : XK) (r : Result) (s' : Shared) : Prop :=
  match r with
  | .ok (.ret u) => CE outer P w H s Q u s'
  | .ok _ => False
  | .error e => CX outer H s E e s'
structure FnOk (P : Program) (w : World) (K : PySem.W.Frag) (mg : Str → Option Value) (base : Heap) (CX : CXT) (k : Nat) (f : Addr) (fd : FuncData) (ps : List Str) (sp : Sp) : Prop where
  len : ∀ vs H Q E, sp vs H Q E → vs.length = ps.length
  run : ∀ (A : Around) (outer : List Env) (s : Shared) (H : Hp) (args : Args) (us : List Value) (vs : List V) (Q : VK) (E : XK), Room k A → Env0 P w K mg base A outer s H → BindsTo s fd args (ps.zip us) → Vals vs us → sp vs H Q E →
    codeAny (model P w) A (.call (.ref f) args) (CR CX outer P w H s Q E) s
theorem FnOk.mono {P : Program} {w : World} {K : PySem.W.Frag} {mg : Str → Option Value} {base : Heap} {CX : CXT} {j k : Nat} {f : Addr} {fd : FuncData} {ps : List Str} {sp : Sp} (F : FnOk P w K mg base CX j f fd ps sp) (h : j ≤ k) :
    FnOk P w K mg base CX k f fd ps sp := ⟨F.len, fun A outer s H args us vs Q E hr => F.run A outer s H args us vs Q E (hr.mono h)⟩
theorem FnOk.imp {P : Program} {w : World} {K : PySem.W.Frag} {mg : Str → Option Value} {base : Heap} {CX : CXT} {k : Nat} {f : Addr} {fd : FuncData} {ps : List Str} {sp sp' : Sp} (F : FnOk P w K mg base CX k f fd ps sp)
    (h : ∀ vs H Q E, sp' vs H Q E → sp vs H Q E) : FnOk P w K mg base CX k f fd ps sp' :=
  ⟨fun vs H Q E q => F.len vs H Q E (h _ _ _ _ q), fun A outer s H args us vs Q E hr he hb hv hs => F.run A outer s H args us vs Q E hr he hb hv (h _ _ _ _ hs)⟩
theorem Env0.in1 {P : Program} {w : World} {K : PySem.W.Frag} {mg : Str → Option Value} {base : Heap} {A : Around} {outer : List Env} {s : Shared} {H : Hp} (e : Env0 P w K mg base A outer s H) :
    Env0 P w K mg base A.in1 outer s H := ⟨e.frames, e.mod, e.bs, e.bsz, e.funs, e.frf, e.hok, e.bare⟩
section
variable {X : Cx} {pins : List (Addr × Obj)} {σ : St} {H : Hp} {s s' : Shared}
theorem Inv.env0 (I : Inv X pins σ H s) : Env0 X.prog X.w X.K X.mg X.base X.A X.stack s H :=
  ⟨I.ok.frames, I.ok.mod, I.bs, Nat.le_trans I.ok.bsz I.sz, I.stack, I.stkFree, I.hok, I.bare⟩
theorem Inv.after {Q : VK} {u : Value} (I : Inv X pins σ H s) (h : CE X.stack X.prog X.w H s Q u s') : EP X pins σ Q u s' := by
  obtain ⟨v, H', os, bare, un, hok, r, q⟩ := h
  obtain ⟨hh, g, d, t, os'⟩ := s'
  obtain rfl : os' = s.os := os
  exact ⟨v, H', I.call (h' := hh) (g' := g) (d' := d) (t' := t) (ch := []) un hok bare (fun b z => absurd z (by simp)), r, q⟩
end
def tCall (sp : Sp) (dvs : List V) (E : XK) (t : TA) : TE := fun σ H Q => t σ H fun vs H1 => sp (vs ++ dvs) H1 Q E
def Binds (K : PySem.W.Frag) (fd : FuncData) (ps : List Str) (ds : List Value) : Prop :=
  ∀ (s : Shared) (us : List Value), K.In s.heap → (us ++ ds).length = ps.length → BindsTo s fd ⟨us, []⟩ (ps.zip (us ++ ds))
theorem Binds.all {K : PySem.W.Frag} {fd : FuncData} {ps : List Str} (h : ∀ us : List Value, us.length = ps.length → bindArgs fd ⟨us, []⟩ = pure (ps.zip us)) : Binds K fd ps [] := fun s us _ hl => by
  rw [List.append_nil] at hl ⊢
  exact .of_eq (h us hl)
def Passes (CX : CXT) (X : Cx) (E : XK) : Prop := ∀ (pins : List (Addr × Obj)) (σ : St) (H : Hp) (s : Shared) (e : Value) (s' : Shared), Inv X pins σ H s → CX X.stack H s E e s' → X.xe e s'
section
variable {X : Cx} {CX : CXT} {k : Nat} {f C : Addr} {fd : FuncData} {ps : List Str} {sp : Sp} {dvs : List V} {ds : List Value} {E : XK} {x m : Str} {p pos apos : Pos} {e o : Expr} {es : List Expr} {ta : TE} {t : TA}
theorem run_fn {pins : List (Addr × Obj)} {σ : St} {H : Hp} {s : Shared} {Q : VK} {us : List Value} {vs : List V} (F : FnOk X.prog X.w X.K X.mg X.base CX k f fd ps sp) (hr : Room k X.A) (hb : Binds X.K fd ps ds) (hd : Vals dvs ds) (hx : Passes CX X E)
    (I : Inv X pins σ H s) (r : Vals vs us) (h : sp (vs ++ dvs) H Q E) : wpAny (model X.prog X.w) X.A (call (.ref f) us) (EP X pins σ Q) X.xe s := by
  have r2 : Vals (vs ++ dvs) (us ++ ds) := r.append hd
  have hl : (us ++ ds).length = ps.length := by rw [← r2.length]; exact F.len _ _ _ _ h
  refine wpAny_call (codeAny_mono (F.run X.A X.stack s H ⟨us, []⟩ (us ++ ds) (vs ++ dvs) Q E hr I.env0 (hb s us I.kIn hl) r2 h) fun r s' hq => ?_)
  cases r with
  | error e => exact hx pins σ H s e s' I hq
  | ok fl =>
    cases fl with
    | ret u => exact I.after hq
    | next => exact False.elim hq
    | brk => exact False.elim hq
    | cont => exact False.elim hq
theorem pe_call (F : FnOk X.prog X.w X.K X.mg X.base CX k f fd ps sp) (hr : Room k X.A) (hg : Gl X x) (hm : X.mg x = some (.ref f)) (hk : PySem.W.keepIn X.K (.ref f) = true) (hb : Binds X.K fd ps ds) (hd : Vals dvs ds) (hx : Passes CX X E)
    (ha : PA X (e :: es) t) (hdb : (x == ("__debug__" : Str)) = false := by decide) (he : starEach (e :: es) X.env = (false, eval e X.env) :: starEach es X.env := by rfl) (hpl : (backTo pos (starEach es X.env)).any (·.1) = false := by rfl) :
    PE X (.Call (.Name x p) (e :: es) [] pos) (tCall sp dvs E t) := by
  intro pins s σ H Q I h
  refine wpAny_Call_Name_kw (ld_glob I hg hm ?_ hdb)
  refine PySem.W.callWith_K (h₀ := X.base) I.ok.mod.kin hk (thn (ha pos pins s σ H _ I h) fun us s1 ⟨vs, H1, I1, r, q⟩ => ⟨I1.kIn, ?_⟩) he hpl
  exact run_fn F hr hb hd hx I1 r q
structure Mk (K : PySem.W.Frag) (C f : Addr) : Prop where
  makes : PySem.W.makesIn K C = true
  init : PySem.W.findIn K (.ref C) "__init__" = some (some (.ref f))
  fn : PySem.W.isFn K (.ref f) = true
  kp : PySem.W.keepIn K (.ref C) = true
end
section
variable {X : Cx} {CX : CXT} {k : Nat} {f C : Addr} {fd : FuncData} {ps ks : List Str} {sp : Sp} {E : XK} {x m : Str} {p pos apos kpos : Pos} {e o : Expr} {es : List Expr} {kws : List Keyword} {te ta : TE} {t tk : TA} {nm : Option Str}
structure KBinds (K : PySem.W.Frag) (fd : FuncData) (ps ks : List Str) (g : List Value → List Value → List Value) (gV : List V → List V → List V) : Prop where
  to : ∀ (s : Shared) (us ws : List Value), K.In s.heap → (g us ws).length = ps.length → BindsTo s fd ⟨us, ks.zip ws⟩ (ps.zip (g us ws))
  rel : ∀ {vs : List V} {us : List Value} {zs : List V} {ws : List Value}, Vals vs us → Vals zs ws → Vals (gV vs zs) (g us ws)
variable {g : List Value → List Value → List Value} {gV : List V → List V → List V}
end
structure FnScope (N P : List Str) (sc : Scope) : Prop where
  kind : sc.kind = .function
  co : sc.isCoroutine = false
  gen : sc.isGenerator = false
  nd : N.Nodup
  pre : N.take P.length = P
  par : ∀ x ∈ P, sc.names.lookup x = some .local ∨ sc.names.lookup x = some .cell
  nofree : ∀ y ∈ sc.names, y.2 ≠ .free
theorem bindL_out {kindOf : Str → Option NameKind} {x : Str} : ∀ {binds : List (Str × Value)} {m : Str → Option Value}, (∀ v, (x, v) ∉ binds) → bindL kindOf binds m x = m x
  | [], _, _ => rfl
  | (n, v) :: r, m, h => by
    unfold bindL
    rw [bindL_out fun w hw => h w (List.mem_cons_of_mem _ hw)]
    split
    · have : x ≠ n := by rintro rfl; exact h v List.mem_cons_self
      simp [this]
    · rfl
theorem bindC_out {kindOf : Str → Option NameKind} {x : Str} : ∀ {binds : List (Str × Value)} {m : Str → Option Value}, (∀ v, (x, v) ∉ binds) → bindC kindOf binds m x = m x
  | [], _, _ => rfl
  | (n, v) :: r, m, h => by
    unfold bindC
    rw [bindC_out fun w hw => h w (List.mem_cons_of_mem _ hw)]
    split
    · rfl
    · have : x ≠ n := by rintro rfl; exact h v List.mem_cons_self
      simp [this]
theorem bindL_get {kindOf : Str → Option NameKind} {x : Str} {v : Value} : ∀ {P : List Str} {vs : List Value} {i : Nat} {m : Str → Option Value}, P.Nodup → P[i]? = some x → vs[i]? = some v → kindOf x = some .local →
    bindL kindOf (P.zip vs) m x = some v
  | [], _, _, _, _, h, _, _ => by simp at h
  | _ :: _, [], _, _, _, _, h, _ => by simp at h
  | p :: P, w :: vs, 0, m, nd, h1, h2, hk => by
    simp at h1 h2; subst h1; subst h2
    show bindL kindOf ((p, w) :: P.zip vs) m p = _
    unfold bindL
    rw [bindL_out fun v hv => (List.nodup_cons.mp nd).1 (List.of_mem_zip hv).1, if_pos hk]
    simp
  | p :: P, w :: vs, i + 1, m, nd, h1, h2, hk => by
    show bindL kindOf ((p, w) :: P.zip vs) m x = _
    unfold bindL
    exact bindL_get (i := i) (List.nodup_cons.mp nd).2 (by simpa using h1) (by simpa using h2) hk
theorem bindC_get {kindOf : Str → Option NameKind} {x : Str} {v : Value} : ∀ {P : List Str} {vs : List Value} {i : Nat} {m : Str → Option Value}, P.Nodup → P[i]? = some x → vs[i]? = some v → kindOf x ≠ some .local →
    bindC kindOf (P.zip vs) m x = some v
  | [], _, _, _, _, h, _, _ => by simp at h
  | _ :: _, [], _, _, _, _, h, _ => by simp at h
  | p :: P, w :: vs, 0, m, nd, h1, h2, hk => by
    simp at h1 h2; subst h1; subst h2
    show bindC kindOf ((p, w) :: P.zip vs) m p = _
    unfold bindC
    rw [bindC_out fun v hv => (List.nodup_cons.mp nd).1 (List.of_mem_zip hv).1, if_neg hk]
    simp
  | p :: P, w :: vs, i + 1, m, nd, h1, h2, hk => by
    show bindC kindOf ((p, w) :: P.zip vs) m x = _
    unfold bindC
    exact bindC_get (i := i) (List.nodup_cons.mp nd).2 (by simpa using h1) (by simpa using h2) hk
def start (N : List Str) (vs : List V) : St := vs.map some ++ List.replicate (N.length - vs.length) none
def cxOf (CX : CXT) (P : Program) (w : World) (K : PySem.W.Frag) (mg : Str → Option Value) (base : Heap) (N : List Str) (qual : Str) (scope : Scope) (f : Addr) (cd : Value) (A : Around) (outer : List Env) (s : Shared) (H : Hp) (E : XK) : Cx where
  prog := P
  w := w
  K := K
  mg := mg
  base := base
  A := A.deeper (envOfC qual scope s.heap.objs.size f cd)
  N := N
  s₀ := s
  H₀ := H
  env := envOfC qual scope s.heap.objs.size f cd
  outer := outer
  stack := envOfC qual scope s.heap.objs.size f cd :: outer
  ex := []
  calm := true
  fn := fun _ => true
  pn := []
  xe := fun e s' => wpAny (model P w) (A.deeper (envOfC qual scope s.heap.objs.size f cd)) (leaving (envOfC qual scope s.heap.objs.size f cd) e) (fun _ s'' => CX outer H s E e s'') (fun e' s'' => CX outer H s E e' s'') s'
theorem cell_has {sc : Scope} {n : Nat} {x : Str} (h : sc.names.lookup x = some .cell) : ∃ c, (cellsFrom n sc.names []).lookup x = some c := by
  have q := PySem.W.cellsFrom_some sc.names n [] (.inl h)
  exact Option.isSome_iff_exists.mp q
theorem inv_start {CX : CXT} {P : Program} {w : World} {K : PySem.W.Frag} {mg : Str → Option Value} {base : Heap} {N ps : List Str} {qual : Str} {scope : Scope} {f : Addr} {cd : Value} {A : Around} {outer : List Env} {s s1 : Shared} {H : Hp} {E : XK} {us : List Value} {vs : List V}
    (S : FnScope N ps scope) (hd : A.handled = none) (e0 : Env0 P w K mg base A outer s H) (hl : vs.length = ps.length) (r : Vals vs us)
    (x : InCallC s s.heap.objs.size (bindL (envOfC qual scope s.heap.objs.size f cd).kindOf (ps.zip us) fun _ => none) (cellsFrom (s.heap.objs.size + 1) scope.names []) (bindC (envOfC qual scope s.heap.objs.size f cd).kindOf (ps.zip us) fun _ => none) s1) :
    Inv (cxOf CX P w K mg base N qual scope f cd A outer s H E) [] (start N vs) H s1 := by
  have hpl : ps.length ≤ N.length := by have := congrArg List.length S.pre; rw [List.length_take] at this; omega
  obtain ⟨h1, tk, rfl, hk⟩ := x.done
  have noA : ∀ b : Addr, b ∉ (cxOf CX P w K mg base N qual scope f cd A outer s H E).ex := fun b z => absurd (show b ∈ ([] : List Addr) from z) (by simp)
  refine ⟨⟨e0.mod, S.kind, rfl, rfl, Nat.le_refl _, fun y z c h1 h2 => ?_, fun y hy => ?_, fun y c _ h => ?_, fun _ => hd, Around.frames_deeper e0.frames, .inr ⟨rfl, rfl⟩, fun b z => absurd z (noA b), e0.bs, e0.bsz, fun b _ _ => noA b, fun b z => absurd z (noA b), e0.funs, e0.frf⟩,
    rfl, e0.bare, Un.kept hk, ⟨_, x.toInCall.ns, fun i y v h1 h2 h3 => ?_⟩, fun y c h => ⟨_, x.cell y c h⟩, e0.hok.fresh (Nat.le_refl _), fun y c h => ?_, fun p hp => absurd (show p ∈ ([] : List (Addr × Obj)) from hp) (by simp), e0.hok.kept hk, ?_⟩
  · exact name_of_addr x.apart (PySem.mem_of_lookup h1) (PySem.mem_of_lookup h2)
  · have hy : scope.names.lookup y = some .cell ∨ scope.names.lookup y = some .free := hy
    rcases hy with hy | hy
    · exact cell_has hy
    · exact absurd rfl (S.nofree _ (PySem.mem_of_lookup hy))
  · exact Nat.le_of_lt (x.above y c (PySem.mem_of_lookup h))
  · have hi : i < vs.length := by
      unfold start at h2
      by_cases hi : i < vs.length
      · exact hi
      · rw [List.getElem?_append_right (by simpa using hi)] at h2
        rw [List.getElem?_replicate] at h2
        split at h2 <;> cases h2
    have ha : vs[i]? = some v := by
      unfold start at h2
      rw [List.getElem?_append_left (by simpa using hi), List.getElem?_map] at h2
      cases e : vs[i]? with
      | none => rw [e] at h2; cases h2
      | some a => rw [e] at h2; cases h2; rfl
    obtain ⟨u, hu, rv⟩ := r.get ha
    have hp : ps[i]? = some y := by
      rw [← S.pre, List.getElem?_take_of_lt (by omega)]; exact h1
    have ndP : ps.Nodup := by rw [← S.pre]; exact S.nd.sublist (List.take_sublist _ _)
    refine ⟨u, rv, ?_⟩
    rcases S.par y (List.mem_of_getElem? hp) with k | k
    · exact .inl ⟨k, bindL_get ndP hp hu k⟩
    · obtain ⟨c, e⟩ := cell_has (n := s.heap.objs.size + 1) k
      refine .inr ⟨.inl k, c, e, ?_⟩
      have q := x.cell y c e
      rw [bindC_get ndP hp hu (by show scope.names.lookup y ≠ _; rw [k]; decide)] at q
      exact q
  · exact e0.hok.fresh (Nat.le_of_lt (x.above y c (PySem.mem_of_lookup h)))
  · unfold start
    show _ = N.length
    rw [List.length_append, List.length_map, List.length_replicate]
    omega
theorem fn_of {CX : CXT} {P : Program} {w : World} {K : PySem.W.Frag} {mg : Str → Option Value} {base : Heap} {k : Nat} {f : Addr} {name qual : Str} {params : Arguments} {body : List Stmt} {scope : Scope} {dV kV doc pm cdv ct oc : Value} {an od : Option Addr}
    {osl : Array (Option Value)} {N ps : List Str} {sp : Sp} (lk : K.lookup f = some ⟨oc, od, .func (PySem.W.fnOf name qual params body scope dV kV doc pm an cdv ct), osl⟩) (hcd : PySem.W.codeIn K cdv qual = true) (S : FnScope N ps scope)
    (len : ∀ vs H Q E, sp vs H Q E → vs.length = ps.length)
    (hbody : ∀ (A : Around) (outer : List Env) (s : Shared) (H : Hp) (vs : List V) (Q : VK) (E : XK), Room k (A.deeper (envOfC qual scope s.heap.objs.size f cdv)) → sp vs H Q E →
      ∃ t, PSs (cxOf CX P w K mg base N qual scope f cdv A outer s H E) body t ∧ t { nx := fun _ H' => Q .non H', rt := Q } (start N vs) H) :
    FnOk P w K mg base CX (k + 1) f (PySem.W.fnOf name qual params body scope dV kV doc pm an cdv ct) ps sp := by
  refine ⟨len, fun A outer s H args us vs Q E hr e0 hb r hsp => ?_⟩
  have hl := len _ _ _ _ hsp
  have KX : K.In s.heap := e0.mod.kin.keeps fun b o e => (e0.bs b o e).1
  have lim : s.heap.NoLimit := e0.mod.nolimit.keeps fun b o e => (e0.bs b o e).1
  have hkind : ∀ y ∈ ps.zip us, scope.names.lookup y.1 = some .local ∨ (scope.names.lookup y.1 = some .cell ∧ ((cellsFrom (s.heap.objs.size + 1) scope.names []).lookup y.1).isSome = true) := fun ⟨n, v⟩ hy => by
    rcases S.par n (List.of_mem_zip hy).1 with q | q
    · exact .inl q
    · exact .inr ⟨q, PySem.W.cellsFrom_some _ _ _ (.inl q)⟩
  refine codeAny_call_function hr.depth (KX _ _ lk) rfl S.co S.gen rfl (PySem.W.codeRec_of KX hcd) (hb _ _ _ _ ?_)
  refine wpAny_newFunctionEnv_cells S.kind hkind fun env he s1 x => ?_
  subst he
  refine ⟨lim.keeps x.toInCall.keep, codeAny_func ?_⟩
  obtain ⟨t, ht, hq⟩ := hbody A outer s H vs Q E (hr.deeper _) hsp
  have I : Inv (cxOf CX P w K mg base N qual scope f cdv A outer s H E) [] (start N vs) H s1 := inv_start S hr.hd e0 hl r x
  refine wpAny_mono (ht [] s1 (start N vs) H _ I hq) (fun fl s' hs => ?_) fun e s' hs => hs
  have fin : ∀ {σ' : St} {H' : Hp} {v : V} {u : Value}, Inv (cxOf CX P w K mg base N qual scope f cdv A outer s H E) [] σ' H' s' → RelV v u → Q v H' → CE outer P w H s Q u s' :=
    fun {σ' H' v u} J rv q => ⟨v, H', J.os, J.bare, J.base, J.hok, rv, q⟩
  cases fl with
  | ret u =>
    obtain ⟨v, σ', H', J, rv, q⟩ := hs
    exact fin J rv q
  | next =>
    obtain ⟨σ', H', J, q⟩ := hs
    exact fin (v := V.non) (u := Value.none) J rfl q
  | brk =>
    obtain ⟨_, _, _, q⟩ := hs
    exact False.elim q
  | cont =>
    obtain ⟨_, _, _, q⟩ := hs
    exact False.elim q
end L2
namespace L2
open PySem PySem.Spec PyProof.Rows
section
variable {X : Cx} {x : Str} {p pos : Pos} {e : Expr} {es : List Expr} {t : TA} {id T : String} {r : List V → Hp → VK → Prop}
def tCB (r : List V → Hp → VK → Prop) (t : TA) : TE := fun σ H Q => t σ H fun vs H1 => r vs H1 Q
theorem pe_callB (hc : CallR X (.builtin id) r) (hg : Gl X x) (hm : X.mg x = none) (hv : bootBuiltins x = some (.builtin id)) (ha : PA X (e :: es) t) (hn : x ≠ "__name__" := by decide) (hdb : (x == ("__debug__" : Str)) = false := by decide)
    (he : starEach (e :: es) X.env = (false, eval e X.env) :: starEach es X.env := by rfl) (hpl : (backTo pos (starEach es X.env)).any (·.1) = false := by rfl) : PE X (.Call (.Name x p) (e :: es) [] pos) (tCB r t) := by
  intro pins s σ H Q I h
  refine wpAny_Call_Name_kw (ld_blt I hg hm hv ?_ hn hdb)
  exact PyProof.Rows.callWith_builtin1 (thn (ha pos pins s σ H _ I h) fun us s1 ⟨vs, H1, I1, r1, q1⟩ => hc pins s1 σ H1 vs us Q I1 r1 q1) he hpl
theorem pe_callTy (hc : CallR X (.type T) r) (hg : Gl X x) (hm : X.mg x = none) (hv : bootBuiltins x = some (.type T)) (ha : PA X (e :: es) t) (hn : x ≠ "__name__" := by decide) (hdb : (x == ("__debug__" : Str)) = false := by decide)
    (he : starEach (e :: es) X.env = (false, eval e X.env) :: starEach es X.env := by rfl) (hpl : (backTo pos (starEach es X.env)).any (·.1) = false := by rfl) : PE X (.Call (.Name x p) (e :: es) [] pos) (tCB r t) := by
  intro pins s σ H Q I h
  refine wpAny_Call_Name_kw (ld_blt I hg hm hv ?_ hn hdb)
  exact PyProof.Rows.callWith_type1 (thn (ha pos pins s σ H _ I h) fun us s1 ⟨vs, H1, I1, r1, q1⟩ => hc pins s1 σ H1 vs us Q I1 r1 q1) he hpl
end
end L2
namespace HT
open PySem PyProof.Rows
section
open PySem.SeqAt
open PySem.AutoSeq1 (wpAny_loadPart')
open PySem.MeetsSeq PySem.MeetsSeq2 PySem.MeetsSeq3
end
section
variable {prog : Program} {w : World} {A : Around} {E : Value → Shared → Prop} {s : Shared}
theorem cat_tup {t b : Addr} {vs ws : List Value} {Q : Value → Shared → Prop} (ht : IsTup s.heap t vs.toArray) (hb : IsTup s.heap b ws.toArray) (hv : vs ≠ [])
    (h1 : ws = [] → Q (.ref t) s) (h2 : ws ≠ [] → Q (.ref s.heap.objs.size) { s with heap := s.heap.push { cls := .type "tuple", data := .seq (vs ++ ws).toArray } })
    (hsz : vs.length + ws.length ≤ sizeLine) : wpAny (model prog w) A (binaryOp .Add (.ref t) (.ref b)) Q E s := by
  obtain ⟨⟨cls, dd, data, sl⟩, ho, hc, n, hd⟩ := id ht
  obtain ⟨⟨cls2, dd2, data2, sl2⟩, ho2, hc2, n2, hd2⟩ := id hb
  simp only at hc hd hc2 hd2
  subst hc hd hc2 hd2
  have e : vs.toArray ++ ws.toArray = (vs ++ ws).toArray := by simp
  by_cases hw : ws = []
  · exact concat_meets ⟨_, ho, rfl⟩ ⟨_, ho2, rfl⟩ noFill_tuple_add seq_tuple_add PySem.F.slot_tuple_add PySem.F.entry_tuple_add (PySem.F.args_tuple_add_2 _ _)
      (tuple_addW1 t b vs.toArray ws.toArray n n2 dd dd2 sl sl2 (by simpa using hv) (by simp [hw])) ⟨ho, ho2, h1 hw⟩
  · refine concat_meets ⟨_, ho, rfl⟩ ⟨_, ho2, rfl⟩ noFill_tuple_add seq_tuple_add PySem.F.slot_tuple_add PySem.F.entry_tuple_add (PySem.F.args_tuple_add_2 _ _)
      (tuple_addW2 t b vs.toArray ws.toArray n n2 dd dd2 sl sl2 (by simpa using hv) (by simpa using hw) (by rw [List.size_toArray, List.size_toArray]; exact hsz)) ⟨ho, ho2, ?_⟩
    rw [e]
    exact h2 hw
def sIx (n d : Nat) : Option Int → Nat
  | none => d
  | some v => if v < 0 then (v + (n : Int)).toNat else min v.toNat n
theorem sIx_le (n d : Nat) (hd : d ≤ n) (o : Option Int) : sIx n d o ≤ n := by
  cases o with
  | none => exact hd
  | some v =>
    show (if v < 0 then (v + (n : Int)).toNat else min v.toNat n) ≤ n
    by_cases hv : v < 0
    · rw [if_pos hv]; omega
    · rw [if_neg hv]; exact Nat.min_le_right _ _
theorem clip_eq (v : Int) (n d : Nat) : (if v < 0 then max (v + (n : Int)) 0 else min v (n : Int)) = ((sIx n d (some v) : Nat) : Int) := by
  show (if v < 0 then max (v + (n : Int)) 0 else min v (n : Int)) = (((if v < 0 then (v + (n : Int)).toNat else min v.toNat n) : Nat) : Int)
  by_cases hv : v < 0
  · simp only [if_pos hv]; omega
  · simp only [if_neg hv]; omega
theorem adjust_gen (lo hi : Option Int) (n : Nat) : Builtin.Slice.sliceAdjust lo hi 1 (n : Int) = (((sIx n 0 lo : Nat) : Int), ((sIx n n hi : Nat) : Int)) := by
  have h1 : ¬ ((1 : Int) < 0) := by omega
  unfold Builtin.Slice.sliceAdjust
  simp only [h1, if_false]
  refine Prod.ext ?_ ?_
  · cases lo with
    | none => rfl
    | some v => exact clip_eq v n 0
  · cases hi with
    | none => rfl
    | some v => exact clip_eq v n n
theorem places_gen (i j : Nat) : Builtin.Slice.slicePlaces (i : Int) (j : Int) 1 = j - i := by
  unfold Builtin.Slice.slicePlaces
  have h1 : (1 : Int) > 0 := by omega
  simp only [h1, if_true, Int.ediv_one]
  split <;> omega
theorem slicePart_ {v : Value} {o : Option Int} {Q : Option Int → Shared → Prop} (p : IsPart v o) (h : Q o s) : wpAny (model prog w) A (Builtin.Slice.slicePartIndex v) Q E s := by
  cases p with
  | none => exact slicePart_none h
  | int i t => exact slicePart_int h
theorem sliceApplied_gen {sl : Addr} {vl vu : Value} {lo hi : Option Int} {n : Nat} {Q : Int × Int × Nat → Shared → Prop} (hs : s.heap.IsSliceOf sl vl vu .none) (pl : IsPart vl lo) (pu : IsPart vu hi)
    (h : Q (((sIx n 0 lo : Nat) : Int), 1, sIx n n hi - sIx n 0 lo) s) : wpAny (model prog w) A (Builtin.Slice.sliceApplied (.ref sl) (pure (n : Int))) Q E s := by
  obtain ⟨os, hos, hcs, hds⟩ := id hs
  unfold Builtin.Slice.sliceApplied Builtin.Slice.sliceFields
  refine wpAny_bind (wpAny_bind (wpAny_field hos hds (x := vl) rfl (wpAny_bind (wpAny_field hos hds (x := vu) rfl (wpAny_bind (wpAny_field hos hds (x := .none) rfl (wpAny_pure ?_)))))))
  refine wpAny_bind (slicePart_none ?_)
  show wpAny _ _ (if ((1 : Int) == 0) = true then _ else _) _ _ s
  rw [if_neg (by decide)]
  refine wpAny_bind (slicePart_ pl (wpAny_bind (slicePart_ pu (wpAny_bind (wpAny_pure ?_)))))
  show wpAny _ _ (match Builtin.Slice.sliceAdjust lo hi 1 (n : Int) with | (lo, hi) => pure (lo, (1 : Int), Builtin.Slice.slicePlaces lo hi 1)) _ _ s
  rw [adjust_gen lo hi n]
  show wpAny _ _ (pure (((sIx n 0 lo : Nat) : Int), (1 : Int), Builtin.Slice.slicePlaces ((sIx n 0 lo : Nat) : Int) ((sIx n n hi : Nat) : Int) 1)) _ _ s
  rw [places_gen]
  exact wpAny_pure h
theorem pick_gen (xs : Array Value) (i k : Nat) : ((List.range k).filterMap fun (m : Nat) => xs[((i : Int) + (m : Int) * 1).toNat]?).toArray = ((xs.toList.drop i).take k).toArray := by
  have e : (fun (m : Nat) => xs[((i : Int) + (m : Int) * 1).toNat]?) = fun m => xs[i + m]? := by
    funext m
    have : ((i : Int) + (m : Int) * 1).toNat = i + m := by omega
    rw [this]
  rw [e]
  have := pick_run xs i k
  rw [List.filterMap_map] at this
  have e2 : ((fun x => xs[x]?) ∘ fun x => i + x) = fun m => xs[i + m]? := rfl
  rw [e2] at this
  rw [this]
theorem getItem_tuple_cut {t sl : Addr} {items : Array Value} {vl vu : Value} {lo hi : Option Int} {Q : Value → Shared → Prop} (ht : IsTup s.heap t items) (hs : s.heap.IsSliceOf sl vl vu .none) (pl : IsPart vl lo) (pu : IsPart vu hi)
    (hw : ¬ (sIx items.size 0 lo = 0 ∧ sIx items.size items.size hi = items.size))
    (h : Q (.ref s.heap.objs.size) { s with heap := s.heap.push { cls := .type "tuple", data := .seq ((items.toList.drop (sIx items.size 0 lo)).take (sIx items.size items.size hi - sIx items.size 0 lo)).toArray } })
    (hsz : items.size ≤ sizeLine) : wpAny (model prog w) A (getItem (.ref t) (.ref sl)) Q E s := by
  have htake : sizeOk (.seq ((items.toList.drop (sIx items.size 0 lo)).take (sIx items.size items.size hi - sIx items.size 0 lo)).toArray) := by
    show ((items.toList.drop (sIx items.size 0 lo)).take (sIx items.size items.size hi - sIx items.size 0 lo)).toArray.size ≤ sizeLine
    rw [List.size_toArray, List.length_take, List.length_drop, Array.length_toList]
    omega
  have hj : sIx items.size items.size hi ≤ items.size := sIx_le _ _ (Nat.le_refl _) hi
  obtain ⟨os, hos, hcs, hds⟩ := id hs
  have hTs : s.TypeIs (.ref sl) "slice" := ⟨os, hos, hcs⟩
  unfold getItem
  try with_reducible refine wpAny_holding ?_
  first | refine wpAny_bind (wpAny_pure ?_) | skip
  refine wpAny_bind (wpAny_sequenceKey ht.typeIs (by decide) ?_)
  refine wpAny_bind (wpAny_callSpecial?_slot (name := Str.ofString "__getitem__") ht.typeIs PyProof.Rows.slot_tuple_getitem
    (wpAny_call_entry PyProof.Rows.slot_tuple_getitem ht.typeIs entry_tuple_getitem ?_ (args_tuple_getitem _ _)))
  show wpAny _ _ (Builtin.Tuple.tupleItemsOf (.ref t) >>= _) _ _ s
  refine wpAny_bind (tupleItemsOf_ ht ?_)
  refine wpAny_bind (wpAny_typeOf hTs ?_)
  rw [if_pos (by decide)]
  refine wpAny_bind (sliceApplied_gen hs pl pu ?_)
  have hno : ¬ ((((sIx items.size 0 lo : Nat) : Int) == 0 && (1 : Int) == 1 && (sIx items.size items.size hi - sIx items.size 0 lo) == items.size) = true) := by
    intro q
    rw [Bool.and_eq_true, Bool.and_eq_true] at q
    have q1 : ((sIx items.size 0 lo : Nat) : Int) = 0 := eq_of_beq q.1.1
    have q2 : sIx items.size items.size hi - sIx items.size 0 lo = items.size := eq_of_beq q.2
    exact hw ⟨by omega, by omega⟩
  show wpAny _ _ (if (((sIx items.size 0 lo : Nat) : Int) == 0 && (1 : Int) == 1 && (sIx items.size items.size hi - sIx items.size 0 lo) == items.size) = true then _ else _) _ _ s
  rw [if_neg hno, pick_gen]
  first
    | exact wpAny_bind (m := Builtin.Tuple.tupleExact _) (wpAny_newObj_type (wpAny_pure ⟨_, rfl, wpAny_pure h⟩) htake)
    | exact wpAny_bind (m := Builtin.Tuple.tupleExact _) (wpAny_newObj_type (wpAny_bind (wpAny_pure (wpAny_pure ⟨_, rfl, wpAny_pure h⟩))) htake)
    | exact wpAny_bind (wpAny_bind (m := Builtin.Tuple.tupleExact _) (wpAny_newObj_type (wpAny_pure (wpAny_pure ⟨_, rfl, wpAny_pure h⟩)) htake))
    | exact wpAny_bind (wpAny_bind (m := Builtin.Tuple.tupleExact _) (wpAny_newObj_type (wpAny_pure ⟨_, rfl, wpAny_pure h⟩) htake))
end
end HT
namespace L2
open PySem PySem.Spec PyProof.Rows
abbrev TO := St → Hp → (Option Int → Hp → Prop) → Prop
def PO (X : Cx) (e : Option Expr) (t : TO) : Prop :=
  ∀ (pins : List (Addr × Obj)) (s : Shared) (σ : St) (H : Hp) (Q : Option Int → Hp → Prop), Inv X pins σ H s → t σ H Q →
    wpAny (model X.prog X.w) X.A (evalPart e X.env) (fun u s' => ∃ o H', Inv X pins σ H' s' ∧ IsPart u o ∧ Q o H') X.xe s
def tNoPart : TO := fun _ H Q => Q none H
def tPart (t : TE) : TO := fun σ H Q => t σ H fun x H1 => ∃ i, x = .int i ∧ Q (some i) H1
section
variable {X : Cx} {e : Expr} {te : TE} {lo hi : Option Expr} {tl th : TO} {pos p2 : Pos}
theorem po_none : PO X none tNoPart := by
  intro pins s σ H Q I h
  rw [evalPart_none]
  exact wpAny_pure ⟨none, H, I, .none, h⟩
theorem po_some (h : PE X e te) : PO X (some e) (tPart te) := by
  intro pins s σ H Q I hw
  rw [evalPart_some]
  refine thn (h pins s σ H _ I hw) fun u s1 ⟨x, H1, I1, r1, q1⟩ => ?_
  obtain ⟨i, rfl, q⟩ := q1
  obtain ⟨t, rfl⟩ := r1
  exact ⟨some i, H1, I1, .int i t, q⟩
def SlR (X : Cx) (r : V → Option Int → Option Int → Hp → VK → Prop) : Prop :=
  ∀ (pins : List (Addr × Obj)) (s : Shared) (σ : St) (H : Hp) (x : V) (v vl vu : Value) (lo hi : Option Int) (sl : Addr) (Q : VK), Inv X pins σ H s → RelV x v → s.heap.IsSliceOf sl vl vu .none → IsPart vl lo → IsPart vu hi → r x lo hi H Q →
    ∃ T id, typeLookup (.type T) "__getitem__" = pure (some (.builtin id)) ∧ s.TypeIs v T ∧ wpAny (model X.prog X.w) X.A (getItem v (.ref sl)) (EP X pins σ Q) X.xe s
theorem SlR.or {r r' : V → Option Int → Option Int → Hp → VK → Prop} (h : SlR X r) (h' : SlR X r') : SlR X (fun x lo hi H Q => r x lo hi H Q ∨ r' x lo hi H Q) := by
  intro pins s σ H x v vl vu lo hi sl Q I rx hs pl pu q
  rcases q with q | q
  · exact h pins s σ H x v vl vu lo hi sl Q I rx hs pl pu q
  · exact h' pins s σ H x v vl vu lo hi sl Q I rx hs pl pu q
def tSl (r : V → Option Int → Option Int → Hp → VK → Prop) (te : TE) (tl th : TO) : TE := fun σ H Q => te σ H fun x H1 => tl σ H1 fun l H2 => th σ H2 fun u H3 => r x l u H3 Q
theorem pe_slice {r : V → Option Int → Option Int → Hp → VK → Prop} (hr : SlR X r) (he : PE X e te) (hl : PO X lo tl) (hu : PO X hi th) : PE X (.Subscript e (.Slice lo hi none p2) pos) (tSl r te tl th) := by
  intro pins s σ H Q I h
  refine Subscript_ (thn (he pins s σ H _ I h) fun v s1 ⟨x, H1, I1, r1, q1⟩ => ?_)
  refine wpAny_Slice (thn (hl pins s1 σ H1 _ I1 q1) fun vl s2 ⟨l, H2, I2, pl, q2⟩ => thn (hu pins s2 σ H2 _ I2 q2) fun vu s3 ⟨u, H3, I3, pu, q3⟩ => ?_)
  rw [evalPart_none]
  refine wpAny_pure ?_
  have I4 : Inv X pins σ H3 { s3 with heap := s3.heap.push { cls := .type "slice", data := .fields #[vl, vu, .none] } } := I3.kept (t' := s3.toks) fun b ob q => Heap.get?_push_of_some _ q
  obtain ⟨T, id, hT, ht, hg⟩ := hr pins { s3 with heap := s3.heap.push { cls := .type "slice", data := .fields #[vl, vu, .none] } } σ H3 x v vl vu l u s3.heap.objs.size Q I4 r1 (Heap.IsSliceOf.new ..) pl pu q3
  show wpAny (model X.prog X.w) X.A (subscriptTail e (.Slice lo hi none p2) v (.ref s3.heap.objs.size)) (EP X pins σ Q) X.xe { s3 with heap := s3.heap.push { cls := .type "slice", data := .fields #[vl, vu, .none] } }
  exact tail_any (ops := [.ref s3.heap.objs.size, v]) ht hT hg (by with_unfolding_all rfl)
def cutV (xs : List V) (lo hi : Option Int) : List V := (xs.drop (HT.sIx xs.length 0 lo)).take (HT.sIx xs.length xs.length hi - HT.sIx xs.length 0 lo)
theorem cutV_length (xs : List V) (lo hi : Option Int) : (cutV xs lo hi).length ≤ xs.length := by
  unfold cutV
  rw [List.length_take, List.length_drop]
  omega
def rSlT (K : PySem.W.Frag) : V → Option Int → Option Int → Hp → VK → Prop := fun x lo hi H Q => ∃ a xs, x = .ref a ∧ SqT K H a xs ∧
  ¬ (HT.sIx xs.length 0 lo = 0 ∧ HT.sIx xs.length xs.length hi = xs.length) ∧ ∀ p, H p = none → Q (.ref p) (upd H p (.tup (cutV xs lo hi)))
theorem sl_tup : SlR X (rSlT X.K) := by
  intro pins s σ H x v vl vu lo hi sl Q I rx hs pl pu h
  obtain ⟨a, xs, rfl, hx, hw, q⟩ := h
  cases rx
  obtain ⟨its, r, ht, hz⟩ := I.tuple hx
  have hlen : its.toArray.size = xs.length := by rw [List.size_toArray]; exact r.length.symm
  refine ⟨"tuple", _, PyProof.Rows.slot_tuple_getitem.lookup, ht.typeIs, ?_⟩
  refine HT.getItem_tuple_cut ht hs pl pu (by rw [hlen]; exact hw) ?_ (by rw [hlen]; exact hz)
  rw [hlen]
  refine ⟨.ref s.heap.objs.size, _, I.laid (t' := s.toks) (o := .tup (cutV xs lo hi)) (fun b ob q => Heap.get?_push_of_some _ q) (Nat.le_refl _) ?_, rfl, q _ (I.hok.fresh (Nat.le_refl _))⟩
  exact ⟨Nat.le_trans (cutV_length xs lo hi) hz, _, (r.drop (HT.sIx xs.length 0 lo)).take (HT.sIx xs.length xs.length hi - HT.sIx xs.length 0 lo), IsTup.new _ _⟩
def rCatT (K : PySem.W.Frag) : R2 := fun x y H Q => ∃ a b xs ys, x = .ref a ∧ y = .ref b ∧ SqT K H a xs ∧ SqT K H b ys ∧ xs ≠ [] ∧ xs.length + ys.length ≤ sizeLine ∧
  (ys = [] → Q (.ref a) H) ∧ (ys ≠ [] → ∀ p, H p = none → Q (.ref p) (upd H p (.tup (xs ++ ys))))
theorem Vals.nil_iff {xs : List V} {us : List Value} (r : Vals xs us) : us = [] ↔ xs = [] := by
  cases r with
  | nil => simp
  | cons _ _ => simp
theorem op_catT : OpR X (binaryOp .Add) (rCatT X.K) := by
  intro pins s σ H x y v u Q I rx ry h
  obtain ⟨a, b, xs, ys, rfl, rfl, ha, hb, hx, hz, q1, q2⟩ := h
  cases rx
  cases ry
  obtain ⟨its, r1, p1, _⟩ := I.tuple ha
  obtain ⟨its2, r2, p2, _⟩ := I.tuple hb
  refine HT.cat_tup p1 p2 (fun z => hx (r1.nil_iff.mp z)) (fun z => ⟨.ref a, H, I, rfl, q1 (r2.nil_iff.mp z)⟩) (fun z => ?_) (by rw [← r1.length, ← r2.length]; exact hz)
  refine ⟨.ref s.heap.objs.size, _, I.laid (t' := s.toks) (o := .tup (xs ++ ys)) (fun b ob q => Heap.get?_push_of_some _ q) (Nat.le_refl _) ?_, rfl, q2 (fun w => z (r2.nil_iff.mpr w)) _ (I.hok.fresh (Nat.le_refl _))⟩
  exact ⟨by rw [List.length_append]; exact hz, _, r1.append r2, IsTup.new _ _⟩
end
end L2
namespace L2
open PySem PySem.Spec PyProof.Rows
def ixN (n : Nat) (i : Int) : Option Nat := if 0 ≤ i then (if i < n then some i.toNat else none) else if -(n : Int) ≤ i then some (i + n).toNat else none
def atI {α : Type} (xs : List α) (i : Int) : Option α := (ixN xs.length i).bind fun j => xs[j]?
theorem ixN_seq {n : Nat} {i : Int} {j : Nat} (h : ixN n i = some j) : seqIndex? i n = some j ∧ j < n ∧ -(n : Int) ≤ i ∧ i < n := by
  unfold ixN at h
  by_cases h0 : 0 ≤ i
  · rw [if_pos h0] at h
    by_cases h1 : i < n
    · rw [if_pos h1] at h
      have e : i.toNat = j := Option.some.inj h
      exact ⟨by rw [seqIndex_of h0 h1, e], by omega, by omega, h1⟩
    · rw [if_neg h1] at h; cases h
  · rw [if_neg h0] at h
    by_cases h1 : -(n : Int) ≤ i
    · rw [if_pos h1] at h
      have e : (i + n).toNat = j := Option.some.inj h
      exact ⟨by rw [seqIndex_neg (by omega) h1, e], by omega, h1, by omega⟩
    · rw [if_neg h1] at h; cases h
theorem atI_get {α : Type} {xs : List α} {i : Int} {v : α} (h : atI xs i = some v) : ∃ j, seqIndex? i xs.length = some j ∧ xs[j]? = some v ∧ j < xs.length ∧ -(xs.length : Int) ≤ i ∧ i < xs.length := by
  unfold atI at h
  cases e : ixN xs.length i with
  | none => rw [e] at h; cases h
  | some j =>
    rw [e] at h
    obtain ⟨h1, h2, h3, h4⟩ := ixN_seq e
    exact ⟨j, h1, h, h2, h3, h4⟩
theorem atI_nat {α : Type} {xs : List α} {j : Nat} {v : α} (h : xs[j]? = some v) : atI xs (j : Int) = some v := by
  have hj : j < xs.length := (List.getElem?_eq_some_iff.mp h).1
  have e : ixN xs.length (j : Int) = some j := by
    unfold ixN
    rw [if_pos (by omega), if_pos (by omega)]; simp
  unfold atI; rw [e]; exact h
def PlainIx (b : Expr) : Prop := ∀ o i, subscripted b false o i = operate [o, i] (getItem o i)
def IxR (X : Cx) (r : R2) : Prop :=
  ∀ (value slice : Expr) (pins : List (Addr × Obj)) (s : Shared) (σ : St) (H : Hp) (x y : V) (v u : Value) (Q : VK), Inv X pins σ H s → RelV x v → RelV y u → r x y H Q →
    subscripted slice false v u = operate [v, u] (getItem v u) → wpAny (model X.prog X.w) X.A (subscriptTail value slice v u) (EP X pins σ Q) X.xe s
def MtR (X : Cx) (id : String) (r : V → List V → Hp → VK → Prop) : Prop :=
  ∀ (pins : List (Addr × Obj)) (s : Shared) (σ : St) (H : Hp) (x : V) (xs : List V) (v : Value) (us : List Value) (Q : VK), Inv X pins σ H s → RelV x v → Vals xs us → r x xs H Q →
    wpAny (model X.prog X.w) X.A (call (.builtin id) (v :: us)) (EP X pins σ Q) X.xe s
section
variable {X : Cx} {a b : Expr} {ta tb : TE} {pos : Pos}
theorem IxR.or {r r' : R2} (h : IxR X r) (h' : IxR X r') : IxR X (fun x y H Q => r x y H Q ∨ r' x y H Q) := by
  intro value slice pins s σ H x y v u Q I rx ry q hs
  rcases q with q | q
  · exact h value slice pins s σ H x y v u Q I rx ry q hs
  · exact h' value slice pins s σ H x y v u Q I rx ry q hs
theorem MtR.or {id : String} {r r' : V → List V → Hp → VK → Prop} (h : MtR X id r) (h' : MtR X id r') : MtR X id (fun x xs H Q => r x xs H Q ∨ r' x xs H Q) := by
  intro pins s σ H x xs v us Q I rx rs q
  rcases q with q | q
  · exact h pins s σ H x xs v us Q I rx rs q
  · exact h' pins s σ H x xs v us Q I rx rs q
theorem pe_ix {r : R2} (hr : IxR X r) (ha : PE X a ta) (hb : PE X b tb) (hs : PlainIx b) : PE X (.Subscript a b pos) (tOp r ta tb) := by
  intro pins s σ H Q I h
  exact Subscript_ (binT ha hb I h fun v u s2 x y H2 I2 rx ry q => hr a b pins s2 σ H2 x y v u Q I2 rx ry q (hs _ _))
def rIxL (K : PySem.W.Frag) : R2 := fun x y H Q => ∃ p xs i v, x = .ref p ∧ y = .int i ∧ SqL K H p xs ∧ atI xs i = some v ∧ Q v H
def rIxT (K : PySem.W.Frag) : R2 := fun x y H Q => ∃ p xs i v, x = .ref p ∧ y = .int i ∧ SqT K H p xs ∧ atI xs i = some v ∧ Q v H
def rIxS : R2 := fun x y H Q => ∃ z i c, x = .str z ∧ y = .int i ∧ z.length ≤ sizeLine ∧ atI z.cps.toList i = some c ∧ Q (.str ⟨#[c]⟩) H
theorem ix_list : IxR X (rIxL X.K) := by
  intro value slice pins s σ H x y v u Q I rx ry h hs
  obtain ⟨p, xs, i, z, rfl, rfl, hq, he, q⟩ := h
  cases rx
  obtain ⟨t, rfl⟩ := ry
  obtain ⟨its, r, pl, hz⟩ := I.list hq
  obtain ⟨j, h1, h2, h3, h4, h5⟩ := atI_get he
  obtain ⟨w, ew, rw'⟩ := r.get h2
  have hl := r.length
  have hn := line63
  have fin : EP X pins σ Q w s := ⟨z, H, I, rw', q⟩
  by_cases h0 : 0 ≤ i
  · have hj : i.toNat = j := by
      rw [seqIndex_of h0 h5] at h1
      exact Option.some.inj h1
    exact item_listR pl.isList h0 (by omega) (by rw [hj]; simpa using ew) fin hs
  · have hj : (i + (its.toArray.size : Int)).toNat = j := by
      rw [seqIndex_neg (by omega) h4] at h1
      rw [List.size_toArray, ← hl]
      exact Option.some.inj h1
    exact subscriptTail_builtinR (x := w) pl.isList.typeIs slot_list_getitem.lookup
      (wpAny_getItem_list_neg (Q := fun r s' => r = w ∧ EP X pins σ Q r s') pl.isList (by omega) (by rw [List.size_toArray] <;> omega) (by omega) (by rw [hj]; simpa using ew) ⟨rfl, fin⟩) hs
theorem ix_tup : IxR X (rIxT X.K) := by
  intro value slice pins s σ H x y v u Q I rx ry h hs
  obtain ⟨p, xs, i, z, rfl, rfl, hq, he, q⟩ := h
  cases rx
  obtain ⟨t, rfl⟩ := ry
  obtain ⟨its, r, pl, hz⟩ := I.tuple hq
  obtain ⟨j, h1, h2, h3, h4, h5⟩ := atI_get he
  obtain ⟨w, ew, rw'⟩ := r.get h2
  have hl := r.length
  have hn := line63
  have fin : EP X pins σ Q w s := ⟨z, H, I, rw', q⟩
  exact subscriptTail_builtinR (x := w) pl.typeIs slot_tuple_getitem.lookup
    (getItem_tuple (j := j) (Q := fun r s' => r = w ∧ EP X pins σ Q r s') pl (by omega) (by omega) (by rw [List.size_toArray, ← hl]; exact h1) (by simpa using ew) ⟨rfl, fin⟩) hs
theorem ix_str : IxR X rIxS := by
  intro value slice pins s σ H x y v u Q I rx ry h hs
  obtain ⟨z, i, c, rfl, rfl, hz, he, q⟩ := h
  obtain ⟨t, rfl⟩ := rx
  obtain ⟨t', rfl⟩ := ry
  obtain ⟨j, h1, h2, h3, h4, h5⟩ := atI_get he
  have hl : z.cps.toList.length = z.length := by simp [Str.length]
  rw [hl] at h1 h4 h5
  have hn := line63
  exact tail_any (typeIs_str s z t) slot_str_getitem.lookup (getItem_str (c := c) (by
    have e1 : decide (i < -(2 ^ 63 : Int)) = false := decide_eq_false (by omega)
    have e2 : decide (i ≥ 2 ^ 63) = false := decide_eq_false (by omega)
    rw [e1, e2, Bool.or_false]) (by rw [h1]; simpa using h2) ⟨.str ⟨#[c]⟩, H, I.tok _, ⟨_, rfl⟩, q⟩) hs
def rIx (K : PySem.W.Frag) : R2 := fun x y H Q => rIxL K x y H Q ∨ rIxT K x y H Q ∨ rIxS x y H Q
theorem ix_seq : IxR X (rIx X.K) := ix_list.or (ix_tup.or ix_str)
theorem Inv.lst {pins : List (Addr × Obj)} {σ : St} {H : Hp} {s : Shared} {p : Addr} {xs : List V} (I : Inv X pins σ H s) (h : H p = some (.lst xs)) :
    ∃ (its : List Value) (n : Nat), Vals xs its ∧ s.heap.get? p = some { cls := .type "list", data := .seq its.toArray n } ∧ xs.length ≤ sizeLine := by
  obtain ⟨z, its, n, r, e⟩ := I.hok p _ h
  exact ⟨its, n, r, e, z⟩
theorem call_len_seq : CallR X (.builtin "len") (fun xs H Q => ∃ p ys, xs = [.ref p] ∧ (SqL X.K H p ys ∨ SqT X.K H p ys) ∧ Q (.int ys.length) H) := by
  intro pins s σ H xs us Q I r h
  obtain ⟨p, ys, rfl, hq, q⟩ := h
  obtain ⟨u, rfl, rx⟩ := vals1 r
  cases rx
  have hn := line63
  rcases hq with hq | hq
  · obtain ⟨its, r', pl, hz⟩ := I.list hq
    have hlen := r'.length
    exact Calls.call_len_list pl.isList (by simp only [List.size_toArray] <;> omega) ⟨.int ys.length, H, I.tok _, ⟨s.toks + 1, by rw [List.size_toArray, hlen]⟩, q⟩
  · obtain ⟨its, r', pl, hz⟩ := I.tuple hq
    have hlen := r'.length
    exact len_tuple pl (by simp only [List.size_toArray] <;> omega) ⟨.int ys.length, H, I.tok _, ⟨s.toks + 1, by rw [List.size_toArray, hlen]⟩, q⟩
theorem CallR.or {f : Value} {r r' : List V → Hp → VK → Prop} (h : CallR X f r) (h' : CallR X f r') : CallR X f (fun xs H Q => r xs H Q ∨ r' xs H Q) := by
  intro pins s σ H xs us Q I rs q
  rcases q with q | q
  · exact h pins s σ H xs us Q I rs q
  · exact h' pins s σ H xs us Q I rs q
theorem call_list_of : CallR X (.type "list") (fun xs H Q => ∃ p ys, xs = [.ref p] ∧ (SqL X.K H p ys ∨ SqT X.K H p ys) ∧ ∀ l, H l = none → Q (.ref l) (upd H l (.lst ys))) := by
  intro pins s σ H xs us Q I r h
  obtain ⟨p, ys, rfl, hq, q⟩ := h
  obtain ⟨u, rfl, rx⟩ := vals1 r
  cases rx
  have fin : ∀ (its : List Value), Vals ys its → ys.length ≤ sizeLine → ∀ (h' : Heap) (c' : Nat), (∀ b o', s.heap.get? b = some o' → h'.get? b = some o') →
      h'.get? s.heap.objs.size = some { cls := .type "list", dict := none, data := .seq its.toArray c', slots := #[] } → EP X pins σ Q (.ref s.heap.objs.size) { s with heap := h' } := fun its r' hz h' c' kp e =>
    ⟨.ref s.heap.objs.size, _, I.laid (t' := s.toks) kp (Nat.le_refl _) (show ObjOk X.prog X.w _ h' _ (.lst ys) from ⟨hz, its, c', r', e⟩), rfl, q _ (I.hok.fresh (Nat.le_refl _))⟩
  rcases hq with hq | hq
  · obtain ⟨its, r', pl, hz⟩ := I.list hq
    have hlen := r'.length
    obtain ⟨o, ho, hc, n, hd⟩ := pl.isList
    exact call_list_seq p (.inl rfl) ho hc hd (fun h' c' kp e => fin its r' hz h' c' kp e) (by simp only [List.size_toArray] <;> omega)
  · obtain ⟨its, r', pl, hz⟩ := I.tuple hq
    have hlen := r'.length
    obtain ⟨o, ho, hc, n, hd⟩ := pl
    exact call_list_seq p (.inr rfl) ho hc hd (fun h' c' kp e => fin its r' hz h' c' kp e) (by simp only [List.size_toArray] <;> omega)
theorem call_tuple_of : CallR X (.type "tuple") (fun xs H Q => ∃ p ys, xs = [.ref p] ∧ ((SqL X.K H p ys ∧ ∀ l, H l = none → Q (.ref l) (upd H l (.tup ys))) ∨ (SqT X.K H p ys ∧ Q (.ref p) H))) := by
  intro pins s σ H xs us Q I r h
  obtain ⟨p, ys, rfl, h⟩ := h
  obtain ⟨u, rfl, rx⟩ := vals1 r
  cases rx
  rcases h with ⟨hq, q⟩ | ⟨hq, q⟩
  · obtain ⟨its, r', pl, hz⟩ := I.list hq
    have hlen := r'.length
    refine call_tuple_list pl.isList (fun h' kp => ?_) (by simp only [List.size_toArray] <;> omega)
    have I1 : Inv X pins σ H { s with heap := h' } := I.kept (t' := s.toks) kp
    have I2 : Inv X pins σ (upd H h'.objs.size (.tup ys)) { s with heap := h'.push { cls := .type "tuple", data := .seq its.toArray } } :=
      I1.laid (t' := s.toks) (fun b o e => Heap.get?_push_of_some _ e) (Nat.le_refl _) (show ObjOk X.prog X.w _ _ _ (.tup ys) from ⟨hz, its, r', IsTup.new _ _⟩)
    exact ⟨.ref h'.objs.size, _, I2, rfl, q _ (I1.hok.fresh (Nat.le_refl _))⟩
  · obtain ⟨its, r', pl, hz⟩ := I.tuple hq
    exact call_tuple_same pl ⟨.ref p, H, I, rfl, q⟩
variable {o e : Expr} {es : List Expr} {to : TE} {t : TA} {name : Str} {apos cpos : Pos} {T id : String} {r : V → List V → Hp → VK → Prop}
end
end L2
namespace L2
open PySem PySem.Spec PyProof.Rows
def MtM (X : Cx) (id : String) (r : V → List V → Hp → VK → Prop) : Prop :=
  ∀ (pins : List (Addr × Obj)) (s : Shared) (σ : St) (H : Hp) (x : V) (xs : List V) (v : Value) (us : List Value) (Q : VK), Inv X pins σ H s → RelV x v → Vals xs us → r x xs H Q →
    wpAny (model X.prog X.w) X.A (call (.builtin id) (v :: us)) (EP X pins σ Q) X.xe s
theorem Vals.one : ∀ {x : V} {us : List Value}, Vals [x] us → ∃ u, us = [u] ∧ RelV x u
  | _, _, .cons r .nil => ⟨_, rfl, r⟩
theorem Vals.zero : ∀ {us : List Value}, Vals [] us → us = []
  | _, .nil => rfl
theorem Vals.reverse {xs : List V} {us : List Value} (h : Vals xs us) : Vals xs.reverse us.reverse := by
  induction h with
  | nil => exact .nil
  | cons r t ih => rw [List.reverse_cons, List.reverse_cons]; exact Vals.append ih (.cons r .nil)
theorem Vals.rep {xs : List V} {us : List Value} (h : Vals xs us) : ∀ k : Nat, Vals (List.replicate k xs).flatten (List.replicate k us).flatten
  | 0 => .nil
  | k + 1 => by
    rw [List.replicate_succ, List.replicate_succ, List.flatten_cons, List.flatten_cons]
    exact Vals.append h (Vals.rep h k)
theorem foldl_rep (its : List Value) : ∀ (k : Nat) (acc : List Value),
    List.foldl (fun x1 x2 => x1 ++ x2) acc.toArray (List.replicate k its.toArray) = (acc ++ (List.replicate k its).flatten).toArray
  | 0, acc => by simp
  | k + 1, acc => by
    have e : acc.toArray ++ its.toArray = (acc ++ its).toArray := by simp
    have e2 : (acc ++ its) ++ (List.replicate k its).flatten = acc ++ (List.replicate (k + 1) its).flatten := by
      rw [List.replicate_succ, List.flatten_cons, List.append_assoc]
    rw [← e2, ← foldl_rep its k (acc ++ its), ← e, List.replicate_succ, List.foldl_cons]
section
variable {X : Cx} {pins : List (Addr × Obj)} {σ : St} {H : Hp} {s : Shared} {l b : Addr} {xs ys zs : List V}
theorem Inv.lset {its its' : List Value} {n : Nat} {f : Array Value → Array Value} {t' : Nat} (I : Inv X pins σ H s) (hH : H l = some (.lst xs))
    (e : s.heap.get? l = some { cls := .type "list", data := .seq its.toArray n }) (hf : f its.toArray = its'.toArray) (hv : Vals ys its') (hz : ys.length ≤ sizeLine) :
    Inv X pins σ (upd H l (.lst ys)) { s with heap := s.heap.update l (Obj.mapSeq f), toks := t' } := by
  have q := PySem.IsL.update e f
  rw [hf] at q
  refine I.write (x := l) (e := l) (by rw [hH]; exact trivial) (.inl rfl) (fun b' u hb hu => (Heap.get?_update_other s.heap (Obj.mapSeq f) (Ne.symm hb)).trans hu) ⟨_, q⟩ ?_
  exact ⟨hz, its', _, hv, q⟩
theorem Inv.lnew {its : List Value} {t' : Nat} (I : Inv X pins σ H s) (hv : Vals ys its) (hz : ys.length ≤ sizeLine) :
    Inv X pins σ (upd H s.heap.objs.size (.lst ys)) { s with heap := s.heap.push { cls := .type "list", data := .seq its.toArray }, toks := t' } :=
  I.laid (fun _ _ q => Heap.get?_push_of_some _ q) (Nat.le_refl _) ⟨hz, its, 0, hv, Heap.get?_push_size _ rfl⟩
theorem Inv.fresh (I : Inv X pins σ H s) : H s.heap.objs.size = none := I.hok.fresh (Nat.le_refl _)
theorem Inv.lstM (I : Inv X pins σ H s) (hH : H l = some (.lst xs)) : xs.length ≤ sizeLine ∧ ∃ (its : List Value) (n : Nat), Vals xs its ∧ xs.length = its.length ∧ s.heap.get? l = some { cls := .type "list", data := .seq its.toArray n } := by
  obtain ⟨z, its, n, r, e⟩ := I.hok l _ hH
  exact ⟨z, its, n, r, r.length, e⟩
end
section
variable {X : Cx}
def rAppend : V → List V → Hp → VK → Prop := fun x vs H Q => ∃ l xs y, x = .ref l ∧ vs = [y] ∧ H l = some (.lst xs) ∧ xs.length < sizeLine ∧ Q .non (upd H l (.lst (xs ++ [y])))
theorem mt_append : MtM X "list.append" rAppend := by
  intro pins s σ H x vs v us Q I rx rv h
  obtain ⟨l, xs, y, rfl, rfl, hH, hz, q⟩ := h
  cases rx
  obtain ⟨u, rfl, ru⟩ := rv.one
  obtain ⟨z, its, n, r, hl, e⟩ := I.lstM hH
  refine call_meets F.slot_list_append ⟨_, e, rfl⟩ F.entry_list_append (F.args_list_append_2 _ _) (PySem.list_append l its.toArray n u (by rw [List.size_toArray]; omega)) ⟨e, ?_⟩
  refine ⟨.non, _, I.lset (its' := its ++ [u]) hH e (by simp) (r.append (.cons ru .nil)) ?_, rfl, q⟩
  rw [List.length_append, List.length_singleton]
  omega
theorem len_rep {α : Type} (xs : List α) (k : Nat) : (List.replicate k xs).flatten.length = k * xs.length := by
  induction k with
  | zero => simp
  | succ k ih => rw [List.replicate_succ, List.flatten_cons, List.length_append, ih, Nat.succ_mul, Nat.add_comm]
end
section
variable {prog : Program} {w : World} {A : Around} {E : Value → Shared → Prop} {s : Shared}
set_option maxRecDepth 100000 in
end
section
variable {X : Cx}
end
end L2
namespace Att
open PySem PySem.W PySem.Calls PyProof.Rows
theorem ints_of_wellAll {P : Params} {h : Heap} : ∀ (ns : List Int) (vs : List Value), WellAll P h vs (ns.map WData.int) → IntsAre vs ns := by
  intro ns
  induction ns with
  | nil =>
    intro vs w
    rw [List.map_nil] at w
    cases w
    exact .nil
  | cons n ns ih =>
    intro vs w
    rw [List.map_cons] at w
    cases w with
    | cons a b =>
      cases a
      exact .cons _ _ (ih _ b)
theorem script_of {l : OpenLaw} {n : Nat} (hn : l.most = some n) {P : Params} {h : Heap} {args : List WData} {vals : List Value}
    (hpre : l.row.toRowW.claim.pre args = true) (hwl : WellAll P h vals args) :
    ∃ a vs ns, vals = [Value.ref a] ∧ args = [WData.list (ns.map WData.int)] ∧ h.get? a = some { cls := .type "list", data := .seq vs.toArray } ∧ IntsAre vs ns ∧ ns.length ≤ n := by
  have hsh : WShape.hasAll [] args [.list .int] = true := (pre_splitW hpre).1
  have hc : l.pre.holds [] { args := args } = true := (pre_splitW hpre).2
  obtain ⟨d, r, rfl, h1, h2⟩ := hasAllW_cons hsh
  obtain rfl := hasAllW_nil h2
  obtain ⟨xs, rfl, h3⟩ := hasW_list h1
  obtain ⟨ns, rfl⟩ := items_int h3
  have hlen : ns.length ≤ n := by
    unfold OpenLaw.pre at hc
    have h4 : (WTm.not (.lt (.lit (.int (n : Int))) (.len (.arg 0)))).holds [] { args := [.list (ns.map .int)] } = true := by
      have h4 := (holds_andW hc).1
      rw [hn] at h4
      exact h4
    have h5 := condW_of h4 (w_not (w_lt w_lit (w_len_list (w_arg rfl))))
    rw [List.length_map] at h5
    refine Nat.le_of_not_lt fun q => ?_
    have q' : (n : Int) < ((ns.length : Nat) : Int) := by omega
    first
      | (rw [decide_eq_true q'] at h5; exact absurd h5 (by decide))
      | (simp at h5; omega)
  cases hwl with
  | cons w1 w2 =>
    cases w2
    cases w1 with
    | list ho hall => exact ⟨_, _, ns, rfl, rfl, ho, ints_of_wellAll ns _ hall, hlen⟩
theorem post_true (l : OpenLaw) (args : List WData) : l.row.toRowW.claim.post args (.bool true) args = true :=
  postW_of (r := l.row.toRowW) (X := (true == true))
    (show WShape.has [] (.bool true) .bool = true by first | rfl | decide | simp [WShape.has, WShape.arms, WShape.armsAll])
    (show (WTm.eq .res (.lit (.bool true))).value [] { args := args, res := some (.bool true), after := args } = some (.bool (true == true)) from w_eq_bool (w_res rfl) w_lit) rfl
theorem attach_call {l : OpenLaw} {n : Nat} {q : Program} {loose : List Str} {XP : (Str → Option Value) → Heap → Prop} {YP : World → Heap → Prop} {d : DefRec}
    (hn : l.most = some n) (hdf : d.params.defaults = [])
    (call : ∀ (w : World) (s₀ s₁ : Shared) (mg mb : Str → Option Value) (fa : Addr) (o : Obj) (pm cd doc : Value) (a : Addr) (vs : List Value) (ns : List Int),
      Ground q loose [] XP w s₀ mg mb s₁.heap → YP w s₁.heap →
      s₁.heap.get? fa = some o → o.data = .func (docDef d.name d.params d.body d.scope pm cd doc) → s₁.heap.CodeRec cd d.name → mg d.name = some (.ref fa) →
      s₁.heap.get? a = some { cls := .type "list", data := .seq vs.toArray } → IntsAre vs ns → ns.length ≤ n → s₁.gens = #[] →
      codeAny (model l.prog w) callerA (.call (.ref fa) ⟨[.ref a], []⟩) (fun r s' => r = .ok (.ret (.bool true)) ∧ OldK s₁.heap s'.heap ∧ s'.os = s₁.os ∧ AllBare s'.gens) s₁) :
    WalkO q loose XP YP l.row.toRowW d [] (fun f vs => PySem.call f vs) := by
  intro w s₀ s₁ mg mb G Y fa o pm cd doc dV kV ho hd hcd hD hmg hg args vals as hpre hlay hrd hwl hlo
  obtain rfl : dV = .none := Dflts.none hD hdf
  obtain rfl : kV = .none := Dflts.noKw hD
  obtain ⟨a, vs, ns, rfl, rfl, hobj, hints, hlen⟩ := script_of hn hpre hwl
  refine enter_call (codeAny_mono (call w s₀ s₁ mg mb fa o pm cd doc a vs ns G Y ho (fd_plain hd) hcd hmg hobj hints hlen hg) fun r s' hq => ?_)
  obtain ⟨rfl, h2, h3, h4⟩ := hq
  exact ⟨.inl ⟨.bool true, .bool true, [], rfl, fun _ => rfl, .bool true, post_true l _, fun _ => ⟨List.Pairwise.nil, fun _ hm => (nomatch hm)⟩⟩, h2, h3, h4⟩
section
variable {prog : Program} {w : World} {A : Around} {E : Value → Shared → Prop} {s : Shared} {K : Frag}
end
end Att
namespace L2
open PySem PySem.Spec PyProof.Rows
theorem vals_ints : ∀ {vs : List Value} {ns : List Int}, IntsAre vs ns → Vals (ns.map V.int) vs
  | _, _, .nil => .nil
  | _, _, .cons n t h => .cons ⟨t, rfl⟩ (vals_ints h)
def Only (H : Hp) : Prop := ∀ b, H b = none ∨ ∃ o xs, H b = some (.frz o (.lst xs))
theorem law_call {P : Program} {w : World} {K : PySem.W.Frag} {mg mb : Str → Option Value} {CX : CXT} {k : Nat} {fa a : Addr} {fd : FuncData} {x : Str} {sp : Sp} {s₁ : Shared} {vs : List Value} {ns : List Int}
    (KX : K.In s₁.heap) (hns : s₁.heap.Ns mainGlobals mg) (hb : s₁.heap.Ns builtinsNs mb) (hbb : ∀ x : Str, x ≠ "__name__" → mb x = bootBuiltins x) (hlim : s₁.heap.NoLimit) (hg : s₁.gens = #[])
    (ha : s₁.heap.get? a = some { cls := .type "list", data := .seq vs.toArray }) (hi : IntsAre vs ns) (hl : ns.length ≤ sizeLine) (hr : Room k callerA)
    (F : ∀ base : Heap, K.In base → base.Ns mainGlobals mg → FnOk P w K mg base CX k fa fd [x] sp) (hbind : ∀ (s : Shared) (u : Value), BindsTo s fd ⟨[u], []⟩ [(x, u)])
    (hsp : ∀ H : Hp, Only H → SqL K H a (ns.map V.int) → sp [.ref a] H (fun v _ => v = .bl true) fun _ _ _ => False)
    (hCX : ∀ H e s', CX [] H s₁ (fun _ _ _ => False) e s' → False) :
    codeAny (model P w) callerA (.call (.ref fa) ⟨[.ref a], []⟩) (fun r s' => r = .ok (.ret (.bool true)) ∧ OldK s₁.heap s'.heap ∧ s'.os = s₁.os ∧ AllBare s'.gens) s₁ := by
  have rv := vals_ints hi
  have lenV := hi.length
  -- from an abstract heap in which nothing but the script may be tracked
  have core : ∀ H : Hp, Only H → SqL K H a (ns.map V.int) → HOk P w H s₁.heap → (∀ b, H b ≠ none → b = a) → (H a ≠ none → K.lookup a = none) →
      codeAny (model P w) callerA (.call (.ref fa) ⟨[.ref a], []⟩) (fun r s' => r = .ok (.ret (.bool true)) ∧ OldK s₁.heap s'.heap ∧ s'.os = s₁.os ∧ AllBare s'.gens) s₁ := by
    intro H hO hS hok hA hK
    have base_of : ∀ {b : Addr} {o : Obj}, s₁.heap.get? b = some o → H b = none → (hidT s₁.heap H).get? b = some o := fun e n => hidT_get e n
    have noA : ∀ {b : Addr} {o : Obj} {es : Array DictEntry} {ep : Nat}, s₁.heap.get? b = some o → o.data = .dict es ep → H b = none := fun {b o es ep} e d => by
      cases q : H b with
      | none => rfl
      | some u =>
        have e' : b = a := hA b (by rw [q]; simp)
        subst e'
        rw [ha] at e; cases e
        have d' : Data.seq vs.toArray _ = Data.dict es ep := d
        cases d'
    have nsK : ∀ {b : Addr} {m : Str → Option Value}, s₁.heap.Ns b m → (hidT s₁.heap H).Ns b m := fun {b m} ⟨o, es, ep, e, d, r⟩ => ⟨o, es, ep, base_of e (noA e d), d, r⟩
    have hKb : K.In (hidT s₁.heap H) := fun b o e => base_of (KX b o e) (by
      cases q : H b with
      | none => rfl
      | some u =>
        have e' : b = a := hA b (by rw [q]; simp)
        subst e'
        rw [hK (by rw [q]; simp)] at e; cases e)
    have hM : Mod K mg (hidT s₁.heap H) := ⟨hKb, nsK hns, ⟨mb, nsK hb, hbb⟩, let ⟨mc, h1, h2⟩ := hlim; ⟨mc, nsK h1, h2⟩⟩
    have e0 : Env0 P w K mg (hidT s₁.heap H) callerA [] s₁ H := ⟨rfl, hM, fun b o e => of_hidT e, Nat.le_of_eq (hidT_size _ _), trivial, fun b hb => absurd (show b ∈ ([] : List Addr) from hb) (by simp), hok, .of_eq hg⟩
    refine codeAny_mono ((F _ hKb (nsK hns)).run callerA [] s₁ H ⟨[.ref a], []⟩ [.ref a] [.ref a] _ _ hr e0 (hbind s₁ (.ref a)) (.cons rfl .nil) (hsp H hO hS)) fun r s' h => ?_
    cases r with
    | error e => exact (hCX H e s' h).elim
    | ok fl =>
      cases fl with
      | next => exact False.elim h
      | brk => exact False.elim h
      | cont => exact False.elim h
      | ret u =>
        obtain ⟨v, H', os, bare, un, hok', r', q⟩ := h
        have q' : v = .bl true := q
        subst q'
        obtain rfl : u = Value.bool true := r'
        refine ⟨rfl, OldK.of_keep fun b o e => ?_, os, bare⟩
        cases q : H b with
        | none => exact un.keep b o e q (by intro z; exact absurd (show b ∈ ([] : List Addr) from z) (by simp)) (by simp)
        | some u =>
          rcases hO b with z | ⟨ob, xs, z⟩
          · rw [q] at z; cases z
          · have z2 := un.frzs b ob _ z
            obtain ⟨e1, _⟩ := hok b _ z
            obtain ⟨e2, _⟩ := hok' b _ z2
            rw [e] at e1; cases e1
            exact e2
  cases hk : K.lookup a with
  | some o =>
    -- the script is one of the module's own objects
    have e := KX a o hk
    rw [ha] at e
    cases e
    refine core (fun _ => none) (fun _ => .inl rfl) (.inr ⟨_, vs.toArray, _, hk, rfl, rfl, rfl, by rw [List.size_toArray, lenV]; exact hl, by simpa using rv⟩) (fun b u z => by have z' : (none : Option HO) = some u := z; cases z') (fun b z => absurd rfl z) fun z => absurd rfl z
  | none =>
    refine core (fun b => if b = a then some (.frz { cls := .type "list", data := .seq vs.toArray } (.lst (ns.map V.int))) else none) (fun b => ?_) (.inl (.inr ⟨{ cls := .type "list", data := .seq vs.toArray }, if_pos rfl⟩)) (fun b u z => ?_) (fun b z => ?_) fun _ => hk
    · by_cases hb : b = a
      · exact .inr ⟨_, _, if_pos hb⟩
      · exact .inl (if_neg hb)
    · by_cases hb : b = a
      · have z' := (if_pos hb).symm.trans z
        cases z'
        subst hb
        exact ⟨ha, by rw [List.length_map]; exact hl, vs, _, rv, ha⟩
      · have z' := (if_neg hb).symm.trans z
        cases z'
    · by_cases hb : b = a
      · exact hb
      · exact absurd (if_neg hb) z
end L2
namespace L2
open PySem PySem.Spec PyProof.Rows
theorem walk_of {l : PySem.W.OpenLaw} {n k : Nat} {q : Program} {loose : List Str} {XP : (Str → Option Value) → Heap → Prop} {YP : World → Heap → Prop} {d : DefRec} {K : Params → PySem.W.Frag} {CX : World → CXT} {sp : World → Sp} {x : Str}
    (hn : l.most = some n) (hn2 : n ≤ sizeLine) (hdf : d.params.defaults = []) (hr : Room k callerA)
    (hY : ∀ (w : World) (h : Heap), YP w h → (K w.params).In h)
    (F : ∀ (w : World) (mg : Str → Option Value) (fa : Addr) (h : Heap), (K w.params).In h → h.Ns mainGlobals mg → mg d.name = some (.ref fa) →
      ∃ fd : FuncData, (∀ (s : Shared) (u : Value), BindsTo s fd ⟨[u], []⟩ [(x, u)]) ∧
        ∀ base : Heap, (K w.params).In base → base.Ns mainGlobals mg → FnOk l.prog w (K w.params) mg base (CX w) k fa fd [x] (sp w))
    (hsp : ∀ (w : World) (H : Hp) (a : Addr) (ns : List Int), ns.length ≤ n → Only H → SqL (K w.params) H a (ns.map V.int) → sp w [.ref a] H (fun v _ => v = .bl true) fun _ _ _ => False)
    (hCX : ∀ (w : World) (H : Hp) (s : Shared) (e : Value) (s' : Shared), CX w [] H s (fun _ _ _ => False) e s' → False) :
    PySem.W.WalkO q loose XP YP l.row.toRowW d [] (fun f vs => PySem.call f vs) := by
  refine Att.attach_call hn hdf fun w s₀ s₁ mg mb fa o pm cd doc a vs ns G Y ho hd hcd hmg hobj hints hlen hg => ?_
  have KX := hY w _ Y
  obtain ⟨fd, hb, hF⟩ := F w mg fa _ KX G.T.g hmg
  exact law_call KX G.T.g G.T.b G.T.builtins G.T.nolimit hg hobj hints (Nat.le_trans hlen hn2) hr hF hb (fun H hO hS => hsp w H a ns hlen hO hS) fun H e s' => hCX w H s₁ e s'
end L2
namespace L2
open PySem PySem.Spec PyProof.Rows
def defArgs (s : Stmt) : Arguments := match s with
  | .FunctionDef _ a _ _ _ _ _ _ _ _ => a
  | _ => { posonlyargs := [], args := [], vararg := none, kwonlyargs := [], kw_defaults := [], kwarg := none, defaults := [] }
def defBody (s : Stmt) : List Stmt := match s with
  | .FunctionDef _ _ b _ _ _ _ _ _ _ => b
  | _ => []
def defScope (s : Stmt) : Scope := match s with
  | .FunctionDef _ _ _ _ _ _ sc _ _ _ => sc
  | _ => { kind := .function, names := [], isGenerator := false, isCoroutine := false }
abbrev CX0 : CXT := fun _ _ _ _ _ _ => False
abbrev E0 : XK := fun _ _ _ => False
theorem pass0 {X : Cx} : Passes CX0 X E0 := fun _ _ _ _ _ _ _ h => h.elim
structure Fun (K : PySem.W.Frag) (x qual : Str) (st : Stmt) (f : Addr) (fd : FuncData) : Prop where
  ex : ∃ (oc : Value) (od : Option Addr) (kV doc pm : Value) (an : Option Addr) (cdv ct : Value) (osl : Array (Option Value)),
    fd = PySem.W.fnOf x qual (defArgs st) (defBody st) (defScope st) .none kV doc pm an cdv ct ∧ K.lookup f = some ⟨oc, od, .func fd, osl⟩ ∧ PySem.W.codeIn K cdv qual = true
  kp : PySem.W.keepIn K (.ref f) = true
section
variable {P : Program} {w : World} {K : PySem.W.Frag} {mg : Str → Option Value} {base : Heap}
theorem Fun.ok {x qual : Str} {st : Stmt} {f : Addr} {fd : FuncData} {N ps : List Str} {k : Nat} {sp : Sp} (F : Fun K x qual st f fd) (S : FnScope N ps (defScope st)) (len : ∀ vs H Q E, sp vs H Q E → vs.length = ps.length)
    (hbody : ∀ (cdv : Value) (A : Around) (outer : List Env) (s : Shared) (H : Hp) (vs : List V) (Q : VK) (E : XK), Room k (A.deeper (envOfC qual (defScope st) s.heap.objs.size f cdv)) → sp vs H Q E →
      ∃ t, PSs (cxOf CX0 P w K mg base N qual (defScope st) f cdv A outer s H E).nox (defBody st) t ∧ t { nx := fun _ H' => Q .non H', rt := Q } (start N vs) H) : FnOk P w K mg base CX0 (k + 1) f fd ps sp := by
  obtain ⟨oc, od, kV, doc, pm, an, cdv, ct, osl, rfl, lk, hcd⟩ := F.ex
  refine fn_of lk hcd S len fun A outer s H vs Q E hr hsp => ?_
  obtain ⟨t, h, q⟩ := hbody cdv A outer s H vs Q E hr hsp
  exact ⟨t, h.nox, q⟩
theorem Fun.binds {x qual : Str} {st : Stmt} {f : Addr} {fd : FuncData} {ps : List Str} (F : Fun K x qual st f fd)
    (h : ∀ (kV doc pm : Value) (an : Option Addr) (cdv ct : Value) (us : List Value), us.length = ps.length → bindArgs (PySem.W.fnOf x qual (defArgs st) (defBody st) (defScope st) .none kV doc pm an cdv ct) ⟨us, []⟩ = pure (ps.zip us)) : Binds K fd ps [] := by
  obtain ⟨oc, od, kV, doc, pm, an, cdv, ct, osl, rfl, lk, hcd⟩ := F.ex
  exact .all (h kV doc pm an cdv ct)
theorem fun_mk {x qual : Str} {st : Stmt} {f : Addr} {oc : Value} {od an : Option Addr} {osl : Array (Option Value)} {kV doc pm cdv ct : Value} (l : K.lookup f = some ⟨oc, od, .func (PySem.W.fnOf x qual (defArgs st) (defBody st) (defScope st) .none kV doc pm an cdv ct), osl⟩)
    (c : PySem.W.codeIn K cdv qual = true) (k : PySem.W.keepIn K (.ref f) = true) : Fun K x qual st f (PySem.W.fnOf x qual (defArgs st) (defBody st) (defScope st) .none kV doc pm an cdv ct) := ⟨⟨oc, od, kV, doc, pm, an, cdv, ct, osl, rfl, l, c⟩, k⟩
end
theorem small1000 {n : Nat} (h : n ≤ 1000) : n < sizeLine := Nat.lt_of_le_of_lt h (by decide)
section
variable {X : Cx}
end
theorem iteF {A B : Prop} (h : B) : if false = true then A else B := by
  rw [if_neg Bool.false_ne_true]
  exact h
theorem iteT {A B : Prop} (h : A) : if true = true then A else B := by
  rw [if_pos rfl]
  exact h
def Same (H H' : Hp) : Prop := ∀ b o, H b = some o → H' b = some o
theorem Same.refl (H : Hp) : Same H H := fun _ _ h => h
theorem Same.trans {H H1 H2 : Hp} (a : Same H H1) (b : Same H1 H2) : Same H H2 := fun c o h => b c o (a c o h)
theorem Same.free {H H' : Hp} (e : Same H H') {l : Addr} (h : H' l = Option.none) : H l = Option.none := by
  cases q : H l with
  | none => rfl
  | some o =>
    rw [e l o q] at h
    cases h
theorem Same.seq {K : PySem.W.Frag} {H H' : Hp} {a : Addr} {xs : List V} (e : Same H H') (h : SqL K H a xs) : SqL K H' a xs := by
  rcases h with (h | ⟨o, h⟩) | h
  · exact .inl (.inl (e _ _ h))
  · exact .inl (.inr ⟨o, e _ _ h⟩)
  · exact .inr h
end L2
set_option maxHeartbeats 4000000
namespace G
open PySem PySem.Spec PyProof.Rows L2
abbrev D := PyData
mutual
def Rep (K : PySem.W.Frag) (H : Hp) : D → V → Prop
  | .none, v => v = .non
  | .bool b, v => v = .bl b
  | .int i, v => v = .int i
  | .str x, v => v = .str x
  | .tuple ds, v => ∃ a vs, v = .ref a ∧ SqT K H a vs ∧ Reps K H ds vs
  | .list ds, v => ∃ a vs, v = .ref a ∧ SqL K H a vs ∧ Reps K H ds vs
  | .dict _, _ => False
def Reps (K : PySem.W.Frag) (H : Hp) : List D → List V → Prop
  | [], vs => vs = []
  | d :: ds, vs => ∃ v r, vs = v :: r ∧ Rep K H d v ∧ Reps K H ds r
end
section
variable {K : PySem.W.Frag} {H H' H0 H1 H2 Hf Hf' Hf1 Hf2 : Hp}
theorem same_rd {a : Addr} {u : HO} (e : Same H H') (h : Rd H a u) : Rd H' a u := by
  rcases h with h | ⟨o, h⟩
  · exact .inl (e _ _ h)
  · exact .inr ⟨o, e _ _ h⟩
theorem sqT_mono {a : Addr} {xs : List V} (e : Same H H') (h : SqT K H a xs) : SqT K H' a xs := h.imp (same_rd e) id
theorem sqL_mono {a : Addr} {xs : List V} (e : Same H H') (h : SqL K H a xs) : SqL K H' a xs := h.imp (same_rd e) id
mutual
theorem Rep.mono (e : Same H H') : ∀ {d : D} {v : V}, Rep K H d v → Rep K H' d v
  | .none, _, h => h
  | .bool _, _, h => h
  | .int _, _, h => h
  | .str _, _, h => h
  | .tuple _, _, ⟨a, vs, h1, h2, h3⟩ => ⟨a, vs, h1, sqT_mono e h2, Reps.mono e h3⟩
  | .list _, _, ⟨a, vs, h1, h2, h3⟩ => ⟨a, vs, h1, sqL_mono e h2, Reps.mono e h3⟩
  | .dict _, _, h => h
theorem Reps.mono (e : Same H H') : ∀ {ds : List D} {vs : List V}, Reps K H ds vs → Reps K H' ds vs
  | [], _, h => h
  | _ :: _, _, ⟨v, r, h1, h2, h3⟩ => ⟨v, r, h1, Rep.mono e h2, Reps.mono e h3⟩
end
theorem Reps.length : ∀ {ds : List D} {vs : List V}, Reps K H ds vs → vs.length = ds.length
  | [], _, h => by cases h; rfl
  | _ :: _, _, ⟨v, r, h1, h2, h3⟩ => by subst h1; simp [Reps.length h3]
theorem Reps.get : ∀ {ds : List D} {vs : List V} {i : Nat} {d : D}, Reps K H ds vs → ds[i]? = some d → ∃ v, vs[i]? = some v ∧ Rep K H d v
  | [], _, _, _, _, e => by simp at e
  | x :: _, _, 0, _, ⟨v, r, h1, h2, h3⟩, e => by subst h1; simp at e; subst e; exact ⟨v, rfl, h2⟩
  | x :: _, _, i + 1, _, ⟨v, r, h1, h2, h3⟩, e => by
    subst h1
    obtain ⟨u, q1, q2⟩ := Reps.get (i := i) h3 (by simpa using e)
    exact ⟨u, by simpa using q1, q2⟩
theorem Reps.append : ∀ {ds es : List D} {vs us : List V}, Reps K H ds vs → Reps K H es us → Reps K H (ds ++ es) (vs ++ us)
  | [], _, _, _, h, q => by cases h; exact q
  | _ :: _, _, _, _, ⟨v, r, h1, h2, h3⟩, q => by subst h1; exact ⟨v, r ++ _, rfl, h2, Reps.append h3 q⟩
theorem Reps.take : ∀ {ds : List D} {vs : List V} (n : Nat), Reps K H ds vs → Reps K H (ds.take n) (vs.take n)
  | [], _, n, h => by cases h; simp [Reps]
  | _ :: _, _, 0, h => by simp [Reps]
  | _ :: _, _, n + 1, ⟨v, r, h1, h2, h3⟩ => by subst h1; exact ⟨v, r.take n, rfl, h2, Reps.take n h3⟩
theorem Reps.drop : ∀ {ds : List D} {vs : List V} (n : Nat), Reps K H ds vs → Reps K H (ds.drop n) (vs.drop n)
  | [], _, n, h => by cases h; simp [Reps]
  | _ :: _, _, 0, h => h
  | _ :: _, _, n + 1, ⟨v, r, h1, h2, h3⟩ => by subst h1; exact Reps.drop n h3
theorem Reps.ints : ∀ (ns : List Int), Reps K H (ns.map PyData.int) (ns.map V.int)
  | [] => rfl
  | n :: r => ⟨.int n, r.map V.int, rfl, rfl, Reps.ints r⟩
theorem Reps.flatten {ds : List D} {vs : List V} (h : Reps K H ds vs) : ∀ k : Nat, Reps K H (List.replicate k ds).flatten (List.replicate k vs).flatten
  | 0 => rfl
  | k + 1 => by simp only [List.replicate_succ, List.flatten_cons]; exact h.append (Reps.flatten h k)
theorem Reps.reverse : ∀ {ds : List D} {vs : List V}, Reps K H ds vs → Reps K H ds.reverse vs.reverse
  | [], _, h => by cases h; rfl
  | _ :: _, _, ⟨v, r, h1, h2, h3⟩ => by
    subst h1; simp only [List.reverse_cons]
    exact (Reps.reverse h3).append ⟨v, [], rfl, h2, rfl⟩
structure Grow (H Hf H' Hf' : Hp) : Prop where
  big : Same H H'
  sub : Same Hf' H'
  ext : Same Hf Hf'
  new : ∀ b, Hf' b ≠ none → Hf b ≠ none ∨ H b = none
theorem Grow.refl (h : Same Hf H) : Grow H Hf H Hf := ⟨Same.refl _, h, Same.refl _, fun _ h => .inl h⟩
theorem Grow.trans (a : Grow H Hf H1 Hf1) (b : Grow H1 Hf1 H2 Hf2) : Grow H Hf H2 Hf2 :=
  ⟨a.big.trans b.big, b.sub, a.ext.trans b.ext, fun x h => (b.new x h).elim (a.new x) fun z => .inr (a.big.free z)⟩
theorem same_upd {p : Addr} {o : HO} (h : H p = none) : Same H (upd H p o) := fun b u e => by rw [upd_ne (ne_of_none e h)]; exact e
theorem Grow.laid {p : Addr} {o : HO} (s : Same Hf H) (h : H p = none) : Grow H Hf (upd H p o) (upd Hf p o) := by
  refine ⟨same_upd h, fun b u e => ?_, same_upd (s.free h), fun b e => ?_⟩
  · by_cases q : b = p
    · subst q; rw [upd_same] at e; rw [upd_same]; exact e
    · rw [upd_ne q] at e; rw [upd_ne q]; exact s b u e
  · by_cases q : b = p
    · subst q; exact .inr h
    · rw [upd_ne q] at e; exact .inl e
theorem Grow.made {p : Addr} {o : HO} (s : Same Hf H) (h : H p = none) : Grow H Hf (upd H p o) Hf :=
  ⟨same_upd h, s.trans (same_upd h), Same.refl _, fun _ e => .inl e⟩
theorem Grow.freeze {p : Addr} {o : HO} (g : Grow H Hf H1 Hf1) (h : H1 p = some o) (n : Hf1 p = none) (f : H p = none) : Grow H Hf H1 (upd Hf1 p o) := by
  refine ⟨g.big, fun b u e => ?_, g.ext.trans (same_upd n), fun b e => ?_⟩
  · by_cases q : b = p
    · subst q; rw [upd_same] at e; rw [h]; exact e
    · rw [upd_ne q] at e; exact g.sub b u e
  · by_cases q : b = p
    · subst q; exact .inr f
    · rw [upd_ne q] at e; exact g.new b e
end
inductive B where
  | val (d : D)
  | own (ds : List D)
abbrev Rho := List (Option B)
def SB (K : PySem.W.Frag) (H0 H Hf : Hp) : B → V → Prop
  | .val d, v => Rep K Hf d v
  | .own ds, v => ∃ a vs, v = .ref a ∧ H a = some (.lst vs) ∧ Hf a = none ∧ H0 a = none ∧ Reps K Hf ds vs
structure Slots (K : PySem.W.Frag) (H0 : Hp) (ρ : Rho) (σ : L2.St) (H Hf : Hp) : Prop where
  len : ρ.length = σ.length
  is : ∀ (i : Nat) (b : B), ρ[i]? = some (some b) → ∃ v, σ[i]? = some (some v) ∧ SB K H0 H Hf b v
  apart : ∀ (i j : Nat) (ds es : List D) (a : Addr), ρ[i]? = some (some (.own ds)) → ρ[j]? = some (some (.own es)) → σ[i]? = some (some (V.ref a)) → σ[j]? = some (some (V.ref a)) → i = j
section
variable {K : PySem.W.Frag} {H H' H0 H1 H2 Hf Hf' Hf1 Hf2 : Hp} {ρ : Rho} {σ : L2.St}
theorem SB.grow {b : B} {v : V} (h : SB K H0 H Hf b v) (g : Grow H Hf H' Hf') : SB K H0 H' Hf' b v := by
  cases b with
  | val d => exact Rep.mono g.ext h
  | own ds =>
    obtain ⟨a, vs, e, h1, h2, h3, h4⟩ := h
    refine ⟨a, vs, e, g.big _ _ h1, ?_, h3, h4.mono g.ext⟩
    cases q : Hf' a with
    | none => rfl
    | some u =>
      rcases g.new a (by rw [q]; simp) with z | z
      · exact absurd h2 z
      · rw [h1] at z; cases z
theorem Slots.grow (s : Slots K H0 ρ σ H Hf) (g : Grow H Hf H' Hf') : Slots K H0 ρ σ H' Hf' :=
  ⟨s.len, fun i b e => let ⟨v, h1, h2⟩ := s.is i b e; ⟨v, h1, h2.grow g⟩, s.apart⟩
end
abbrev DE := Rho → Option D
def tJ (K : PySem.W.Frag) (ρ : Rho) (R : Hp → V → Hp → Hp → Prop) : TE := fun σ H Q => ∃ H0 Hf, Same Hf H ∧ Slots K H0 ρ σ H Hf ∧ ∀ v H' Hf', Grow H Hf H' Hf' → R H v H' Hf' → Q v H'
def JE (X : Cx) (e : Expr) (f : DE) : Prop := ∀ ρ d, f ρ = some d → PE X e (tJ X.K ρ fun _ v _ Hf => Rep X.K Hf d v)
def Sq (K : PySem.W.Frag) : Bool → Hp → Addr → List V → Prop
  | true => SqT K
  | false => SqL K
def RQ (K : PySem.W.Frag) (t : Bool) (ds : List D) (v : V) (H Hf : Hp) : Prop := ∃ a vs, v = .ref a ∧ Sq K t H a vs ∧ Reps K Hf ds vs
def JQ (X : Cx) (e : Expr) (f : Rho → Option (Bool × List D)) : Prop := ∀ ρ t ds, f ρ = some (t, ds) → PE X e (tJ X.K ρ fun _ v H Hf => RQ X.K t ds v H Hf)
def JN (X : Cx) (e : Expr) (f : Rho → Option (List D)) : Prop := ∀ ρ ds, f ρ = some ds → PE X e (tJ X.K ρ fun H v H' Hf' => ∃ a vs, v = .ref a ∧ H a = none ∧ H' a = some (.lst vs) ∧ Hf' a = none ∧ Reps X.K Hf' ds vs)
def tJA (K : PySem.W.Frag) (ρ : Rho) (ds : List D) : TA := fun σ H Q => ∃ H0 Hf, Same Hf H ∧ Slots K H0 ρ σ H Hf ∧ ∀ vs H' Hf', Grow H Hf H' Hf' → Reps K Hf' ds vs → Q vs H'
structure JA (X : Cx) (es : List Expr) (f : Rho → Option (List D)) : Prop where
  len : ∀ ρ ds, f ρ = some ds → ds.length = es.length
  run : ∀ ρ ds, f ρ = some ds → PA X es (tJA X.K ρ ds)
def JT (X : Cx) (e : Expr) (f : Rho → Option Bool) : Prop := ∀ ρ c, f ρ = some c → PT X e (fun σ H Q => ∃ H0 Hf, Same Hf H ∧ Slots X.K H0 ρ σ H Hf ∧ ∀ H' Hf', Grow H Hf H' Hf' → Q c H')
def JW (X : Cx) (e : Expr) (f : Rho → Option Bool) : Prop := ∀ ρ c, f ρ = some c → PW X e (fun σ H Q => ∃ H0 Hf, Same Hf H ∧ Slots X.K H0 ρ σ H Hf ∧ ∀ H' Hf', Grow H Hf H' Hf' → Q c H')
section
variable {X : Cx}
theorem pe_imp {e : Expr} {t t' : TE} (h : PE X e t) (i : ∀ σ H Q, t' σ H Q → t σ H Q) : PE X e t' := fun pins s σ H Q I q => h pins s σ H Q I (i σ H Q q)
theorem pt_imp {e : Expr} {t t' : TT} (h : PT X e t) (i : ∀ σ H Q, t' σ H Q → t σ H Q) : PT X e t' := fun pins s σ H Q I q => h pins s σ H Q I (i σ H Q q)
def dC (d : D) : DE := fun _ => some d
def dVar (i : Nat) : DE := fun ρ => match ρ[i]? with
  | some (some (.val d)) => some d
  | _ => none
def qVar (i : Nat) : Rho → Option (Bool × List D) := fun ρ => match ρ[i]? with
  | some (some (.own ds)) => some (false, ds)
  | some (some (.val (.list ds))) => some (false, ds)
  | some (some (.val (.tuple ds))) => some (true, ds)
  | _ => none
def seqD : D → Option (Bool × List D)
  | .list ds => some (false, ds)
  | .tuple ds => some (true, ds)
  | _ => none
theorem je_int {i : Int} {j : Nat} {pos : Pos} : JE X (.Constant (.int i) j pos) (dC (.int i)) := fun ρ d h => by
  cases h
  exact pe_imp pe_int fun σ H Q ⟨H0, Hf, s, sl, k⟩ => k _ H Hf (Grow.refl s) rfl
theorem je_bl {b : Bool} {j : Nat} {pos : Pos} : JE X (.Constant (.bool b) j pos) (dC (.bool b)) := fun ρ d h => by
  cases h
  exact pe_imp pe_bl fun σ H Q ⟨H0, Hf, s, sl, k⟩ => k _ H Hf (Grow.refl s) rfl
theorem je_non {j : Nat} {pos : Pos} : JE X (.Constant .none j pos) (dC .none) := fun ρ d h => by
  cases h
  exact pe_imp pe_non fun σ H Q ⟨H0, Hf, s, sl, k⟩ => k _ H Hf (Grow.refl s) rfl
theorem je_str {x : Str} {j : Nat} {pos : Pos} : JE X (.Constant (.str x) j pos) (dC (.str x)) := fun ρ d h => by
  cases h
  exact pe_imp pe_str fun σ H Q ⟨H0, Hf, s, sl, k⟩ => k _ H Hf (Grow.refl s) rfl
theorem je_var (i : Nat) {x : Str} {pos : Pos} (hN : X.N[i]? = some x := by rfl) (hv : Vis X.env.scope x := by first | exact Or.inl rfl | exact Or.inr (Or.inl rfl) | exact Or.inr (Or.inr rfl)) (hd : (x == ("__debug__" : Str)) = false := by decide)
    (hcd : (x == ("__classdict__" : Str)) = false := by decide) : JE X (.Name x pos) (dVar i) := fun ρ d h => by
  refine pe_imp (pe_var hN hv hd hcd) fun σ H Q ⟨H0, Hf, s, sl, k⟩ => ?_
  unfold dVar at h
  split at h
  · rename_i d' e
    cases h
    obtain ⟨v, h1, h2⟩ := sl.is i _ e
    exact ⟨v, h1, k v H Hf (Grow.refl s) h2⟩
  · cases h
theorem jq_var (i : Nat) {x : Str} {pos : Pos} (hN : X.N[i]? = some x := by rfl) (hv : Vis X.env.scope x := by first | exact Or.inl rfl | exact Or.inr (Or.inl rfl) | exact Or.inr (Or.inr rfl)) (hd : (x == ("__debug__" : Str)) = false := by decide)
    (hcd : (x == ("__classdict__" : Str)) = false := by decide) : JQ X (.Name x pos) (qVar i) := fun ρ t ds h => by
  refine pe_imp (pe_var hN hv hd hcd) fun σ H Q ⟨H0, Hf, s, sl, k⟩ => ?_
  unfold qVar at h
  split at h
  · rename_i d' e
    cases h
    obtain ⟨v, h1, a, vs, rfl, h2, h3, h4, h5⟩ := sl.is i _ e
    exact ⟨_, h1, k _ H Hf (Grow.refl s) ⟨a, vs, rfl, SqL.of h2, h5⟩⟩
  · rename_i d' e
    cases h
    obtain ⟨v, h1, a, vs, rfl, h2, h3⟩ := sl.is i _ e
    exact ⟨_, h1, k _ H Hf (Grow.refl s) ⟨a, vs, rfl, sqL_mono s h2, h3⟩⟩
  · rename_i d' e
    cases h
    obtain ⟨v, h1, a, vs, rfl, h2, h3⟩ := sl.is i _ e
    exact ⟨_, h1, k _ H Hf (Grow.refl s) ⟨a, vs, rfl, sqT_mono s h2, h3⟩⟩
  · cases h
theorem Rep.seq {K : PySem.W.Frag} {H Hf : Hp} {d : D} {v : V} {t : Bool} {ds : List D} (h : Rep K Hf d v) (s : Same Hf H) (e : seqD d = some (t, ds)) : RQ K t ds v H Hf := by
  cases d with
  | list xs => cases e; obtain ⟨a, vs, e1, e2, e3⟩ := h; exact ⟨a, vs, e1, sqL_mono s e2, e3⟩
  | tuple xs => cases e; obtain ⟨a, vs, e1, e2, e3⟩ := h; exact ⟨a, vs, e1, sqT_mono s e2, e3⟩
  | _ => cases e
def qE (f : DE) : Rho → Option (Bool × List D) := fun ρ => (f ρ).bind seqD
theorem jq_of {e : Expr} {f : DE} (h : JE X e f) : JQ X e (qE f) := fun ρ t ds q => by
  obtain ⟨d, h1, h2⟩ := Option.bind_eq_some_iff.mp q
  exact pe_imp (h ρ d h1) fun σ H Q ⟨H0, Hf, s, sl, k⟩ => ⟨H0, Hf, s, sl, fun v H' Hf' g r => k v H' Hf' g (r.seq g.sub h2)⟩
def aNil : Rho → Option (List D) := fun _ => some []
def aCons (f : DE) (g : Rho → Option (List D)) : Rho → Option (List D) := fun ρ => (f ρ).bind fun d => (g ρ).map fun ds => d :: ds
theorem ja_nil : JA X [] aNil := ⟨fun ρ ds h => by cases h; rfl, fun ρ ds h pos pins s σ H Q I ⟨H0, Hf, ss, sl, k⟩ => by
  cases h
  exact pa_nil pos pins s σ H Q I (k [] H Hf (Grow.refl ss) rfl)⟩
theorem ja_cons {e : Expr} {es : List Expr} {f : DE} {g : Rho → Option (List D)} (h : JE X e f) (r : JA X es g) (hs : starEach (e :: es) X.env = (false, eval e X.env) :: starEach es X.env := by rfl) : JA X (e :: es) (aCons f g) := by
  refine ⟨fun ρ ds q => ?_, fun ρ ds q => ?_⟩
  · obtain ⟨d, h1, h2⟩ := Option.bind_eq_some_iff.mp q
    obtain ⟨es', h3, h4⟩ := Option.map_eq_some_iff.mp h2
    subst h4
    simp [r.len ρ es' h3]
  · obtain ⟨d, h1, h2⟩ := Option.bind_eq_some_iff.mp q
    obtain ⟨es', h3, h4⟩ := Option.map_eq_some_iff.mp h2
    subst h4
    intro pos pins s σ H Q I ⟨H0, Hf, ss, sl, k⟩
    refine pa_cons (h ρ d h1) (r.run ρ es' h3) hs pos pins s σ H Q I ⟨H0, Hf, ss, sl, fun v H1 Hf1 g1 r1 => ⟨H0, Hf1, g1.sub, sl.grow g1, fun vs H2 Hf2 g2 r2 => ?_⟩⟩
    exact k (v :: vs) H2 Hf2 (g1.trans g2) ⟨v, vs, rfl, r1.mono g2.ext, r2⟩
def dTup (f : Rho → Option (List D)) : DE := fun ρ => (f ρ).map PyData.tuple
theorem je_tup {es : List Expr} {f : Rho → Option (List D)} {k : Nat} {pos : Pos} (h : JA X es f) (hn : es.length ≤ 1000 := by decide) : JE X (.Tuple es k pos) (dTup f) := fun ρ d q => by
  obtain ⟨ds, h1, h2⟩ := Option.map_eq_some_iff.mp q
  subst h2
  refine pe_imp (pe_tup fun pos pins s σ H Q I t => h.run ρ ds h1 pos pins s σ H Q I t) fun σ H Q ⟨H0, Hf, s, sl, k⟩ => ?_
  refine ⟨H0, Hf, s, sl, fun vs H1 Hf1 g r => ⟨?_, fun p hp => ?_⟩⟩
  · rw [r.length, h.len ρ ds h1]; exact Nat.le_of_lt (small1000 hn)
  · exact k _ _ _ (g.trans (Grow.laid g.sub hp)) ⟨p, vs, rfl, SqT.of upd_same, r.mono (Grow.laid (o := .tup vs) g.sub hp).ext⟩
theorem jn_lst {es : List Expr} {f : Rho → Option (List D)} {pos : Pos} (h : JA X es f) (hn : es.length ≤ 1000 := by decide) : JN X (.List es pos) f := fun ρ ds h1 => by
  refine pe_imp (pe_lst fun pos pins s σ H Q I t => h.run ρ ds h1 pos pins s σ H Q I t) fun σ H Q ⟨H0, Hf, s, sl, k⟩ => ?_
  refine ⟨H0, Hf, s, sl, fun vs H1 Hf1 g r => ⟨?_, fun p hp => ?_⟩⟩
  · rw [r.length, h.len ρ ds h1]; exact Nat.le_of_lt (small1000 hn)
  · exact k _ _ _ (g.trans (Grow.made g.sub hp)) ⟨p, vs, rfl, g.big.free hp, upd_same, g.sub.free hp, r⟩
def dLst (f : Rho → Option (List D)) : DE := fun ρ => (f ρ).map PyData.list
theorem je_of_jn {e : Expr} {f : Rho → Option (List D)} (h : JN X e f) : JE X e (dLst f) := fun ρ d q => by
  obtain ⟨ds, h1, h2⟩ := Option.map_eq_some_iff.mp q
  subst h2
  refine pe_imp (h ρ ds h1) fun σ H Q ⟨H0, Hf, s, sl, k⟩ => ⟨H0, Hf, s, sl, fun v H' Hf' g ⟨a, vs, e1, e2, e3, e4, e5⟩ => ?_⟩
  subst e1
  exact k _ _ _ (g.freeze e3 e4 e2) ⟨a, vs, rfl, SqL.of upd_same, e5.mono (same_upd e4)⟩
theorem jq_of_jn {e : Expr} {f : Rho → Option (List D)} (h : JN X e f) : JQ X e (fun ρ => (f ρ).map fun ds => (false, ds)) := fun ρ t ds q => by
  obtain ⟨ds', h1, h2⟩ := Option.map_eq_some_iff.mp q
  cases h2
  refine pe_imp (h ρ ds h1) fun σ H Q ⟨H0, Hf, s, sl, k⟩ => ⟨H0, Hf, s, sl, fun v H' Hf' g ⟨a, vs, e1, e2, e3, e4, e5⟩ => ?_⟩
  subst e1
  exact k _ _ _ g ⟨a, vs, rfl, SqL.of e3, e5⟩
def OpD (X : Cx) (F : Value → Value → Sem Value) (h : D → D → Option D) : Prop := ∀ x y z, h x y = some z →
  OpR X F fun vx vy H Q => ∃ Hf, Same Hf H ∧ Rep X.K Hf x vx ∧ Rep X.K Hf y vy ∧ ∀ v H' Hf', Grow H Hf H' Hf' → Rep X.K Hf' z v → Q v H'
def dBin (h : D → D → Option D) (f g : DE) : DE := fun ρ => (f ρ).bind fun x => (g ρ).bind fun y => h x y
theorem je_bin {op : Operator} {h : D → D → Option D} {a b : Expr} {f g : DE} {pos : Pos} (o : OpD X (binaryOp op) h) (ha : JE X a f) (hb : JE X b g) : JE X (.BinOp a op b pos) (dBin h f g) := fun ρ d q => by
  obtain ⟨x, h1, q⟩ := Option.bind_eq_some_iff.mp q
  obtain ⟨y, h2, h3⟩ := Option.bind_eq_some_iff.mp q
  refine pe_imp (pe_op (o x y d h3) (ha ρ x h1) (hb ρ y h2)) fun σ H Q ⟨H0, Hf, s, sl, k⟩ => ?_
  refine ⟨H0, Hf, s, sl, fun v H1 Hf1 g1 r1 => ⟨H0, Hf1, g1.sub, sl.grow g1, fun u H2 Hf2 g2 r2 => ?_⟩⟩
  exact ⟨Hf2, g2.sub, r1.mono g2.ext, r2, fun w H3 Hf3 g3 r3 => k w H3 Hf3 ((g1.trans g2).trans g3) r3⟩
theorem je_cmp {op : CmpOp} {h : D → D → Option D} {a b : Expr} {f g : DE} {pos : Pos} (o : OpD X (compareOp op) h) (ha : JE X a f) (hb : JE X b g) (hm : behindInMarks op b = false := by first | exact nomark _ | rfl) : JE X (.Compare a [op] [b] pos) (dBin h f g) := fun ρ d q => by
  obtain ⟨x, h1, q⟩ := Option.bind_eq_some_iff.mp q
  obtain ⟨y, h2, h3⟩ := Option.bind_eq_some_iff.mp q
  refine pe_imp (pe_cmpR (o x y d h3) (ha ρ x h1) (hb ρ y h2) hm) fun σ H Q ⟨H0, Hf, s, sl, k⟩ => ?_
  refine ⟨H0, Hf, s, sl, fun v H1 Hf1 g1 r1 => ⟨H0, Hf1, g1.sub, sl.grow g1, fun u H2 Hf2 g2 r2 => ?_⟩⟩
  exact ⟨Hf2, g2.sub, r1.mono g2.ext, r2, fun w H3 Hf3 g3 r3 => k w H3 Hf3 ((g1.trans g2).trans g3) r3⟩
theorem OpR.imp {F : Value → Value → Sem Value} {r r' : R2} (h : OpR X F r) (i : ∀ x y H Q, r' x y H Q → r x y H Q) : OpR X F r' := fun pins s σ H x y v u Q I rx ry q => h pins s σ H x y v u Q I rx ry (i x y H Q q)
end
end G
namespace G
open PySem PySem.Spec PyProof.Rows L2
section
variable {X : Cx}
def Small (i : Int) : Prop := i.natAbs < 2 ^ 8000
instance : DecidablePred Small := fun i => inferInstanceAs (Decidable (i.natAbs < 2 ^ 8000))
theorem Small.log {i : Int} (h : Small i) (h0 : i.natAbs ≠ 0) : i.natAbs.log2 < 8000 := (Nat.log2_lt h0).mpr h
theorem Small.bits {i : Int} (h : Small i) : Builtin.Int.intBits i ≤ 2 ^ 20 := by
  unfold Builtin.Int.intBits
  split
  · exact Nat.zero_le _
  · rename_i h0
    have := h.log (by simpa using h0)
    omega
theorem op_mulS {X : Cx} : OpR X (binaryOp .Mult) (rI (fun i j => Small i ∧ Small j) fun i j => .int (i * j)) := opI fun _ _ _ _ _ _ _ hc q => mul_int q (PySem.IntMulOk.of_bits hc.1.bits hc.2.bits)
def subI (x y : D) : Option D := match x, y with
  | .int i, .int j => some (.int (i - j))
  | _, _ => none
def mulI (x y : D) : Option D := match x, y with
  | .int i, .int j => if Small i ∧ Small j then some (.int (i * j)) else none
  | _, _ => none
def divI (x y : D) : Option D := match x, y with
  | .int i, .int j => if 0 < j ∧ Small j then some (.int (i / j)) else none
  | _, _ => none
def modI (x y : D) : Option D := match x, y with
  | .int i, .int j => if 0 < j then some (.int (i % j)) else none
  | _, _ => none
def powI (x y : D) : Option D := match x, y with
  | .int i, .int j => if 0 ≤ j ∧ j ≤ 1000000 ∧ i.natAbs < 2 ^ 64 then some (.int (i ^ j.toNat)) else none
  | _, _ => none
theorem od_sub : OpD X (binaryOp .Sub) subI := fun x y z h => by
  unfold subI at h
  split at h
  · cases h
    exact OpR.imp op_sub fun vx vy H Q ⟨Hf, s, r1, r2, k⟩ => ⟨_, _, r1, r2, k _ H Hf (Grow.refl s) rfl⟩
  · cases h
theorem od_mul : OpD X (binaryOp .Mult) mulI := fun x y z h => by
  unfold mulI at h
  split at h
  · split at h
    · rename_i c
      cases h
      exact OpR.imp op_mulS fun vx vy H Q ⟨Hf, s, r1, r2, k⟩ => ⟨_, _, r1, r2, c, k _ H Hf (Grow.refl s) rfl⟩
    · cases h
  · cases h
theorem op_fdiv64 : OpR X (binaryOp .FloorDiv) (rI (fun _ j => 0 < j ∧ Small j) fun i j => .int (i / j)) := opI fun i j _ _ s Q E hc q => by
  have e : i.fdiv j = i / j := Int.fdiv_eq_ediv_of_nonneg i (Int.le_of_lt hc.1)
  refine floordiv_int (by omega) (by rw [e]; exact q) (.inl (PyProof.noPylong_of_log2 ?_))
  have h2 := hc.2.log (by omega)
  omega
theorem od_div : OpD X (binaryOp .FloorDiv) divI := fun x y z h => by
  unfold divI at h
  split at h
  · split at h
    · rename_i c
      cases h
      exact OpR.imp op_fdiv64 fun vx vy H Q ⟨Hf, s, r1, r2, k⟩ => ⟨_, _, r1, r2, c, k _ H Hf (Grow.refl s) rfl⟩
    · cases h
  · cases h
theorem od_mod : OpD X (binaryOp .Mod) modI := fun x y z h => by
  unfold modI at h
  split at h
  · split at h
    · rename_i c
      cases h
      exact OpR.imp op_mod fun vx vy H Q ⟨Hf, s, r1, r2, k⟩ => ⟨_, _, r1, r2, c, k _ H Hf (Grow.refl s) rfl⟩
    · cases h
  · cases h
theorem od_pow : OpD X (binaryOp .Pow) powI := fun x y z h => by
  unfold powI at h
  split at h
  · split at h
    · rename_i c
      cases h
      exact OpR.imp op_pow fun vx vy H Q ⟨Hf, s, r1, r2, k⟩ => ⟨_, _, r1, r2, c, k _ H Hf (Grow.refl s) rfl⟩
    · cases h
  · cases h
theorem op_catT0 : OpR X (binaryOp .Add) (fun x y H Q => ∃ a b ys, x = .ref a ∧ y = .ref b ∧ SqT X.K H a [] ∧ SqT X.K H b ys ∧ Q (.ref b) H) := by
  intro pins s σ H x y v u Q I rx ry h
  obtain ⟨a, b, ys, rfl, rfl, ha, hb, q⟩ := h
  cases rx
  cases ry
  obtain ⟨its, r1, p1, _⟩ := I.tuple ha
  obtain ⟨its2, r2, p2, _⟩ := I.tuple hb
  cases r1
  obtain ⟨⟨cls, dd, data, sl⟩, ho, hc, n, hd⟩ := id p1
  obtain ⟨⟨cls2, dd2, data2, sl2⟩, ho2, hc2, n2, hd2⟩ := id p2
  simp only at hc hd hc2 hd2
  subst hc hd hc2 hd2
  exact concat_meets ⟨_, ho, rfl⟩ ⟨_, ho2, rfl⟩ noFill_tuple_add seq_tuple_add PySem.F.slot_tuple_add PySem.F.entry_tuple_add (PySem.F.args_tuple_add_2 _ _)
      (tuple_addW0 a b _ its2.toArray n n2 dd dd2 sl sl2 (by rfl)) ⟨ho, ho2, ⟨.ref b, H, I, rfl, q⟩⟩
def catD (x y : D) : Option D := match x, y with
  | .tuple xs, .tuple ys => if xs.length + ys.length ≤ 16777216 then some (.tuple (xs ++ ys)) else none
  | .str a, .str b => if a.length + b.length ≤ 16777216 then some (.str (a ++ b)) else none
  | .int i, .int j => some (.int (i + j))
  | _, _ => none
theorem od_cat : OpD X (binaryOp .Add) catD := fun x y z h => by
  unfold catD at h
  split at h
  · split at h
    · rename_i xs ys c
      cases h
      cases xs with
      | nil =>
        refine OpR.imp op_catT0 fun vx vy H Q ⟨Hf, s, r1, r2, k⟩ => ?_
        obtain ⟨a, vs, rfl, h2, h3⟩ := r1
        obtain ⟨b, us, rfl, h5, h6⟩ := r2
        cases h3
        exact ⟨a, b, us, rfl, rfl, sqT_mono s h2, sqT_mono s h5, k _ H Hf (Grow.refl s) ⟨b, us, rfl, h5, h6⟩⟩
      | cons d0 ds0 =>
        refine OpR.imp op_catT fun vx vy H Q ⟨Hf, s, r1, r2, k⟩ => ?_
        obtain ⟨a, vs, rfl, h2, h3⟩ := r1
        obtain ⟨b, us, rfl, h5, h6⟩ := r2
        have l1 := h3.length
        have l2 := h6.length
        refine ⟨a, b, vs, us, rfl, rfl, sqT_mono s h2, sqT_mono s h5, ?_, by rw [sizeLine_eq]; omega, fun e => ?_, fun e p hp => ?_⟩
        · intro e; subst e; simp at l1
        · subst e
          have : ys = [] := by cases ys <;> simp_all
          subst this
          exact k _ H Hf (Grow.refl s) ⟨a, vs, rfl, h2, by rw [List.append_nil]; exact h3⟩
        · exact k _ _ _ (Grow.laid s hp) ⟨p, vs ++ us, rfl, SqT.of upd_same, (h3.append h6).mono (same_upd (s.free hp))⟩
    · cases h
  · split at h
    · rename_i c
      cases h
      exact OpR.imp op_add_str fun vx vy H Q ⟨Hf, s, r1, r2, k⟩ => ⟨_, _, r1, r2, by rw [sizeLine_eq]; exact c, k _ H Hf (Grow.refl s) rfl⟩
    · cases h
  · cases h
    exact OpR.imp op_add fun vx vy H Q ⟨Hf, s, r1, r2, k⟩ => ⟨_, _, r1, r2, k _ H Hf (Grow.refl s) rfl⟩
  · cases h
def ltI (x y : D) : Option D := match x, y with
  | .int i, .int j => some (.bool (decide (i < j)))
  | _, _ => none
def leI (x y : D) : Option D := match x, y with
  | .int i, .int j => some (.bool (decide (i ≤ j)))
  | _, _ => none
def gtI (x y : D) : Option D := match x, y with
  | .int i, .int j => some (.bool (decide (j < i)))
  | _, _ => none
theorem od_le : OpD X (compareOp .LtE) leI := fun x y z h => by
  unfold leI at h
  split at h
  · cases h
    exact OpR.imp op_le fun vx vy H Q ⟨Hf, s, r1, r2, k⟩ => ⟨_, _, r1, r2, k _ H Hf (Grow.refl s) rfl⟩
  · cases h
theorem od_gt : OpD X (compareOp .Gt) gtI := fun x y z h => by
  unfold gtI at h
  split at h
  · cases h
    exact OpR.imp op_gt fun vx vy H Q ⟨Hf, s, r1, r2, k⟩ => ⟨_, _, r1, r2, k _ H Hf (Grow.refl s) rfl⟩
  · cases h
mutual
theorem Rep.reads {pins : List (Addr × Obj)} {σ : L2.St} {H : Hp} {s : Shared} (I : Inv X pins σ H s) : ∀ {d : D} {v : V} {u : Value}, Rep X.K H d v → RelV v u → ∃ as, Reads s.heap u d as
  | .none, _, _, h, r => by cases h; cases r; exact ⟨_, .none⟩
  | .bool b, _, _, h, r => by cases h; cases r; exact ⟨_, .bool b⟩
  | .int i, _, _, h, r => by cases h; obtain ⟨t, rfl⟩ := r; exact ⟨_, .int i t⟩
  | .str x, _, _, h, r => by cases h; obtain ⟨t, rfl⟩ := r; exact ⟨_, .str x t⟩
  | .tuple ds, _, _, ⟨a, vs, h1, h2, h3⟩, r => by
    subst h1; cases r
    obtain ⟨its, rv, ⟨o, ho, hc, n, hd⟩, _⟩ := I.tuple h2
    obtain ⟨as, q⟩ := Reps.reads I h3 rv
    exact ⟨_, .tuple ho hc hd (by simpa using q)⟩
  | .list ds, _, _, ⟨a, vs, h1, h2, h3⟩, r => by
    subst h1; cases r
    obtain ⟨its, rv, pl, _⟩ := I.list h2
    obtain ⟨o, ho, hc, n, hd⟩ := pl.isList
    obtain ⟨as, q⟩ := Reps.reads I h3 rv
    exact ⟨_, .list ho hc hd (by simpa using q)⟩
  | .dict _, _, _, h, _ => h.elim
theorem Reps.reads {pins : List (Addr × Obj)} {σ : L2.St} {H : Hp} {s : Shared} (I : Inv X pins σ H s) : ∀ {ds : List D} {vs : List V} {us : List Value}, Reps X.K H ds vs → Vals vs us → ∃ as, ReadsAll s.heap us ds as
  | [], _, _, h, r => by cases h; cases r; exact ⟨_, .nil⟩
  | d :: ds, _, _, ⟨v, vr, h1, h2, h3⟩, r => by
    subst h1
    cases r with
    | cons r1 r2 =>
      obtain ⟨as, q1⟩ := Rep.reads I h2 r1
      obtain ⟨bs, q2⟩ := Reps.reads I h3 r2
      exact ⟨_, .cons q1 q2⟩
end
def eqD (x y : D) : Option D := if SeqAt.shaped x = true ∧ SeqAt.shaped y = true then some (.bool (PyData.eqv x y)) else none
def neD (x y : D) : Option D := if SeqAt.shaped x = true ∧ SeqAt.shaped y = true then some (.bool (!PyData.eqv x y)) else none
theorem od_eq (hu : X.A.units + 64 < cLine) : OpD X (compareOp .Eq) eqD := fun x y z h => by
  unfold eqD at h
  split at h
  · rename_i c
    cases h
    intro pins s σ H vx vy v u Q I rx ry ⟨Hf, ss, r1, r2, k⟩
    obtain ⟨as, q1⟩ := Rep.reads I (r1.mono ss) rx
    obtain ⟨bs, q2⟩ := Rep.reads I (r2.mono ss) ry
    exact eq_dataH q1 q2 c.1 c.2 hu ⟨.bl _, H, I, rfl, k _ H Hf (Grow.refl ss) rfl⟩
  · cases h
theorem od_ne (hu : X.A.units + 64 < cLine) : OpD X (compareOp .NotEq) neD := fun x y z h => by
  unfold neD at h
  split at h
  · rename_i c
    cases h
    intro pins s σ H vx vy v u Q I rx ry ⟨Hf, ss, r1, r2, k⟩
    obtain ⟨as, q1⟩ := Rep.reads I (r1.mono ss) rx
    obtain ⟨bs, q2⟩ := Rep.reads I (r2.mono ss) ry
    exact ne_dataH q1 q2 c.1 c.2 hu ⟨.bl _, H, I, rfl, k _ H Hf (Grow.refl ss) rfl⟩
  · cases h
def isN (x y : D) : Option D := match x, y with
  | .none, .none => some (.bool true)
  | .dict _, _ => none
  | _, .none => some (.bool false)
  | _, _ => none
theorem rep_non {K : PySem.W.Frag} {H : Hp} {d : D} {v : V} (h : Rep K H d v) : (decide (v = .non)) = (match d with | .none => true | _ => false) := by
  cases d with
  | none => cases h; rfl
  | bool b => cases h; rfl
  | int b => cases h; rfl
  | str b => cases h; rfl
  | tuple ds => obtain ⟨a, vs, rfl, _⟩ := h; rfl
  | list ds => obtain ⟨a, vs, rfl, _⟩ := h; rfl
  | dict ds => exact h.elim
theorem od_isN : OpD X (compareOp .Is) isN := fun x y z h => by
  refine OpR.imp op_isN fun vx vy H Q ⟨Hf, s, r1, r2, k⟩ => ?_
  have e := rep_non r1
  cases y <;> cases x <;> simp only [isN, Option.some.injEq, reduceCtorEq] at h <;>
    (subst h; simp only at e; rw [e]; exact ⟨r2, k _ H Hf (Grow.refl s) rfl⟩)
def dChain (h1 h2 : D → D → Option D) (f g k : DE) : DE := fun ρ => (f ρ).bind fun x => (g ρ).bind fun y => (h1 x y).bind fun z => match z with
  | .bool true => (k ρ).bind fun w => h2 y w
  | .bool false => some (.bool false)
  | _ => none
theorem je_chain {op op' : CmpOp} {h1 h2 : D → D → Option D} {a b c : Expr} {f g k : DE} {pos : Pos} (o1 : OpD X (compareOp op) h1) (o2 : OpD X (compareOp op') h2) (ha : JE X a f) (hb : JE X b g) (hc : JE X c k)
    (hm : lastMarks [op, op'] [b, c] = false := by with_unfolding_all rfl) : JE X (.Compare a [op, op'] [b, c] pos) (dChain h1 h2 f g k) := fun ρ d q => by
  obtain ⟨x, e1, q⟩ := Option.bind_eq_some_iff.mp q
  obtain ⟨y, e2, q⟩ := Option.bind_eq_some_iff.mp q
  obtain ⟨z, e3, q⟩ := Option.bind_eq_some_iff.mp q
  split at q
  · obtain ⟨w, e4, e5⟩ := Option.bind_eq_some_iff.mp q
    refine pe_imp (pe_chain (o1 x y _ e3) (o2 y w d e5) (ha ρ x e1) (hb ρ y e2) (hc ρ w e4) hm) fun σ H Q ⟨H0, Hf, s, sl, kk⟩ => ?_
    refine ⟨H0, Hf, s, sl, fun v H1 Hf1 g1 r1 => ⟨H0, Hf1, g1.sub, sl.grow g1, fun u H2 Hf2 g2 r2 => ⟨Hf2, g2.sub, r1.mono g2.ext, r2, fun z' H3 Hf3 g3 r3 => ?_⟩⟩⟩
    refine ⟨true, r3, iteT ⟨H0, Hf3, g3.sub, sl.grow ((g1.trans g2).trans g3), fun w' H4 Hf4 g4 r4 => ⟨Hf4, g4.sub, r2.mono (g3.trans g4).ext, r4, fun z2 H5 Hf5 g5 r5 => ?_⟩⟩⟩
    exact kk z2 H5 Hf5 ((((g1.trans g2).trans g3).trans g4).trans g5) r5
  · cases q
    intro pins s σ H Q I ⟨H0, Hf, ss, sl, kk⟩
    refine pe_chain (tc := fun _ _ _ => False) (r' := fun _ _ _ _ => False) (o1 x y _ e3) (fun _ _ _ _ _ _ _ _ _ _ _ _ h => h.elim) (ha ρ x e1) (hb ρ y e2) (fun _ _ _ _ _ _ h => h.elim) hm pins s σ H Q I ?_
    refine ⟨H0, Hf, ss, sl, fun v H1 Hf1 g1 r1 => ⟨H0, Hf1, g1.sub, sl.grow g1, fun u H2 Hf2 g2 r2 => ⟨Hf2, g2.sub, r1.mono g2.ext, r2, fun z' H3 Hf3 g3 r3 => ?_⟩⟩⟩
    exact ⟨false, r3, iteF (kk _ H3 Hf3 ((g1.trans g2).trans g3) rfl)⟩
  · cases q
theorem je_one {op : BoolOp} {a : Expr} {f : DE} {pos : Pos} (h : JE X a f) : JE X (.BoolOp op [a] pos) f := fun ρ d q => pe_one (h ρ d q)
def dAnd (f g : DE) : DE := fun ρ => (f ρ).bind fun x => match x with
  | .bool true => g ρ
  | .bool false => some (.bool false)
  | _ => none
def dOr (f g : DE) : DE := fun ρ => (f ρ).bind fun x => match x with
  | .bool true => some (.bool true)
  | .bool false => g ρ
  | _ => none
def dNot (f : DE) : DE := fun ρ => (f ρ).bind fun x => match x with
  | .bool c => some (.bool (!c))
  | _ => none
theorem je_and {a b : Expr} {rest : List Expr} {f g : DE} {pos : Pos} (ha : JE X a f) (hb : JE X (.BoolOp .And (b :: rest) pos) g) : JE X (.BoolOp .And (a :: b :: rest) pos) (dAnd f g) := fun ρ d q => by
  obtain ⟨x, e1, q⟩ := Option.bind_eq_some_iff.mp q
  split at q
  · refine pe_imp (pe_and (ha ρ _ e1) (hb ρ d q)) fun σ H Q ⟨H0, Hf, s, sl, k⟩ => ⟨H0, Hf, s, sl, fun v H1 Hf1 g1 r1 => ⟨true, r1, iteT ⟨H0, Hf1, g1.sub, sl.grow g1, fun u H2 Hf2 g2 r2 => k u H2 Hf2 (g1.trans g2) r2⟩⟩⟩
  · cases q
    refine pe_imp (pe_and (tb := fun _ _ _ => False) (ha ρ _ e1) (fun _ _ _ _ _ _ h => h.elim)) fun σ H Q ⟨H0, Hf, s, sl, k⟩ => ⟨H0, Hf, s, sl, fun v H1 Hf1 g1 r1 => ⟨false, r1, iteF (k _ H1 Hf1 g1 rfl)⟩⟩
  · cases q
theorem je_not {a : Expr} {f : DE} {pos : Pos} (ha : JE X a f) : JE X (.UnaryOp .Not a pos) (dNot f) := fun ρ d q => by
  obtain ⟨x, e1, q⟩ := Option.bind_eq_some_iff.mp q
  split at q
  · cases q
    exact pe_imp (pe_not (ha ρ _ e1)) fun σ H Q ⟨H0, Hf, s, sl, k⟩ => ⟨H0, Hf, s, sl, fun v H1 Hf1 g1 r1 => ⟨_, r1, k _ H1 Hf1 g1 rfl⟩⟩
  · cases q
def truD : D → Option Bool
  | .none => some false
  | .bool b => some b
  | .int i => some (i != 0)
  | .str x => if x.length ≤ 16777216 then some ((x.length : Int) != 0) else none
  | .list ds => some (!ds.isEmpty)
  | .tuple ds => some (!ds.isEmpty)
  | .dict _ => none
def tTru (f : DE) : Rho → Option Bool := fun ρ => (f ρ).bind truD
theorem jt_tru {a : Expr} {f : DE} (ha : JE X a f) (he : ∀ whole, isTrue a X.env whole = (do let v ← whole; standAt a.pos; holding [v] (truthy v)) := by intro _; rfl) : JT X a (tTru f) := fun ρ c q => by
  obtain ⟨d, e1, e2⟩ := Option.bind_eq_some_iff.mp q
  refine pt_imp (pt_truth (ha ρ d e1) he) fun σ H Q ⟨H0, Hf, s, sl, k⟩ => ⟨H0, Hf, s, sl, fun v H1 Hf1 g1 r1 => ⟨c, ?_, k H1 Hf1 g1⟩⟩
  cases d with
  | none => cases e2; cases r1; rfl
  | bool b => cases e2; cases r1; rfl
  | int i => cases e2; cases r1; rfl
  | str x =>
    simp only [truD] at e2
    split at e2
    · rename_i hx; cases e2; cases r1; exact ⟨by rw [sizeLine_eq]; exact hx, rfl⟩
    · cases e2
  | list ds =>
    cases e2
    obtain ⟨a, vs, rfl, h2, h3⟩ := r1
    refine .inl ⟨vs, sqL_mono g1.sub h2, ?_⟩
    have := h3.length
    cases ds <;> cases vs <;> simp_all
  | tuple ds =>
    cases e2
    obtain ⟨a, vs, rfl, h2, h3⟩ := r1
    refine .inr (.inl ⟨vs, sqT_mono g1.sub h2, ?_⟩)
    have := h3.length
    cases ds <;> cases vs <;> simp_all
  | dict _ => cases e2
def boolOf : D → Option Bool
  | .bool b => some b
  | _ => none
def tB2 (h : D → D → Option D) (f g : DE) : Rho → Option Bool := fun ρ => (dBin h f g ρ).bind boolOf
theorem bool_of {d : D} {c : Bool} (h : boolOf d = some c) : d = .bool c := by
  cases d <;> simp [boolOf] at h
  subst h; rfl
theorem jt_cmp {op : CmpOp} {h : D → D → Option D} {a b : Expr} {f g : DE} {pos : Pos} (o : OpD X (compareOp op) h) (ha : JE X a f) (hb : JE X b g) (hm : behindInMarks op b = false := by first | exact nomark _ | rfl) : JT X (.Compare a [op] [b] pos) (tB2 h f g) := fun ρ c q => by
  obtain ⟨d, q, e⟩ := Option.bind_eq_some_iff.mp q
  obtain ⟨x, h1, q⟩ := Option.bind_eq_some_iff.mp q
  obtain ⟨y, h2, h3⟩ := Option.bind_eq_some_iff.mp q
  have := bool_of e
  subst this
  refine pt_imp (pt_cmpR (o x y _ h3) (ha ρ x h1) (hb ρ y h2) hm) fun σ H Q ⟨H0, Hf, s, sl, k⟩ => ?_
  refine ⟨H0, Hf, s, sl, fun v H1 Hf1 g1 r1 => ⟨H0, Hf1, g1.sub, sl.grow g1, fun u H2 Hf2 g2 r2 => ?_⟩⟩
  exact ⟨Hf2, g2.sub, r1.mono g2.ext, r2, fun w H3 Hf3 g3 r3 => ⟨c, r3, k H3 Hf3 ((g1.trans g2).trans g3)⟩⟩
def tAnd2 (f g : Rho → Option Bool) : Rho → Option Bool := fun ρ => (f ρ).bind fun c => if c then g ρ else some false
def tOr2 (f g : Rho → Option Bool) : Rho → Option Bool := fun ρ => (f ρ).bind fun c => if c then some true else g ρ
def tNot2 (f : Rho → Option Bool) : Rho → Option Bool := fun ρ => (f ρ).map fun c => !c
theorem pw_imp {e : Expr} {t t' : TT} (h : PW X e t) (i : ∀ σ H Q, t' σ H Q → t σ H Q) : PW X e t' := fun whole pins s σ H Q I q => h whole pins s σ H Q I (i σ H Q q)
theorem jt_of_jw {e : Expr} {f : Rho → Option Bool} (h : JW X e f) : JT X e f := fun ρ c q => (h ρ c q).pt
theorem jw_and1 {a : Expr} {f : Rho → Option Bool} {pos : Pos} (h : JT X a f) : JW X (.BoolOp .And [a] pos) f := fun ρ c q => pw_and1 (h ρ c q)
theorem jw_or1 {a : Expr} {f : Rho → Option Bool} {pos : Pos} (h : JT X a f) : JW X (.BoolOp .Or [a] pos) f := fun ρ c q => pw_or1 (h ρ c q)
theorem jw_and {a b : Expr} {rest : List Expr} {f g : Rho → Option Bool} {pos : Pos} (ha : JT X a f) (hb : JW X (.BoolOp .And (b :: rest) pos) g) : JW X (.BoolOp .And (a :: b :: rest) pos) (tAnd2 f g) := fun ρ c q => by
  obtain ⟨x, e1, q⟩ := Option.bind_eq_some_iff.mp q
  cases x with
  | true => exact pw_imp (pw_and (ha ρ _ e1) (hb ρ c (by simpa using q))) fun σ H Q ⟨H0, Hf, s, sl, k⟩ => ⟨H0, Hf, s, sl, fun H1 Hf1 g1 => iteT ⟨H0, Hf1, g1.sub, sl.grow g1, fun H2 Hf2 g2 => k H2 Hf2 (g1.trans g2)⟩⟩
  | false =>
    have : c = false := by simpa using q.symm
    subst this
    exact pw_imp (pw_and (tB' := fun _ _ _ => False) (ha ρ _ e1) (fun _ _ _ _ _ _ _ h => h.elim)) fun σ H Q ⟨H0, Hf, s, sl, k⟩ => ⟨H0, Hf, s, sl, fun H1 Hf1 g1 => iteF (k H1 Hf1 g1)⟩
theorem jw_or {a b : Expr} {rest : List Expr} {f g : Rho → Option Bool} {pos : Pos} (ha : JT X a f) (hb : JW X (.BoolOp .Or (b :: rest) pos) g) : JW X (.BoolOp .Or (a :: b :: rest) pos) (tOr2 f g) := fun ρ c q => by
  obtain ⟨x, e1, q⟩ := Option.bind_eq_some_iff.mp q
  cases x with
  | false => exact pw_imp (pw_or (ha ρ _ e1) (hb ρ c (by simpa using q))) fun σ H Q ⟨H0, Hf, s, sl, k⟩ => ⟨H0, Hf, s, sl, fun H1 Hf1 g1 => iteF ⟨H0, Hf1, g1.sub, sl.grow g1, fun H2 Hf2 g2 => k H2 Hf2 (g1.trans g2)⟩⟩
  | true =>
    have : c = true := by simpa using q.symm
    subst this
    exact pw_imp (pw_or (tB' := fun _ _ _ => False) (ha ρ _ e1) (fun _ _ _ _ _ _ _ h => h.elim)) fun σ H Q ⟨H0, Hf, s, sl, k⟩ => ⟨H0, Hf, s, sl, fun H1 Hf1 g1 => iteT (k H1 Hf1 g1)⟩
theorem jt_not {a : Expr} {f : Rho → Option Bool} {pos : Pos} (ha : JT X a f) : JT X (.UnaryOp .Not a pos) (tNot2 f) := fun ρ c q => by
  obtain ⟨x, e1, e2⟩ := Option.map_eq_some_iff.mp q
  subst e2
  exact pt_imp (pt_not (ha ρ x e1)) fun σ H Q ⟨H0, Hf, s, sl, k⟩ => ⟨H0, Hf, s, sl, fun H1 Hf1 g1 => k H1 Hf1 g1⟩
def dIte (t : Rho → Option Bool) (f g : DE) : DE := fun ρ => (t ρ).bind fun c => if c then f ρ else g ρ
theorem je_ife {c a b : Expr} {t : Rho → Option Bool} {f g : DE} {pos : Pos} (hc : JT X c t) (ha : JE X a f) (hb : JE X b g) : JE X (.IfExp c a b pos) (dIte t f g) := fun ρ d q => by
  obtain ⟨x, e1, q⟩ := Option.bind_eq_some_iff.mp q
  cases x with
  | true => exact pe_imp (pe_ifExp (tb := fun _ _ _ => False) (hc ρ _ e1) (ha ρ d (by simpa using q)) (fun _ _ _ _ _ _ h => h.elim)) fun σ H Q ⟨H0, Hf, s, sl, k⟩ => ⟨H0, Hf, s, sl, fun H1 Hf1 g1 => iteT ⟨H0, Hf1, g1.sub, sl.grow g1, fun u H2 Hf2 g2 r2 => k u H2 Hf2 (g1.trans g2) r2⟩⟩
  | false => exact pe_imp (pe_ifExp (ta := fun _ _ _ => False) (hc ρ _ e1) (fun _ _ _ _ _ _ h => h.elim) (hb ρ d (by simpa using q))) fun σ H Q ⟨H0, Hf, s, sl, k⟩ => ⟨H0, Hf, s, sl, fun H1 Hf1 g1 => iteF ⟨H0, Hf1, g1.sub, sl.grow g1, fun u H2 Hf2 g2 r2 => k u H2 Hf2 (g1.trans g2) r2⟩⟩
def dIx (f : Rho → Option (Bool × List D)) (g : DE) : DE := fun ρ => (f ρ).bind fun q => (g ρ).bind fun i => match i with
  | .int i => atI q.2 i
  | _ => none
theorem reps_at {K : PySem.W.Frag} {H : Hp} {ds : List D} {vs : List V} {i : Int} {d : D} (h : Reps K H ds vs) (e : atI ds i = some d) : ∃ v, atI vs i = some v ∧ Rep K H d v := by
  unfold atI at e ⊢
  rw [h.length]
  obtain ⟨j, h1, h2⟩ := Option.bind_eq_some_iff.mp e
  obtain ⟨v, h3, h4⟩ := h.get h2
  exact ⟨v, by rw [h1]; exact h3, h4⟩
theorem je_ix {a b : Expr} {f : Rho → Option (Bool × List D)} {g : DE} {pos : Pos} (ha : JQ X a f) (hb : JE X b g) (hs : PlainIx b := by intro _ _; rfl) : JE X (.Subscript a b pos) (dIx f g) := fun ρ d q => by
  obtain ⟨⟨t, ds⟩, h1, q⟩ := Option.bind_eq_some_iff.mp q
  obtain ⟨y, h2, h3⟩ := Option.bind_eq_some_iff.mp q
  split at h3
  · refine pe_imp (pe_ix ix_seq (ha ρ t ds h1) (hb ρ _ h2) hs) fun σ H Q ⟨H0, Hf, s, sl, k⟩ => ?_
    refine ⟨H0, Hf, s, sl, fun v H1 Hf1 g1 ⟨p, vs, e1, e2, e3⟩ => ⟨H0, Hf1, g1.sub, sl.grow g1, fun u H2 Hf2 g2 r2 => ?_⟩⟩
    obtain ⟨w, q1, q2⟩ := reps_at (e3.mono g2.ext) h3
    cases t with
    | true => exact .inr (.inl ⟨p, vs, _, w, e1, r2, sqT_mono g2.big e2, q1, k w H2 Hf2 (g1.trans g2) q2⟩)
    | false => exact .inl ⟨p, vs, _, w, e1, r2, sqL_mono g2.big e2, q1, k w H2 Hf2 (g1.trans g2) q2⟩
  · cases h3
def cutD (xs : List D) (lo hi : Option Int) : List D := (xs.drop (HT.sIx xs.length 0 lo)).take (HT.sIx xs.length xs.length hi - HT.sIx xs.length 0 lo)
theorem reps_cut {K : PySem.W.Frag} {H : Hp} {ds : List D} {vs : List V} (h : Reps K H ds vs) (lo hi : Option Int) : Reps K H (cutD ds lo hi) (cutV vs lo hi) := by
  unfold cutD cutV
  rw [h.length]
  exact (h.drop _).take _
def JO (X : Cx) (e : Option Expr) (f : Rho → Option (Option Int)) : Prop := ∀ ρ o, f ρ = some o → PO X e (fun σ H Q => ∃ H0 Hf, Same Hf H ∧ Slots X.K H0 ρ σ H Hf ∧ ∀ H' Hf', Grow H Hf H' Hf' → Q o H')
def oNone : Rho → Option (Option Int) := fun _ => some none
def intOf : D → Option Int
  | .int i => some i
  | _ => none
def oSome (f : DE) : Rho → Option (Option Int) := fun ρ => (f ρ).bind fun d => (intOf d).map some
theorem jo_none : JO X none oNone := fun ρ o q => by
  cases q
  intro pins s σ H Q I ⟨H0, Hf, ss, sl, k⟩
  exact po_none pins s σ H Q I (k H Hf (Grow.refl ss))
theorem jo_some {e : Expr} {f : DE} (h : JE X e f) : JO X (some e) (oSome f) := fun ρ o q => by
  obtain ⟨d, e1, e2⟩ := Option.bind_eq_some_iff.mp q
  obtain ⟨i, e3, e4⟩ := Option.map_eq_some_iff.mp e2
  subst e4
  cases d <;> simp [intOf] at e3
  subst e3
  intro pins s σ H Q I ⟨H0, Hf, ss, sl, k⟩
  exact po_some (h ρ _ e1) pins s σ H Q I ⟨H0, Hf, ss, sl, fun v H1 Hf1 g1 r1 => ⟨_, r1, k H1 Hf1 g1⟩⟩
def dSlT (f : DE) (lo hi : Rho → Option (Option Int)) : DE := fun ρ => (f ρ).bind fun d => (lo ρ).bind fun l => (hi ρ).bind fun h => match d with
  | .tuple xs => some (.tuple (cutD xs l h))
  | _ => none
theorem getItem_tuple_whole {prog : Program} {w : World} {A : Around} {E : Value → Shared → Prop} {s : Shared} {t sl : Addr} {items : Array Value} {vl vu : Value} {lo hi : Option Int} {Q : Value → Shared → Prop} (ht : IsTup s.heap t items) (hs : s.heap.IsSliceOf sl vl vu .none) (pl : IsPart vl lo) (pu : IsPart vu hi)
    (hw : HT.sIx items.size 0 lo = 0 ∧ HT.sIx items.size items.size hi = items.size) (h : Q (.ref t) s) : wpAny (model prog w) A (getItem (.ref t) (.ref sl)) Q E s := by
  obtain ⟨os, hos, hcs, hds⟩ := id hs
  have hTs : s.TypeIs (.ref sl) "slice" := ⟨os, hos, hcs⟩
  unfold getItem
  try with_reducible refine wpAny_holding ?_
  first | refine wpAny_bind (wpAny_pure ?_) | skip
  refine wpAny_bind (wpAny_sequenceKey ht.typeIs (by decide) ?_)
  refine wpAny_bind (wpAny_callSpecial?_slot (name := Str.ofString "__getitem__") ht.typeIs PyProof.Rows.slot_tuple_getitem
    (wpAny_call_entry PyProof.Rows.slot_tuple_getitem ht.typeIs entry_tuple_getitem ?_ (args_tuple_getitem _ _)))
  show wpAny _ _ (Builtin.Tuple.tupleItemsOf (.ref t) >>= _) _ _ s
  refine wpAny_bind (tupleItemsOf_ ht ?_)
  refine wpAny_bind (wpAny_typeOf hTs ?_)
  rw [if_pos (by decide)]
  refine wpAny_bind (HT.sliceApplied_gen hs pl pu ?_)
  have hyes : ((((HT.sIx items.size 0 lo : Nat) : Int) == 0 && (1 : Int) == 1 && (HT.sIx items.size items.size hi - HT.sIx items.size 0 lo) == items.size) = true) := by
    rw [hw.1, hw.2]; simp
  show wpAny _ _ (if (((HT.sIx items.size 0 lo : Nat) : Int) == 0 && (1 : Int) == 1 && (HT.sIx items.size items.size hi - HT.sIx items.size 0 lo) == items.size) = true then _ else _) _ _ s
  rw [if_pos hyes]
  unfold Builtin.Tuple.tupleIsExact
  refine wpAny_bind (wpAny_bind (wpAny_typeOf ht.typeIs (wpAny_pure ?_)))
  rw [if_pos (by decide +kernel)]
  exact wpAny_bind (wpAny_rule (wpAny_pure ⟨_, rfl, wpAny_pure h⟩))
theorem sl_tup_whole : SlR X (fun x lo hi H Q => ∃ a xs, x = .ref a ∧ SqT X.K H a xs ∧ (HT.sIx xs.length 0 lo = 0 ∧ HT.sIx xs.length xs.length hi = xs.length) ∧ Q (.ref a) H) := by
  intro pins s σ H x v vl vu lo hi sl Q I rx hs pl pu h
  obtain ⟨a, xs, rfl, hx, hw, q⟩ := h
  cases rx
  obtain ⟨its, r, ht, hz⟩ := I.tuple hx
  have hlen : its.toArray.size = xs.length := by rw [List.size_toArray]; exact r.length.symm
  refine ⟨"tuple", _, PyProof.Rows.slot_tuple_getitem.lookup, ht.typeIs, ?_⟩
  exact getItem_tuple_whole ht hs pl pu (by rw [hlen]; exact hw) ⟨.ref a, H, I, rfl, q⟩
theorem je_slT {a : Expr} {lo hi : Option Expr} {f : DE} {l h : Rho → Option (Option Int)} {pos p2 : Pos} (ha : JE X a f) (hl : JO X lo l) (hh : JO X hi h) : JE X (.Subscript a (.Slice lo hi none p2) pos) (dSlT f l h) := fun ρ d q => by
  obtain ⟨x, e1, q⟩ := Option.bind_eq_some_iff.mp q
  obtain ⟨y, e2, q⟩ := Option.bind_eq_some_iff.mp q
  obtain ⟨z, e3, q⟩ := Option.bind_eq_some_iff.mp q
  cases x with
  | tuple xs =>
    cases q
    refine pe_imp (pe_slice (sl_tup.or sl_tup_whole) (ha ρ _ e1) (hl ρ y e2) (hh ρ z e3)) fun σ H Q ⟨H0, Hf, s, sl, k⟩ => ?_
    refine ⟨H0, Hf, s, sl, fun v H1 Hf1 g1 ⟨p, vs, q1, q2, q3⟩ => ⟨H0, Hf1, g1.sub, sl.grow g1, fun H2 Hf2 g2 => ⟨H0, Hf2, g2.sub, sl.grow (g1.trans g2), fun H3 Hf3 g3 => ?_⟩⟩⟩
    subst q1
    have q2' := sqT_mono (g2.trans g3).ext q2
    have q3' := q3.mono (g2.trans g3).ext
    by_cases c : HT.sIx vs.length 0 y = 0 ∧ HT.sIx vs.length vs.length z = vs.length
    · refine .inr ⟨p, vs, rfl, sqT_mono g3.sub q2', c, k _ H3 Hf3 ((g1.trans g2).trans g3) ⟨p, vs, rfl, q2', ?_⟩⟩
      have : cutD xs y z = xs := by
        unfold cutD
        rw [← q3.length, c.1, c.2]
        simp [q3.length]
      rw [this]; exact q3'
    · refine .inl ⟨p, vs, rfl, sqT_mono g3.sub q2', c, fun p' hp => ?_⟩
      exact k _ _ _ (((g1.trans g2).trans g3).trans (Grow.laid g3.sub hp)) ⟨p', _, rfl, SqT.of upd_same, (reps_cut q3' y z).mono (same_upd (g3.sub.free hp))⟩
  | _ => cases q
end
end G
namespace G
open PySem PySem.Spec PyProof.Rows L2
section
variable {X : Cx}
theorem bb_len : bootBuiltins "len" = some (.builtin "len") := PySem.boot_len
theorem bb_all : bootBuiltins "all" = some (.builtin "all") := by decide +kernel
theorem bb_isi : bootBuiltins "isinstance" = some (.builtin "isinstance") := by decide +kernel
theorem bb_int : bootBuiltins "int" = some (.type "int") := by decide +kernel
theorem bb_bool : bootBuiltins "bool" = some (.type "bool") := by decide +kernel
theorem bb_str : bootBuiltins "str" = some (.type "str") := by decide +kernel
theorem bb_list : bootBuiltins "list" = some (.type "list") := by decide +kernel
theorem bb_tuple : bootBuiltins "tuple" = some (.type "tuple") := by decide +kernel
def dLen (f : Rho → Option (Bool × List D)) : DE := fun ρ => (f ρ).map fun q => .int q.2.length
theorem je_len {e : Expr} {f : Rho → Option (Bool × List D)} {p pos : Pos} (hg : Gl X "len") (hm : X.mg "len" = none) (h : JQ X e f) (he : starEach [e] X.env = [(false, eval e X.env)] := by rfl) : JE X (.Call (.Name "len" p) [e] [] pos) (dLen f) := fun ρ d q => by
  obtain ⟨⟨t, ds⟩, h1, h2⟩ := Option.map_eq_some_iff.mp q
  subst h2
  refine pe_imp (pe_callB call_len_seq hg hm bb_len (pa_cons (h ρ t ds h1) pa_nil he) (he := he)) fun σ H Q ⟨H0, Hf, s, sl, k⟩ => ?_
  refine ⟨H0, Hf, s, sl, fun v H1 Hf1 g1 ⟨a, vs, e1, e2, e3⟩ => ⟨a, vs, by rw [e1], ?_, ?_⟩⟩
  · cases t with
    | true => exact .inr e2
    | false => exact .inl e2
  · exact k _ H1 Hf1 g1 (by rw [e3.length]; rfl)
theorem je_tupOf {e : Expr} {f : Rho → Option (Bool × List D)} {p pos : Pos} (hg : Gl X "tuple") (hm : X.mg "tuple" = none) (h : JQ X e f) (hz : ∀ ρ ds, f ρ ≠ some (true, ds) ∨ True := by intros; exact .inr trivial) (he : starEach [e] X.env = [(false, eval e X.env)] := by rfl) :
    JE X (.Call (.Name "tuple" p) [e] [] pos) (fun ρ => (f ρ).bind fun q => if q.1 = true then none else some (.tuple q.2)) := fun ρ d q => by
  obtain ⟨⟨t, ds⟩, h1, h2⟩ := Option.bind_eq_some_iff.mp q
  cases t with
  | true => simp at h2
  | false =>
    simp only [Bool.false_eq_true, if_false, Option.some.injEq] at h2
    subst h2
    refine pe_imp (pe_callTy call_tuple_of hg hm bb_tuple (pa_cons (h ρ false ds h1) pa_nil he) (he := he)) fun σ H Q ⟨H0, Hf, s, sl, k⟩ => ?_
    refine ⟨H0, Hf, s, sl, fun v H1 Hf1 g1 ⟨a, vs, e1, e2, e3⟩ => ⟨a, vs, by rw [e1], .inl ⟨e2, fun l hl => ?_⟩⟩⟩
    exact k _ _ _ (g1.trans (Grow.laid g1.sub hl)) ⟨l, vs, rfl, SqT.of upd_same, e3.mono (same_upd (g1.sub.free hl))⟩
theorem jn_list {e : Expr} {f : Rho → Option (Bool × List D)} {p pos : Pos} (hg : Gl X "list") (hm : X.mg "list" = none) (h : JQ X e f) (he : starEach [e] X.env = [(false, eval e X.env)] := by rfl) : JN X (.Call (.Name "list" p) [e] [] pos) (fun ρ => (f ρ).map fun q => q.2) := fun ρ ds' q => by
  obtain ⟨⟨t, ds⟩, h1, h2⟩ := Option.map_eq_some_iff.mp q
  subst h2
  refine pe_imp (pe_callTy call_list_of hg hm bb_list (pa_cons (h ρ t ds h1) pa_nil he) (he := he)) fun σ H Q ⟨H0, Hf, s, sl, k⟩ => ?_
  refine ⟨H0, Hf, s, sl, fun v H1 Hf1 g1 ⟨a, vs, e1, e2, e3⟩ => ⟨a, vs, by rw [e1], ?_, fun l hl => ?_⟩⟩
  · cases t with
    | true => exact .inr e2
    | false => exact .inl e2
  · exact k _ _ _ (g1.trans (Grow.made g1.sub hl)) ⟨l, vs, rfl, g1.big.free hl, upd_same, g1.sub.free hl, e3⟩
def dInt (f : DE) : DE := fun ρ => (f ρ).bind fun d => match d with
  | .int i => some (.int i)
  | .bool b => some (.int (if b then 1 else 0))
  | _ => none
def dStr (f : DE) : DE := fun ρ => (f ρ).bind fun d => match d with
  | .int i => if i.natAbs.log2 < 1920 then some (.str (toString i)) else none
  | _ => none
theorem je_strOf {e : Expr} {f : DE} {p pos : Pos} (hg : Gl X "str") (hm : X.mg "str" = none) (h : JE X e f) (he : starEach [e] X.env = [(false, eval e X.env)] := by rfl) : JE X (.Call (.Name "str" p) [e] [] pos) (dStr f) := fun ρ d q => by
  obtain ⟨x, h1, h2⟩ := Option.bind_eq_some_iff.mp q
  split at h2
  · split at h2
    · rename_i c
      cases h2
      exact pe_imp (pe_callTy call_str_int hg hm bb_str (pa_cons (h ρ _ h1) pa_nil he) (he := he)) fun σ H Q ⟨H0, Hf, s, sl, k⟩ =>
        ⟨H0, Hf, s, sl, fun v H1 Hf1 g1 r => ⟨_, by rw [show v = _ from r], c, k _ H1 Hf1 g1 rfl⟩⟩
    · cases h2
  · cases h2
def allB : List D → Option Bool
  | [] => some true
  | .bool b :: r => (allB r).map fun c => b && c
  | _ :: _ => none
theorem allB_get : ∀ {ds : List D} {c : Bool}, allB ds = some c → ∃ bs : List Bool, ds = bs.map PyData.bool ∧ c = bs.all id
  | [], c, h => by cases h; exact ⟨[], rfl, rfl⟩
  | .bool b :: r, c, h => by
    obtain ⟨c', h1, h2⟩ := Option.map_eq_some_iff.mp h
    obtain ⟨bs, h3, h4⟩ := allB_get h1
    exact ⟨b :: bs, by simp [h3], by simp [← h2, h4]⟩
theorem reps_bools {K : PySem.W.Frag} {H : Hp} : ∀ {bs : List Bool} {vs : List V}, Reps K H (bs.map PyData.bool) vs → vs = bs.map V.bl
  | [], _, h => h
  | _ :: _, _, ⟨v, r, h1, h2, h3⟩ => by subst h1; rw [show v = _ from h2, reps_bools h3]; rfl
theorem call_allL : CallR X (.builtin "all") (fun xs H Q => X.calm = true ∧ ∃ (p : Addr) (bs : List Bool), xs = [.ref p] ∧ SqL X.K H p (bs.map V.bl) ∧ Q (.bl (bs.all id)) H) := by
  intro pins s σ H xs us Q I r h
  obtain ⟨hc, p, bs, rfl, hq, q⟩ := h
  obtain ⟨u, rfl, rx⟩ := vals1 r
  cases rx
  obtain ⟨its, rv, pl, hz⟩ := I.list hq
  have hlen := rv.length
  have hh : X.A.in1.handled = none := I.ok.hd hc
  have hlt : p < s.heap.objs.size := by obtain ⟨_, e, _⟩ := pl.isList; exact Heap.lt_size e
  refine call_all_walk (wpAny_pyIter_list pl.isList ?_)
  refine ⟨s.heap.objs.size, _, _, _, _, _, fun i => (bs[i]?).getD false, rfl, Walks.list hh _ p (Nat.ne_of_lt hlt) its.toArray, ⟨⟨_, Heap.get?_push_size _ rfl, rfl, rfl⟩, pl.isList.at fun o e => Heap.get?_push_of_some _ e⟩, ?_, ?_⟩
  · intro i v s' Q' E' hv hQ
    have hv' : its[i]? = some v := by simpa using hv
    have : ∃ b, bs[i]? = some b := by
      have : i < its.length := (List.getElem?_eq_some_iff.mp hv').1
      have : i < bs.length := by simpa using (by omega : i < (bs.map V.bl).length)
      exact ⟨bs[i], by simp [this]⟩
    obtain ⟨b, hb⟩ := this
    obtain ⟨u, hu, ru⟩ := rv.get (i := i) (x := .bl b) (by simp [hb])
    rw [hv'] at hu; cases hu
    cases ru
    exact wpAny_truthy_bool (by simpa [hb] using hQ)
  · intro h' tk hk
    have e : ((List.range its.toArray.size).all fun i => (bs[i]?).getD false) = bs.all id := by
      have hn : its.toArray.size = bs.length := by simpa using hlen.symm
      rw [hn, Bool.eq_iff_iff]
      simp only [List.all_eq_true, List.mem_range, id]
      constructor
      · intro h x hx
        obtain ⟨i, hi, rfl⟩ := List.mem_iff_getElem.mp hx
        simpa [hi] using h i hi
      · intro h i hi
        simpa [hi] using h bs[i] (List.getElem_mem hi)
    rw [e]
    have I1 : Inv X pins σ H { s with heap := h', toks := tk } := by
      have I0 : Inv X pins σ H { s with heap := s.heap.push { cls := .type "list_iterator", data := .fields #[.ref p, rawInt 0] } } := I.kept (t' := s.toks) fun b o e => Heap.get?_push_of_some _ e
      refine I.kept (t' := tk) fun b o e => hk b o ?_ (Heap.get?_push_of_some _ e)
      intro hb
      have : b = s.heap.objs.size := by simpa using hb
      subst this
      exact absurd (Heap.lt_size e) (Nat.lt_irrefl _)
    exact ⟨.bl (bs.all id), H, I1, rfl, q⟩
def dAll (f : Rho → Option (Bool × List D)) : DE := fun ρ => (f ρ).bind fun q => if q.1 = true then none else (allB q.2).map PyData.bool
theorem je_all {e : Expr} {f : Rho → Option (Bool × List D)} {p pos : Pos} (hg : Gl X "all") (hm : X.mg "all" = none) (h : JQ X e f) (hc : X.calm = true := by rfl) (he : starEach [e] X.env = [(false, eval e X.env)] := by rfl) : JE X (.Call (.Name "all" p) [e] [] pos) (dAll f) := fun ρ d q => by
  obtain ⟨⟨t, ds⟩, h1, h2⟩ := Option.bind_eq_some_iff.mp q
  cases t with
  | true => simp at h2
  | false =>
    simp only [Bool.false_eq_true, if_false] at h2
    obtain ⟨c, h3, h4⟩ := Option.map_eq_some_iff.mp h2
    subst h4
    obtain ⟨bs, h5, h6⟩ := allB_get h3
    subst h5 h6
    refine pe_imp (pe_callB call_allL hg hm bb_all (pa_cons (h ρ false _ h1) pa_nil he) (he := he)) fun σ H Q ⟨H0, Hf, s, sl, k⟩ => ?_
    refine ⟨H0, Hf, s, sl, fun v H1 Hf1 g1 ⟨a, vs, e1, e2, e3⟩ => ⟨hc, a, bs, by rw [e1], ?_, k _ H1 Hf1 g1 rfl⟩⟩
    rw [reps_bools e3] at e2
    exact e2
def isiD (T : String) (d : D) : Option Bool := match T, d with
  | "int", .int _ => some true
  | "int", .bool _ => some true
  | "int", .none => some false
  | "int", .str _ => some false
  | "int", .tuple _ => some false
  | "int", .list _ => some false
  | "bool", .int _ => some false
  | "bool", .bool _ => some true
  | "bool", .none => some false
  | "bool", .str _ => some false
  | "bool", .tuple _ => some false
  | "bool", .list _ => some false
  | "str", .int _ => some false
  | "str", .bool _ => some false
  | "str", .none => some false
  | "str", .str _ => some true
  | "str", .tuple _ => some false
  | "str", .list _ => some false
  | "tuple", .int _ => some false
  | "tuple", .bool _ => some false
  | "tuple", .none => some false
  | "tuple", .str _ => some false
  | "tuple", .tuple _ => some true
  | "tuple", .list _ => some false
  | "list", .int _ => some false
  | "list", .bool _ => some false
  | "list", .none => some false
  | "list", .str _ => some false
  | "list", .tuple _ => some false
  | "list", .list _ => some true
  | _, _ => none
def tyD : D → String
  | .int _ => "int"
  | .bool _ => "bool"
  | .none => "NoneType"
  | .str _ => "str"
  | .tuple _ => "tuple"
  | .list _ => "list"
  | .dict _ => "dict"
theorem isi_kit {K : PySem.W.Frag} {T : String} {d : D} {b : Bool} (h : isiD T d = some b) : PySem.W.kitOne K (.type (tyD d)) (.type T) = some b := by
  unfold isiD at h
  split at h <;> first
    | (cases h; rfl)
    | cases h
theorem call_isi {T : String} : CallR X (.builtin "isinstance") (fun xs H Q => ∃ d x b, xs = [x, .ty T] ∧ Rep X.K H d x ∧ isiD T d = some b ∧ Q (.bl b) H) := by
  intro pins s σ H xs us Q I r h
  obtain ⟨d, x, b, rfl, hd, hb, q⟩ := h
  obtain ⟨u, c, rfl, rx, rc⟩ := vals2 r
  cases rc
  have e := isi_kit (K := X.K) hb
  have fin : ∀ tk, EP X pins σ Q (.bool b) { s with toks := tk } := fun tk => ⟨.bl b, H, I.tok tk, rfl, q⟩
  cases d with
  | none => cases hd; cases rx; exact PySem.W.kia_one PySem.W.kitx_none I.kIn True.intro e (fun z => nomatch z) fin
  | bool y => cases hd; cases rx; exact PySem.W.kia_one PySem.W.kitx_bool I.kIn True.intro e (fun z => nomatch z) fin
  | int i => cases hd; obtain ⟨t, rfl⟩ := rx; exact PySem.W.kia_one PySem.W.kitx_int I.kIn True.intro e (fun z => nomatch z) fin
  | str i => cases hd; obtain ⟨t, rfl⟩ := rx; exact PySem.W.kia_one PySem.W.kitx_str I.kIn True.intro e (fun z => nomatch z) fin
  | tuple ds =>
    obtain ⟨a, vs, rfl, h2, h3⟩ := hd
    cases rx
    obtain ⟨its, rv, ⟨o, ho, hc, _⟩, _⟩ := I.tuple h2
    exact PySem.W.kia_one PySem.W.kitx_tuple I.kIn ⟨o, ho, hc⟩ e (fun z => nomatch z) fin
  | list ds =>
    obtain ⟨a, vs, rfl, h2, h3⟩ := hd
    cases rx
    obtain ⟨its, rv, pl, _⟩ := I.list h2
    obtain ⟨o, ho, hc, _⟩ := pl.isList
    exact PySem.W.kia_one PySem.W.kitx_list I.kIn ⟨o, ho, hc⟩ e (fun z => nomatch z) fin
  | dict ds => exact hd.elim
def dIsi (T : String) (f : DE) : DE := fun ρ => (f ρ).bind fun d => (isiD T d).map PyData.bool
theorem je_isi {e : Expr} {f : DE} {x : Str} {T : String} {p p2 pos : Pos} (hg : Gl X "isinstance") (hm : X.mg "isinstance" = none) (hgT : Gl X x) (hmT : X.mg x = none) (hvT : bootBuiltins x = some (.type T)) (h : JE X e f)
    (hn : x ≠ "__name__" := by decide) (hd : (x == ("__debug__" : Str)) = false := by decide)
    (he : starEach [e, .Name x p2] X.env = (false, eval e X.env) :: starEach [.Name x p2] X.env := by rfl) (he2 : starEach [.Name x p2] X.env = [(false, eval (.Name x p2) X.env)] := by rfl) (hpl : (backTo pos (starEach [.Name x p2] X.env)).any (·.1) = false := by rfl) :
    JE X (.Call (.Name "isinstance" p) [e, .Name x p2] [] pos) (dIsi T f) := fun ρ d q => by
  obtain ⟨y, h1, h2⟩ := Option.bind_eq_some_iff.mp q
  obtain ⟨b, h3, h4⟩ := Option.map_eq_some_iff.mp h2
  subst h4
  refine pe_imp (pe_callB (call_isi (T := T)) hg hm bb_isi (pa_cons (h ρ y h1) (pa_cons (pe_bltn (v := .ty T) hgT hmT hvT rfl hn hd) pa_nil he2) he) (he := he) (hpl := hpl)) fun σ H Q ⟨H0, Hf, s, sl, k⟩ => ?_
  exact ⟨H0, Hf, s, sl, fun v H1 Hf1 g1 r => ⟨y, v, b, rfl, r.mono g1.sub, h3, k _ H1 Hf1 g1 rfl⟩⟩
def spF (K : PySem.W.Frag) (n : Nat) (F : List D → Option D) : Sp := fun vs H Q _ => vs.length = n ∧ ∃ Hf ds d, Same Hf H ∧ Reps K Hf ds vs ∧ F ds = some d ∧ ∀ v H' Hf', Grow H Hf H' Hf' → Rep K Hf' d v → Q v H'
def dCall (F : List D → Option D) (f : Rho → Option (List D)) : DE := fun ρ => (f ρ).bind F
theorem je_call {k : Nat} {f : Addr} {fd : FuncData} {ps : List Str} {n : Nat} {F : List D → Option D} {x : Str} {e : Expr} {es : List Expr} {g : Rho → Option (List D)} {p pos : Pos} (Fk : FnOk X.prog X.w X.K X.mg X.base CX0 k f fd ps (spF X.K n F)) (hr : Room k X.A) (hg : Gl X x) (hm : X.mg x = some (.ref f)) (hk : PySem.W.keepIn X.K (.ref f) = true) (hb : Binds X.K fd ps [])
    (ha : JA X (e :: es) g) (hn : (e :: es).length = n := by rfl) (hdb : (x == ("__debug__" : Str)) = false := by decide) (he : starEach (e :: es) X.env = (false, eval e X.env) :: starEach es X.env := by rfl) (hpl : (backTo pos (starEach es X.env)).any (·.1) = false := by rfl) :
    JE X (.Call (.Name x p) (e :: es) [] pos) (dCall F g) := fun ρ d q => by
  obtain ⟨ds, h1, h2⟩ := Option.bind_eq_some_iff.mp q
  refine pe_imp (pe_call Fk hr hg hm hk hb .nil pass0 (fun pos pins s σ H Q I t => ha.run ρ ds h1 pos pins s σ H Q I t) hdb he hpl) fun σ H Q ⟨H0, Hf, s, sl, kk⟩ => ?_
  refine ⟨H0, Hf, s, sl, fun vs H1 Hf1 g1 r1 => ⟨?_, Hf1, ds, d, g1.sub, by rw [List.append_nil]; exact r1, h2, fun v H2 Hf2 g2 r2 => kk v H2 Hf2 (g1.trans g2) r2⟩⟩
  rw [List.append_nil, r1.length, ha.len ρ ds h1, hn]
inductive Fl where
  | nx (ρ : Rho)
  | rt (d : D)
  | bk (ρ : Rho)
  | ct (ρ : Rho)
abbrev DS := Rho → Option Fl
structure At (K : PySem.W.Frag) (H0 Hf0 : Hp) (ρ : Rho) (σ : L2.St) (H Hf : Hp) : Prop where
  gr : Grow H0 Hf0 H Hf
  sl : Slots K H0 ρ σ H Hf
def Fl.ends (K : PySem.W.Frag) (H0 Hf0 Hf : Hp) (En : Ends) : Fl → Prop
  | .nx ρ => ∀ σ' H' Hf', At K H0 Hf0 ρ σ' H' Hf' → Same Hf Hf' → En.nx σ' H'
  | .bk ρ => ∀ σ' H' Hf', At K H0 Hf0 ρ σ' H' Hf' → Same Hf Hf' → En.bk σ' H'
  | .ct ρ => ∀ σ' H' Hf', At K H0 Hf0 ρ σ' H' Hf' → Same Hf Hf' → En.ct σ' H'
  | .rt d => ∀ v H' Hf', Grow H0 Hf0 H' Hf' → Rep K Hf' d v → En.rt v H'
def tJS (K : PySem.W.Frag) (H0 Hf0 : Hp) (ρ : Rho) (fl : Fl) : TS := fun En σ H => ∃ Hf, At K H0 Hf0 ρ σ H Hf ∧ fl.ends K H0 Hf0 Hf En
def JS (X : Cx) (st : Stmt) (f : DS) : Prop := ∀ ρ fl, f ρ = some fl → ∀ H0 Hf0, PS X st (tJS X.K H0 Hf0 ρ fl)
def JSs (X : Cx) (sts : List Stmt) (f : DS) : Prop := ∀ ρ fl, f ρ = some fl → ∀ H0 Hf0, PSs X sts (tJS X.K H0 Hf0 ρ fl)
theorem ps_imp {st : Stmt} {t t' : TS} (h : PS X st t) (i : ∀ En σ H, t' En σ H → t En σ H) : PS X st t' := fun pins s σ H En I q => h pins s σ H En I (i En σ H q)
theorem pss_imp {st : List Stmt} {t t' : TS} (h : PSs X st t) (i : ∀ En σ H, t' En σ H → t En σ H) : PSs X st t' := fun pins s σ H En I q => h pins s σ H En I (i En σ H q)
theorem At.grow {K : PySem.W.Frag} {H0 Hf0 H Hf H' Hf' : Hp} {ρ : Rho} {σ : L2.St} (a : At K H0 Hf0 ρ σ H Hf) (g : Grow H Hf H' Hf') : At K H0 Hf0 ρ σ H' Hf' := ⟨a.gr.trans g, a.sl.grow g⟩
theorem Fl.ends_mono {K : PySem.W.Frag} {H0 Hf0 Hf Hf' : Hp} {En : Ends} {fl : Fl} (h : fl.ends K H0 Hf0 Hf En) (e : Same Hf Hf') : fl.ends K H0 Hf0 Hf' En := by
  cases fl with
  | nx ρ => exact fun σ' H' Hf'' a s => h σ' H' Hf'' a (e.trans s)
  | bk ρ => exact fun σ' H' Hf'' a s => h σ' H' Hf'' a (e.trans s)
  | ct ρ => exact fun σ' H' Hf'' a s => h σ' H' Hf'' a (e.trans s)
  | rt d => exact h
def sNil : DS := fun ρ => some (.nx ρ)
def sSeq (f g : DS) : DS := fun ρ => (f ρ).bind fun fl => match fl with
  | .nx ρ' => g ρ'
  | fl => some fl
theorem jss_nil : JSs X [] sNil := fun ρ fl q H0 Hf0 => by
  cases q
  exact pss_imp pss_nil fun En σ H ⟨Hf, a, e⟩ => e σ H Hf a (Same.refl _)
theorem jss_cons {st : Stmt} {sts : List Stmt} {f g : DS} (h1 : JS X st f) (h2 : JSs X sts g) : JSs X (st :: sts) (sSeq f g) := fun ρ fl q H0 Hf0 => by
  obtain ⟨fl1, e1, q⟩ := Option.bind_eq_some_iff.mp q
  cases fl1 with
  | nx ρ' =>
    refine pss_imp (pss_cons (h1 ρ _ e1 H0 Hf0) (h2 ρ' fl q H0 Hf0)) fun En σ H ⟨Hf, a, e⟩ => ⟨Hf, a, fun σ' H' Hf' a' s' => ⟨Hf', a', Fl.ends_mono e s'⟩⟩
  | rt d => cases q; exact pss_imp (pss_cons (h1 ρ _ e1 H0 Hf0) pss_never) fun En σ H ⟨Hf, a, e⟩ => ⟨Hf, a, e⟩
  | bk ρ' => cases q; exact pss_imp (pss_cons (h1 ρ _ e1 H0 Hf0) pss_never) fun En σ H ⟨Hf, a, e⟩ => ⟨Hf, a, e⟩
  | ct ρ' => cases q; exact pss_imp (pss_cons (h1 ρ _ e1 H0 Hf0) pss_never) fun En σ H ⟨Hf, a, e⟩ => ⟨Hf, a, e⟩
theorem jss_one {st : Stmt} {f : DS} (h1 : JS X st f) : JSs X [st] f := fun ρ fl q H0 Hf0 => pss_one (h1 ρ fl q H0 Hf0)
def sRet (f : DE) : DS := fun ρ => (f ρ).map Fl.rt
theorem js_ret {e : Expr} {f : DE} {pos : Pos} (h : JE X e f) : JS X (.Return (some e) pos) (sRet f) := fun ρ fl q H0 Hf0 => by
  obtain ⟨d, e1, e2⟩ := Option.map_eq_some_iff.mp q
  subst e2
  exact ps_imp (ps_ret (h ρ d e1)) fun En σ H ⟨Hf, a, e⟩ => ⟨H0, Hf, a.gr.sub, a.sl, fun v H' Hf' g r => e v H' Hf' (a.gr.trans g) r⟩
def sIf (t : Rho → Option Bool) (f g : DS) : DS := fun ρ => (t ρ).bind fun c => if c then f ρ else g ρ
theorem js_if {c : Expr} {a b : List Stmt} {t : Rho → Option Bool} {f g : DS} {pos : Pos} (hc : JT X c t) (ha : JSs X a f) (hb : JSs X b g) : JS X (.If c a b pos) (sIf t f g) := fun ρ fl q H0 Hf0 => by
  obtain ⟨x, e1, q⟩ := Option.bind_eq_some_iff.mp q
  cases x with
  | true =>
    refine ps_imp (ps_if (hc ρ _ e1) (ha ρ fl (by simpa using q) H0 Hf0) pss_never) fun En σ H ⟨Hf, a, e⟩ => ⟨H0, Hf, a.gr.sub, a.sl, fun H' Hf' g => iteT ⟨Hf', a.grow g, Fl.ends_mono e g.ext⟩⟩
  | false =>
    refine ps_imp (ps_if (hc ρ _ e1) pss_never (hb ρ fl (by simpa using q) H0 Hf0)) fun En σ H ⟨Hf, a, e⟩ => ⟨H0, Hf, a.gr.sub, a.sl, fun H' Hf' g => iteF ⟨Hf', a.grow g, Fl.ends_mono e g.ext⟩⟩
theorem Slots.set {K : PySem.W.Frag} {H0 H Hf : Hp} {ρ : Rho} {σ : L2.St} {i : Nat} {d : D} {v : V} (s : Slots K H0 ρ σ H Hf) (r : Rep K Hf d v) : Slots K H0 (ρ.set i (some (.val d))) (σ.set i (some v)) H Hf := by
  refine ⟨by simp [s.len], fun j b e => ?_, fun j k ds es a h1 h2 h3 h4 => ?_⟩
  · by_cases q : i = j
    · subst q
      have hi : i < ρ.length := by
        have := (List.getElem?_eq_some_iff.mp e).1
        simpa using this
      have hi' : i < σ.length := by rw [← s.len]; exact hi
      rw [List.getElem?_set_self hi] at e
      cases e
      exact ⟨v, List.getElem?_set_self hi', r⟩
    · rw [List.getElem?_set_ne q] at e
      obtain ⟨u, h1, h2⟩ := s.is j b e
      exact ⟨u, by rw [List.getElem?_set_ne q]; exact h1, h2⟩
  · have hj : i ≠ j := by
      intro q; subst q
      have hi : i < ρ.length := by
        have := (List.getElem?_eq_some_iff.mp h1).1
        simpa using this
      rw [List.getElem?_set_self hi] at h1
      cases h1
    have hk : i ≠ k := by
      intro q; subst q
      have hi : i < ρ.length := by
        have := (List.getElem?_eq_some_iff.mp h2).1
        simpa using this
      rw [List.getElem?_set_self hi] at h2
      cases h2
    rw [List.getElem?_set_ne hj] at h1 h3
    rw [List.getElem?_set_ne hk] at h2 h4
    exact s.apart j k ds es a h1 h2 h3 h4
def sSet (i : Nat) (f : DE) : DS := fun ρ => (f ρ).map fun d => .nx (ρ.set i (some (.val d)))
theorem js_set (i : Nat) {x : Str} {e : Expr} {f : DE} {pos pos' : Pos} (hN : X.N.Nodup) (h : JE X e f) (hi : X.N[i]? = some x := by rfl) (hx : Loc X.env.scope x := by first | exact Or.inl rfl | exact Or.inr rfl)
    (hs : swapsWith e (some (.Name x pos')) pos.line X.env = pure false := by rfl) (hf : X.fn x = true ∨ X.env.scope.names.lookup x = some .local := by first | exact .inl rfl | exact .inr rfl) : JS X (.Assign [.Name x pos'] e pos) (sSet i f) := fun ρ fl q H0 Hf0 => by
  obtain ⟨d, e1, e2⟩ := Option.map_eq_some_iff.mp q
  subst e2
  exact ps_imp (ps_set hN hi hx (h ρ d e1) hs hf) fun En σ H ⟨Hf, a, e⟩ => ⟨H0, Hf, a.gr.sub, a.sl, fun v H' Hf' g r => e _ H' Hf' ⟨a.gr.trans g, (a.sl.grow g).set r⟩ g.ext⟩
def sPar (i j : Nat) (f : Rho → Option (List D)) : DS := fun ρ => (f ρ).bind fun ds => match ds with
  | [a, b] => some (.nx ((ρ.set i (some (.val a))).set j (some (.val b))))
  | _ => none
end
end G
namespace G
open PySem PySem.Spec PyProof.Rows L2
theorem comp_loop {prog : Program} {w : World} {A : Around} {R : Result → Shared → Prop} {s : Shared} {elt target iter : Expr} {ifs : List Expr} {scope : Scope} {pos : Pos} {it acc : Value} {env : Env} (I : Nat → Shared → Prop)
    (turn : ∀ n s, I n s → wpAny (model prog w) A (pyNext it) (fun r s1 => match r with
      | none => R (.ok .next) s1
      | some v => wpAny (model prog w) A (letOwnedTupleGo target it v) (fun _ s1' => wpAny (model prog w) A (assign target env v) (fun _ s2 =>
          wpAny (model prog w) A (forIn ifs true fun c r => if r = true then do let ok ← isTrue c env (eval c env); pure (ForInStep.yield ok) else pure (ForInStep.yield r)) (fun ok s3 =>
            if ok = true then wpAny (model prog w) A (eval elt env) (fun x s4 =>
              wpAny (model prog w) A (call (.builtin "list.append") [acc, x]) (fun _ s5 => ∃ m, m < n ∧ I m s5) (fun _ _ => False) s4) (fun _ _ => False) s3
            else ∃ m, m < n ∧ I m s3) (fun _ _ => False) s2) (fun _ _ => False) s1') (fun _ _ => False) s1) (fun _ _ => False) s)
    (n : Nat) (h : I n s) :
    codeAny (model prog w) A (.compLoop (.ListComp elt [⟨target, iter, ifs, 0⟩] scope pos) 0 it acc env) R s := by
  refine codeAny_loop rfl I (fun n s hI => ?_) n h
  show wpAny _ A ((compTurn (.ListComp elt [⟨target, iter, ifs, 0⟩] scope pos) 0 it acc env).onRaise (fun x => do noteFrame x env; theTreesLotGoes x)) _ _ s
  refine wpAny_noted ?_
  rw [compTurn_list]
  refine wpAny_bind (wpAny_standAt (wpAny_bind (wpAny_mono (turn n s hI) (fun r s1 h1 => ?_) fun _ _ h' => h'.elim)))
  cases r with
  | none => exact wpAny_pure h1
  | some v =>
    refine wpAny_bind (wpAny_mono h1 (fun _ s1' h1' => ?_) fun _ _ h' => h'.elim)
    refine wpAny_bind (wpAny_mono h1' (fun _ s2 h2 => wpAny_bind (wpAny_mono h2 (fun ok s3 h3 => ?_) fun _ _ h' => h'.elim)) fun _ _ h' => h'.elim)
    cases ok with
    | false => exact wpAny_pure ⟨rfl, h3⟩
    | true =>
      exact wpAny_bind (wpAny_bind (wpAny_mono h3 (fun x s4 h4 => wpAny_bind (wpAny_mono h4 (fun _ s5 h5 => wpAny_pure (wpAny_pure ⟨rfl, h5⟩)) fun _ _ h' => h'.elim)) fun _ _ h' => h'.elim))
def closOf (cells : List (Str × Addr)) : List (Str × NameKind) → List (Str × Addr) → List (Str × Addr)
  | [], cs => cs
  | (n, k) :: r, cs => if (k == NameKind.free) = true then closOf cells r ((n, (cells.lookup n).getD 0) :: cs) else closOf cells r cs
theorem clos_run {env : Env} : ∀ (names : List (Str × NameKind)) (cs : List (Str × Addr)), (∀ y ∈ names, y.2 = .free → ∃ c, env.cells.lookup y.1 = some c) →
    (forIn names cs fun (x : Str × NameKind) (r : List (Str × Addr)) => if (x.2 == NameKind.free) = true then do let a ← cellOf env x.1; pure (ForInStep.yield ((x.1, a) :: r)) else pure (ForInStep.yield r) : Sem (List (Str × Addr))) = pure (closOf env.cells names cs)
  | [], cs, _ => rfl
  | (n, k) :: r, cs, h => by
    rw [List.forIn_cons]
    have hr : ∀ y ∈ r, y.2 = .free → ∃ c, env.cells.lookup y.1 = some c := fun y hy => h y (List.mem_cons_of_mem _ hy)
    by_cases hk : (k == NameKind.free) = true
    · obtain ⟨c, hc⟩ := h (n, k) List.mem_cons_self (by simpa using hk)
      have hc' : env.cells.lookup n = some c := hc
      simp only [hk, if_true]
      have e : cellOf env n = pure c := by unfold cellOf; rw [hc']
      rw [e]
      show (forIn r ((n, c) :: cs) _ : Sem _) = _
      rw [clos_run r _ hr]
      simp only [closOf, hk, if_true, hc', Option.getD_some]
    · have hk' : (k == NameKind.free) = false := by simpa using hk
      simp only [hk', Bool.false_eq_true, if_false]
      show (forIn r cs _ : Sem _) = _
      rw [clos_run r _ hr]
      simp only [closOf, hk', Bool.false_eq_true, if_false]
theorem clos_eq {scope : Scope} {env : Env} (h : ∀ y ∈ scope.names, y.2 = .free → ∃ c, env.cells.lookup y.1 = some c) : closureFor scope env = pure (closOf env.cells scope.names []) := by
  have := clos_run (env := env) scope.names [] h
  unfold closureFor
  exact congrArg (fun z => z >>= fun cs => pure cs) this
theorem clos_mem {cells : List (Str × Addr)} : ∀ {names : List (Str × NameKind)} {cs : List (Str × Addr)} {x : Str} {c : Addr}, (x, c) ∈ closOf cells names cs → (x, c) ∈ cs ∨ ((x, NameKind.free) ∈ names ∧ c = (cells.lookup x).getD 0)
  | [], cs, x, c, h => .inl h
  | (n, k) :: r, cs, x, c, h => by
    unfold closOf at h
    split at h
    · rename_i hk
      rcases clos_mem h with q | ⟨q1, q2⟩
      · rcases List.mem_cons.mp q with q | q
        · cases q
          have : k = .free := by simpa using hk
          subst this
          exact .inr ⟨List.mem_cons_self, rfl⟩
        · exact .inl q
      · exact .inr ⟨List.mem_cons_of_mem _ q1, q2⟩
    · rcases clos_mem h with q | ⟨q1, q2⟩
      · exact .inl q
      · exact .inr ⟨List.mem_cons_of_mem _ q1, q2⟩
theorem clos_has {cells : List (Str × Addr)} : ∀ {names : List (Str × NameKind)} {cs : List (Str × Addr)} {x : Str}, ((x, NameKind.free) ∈ names ∨ ∃ c, (x, c) ∈ cs) → ∃ c, (x, c) ∈ closOf cells names cs
  | [], cs, x, h => by
    rcases h with h | h
    · cases h
    · exact h
  | (n, k) :: r, cs, x, h => by
    unfold closOf
    rcases h with h | ⟨c, h⟩
    · rcases List.mem_cons.mp h with q | q
      · cases q
        rw [if_pos (by rfl)]
        exact clos_has (.inr ⟨_, List.mem_cons_self⟩)
      · split
        · exact clos_has (.inl q)
        · exact clos_has (.inl q)
    · split
      · exact clos_has (.inr ⟨c, List.mem_cons_of_mem _ h⟩)
      · exact clos_has (.inr ⟨c, h⟩)
theorem lookup_some_of_mem {l : List (Str × Addr)} {x : Str} {c : Addr} (h : (x, c) ∈ l) : ∃ c', l.lookup x = some c' := by
  induction l with
  | nil => cases h
  | cons p r ih =>
    obtain ⟨n, a⟩ := p
    rw [List.lookup_cons]
    cases e : x == n with
    | true => exact ⟨a, rfl⟩
    | false =>
      rcases List.mem_cons.mp h with q | q
      · cases q; simp at e
      · exact ih q
theorem relabel_look {scope : Scope} {env : Env} {x : Str} {k : NameKind} : (relabel scope env).names.lookup x = some k → ∃ k0, scope.names.lookup x = some k0 ∧ (k = k0 ∨ k0 = .free) := by
  unfold relabel
  simp only
  generalize scope.names = names
  induction names with
  | nil => intro h; simp at h
  | cons p r ih =>
    obtain ⟨n, k1⟩ := p
    intro h
    rw [List.map_cons] at h
    by_cases hc : (k1 == NameKind.free && env.scope.kind == .function && env.kindOf n == some .cell) = true
    · simp only [hc, if_true, List.lookup_cons] at h
      rw [List.lookup_cons]
      cases e : x == n with
      | true =>
        rw [e] at h
        rw [Bool.and_eq_true, Bool.and_eq_true] at hc
        exact ⟨k1, rfl, .inr (by simpa using hc.1.1)⟩
      | false => rw [e] at h; exact ih h
    · have hc' : (k1 == NameKind.free && env.scope.kind == .function && env.kindOf n == some .cell) = false := by simpa using hc
      simp only [hc', Bool.false_eq_true, if_false, List.lookup_cons] at h
      rw [List.lookup_cons]
      cases e : x == n with
      | true => rw [e] at h; cases h; exact ⟨_, rfl, .inl rfl⟩
      | false => rw [e] at h; exact ih h
theorem relabel_free {scope : Scope} {env : Env} {x : Str} : scope.names.lookup x = some .free → (relabel scope env).names.lookup x = some .cell ∨ (relabel scope env).names.lookup x = some .free := by
  unfold relabel
  simp only
  generalize scope.names = names
  induction names with
  | nil => intro h; simp at h
  | cons p r ih =>
    obtain ⟨n, k1⟩ := p
    intro h
    rw [List.lookup_cons] at h
    rw [List.map_cons]
    cases e : x == n with
    | true =>
      rw [e] at h
      cases h
      have en : x = n := by simpa using e
      subst en
      by_cases hc : (NameKind.free == NameKind.free && env.scope.kind == .function && env.kindOf x == some .cell) = true
      · simp only [hc, if_true, List.lookup_cons, e]; exact .inl trivial
      · have hc' : (NameKind.free == NameKind.free && env.scope.kind == .function && env.kindOf x == some .cell) = false := by simpa using hc
        simp only [hc', Bool.false_eq_true, if_false, List.lookup_cons, e]; exact .inr trivial
    | false =>
      rw [e] at h
      by_cases hc : (k1 == NameKind.free && env.scope.kind == .function && env.kindOf n == some .cell) = true
      · simp only [hc, if_true, List.lookup_cons, e]; exact ih h
      · have hc' : (k1 == NameKind.free && env.scope.kind == .function && env.kindOf n == some .cell) = false := by simpa using hc
        simp only [hc', Bool.false_eq_true, if_false, List.lookup_cons, e]; exact ih h
def compCx (X : Cx) (N' : List Str) (scope : Scope) (C : Addr) (s₀ : Shared) (H₀ : Hp) (ex : List Addr) : Cx where
  prog := X.prog
  w := X.w
  K := X.K
  mg := X.mg
  base := X.base
  A := X.A
  N := N'
  s₀ := s₀
  H₀ := H₀
  env := compEnvC scope (closOf X.env.cells scope.names []) C X.env
  outer := X.stack
  stack := X.stack
  ex := ex
  fn := fun _ => false
  calm := X.calm
  pn := []
  xe := fun _ _ => False
structure CompSc (X : Cx) (N' : List Str) (n : Nat) (caps : List Nat) (scope : Scope) : Prop where
  kind : scope.kind = .function
  cell : ∀ y ∈ scope.names, y.2 ≠ .cell
  loc : ∀ y ∈ scope.names, y.2 = .local → scope.names.lookup y.1 = some .local
  free : ∀ y ∈ scope.names, y.2 = .free → X.env.scope.names.lookup y.1 = some .cell ∨ X.env.scope.names.lookup y.1 = some .free
  len : N'.length = n + caps.length
  cap : ∀ (i j : Nat), caps[i]? = some j → ∃ x, X.N[j]? = some x ∧ N'[n + i]? = some x ∧ scope.names.lookup x = some .free
section
variable {X : Cx} {N' : List Str} {n : Nat} {caps : List Nat} {scope : Scope}
theorem mem_lookup {l : List (Str × NameKind)} {x : Str} {k : NameKind} (h : l.lookup x = some k) : (x, k) ∈ l := PySem.mem_of_lookup h
def capS (n : Nat) (caps : List Nat) (σ : L2.St) : L2.St := List.replicate n none ++ caps.map fun j => (σ[j]?).join
theorem comp_start {pins : List (Addr × Obj)} {σ : L2.St} {H : Hp} {s : Shared} {h1 : Heap} {tk : Nat} {fp : List Addr} {m : Str → Option Value} (S : CompSc X N' n caps scope) (I : Inv X pins σ H s) (hf : ∀ b ∈ fp, FpOk X pins H b) (hlt : ∀ b ∈ fp, b < s.heap.objs.size)
    (hns : h1.Ns s.heap.objs.size m) (hk : ∀ b o, s.heap.get? b = some o → h1.get? b = some o) :
    Inv (compCx X N' scope s.heap.objs.size s H fp) [] (capS n caps σ) H { s with heap := h1, toks := tk } := by
  have cl_of : ∀ x c, (closOf X.env.cells scope.names []).lookup x = some c → X.env.cells.lookup x = some c := fun x c h => by
    have hm := PySem.mem_of_lookup h
    rcases clos_mem hm with q | ⟨q1, q2⟩
    · cases q
    · obtain ⟨c', hc'⟩ := I.ok.has x (S.free _ q1 rfl)
      rw [hc'] at q2
      rw [hc', q2]; rfl
  have cl_has : ∀ x, (x, NameKind.free) ∈ scope.names → ∃ c, (closOf X.env.cells scope.names []).lookup x = some c := fun x h => by
    obtain ⟨c, hc⟩ := clos_has (cells := X.env.cells) (cs := []) (.inl h)
    exact lookup_some_of_mem hc
  have kind_free : ∀ x, ((relabel scope X.env).names.lookup x = some .cell ∨ (relabel scope X.env).names.lookup x = some .free) → (x, NameKind.free) ∈ scope.names := fun x h => by
    rcases h with h | h
    · obtain ⟨k0, e1, e2⟩ := relabel_look h
      rcases e2 with e2 | e2
      · subst e2; exact absurd rfl (S.cell _ (mem_lookup e1))
      · subst e2; exact mem_lookup e1
    · obtain ⟨k0, e1, e2⟩ := relabel_look h
      rcases e2 with e2 | e2
      · subst e2; exact mem_lookup e1
      · subst e2; exact mem_lookup e1
  have cell_lt : ∀ x c, X.env.cells.lookup x = some c → c < s.heap.objs.size := fun x c e => by
    obtain ⟨v, q⟩ := I.cell x c e
    exact q.lt
  have ok : (compCx X N' scope s.heap.objs.size s H fp).Ok := by
    refine ⟨I.ok.mod, S.kind, I.ok.glob, I.ok.blt, Nat.le_refl _, fun x y c e1 e2 => I.ok.inj x y c (cl_of x c e1) (cl_of y c e2), fun x hx => cl_has x (kind_free x hx), fun x c e _ => (Bool.false_ne_true e).elim, I.ok.hd, I.ok.frames, .inl rfl, fun b hb => ⟨Nat.ne_of_lt (hlt b hb), fun x c e => (hf b hb).2.2.2.2.1 x c (cl_of x c e)⟩,
      I.bs, Nat.le_trans I.ok.bsz I.sz, fun b o e hb => ?_, fun b hb hb2 => ?_, I.stack, I.stkFree⟩
    · rcases (hf b hb).2.2.2.1 with z | z
      · exact I.ok.noex b o e z
      · exact absurd (Nat.lt_of_lt_of_le (Heap.lt_size e) (Nat.le_trans I.ok.bsz z)) (Nat.lt_irrefl _)
    · rcases List.mem_cons.mp (I.stkSub b hb2) with z | z
      · exact (hf b hb).2.1 z
      · exact (hf b hb).2.2.1 z
  refine ⟨ok, rfl, I.bare, Un.kept hk, ⟨m, hns, fun i x v e1 e2 e3 => ?_⟩, fun x c e => ?_, I.hok.fresh (Nat.le_refl _), fun x c e => I.freeC x c (cl_of x c e), fun p hp => absurd (show p ∈ ([] : List (Addr × Obj)) from hp) (by simp), I.hok.kept hk, ?_⟩
  · have hi : n ≤ i := by
      rcases Nat.lt_or_ge i n with h | h
      · unfold capS at e2
        rw [List.getElem?_append_left (by simpa using h), List.getElem?_replicate, if_pos h] at e2
        cases e2
      · exact h
    unfold capS at e2
    rw [List.getElem?_append_right (by simpa using hi), List.getElem?_map] at e2
    simp only [List.length_replicate] at e2
    cases hj : caps[i - n]? with
    | none => rw [hj] at e2; cases e2
    | some j =>
      rw [hj] at e2
      have e2' : (σ[j]?).join = some v := by simpa using e2
      have e2'' : σ[j]? = some (some v) := by
        cases q : σ[j]? with
        | none => rw [q] at e2'; cases e2'
        | some o => rw [q] at e2'; simp at e2'; rw [e2']
      obtain ⟨y, q1, q2, q3⟩ := S.cap _ _ hj
      have : y = x := by
        have e1' : N'[i]? = some x := e1
        rw [show n + (i - n) = i by omega, e1'] at q2
        cases q2; rfl
      subst this
      obtain ⟨m0, hn0, hl0⟩ := I.loc
      have hv : Vis X.env.scope y := by
        rcases S.free _ (mem_lookup q3) rfl with z | z
        · exact .inr (.inl z)
        · exact .inr (.inr z)
      obtain ⟨u, ru, lk⟩ := hl0 j y v q1 e2'' hv
      refine ⟨u, ru, .inr ⟨relabel_free q3, ?_⟩⟩
      rcases lk with ⟨lk, _⟩ | ⟨_, c, hc, hcell⟩
      · rcases S.free _ (mem_lookup q3) rfl with z | z
        · have : X.env.scope.names.lookup y = some .local := lk
          rw [z] at this; cases this
        · have : X.env.scope.names.lookup y = some .local := lk
          rw [z] at this; cases this
      · obtain ⟨c', hc'⟩ := cl_has y (mem_lookup q3)
        have := cl_of y c' hc'
        rw [hc] at this; cases this
        obtain ⟨o, ho, hd⟩ := hcell
        exact ⟨c, hc', o, hk c o ho, hd⟩
  · obtain ⟨v, o, ho, hd⟩ := I.cell x c (cl_of x c e)
    exact ⟨v, o, hk c o ho, hd⟩
  · show (capS n caps σ).length = N'.length
    unfold capS
    rw [S.len]; simp
theorem comp_back {pins : List (Addr × Obj)} {σ σ' : L2.St} {H H' : Hp} {s s' : Shared} {h' : Heap} {fp : List Addr} (I : Inv X pins σ H s) (hf : ∀ b ∈ fp, FpOk X pins H b)
    (I' : Inv (compCx X N' scope s.heap.objs.size s H fp) [] σ' H' s') (sb : Heap.SameBut s.heap.objs.size s'.heap h') : Inv X pins σ H' { s' with heap := h' } := by
  have ne : ∀ b o, s.heap.get? b = some o → b ≠ s.heap.objs.size := fun b o e => Nat.ne_of_lt (Heap.lt_size e)
  refine I.call' (s' := { s' with heap := h' }) (ch := fp) I'.os ?_ ?_ I'.bare fun b hb => ⟨(hf b hb).2.2.2.1, (hf b hb).2.1, (hf b hb).2.2.2.2.1, (hf b hb).2.2.2.2.2⟩
  · refine ⟨fun b o e n hb hx => sb.extBut b o (ne b o e) (I'.base.keep b o e n hb hx), fun b o e n hb hx => ?_, I'.base.free, fun b o e hx => ?_, I'.base.tups, I'.base.frzs, I'.base.tbls⟩
    · obtain ⟨sl, q⟩ := I'.base.slot b o e n hb hx
      exact ⟨sl, sb.extBut b _ (ne b o e) q⟩
    · obtain ⟨o', q⟩ := I'.base.there b o e hx
      exact ⟨o', sb.extBut b _ (ne b o e) q⟩
  · intro b u e
    have nC : ∀ c v, H' c = some v → c ≠ s.heap.objs.size := fun c v q z => by
      have := I'.free
      have z' : H' c = none := by rw [z]; exact this
      rw [z'] at q; cases q
    refine (I'.hok b u e).stay (fun c v hc q => sb.extBut c v ?_ q) (fun _ q => q) fun _ _ q => q
    rcases hc with z | z
    · rw [z]; exact nC b u e
    · exact nC c _ z
def PTs (X : Cx) (ifs : List Expr) (t : TT) : Prop :=
  ∀ (pins : List (Addr × Obj)) (s : Shared) (σ : L2.St) (H : Hp) (Q : Bool → Hp → Prop), Inv X pins σ H s → t σ H Q →
    wpAny (model X.prog X.w) X.A (forIn ifs true fun c r => if r = true then do let ok ← isTrue c X.env (eval c X.env); pure (ForInStep.yield ok) else pure (ForInStep.yield r)) (TP X pins σ Q) X.xe s
theorem pts_nil : PTs X [] (fun _ H Q => Q true H) := fun pins s σ H Q I h => wpAny_tests_nil ⟨H, I, h⟩
theorem pts_one {c : Expr} {t : TT} (h : PT X c t) : PTs X [c] t := fun pins s σ H Q I q => wpAny_tests_one (h pins s σ H Q I q)
def tComp (n : Nat) (caps : List Nat) (wi : TI) (g : TG) (tc : TT) (te : TE) : TE := fun σ H Q => wi σ H fun J H1 => ∀ Dd, H1 Dd = none → ∃ W : Nat → Nat → List V → L2.St → Hp → Prop,
  (∃ m, W 0 m [] (capS n caps σ) (upd H1 Dd (.lst []))) ∧
  ∀ i m ys σ' H', W i m ys σ' H' →
    (J.stop i H' ∧ Q (.ref Dd) H') ∨
    (J.go i H' ∧ ∀ x H2, J.yld i H' x H2 → g x σ' H2 fun σ3 H3 => tc σ3 H3 fun b H4 =>
      if b = true then te σ3 H4 fun y H5 => H5 Dd = some (.lst ys) ∧ ys.length < sizeLine ∧ ∃ m', m' < m ∧ W (i + 1) m' (ys ++ [y]) σ3 (upd H5 Dd (.lst (ys ++ [y])))
      else ∃ m', m' < m ∧ W (i + 1) m' ys σ3 H4)
theorem comp_run {elt tgt iter : Expr} {ifs : List Expr} {pos : Pos} {wi : TI} {g : TG} {tc : TT} {te : TE} {RR : Value → Addr → Result → Shared → Prop} {E : Value → Shared → Prop} (S : CompSc X N' n caps scope) (hx : ∀ e s, X.xe e s → False) (hc : X.calm = true)
    (hi : PI X tgt iter wi) (hg : ∀ C s0 H0 ex, PG (compCx X N' scope C s0 H0 ex) tgt g) (ht : ∀ C s0 H0 ex, PTs (compCx X N' scope C s0 H0 ex) ifs tc) (he : ∀ C s0 H0 ex, PE (compCx X N' scope C s0 H0 ex) elt te)
    {pins : List (Addr × Obj)} {s : Shared} {σ : L2.St} {H : Hp} {Q : VK} (I : Inv X pins σ H s) (h : tComp n caps wi g tc te σ H Q)
    (hRR : ∀ D C r s', r = .ok .next → (∃ m, s'.heap.Ns C m ∧ ∀ h', Heap.SameBut C s'.heap h' → ∃ H', Inv X pins σ H' { s' with heap := h' } ∧ Q (.ref D) H') →
      (∃ s2 fp σ' H2 H', s2.heap.objs.size = C ∧ Inv X pins σ H2 s2 ∧ (∀ b ∈ fp, FpOk X pins H2 b) ∧ Inv (compCx X N' scope s2.heap.objs.size s2 H2 fp) [] σ' H' s' ∧ Q (.ref D) H') → RR (.ref D) C r s') :
    wpAny (model X.prog X.w) X.A (eval iter X.env) (fun x s₁ => wpAny (model X.prog X.w) X.A (pyIter x) (fun it s₂ => wpAny (model X.prog X.w) X.A (newList []) (fun acc s₃ =>
      wpAny (model X.prog X.w) X.A (newFunctionEnv scope X.env.globals (closOf X.env.cells scope.names []) [] X.env.qual none .none (some X.env)) (fun cenv s₄ =>
        codeAny (model X.prog X.w) X.A (.compStart (.ListComp elt [⟨tgt, iter, ifs, 0⟩] scope pos) 0 it acc { cenv with scope := relabel scope X.env }) (RR acc cenv.locals) s₄) E s₃) E s₂) E s₁) E s := by
  refine wpAny_mono (hi pins s σ H _ I h) (fun v s1 h1 => wpAny_mono h1 (fun itv s2 h2 => ?_) fun _ _ z => (hx _ _ z).elim) fun _ _ z => (hx _ _ z).elim
  obtain ⟨it, fp, tn, J, H2, e, I2, T, st2, f2, R⟩ := h2
  subst e
  refine wpAny_newObj_type (wpAny_newFunctionEnv S.cell (by intro y hy; simp at hy) (fun h₁ hns₁ hsb₁ => ?_) S.kind)
  dsimp only at hns₁ hsb₁ ⊢
  obtain ⟨W, ⟨m0, w0⟩, turn⟩ := R s2.heap.objs.size (I2.hok.fresh (Nat.le_refl _))
  have lt2 : ∀ b ∈ fp, b < s2.heap.objs.size := fun b hb => by
    obtain ⟨o, ho, _⟩ := T.obj _ _ st2 b hb
    exact Heap.lt_size ho
  have I3 : Inv X pins σ (upd H2 s2.heap.objs.size (.lst [])) { s2 with heap := s2.heap.push { cls := .type "list", dict := none, data := .seq ([] : List Value).toArray } } :=
    I2.laid (t' := s2.toks) (fun b u e => Heap.get?_push_of_some _ e) (Nat.le_refl _) ⟨Nat.zero_le _, [], 0, .nil, Heap.get?_push_size _ rfl⟩
  generalize hs3 : ({ s2 with heap := s2.heap.push { cls := .type "list", dict := none, data := .seq ([] : List Value).toArray } } : Shared) = s3 at I3
  have es3 : s3.heap = s2.heap.push { cls := .type "list", dict := none, data := .seq ([] : List Value).toArray } := by rw [← hs3]
  rw [← es3] at hns₁ hsb₁ ⊢
  have keep3 : ∀ b o, s3.heap.get? b = some o → h₁.get? b = some o := fun b o e => hsb₁.extBut b o (Nat.ne_of_lt (Heap.lt_size e)) (Heap.get?_push_of_some _ e)
  have lt3 : ∀ b ∈ fp, b < s3.heap.objs.size := fun b hb => by rw [es3, Heap.size_push]; exact Nat.lt_succ_of_lt (lt2 b hb)
  have f3 : ∀ b ∈ fp, FpOk X pins (upd H2 s2.heap.objs.size (.lst [])) b := fun b hb => ⟨by rw [upd_ne (Nat.ne_of_lt (lt2 b hb))]; exact (f2 b hb).1, (f2 b hb).2⟩
  generalize hH3 : upd H2 s2.heap.objs.size (HO.lst []) = H3 at I3 f3 w0
  have fin3 : ∀ {σ' : L2.St} {H' : Hp} {pl : List (Addr × Obj)}, (∀ b ∈ fp, H' b = none) → (∀ p ∈ pl, False) → ∀ b ∈ fp, FpOk (compCx X N' scope s3.heap.objs.size s3 H3 fp) pl H' b := fun {σ' H' pl} hn hp b hb => by
    refine ⟨hn b hb, Nat.ne_of_lt (lt3 b hb), fun z => ?_, .inl hb, fun x c e => ?_, fun p hp' => ?_⟩
    · rcases List.mem_cons.mp (I3.stkSub b z) with z | z
      · exact (f3 b hb).2.1 z
      · exact (f3 b hb).2.2.1 z
    · have hm := PySem.mem_of_lookup e
      rcases clos_mem hm with q | ⟨q1, q2⟩
      · cases q
      · obtain ⟨c', hc'⟩ := I3.ok.has x (S.free _ q1 rfl)
        rw [hc'] at q2
        have q2' : c = c' := q2
        subst q2'
        exact (f3 b hb).2.2.2.2.1 x c hc'
    · exact (hp p (by simpa [compCx] using hp')).elim
  have toks : ∃ tk, ({ s2 with heap := h₁, toks := s2.toks + ([] : List (Str × Value)).length } : Shared) = { s3 with heap := h₁, toks := tk } := ⟨s2.toks, by rw [← hs3]; rfl⟩
  obtain ⟨tk, htk⟩ := toks
  have st4 : tn 0 h₁ := T.keep 0 s2.heap h₁ st2 fun b hb o e => keep3 b o (by rw [es3]; exact Heap.get?_push_of_some _ e)
  have I4 : Inv (compCx X N' scope s3.heap.objs.size s3 H3 fp) [] (capS n caps σ) H3 { s3 with heap := h₁, toks := tk } := comp_start S I3 f3 lt3 hns₁ keep3
  have loop : codeAny (model X.prog X.w) X.A (.compLoop (.ListComp elt [⟨tgt, iter, ifs, 0⟩] scope pos) 0 (.ref it) (.ref s2.heap.objs.size) (compEnvC scope (closOf X.env.cells scope.names []) s3.heap.objs.size X.env)) (RR (.ref s2.heap.objs.size) s3.heap.objs.size) { s3 with heap := h₁, toks := tk } := by
    refine comp_loop (fun k s' => ∃ i ys σ' H', Inv (compCx X N' scope s3.heap.objs.size s3 H3 fp) [] σ' H' s' ∧ tn i s'.heap ∧ (∀ b ∈ fp, H' b = none) ∧ W i k ys σ' H') ?_ m0 ⟨0, [], _, H3, I4, st4, fun b hb => (f3 b hb).1, w0⟩
    rintro k s5 ⟨i, ys, σ5, H5, I5, st5, fr5, w5⟩
    have pz : ∀ p ∈ ([] : List (Addr × Obj)), False := fun p hp => by cases hp
    rcases turn i k ys σ5 H5 w5 with ⟨stop, qn⟩ | ⟨go, step⟩
    · refine wpAny_mono (T.done (compCx X N' scope s3.heap.objs.size s3 H3 fp) rfl rfl rfl hc i [] s5 σ5 H5 (fun _ _ => False) I5 (fin3 (σ' := σ5) fr5 pz) st5 stop) (fun r s6 ⟨hr, I6⟩ => ?_) fun _ _ z => z
      subst hr
      obtain ⟨m6, hn6, _⟩ := I6.loc
      refine hRR _ _ _ s6 rfl ⟨m6, hn6, fun h' sb => ⟨H5, comp_back I3 f3 I6 sb, qn⟩⟩ ⟨s3, fp, σ5, H3, H5, rfl, I3, f3, I6, qn⟩
    · refine wpAny_mono (T.item (compCx X N' scope s3.heap.objs.size s3 H3 fp) rfl rfl rfl hc i [] s5 σ5 H5 (fun _ _ => False) I5 (fin3 (σ' := σ5) fr5 pz) st5 go) (fun r s6 ⟨u, hr, h6⟩ => ?_) fun _ _ z => z
      subst hr
      refine wpAny_mono h6 (fun _ s7 ⟨x, H7, I7, r7, y7, st7, fr7⟩ => ?_) fun _ _ z => z
      have I7' := I7.pinned (fin3 (σ' := σ5) fr7 pz) (T.obj _ _ st7)
      refine wpAny_mono (hg _ _ _ _ _ s7 σ5 H7 x u _ I7' r7 (step x H7 y7)) (fun _ s8 ⟨σ8, H8, I8, q8⟩ => ?_) fun _ _ z => z
      refine wpAny_mono (ht _ _ _ _ _ s8 σ8 H8 _ I8 q8) (fun ok s9 ⟨H9, I9, q9⟩ => ?_) fun _ _ z => z
      have again : ∀ {σ' : L2.St} {H' : Hp} {s' : Shared}, Inv (compCx X N' scope s3.heap.objs.size s3 H3 fp) ([] ++ pinsAt fp s7.heap) σ' H' s' → Inv (compCx X N' scope s3.heap.objs.size s3 H3 fp) [] σ' H' s' ∧ tn (i + 1) s'.heap ∧ ∀ b ∈ fp, H' b = none := fun {σ' H' s'} I' => by
        refine ⟨I'.unpinned, T.keep _ _ _ st7 fun b hb o e => (I'.pin (b, o) (List.mem_append_right _ (List.mem_append_right _ (mem_pinsAt hb e)))).1, fun b hb => ?_⟩
        obtain ⟨o, e, d⟩ := T.obj _ _ st7 b hb
        exact (I'.pin (b, o) (List.mem_append_right _ (List.mem_append_right _ (mem_pinsAt hb e)))).2.1
      cases ok with
      | false =>
        rw [if_neg Bool.false_ne_true] at q9 ⊢
        obtain ⟨m', hm, w'⟩ := q9
        obtain ⟨a1, a2, a3⟩ := again I9
        exact ⟨m', hm, i + 1, ys, σ8, H9, a1, a2, a3, w'⟩
      | true =>
        rw [if_pos rfl] at q9 ⊢
        refine wpAny_mono (he _ _ _ _ _ s9 σ8 H9 _ I9 q9) (fun y s10 ⟨vy, H10, I10, r10, q10, z10, m', hm, w'⟩ => ?_) fun _ _ z => z
        refine wpAny_mono (mt_append (X := compCx X N' scope s3.heap.objs.size s3 H3 fp) _ s10 σ8 H10 (.ref s2.heap.objs.size) [vy] _ _ (fun v H' => v = .non ∧ H' = upd H10 s2.heap.objs.size (.lst (ys ++ [vy]))) I10 rfl (.cons r10 .nil) ⟨_, ys, vy, rfl, rfl, q10, z10, rfl, rfl⟩) (fun _ s11 ⟨v11, H11, I11, r11, e11, e12⟩ => ?_) fun _ _ z => z
        subst e12
        obtain ⟨a1, a2, a3⟩ := again I11
        exact ⟨m', hm, i + 1, ys ++ [vy], σ8, _, a1, a2, a3, w'⟩
  show codeAny (model X.prog X.w) X.A _ _ ({ s2 with heap := h₁, toks := s2.toks + ([] : List (Str × Value)).length } : Shared)
  rw [htk]
  exact codeAny_compStart_list loop (T.self _ _ _ _ _ st4 loop)
end
end G
namespace G
open PySem PySem.Spec PyProof.Rows L2
section
variable {X : Cx}
def tgJ (K : PySem.W.Frag) (f : D → Rho → Option Rho) : TG := fun v σ H Q => ∃ d ρ ρ' H0 Hf, f d ρ = some ρ' ∧ Same Hf H ∧ Slots K H0 ρ σ H Hf ∧ Rep K Hf d v ∧ ∀ σ', Slots K H0 ρ' σ' H Hf → Q σ' H
def JG (X : Cx) (tg : Expr) (f : D → Rho → Option Rho) : Prop := PG X tg (tgJ X.K f)
def tgJs (K : PySem.W.Frag) (f : List D → Rho → Option Rho) : TGs := fun vs σ H Q => ∃ ds ρ ρ' H0 Hf, f ds ρ = some ρ' ∧ Same Hf H ∧ Slots K H0 ρ σ H Hf ∧ Reps K Hf ds vs ∧ ∀ σ', Slots K H0 ρ' σ' H Hf → Q σ' H
def JGs (X : Cx) (tg : List Expr) (f : List D → Rho → Option Rho) : Prop := PGs X tg (tgJs X.K f)
def gSet (i : Nat) : D → Rho → Option Rho := fun d ρ => some (ρ.set i (some (.val d)))
theorem jg_name (i : Nat) {x : Str} {pos : Pos} (hN : X.N.Nodup) (hi : X.N[i]? = some x := by rfl) (hx : Loc X.env.scope x := by first | exact Or.inl rfl | exact Or.inr rfl) (hf : X.fn x = true ∨ X.env.scope.names.lookup x = some .local := by first | exact .inl rfl | exact .inr rfl) : JG X (.Name x pos) (gSet i) := by
  intro pins s σ H v u Q I r ⟨d, ρ, ρ', H0, Hf, e, ss, sl, rp, k⟩
  cases e
  exact pg_name hN hi hx hf pins s σ H v u Q I r (k _ (sl.set rp))
def gsNil : List D → Rho → Option Rho := fun ds ρ => match ds with
  | [] => some ρ
  | _ => none
def gsCons (f : D → Rho → Option Rho) (g : List D → Rho → Option Rho) : List D → Rho → Option Rho := fun ds ρ => match ds with
  | d :: r => (f d ρ).bind fun ρ' => g r ρ'
  | [] => none
theorem jgs_nil : JGs X [] gsNil := by
  intro pins s σ H vs us Q I r ⟨ds, ρ, ρ', H0, Hf, e, ss, sl, rp, k⟩
  cases ds with
  | nil => cases e; exact pgs_nil pins s σ H vs us Q I r ⟨rp, k _ sl⟩
  | cons d ds => cases e
theorem jgs_cons {e : Expr} {es : List Expr} {f : D → Rho → Option Rho} {g : List D → Rho → Option Rho} (h1 : JG X e f) (h2 : JGs X es g) (hs : (assignEach (e :: es) X.env).map (·.2) = assign e X.env :: (assignEach es X.env).map (·.2) := by rfl) : JGs X (e :: es) (gsCons f g) := by
  intro pins s σ H vs us Q I r ⟨ds, ρ, ρ', H0, Hf, e, ss, sl, rp, k⟩
  cases ds with
  | nil => cases e
  | cons d ds =>
    obtain ⟨ρ1, e1, e2⟩ := Option.bind_eq_some_iff.mp e
    obtain ⟨v, vr, rfl, q1, q2⟩ := rp
    exact pgs_cons h1 h2 hs pins s σ H _ us Q I r ⟨v, vr, rfl, d, ρ, ρ1, H0, Hf, e1, ss, sl, q1, fun σ' sl' => ⟨ds, ρ1, ρ', H0, Hf, e2, ss, sl', q2, k⟩⟩
def gTupD (n : Nat) (g : List D → Rho → Option Rho) : D → Rho → Option Rho := fun d ρ => match d with
  | .tuple ds => if ds.length = n then g ds ρ else none
  | _ => none
theorem jg_tup {es : List Expr} {k n : Nat} {pos : Pos} {g : List D → Rho → Option Rho} (h : JGs X es g) (hc : X.calm = true := by rfl) (hn : (assignEach es X.env).length = n := by rfl) (hst : (assignEach es X.env).findIdx? (·.1) = none := by rfl) : JG X (.Tuple es k pos) (gTupD n g) := by
  intro pins s σ H v u Q I r ⟨d, ρ, ρ', H0, Hf, e, ss, sl, rp, kk⟩
  cases d with
  | tuple ds =>
    simp only [gTupD] at e
    split at e
    · rename_i hl
      obtain ⟨a, vs, rfl, q1, q2⟩ := rp
      exact pg_tup hc h hn hst pins s σ H _ u Q I r ⟨a, vs, rfl, sqT_mono ss q1, by rw [q2.length, hl], ds, ρ, ρ', H0, Hf, e, ss, sl, q2, kk⟩
    · cases e
  | _ => cases e
def Yields (K : PySem.W.Frag) (J : It) (ds : List D) (Hf1 : Hp) : Prop := ∀ (i : Nat) (H Hf : Hp), Same Hf1 Hf → Same Hf H → (ds.length ≤ i → J.stop i H) ∧ ∀ d, ds[i]? = some d → J.go i H ∧ ∀ x H', J.yld i H x H' → ∃ Hf', Grow H Hf H' Hf' ∧ Rep K Hf' d x
def tiJ (K : PySem.W.Frag) (ρ : Rho) (ds : List D) : TI := fun σ H R => ∃ H0 Hf, Same Hf H ∧ Slots K H0 ρ σ H Hf ∧ ∀ J H' Hf', Grow H Hf H' Hf' → Yields K J ds Hf' → R J H'
def JI (X : Cx) (tg iter : Expr) (f : Rho → Option (List D)) : Prop := ∀ ρ ds, f ρ = some ds → PI X tg iter (tiJ X.K ρ ds)
theorem pi_imp {tg iter : Expr} {t t' : TI} (h : PI X tg iter t) (i : ∀ σ H R, t' σ H R → t σ H R) : PI X tg iter t' := fun pins s σ H R I q => h pins s σ H R I (i σ H R q)
def iSeq (f : DE) : Rho → Option (List D) := fun ρ => (f ρ).bind fun d => match d with
  | .list ds => some ds
  | .tuple ds => some ds
  | _ => none
theorem ji_seq {tg e : Expr} {f : DE} (h : JE X e f) : JI X tg e (iSeq f) := fun ρ ds q => by
  obtain ⟨d, e1, e2⟩ := Option.bind_eq_some_iff.mp q
  cases d with
  | list xs =>
    cases e2
    refine pi_imp (pi_list (h ρ _ e1)) fun σ H R ⟨H0, Hf, s, sl, k⟩ => ⟨H0, Hf, s, sl, fun v H1 Hf1 g1 ⟨a, vs, h1, h2, h3⟩ => ⟨a, h1, ⟨vs, sqL_mono g1.sub h2⟩, k _ H1 Hf1 g1 ?_⟩⟩
    intro i H' Hf' sa sb
    have q' : SqL X.K H' a vs := sqL_mono (sa.trans sb) h2
    refine ⟨fun hi => ⟨vs, q', by rw [h3.length]; exact hi⟩, fun d hd => ?_⟩
    obtain ⟨v, w1, w2⟩ := h3.get hd
    refine ⟨⟨vs, v, q', w1⟩, fun x H'' hy => ?_⟩
    obtain ⟨rfl, hy⟩ := hy
    have := hy vs q'
    rw [w1] at this; cases this
    exact ⟨Hf', Grow.refl sb, w2.mono sa⟩
  | tuple xs =>
    cases e2
    refine pi_imp (pi_tup (h ρ _ e1)) fun σ H R ⟨H0, Hf, s, sl, k⟩ => ⟨H0, Hf, s, sl, fun v H1 Hf1 g1 ⟨a, vs, h1, h2, h3⟩ => ⟨a, h1, ⟨vs, sqT_mono g1.sub h2⟩, k _ H1 Hf1 g1 ?_⟩⟩
    intro i H' Hf' sa sb
    have q' : SqT X.K H' a vs := sqT_mono (sa.trans sb) h2
    refine ⟨fun hi => ⟨vs, q', by rw [h3.length]; exact hi⟩, fun d hd => ?_⟩
    obtain ⟨v, w1, w2⟩ := h3.get hd
    refine ⟨⟨vs, v, q', w1⟩, fun x H'' hy => ?_⟩
    obtain ⟨rfl, hy⟩ := hy
    have := hy vs q'
    rw [w1] at this; cases this
    exact ⟨Hf', Grow.refl sb, w2.mono sa⟩
  | _ => cases e2
def rangeD (lo hi : Int) : List D := (List.range (hi - lo).toNat).map fun (i : Nat) => PyData.int (lo + i)
theorem yields_range {K : PySem.W.Frag} {lo hi : Int} {Hf1 : Hp} : Yields K (Itr lo (hi - lo).toNat) (rangeD lo hi) Hf1 := by
  intro i H Hf sa sb
  have hl : (rangeD lo hi).length = (hi - lo).toNat := by simp [rangeD]
  refine ⟨fun h => by rw [hl] at h; exact h, fun d hd => ?_⟩
  have hi' : i < (hi - lo).toNat := by
    have := (List.getElem?_eq_some_iff.mp hd).1
    rw [hl] at this; exact this
  refine ⟨hi', fun x H' hy => ?_⟩
  obtain ⟨e1, e2⟩ := hy
  subst e1 e2
  have : d = .int (lo + i) := by
    have : (rangeD lo hi)[i]? = some (.int (lo + i)) := by simp [rangeD, hi']
    rw [hd] at this; cases this; rfl
  subst this
  exact ⟨Hf, Grow.refl sb, rfl⟩
def iRan1 (f : DE) : Rho → Option (List D) := fun ρ => (f ρ).bind fun d => match d with
  | .int j => if -(2 ^ 62) ≤ j ∧ j < 2 ^ 62 then some (rangeD 0 j) else none
  | _ => none
theorem ji_range1 {tg e : Expr} {f : DE} {p pos : Pos} (hg : Gl X "range") (hm : X.mg "range" = none) (h : JE X e f) (hs : starEach [e] X.env = [(false, eval e X.env)] := by rfl) : JI X tg (.Call (.Name "range" p) [e] [] pos) (iRan1 f) := fun ρ ds q => by
  obtain ⟨d, e1, e2⟩ := Option.bind_eq_some_iff.mp q
  split at e2
  · split at e2
    · rename_i j c
      cases e2
      refine pi_imp (pi_range1 hg hm (pa_cons (h ρ _ e1) pa_nil hs) hs) fun σ H R ⟨H0, Hf, s, sl, k⟩ => ⟨H0, Hf, s, sl, fun v H1 Hf1 g1 r => ⟨j, by rw [show v = _ from r], c.1, c.2, k _ H1 Hf1 g1 ?_⟩⟩
      have := yields_range (K := X.K) (lo := 0) (hi := j) (Hf1 := Hf1)
      rw [Int.sub_zero] at this
      exact this
    · cases e2
  · cases e2
theorem Grow.nofr {H Hf H' Hf' : Hp} {a : Addr} {o : HO} (g : Grow H Hf H' Hf') (h : H a = some o) (n : Hf a = none) : Hf' a = none := by
  cases q : Hf' a with
  | none => rfl
  | some u =>
    rcases g.new a (by rw [q]; simp) with z | z
    · exact absurd n z
    · rw [h] at z; cases z
def capD (n : Nat) (caps : List Nat) (ρ : Rho) : Rho := List.replicate n none ++ caps.map fun j => match ρ[j]? with
  | some (some (.val d)) => some (.val d)
  | _ => none
def compD (g : D → Rho → Option Rho) (c : Rho → Option Bool) (e : DE) : List D → Rho → Option (List D)
  | [], _ => some []
  | d :: ds, ρ => (g d ρ).bind fun ρ1 => (c ρ1).bind fun b => if b then (e ρ1).bind fun y => (compD g c e ds ρ1).map fun r => y :: r else compD g c e ds ρ1
def nComp (n : Nat) (caps : List Nat) (src : Rho → Option (List D)) (g : D → Rho → Option Rho) (c : Rho → Option Bool) (e : DE) : Rho → Option (List D) := fun ρ => (src ρ).bind fun ds => if ds.length ≤ 16777216 then compD g c e ds (capD n caps ρ) else none
def tcAny (K : PySem.W.Frag) (c : Rho → Option Bool) : TT := fun σ H Q => ∃ ρ b, c ρ = some b ∧ ∃ H0 Hf, Same Hf H ∧ Slots K H0 ρ σ H Hf ∧ ∀ H' Hf', Grow H Hf H' Hf' → Q b H'
def teAny (K : PySem.W.Frag) (e : DE) : TE := fun σ H Q => ∃ ρ d, e ρ = some d ∧ tJ K ρ (fun _ v _ Hf => Rep K Hf d v) σ H Q
def JTs (X : Cx) (ifs : List Expr) (c : Rho → Option Bool) : Prop := PTs X ifs (tcAny X.K c)
def cTrue : Rho → Option Bool := fun _ => some true
theorem jts_nil : JTs X [] cTrue := fun pins s σ H Q I ⟨ρ, b, e, H0, Hf, ss, sl, k⟩ => by
  cases e
  exact pts_nil pins s σ H Q I (k H Hf (Grow.refl ss))
theorem jts_one {e : Expr} {c : Rho → Option Bool} (h : JT X e c) : JTs X [e] c := fun pins s σ H Q I ⟨ρ, b, e, H0, Hf, ss, sl, k⟩ => pts_one (h ρ b e) pins s σ H Q I ⟨H0, Hf, ss, sl, k⟩
theorem caps_slots {K : PySem.W.Frag} {n : Nat} {caps : List Nat} {H0 H H1 H' Hf : Hp} {ρ : Rho} {σ : L2.St} (sl : Slots K H0 ρ σ H Hf) : Slots K H1 (capD n caps ρ) (capS n caps σ) H' Hf := by
  have noown : ∀ (i : Nat) (ds : List D), (capD n caps ρ)[i]? ≠ some (some (.own ds)) := fun i ds h => by
    unfold capD at h
    rcases Nat.lt_or_ge i n with q | q
    · rw [List.getElem?_append_left (by simpa using q), List.getElem?_replicate, if_pos q] at h; cases h
    · rw [List.getElem?_append_right (by simpa using q), List.getElem?_map] at h
      cases hj : caps[i - (List.replicate n (none : Option B)).length]? with
      | none => rw [hj] at h; cases h
      | some j =>
        rw [hj] at h
        simp only [Option.map_some, Option.some.injEq] at h
        split at h <;> cases h
  refine ⟨by simp [capD, capS], fun i b e => ?_, fun i j ds es a h1 => (noown i ds h1).elim⟩
  unfold capD at e
  unfold capS
  rcases Nat.lt_or_ge i n with q | q
  · rw [List.getElem?_append_left (by simpa using q), List.getElem?_replicate, if_pos q] at e; cases e
  · rw [List.getElem?_append_right (by simpa using q), List.getElem?_map] at e
    rw [List.getElem?_append_right (by simpa using q), List.getElem?_map]
    simp only [List.length_replicate] at e ⊢
    cases hj : caps[i - n]? with
    | none => rw [hj] at e; cases e
    | some j =>
      rw [hj] at e
      simp only [Option.map_some, Option.some.injEq] at e ⊢
      split at e
      · rename_i d hd
        cases e
        obtain ⟨v, h1, h2⟩ := sl.is j _ hd
        exact ⟨v, by rw [h1]; rfl, h2⟩
      · cases e
theorem comp_reads {K : PySem.W.Frag} {n : Nat} {caps : List Nat} {ρ : Rho} {src : Rho → Option (List D)} {g : D → Rho → Option Rho} {c : Rho → Option Bool} {e : DE} {out : List D} (h : nComp n caps src g c e ρ = some out) :
    ∃ ds, src ρ = some ds ∧ ∀ σ H Q, tJ K ρ (fun H v H' Hf' => ∃ a vs, v = .ref a ∧ H a = none ∧ H' a = some (.lst vs) ∧ Hf' a = none ∧ Reps K Hf' out vs) σ H Q → tComp n caps (tiJ K ρ ds) (tgJ K g) (tcAny K c) (teAny K e) σ H Q := by
  obtain ⟨ds, e1, e2⟩ := Option.bind_eq_some_iff.mp h
  split at e2
  · rename_i hz
    refine ⟨ds, e1, fun σ H Q ⟨H0, Hf, s, sl, k⟩ => ⟨H0, Hf, s, sl, fun J H1 Hf1 g1 Y Dd hD => ?_⟩⟩
    refine ⟨fun i m ys σ' H' => m = ds.length - i ∧ i ≤ ds.length ∧ ∃ Hf' ρ' o1 o2, Grow H1 Hf1 H' Hf' ∧ H' Dd = some (.lst ys) ∧ Hf' Dd = none ∧ Slots K (upd H1 Dd (.lst [])) ρ' σ' H' Hf' ∧ Reps K Hf' o1 ys ∧ o1.length ≤ i ∧ compD g c e (ds.drop i) ρ' = some o2 ∧ o1 ++ o2 = out,
      ⟨ds.length, by simp, Nat.zero_le _, Hf1, capD n caps ρ, [], out, Grow.made g1.sub hD, upd_same, g1.sub.free hD, caps_slots (sl.grow g1), rfl, Nat.le_refl _, by simpa using e2, rfl⟩, ?_⟩
    rintro i m ys σ' H' ⟨rfl, hi, Hf', ρ', o1, o2, gr, hd1, hd2, sl', rp, ho, ec, eo⟩
    obtain ⟨Ys, Yg⟩ := Y i H' Hf' gr.ext gr.sub
    rcases Nat.lt_or_ge i ds.length with hlt | hge
    · right
      obtain ⟨go, yl⟩ := Yg ds[i] (by simp [hlt])
      refine ⟨go, fun x H2 hy => ?_⟩
      obtain ⟨Hf2, g2, r2⟩ := yl x H2 hy
      rw [List.drop_eq_getElem_cons hlt] at ec
      obtain ⟨ρ1, c1, ec⟩ := Option.bind_eq_some_iff.mp ec
      obtain ⟨b, c2, ec⟩ := Option.bind_eq_some_iff.mp ec
      refine ⟨ds[i], ρ', ρ1, _, Hf2, c1, g2.sub, sl'.grow g2, r2, fun σ3 sl3 => ⟨ρ1, b, c2, _, Hf2, g2.sub, sl3, fun H4 Hf4 g4 => ?_⟩⟩
      have gr4 := (gr.trans g2).trans g4
      have hd4 : H4 Dd = some (.lst ys) := g4.big _ _ (g2.big _ _ hd1)
      have hf4 : Hf4 Dd = none := (g2.trans g4).nofr hd1 hd2
      have rp4 := rp.mono (g2.trans g4).ext
      cases b with
      | false =>
        rw [if_neg Bool.false_ne_true] at ec
        refine iteF ?_
        exact ⟨ds.length - (i + 1), by omega, rfl, hlt, Hf4, ρ1, o1, o2, gr4, hd4, hf4, sl3.grow g4, rp4, by omega, ec, eo⟩
      | true =>
        rw [if_pos rfl] at ec
        refine iteT ?_
        obtain ⟨y, c3, ec⟩ := Option.bind_eq_some_iff.mp ec
        obtain ⟨o3, c4, rfl⟩ := Option.map_eq_some_iff.mp ec
        refine ⟨ρ1, y, c3, _, Hf4, g4.sub, sl3.grow g4, fun v H5 Hf5 g5 r5 => ⟨g5.big _ _ hd4, ?_, ?_⟩⟩
        · rw [rp.length, sizeLine_eq]; omega
        · have hf5 : Hf5 Dd = none := g5.nofr hd4 hf4
          have gr5 := gr4.trans g5
          refine ⟨ds.length - (i + 1), by omega, rfl, hlt, Hf5, ρ1, o1 ++ [y], o3, ⟨fun b u q => ?_, fun b u q => ?_, gr5.ext, gr5.new⟩, upd_same, hf5, ?_, (rp4.mono g5.ext).append ⟨v, [], rfl, r5, rfl⟩, by simp; omega, c4, by simp [← eo]⟩
          · rw [upd_ne (ne_of_none q hD)]; exact gr5.big b u q
          · rw [upd_ne (ne_of_none q hf5)]; exact gr5.sub b u q
          · have sl5 := (sl3.grow g4).grow g5
            refine ⟨sl5.len, fun j bb q => ?_, sl5.apart⟩
            obtain ⟨w, q1, q2⟩ := sl5.is j bb q
            refine ⟨w, q1, ?_⟩
            cases bb with
            | val d => exact q2
            | own dd =>
              obtain ⟨a, vs, z1, z2, z3, z4, z5⟩ := q2
              have ne : a ≠ Dd := fun z => by rw [z, upd_same] at z4; cases z4
              exact ⟨a, vs, z1, by rw [upd_ne ne]; exact z2, z3, z4, z5⟩
    · left
      have : i = ds.length := by omega
      subst this
      rw [List.drop_length] at ec
      cases ec
      rw [List.append_nil] at eo
      subst eo
      exact ⟨Ys (Nat.le_refl _), k _ H' Hf' (g1.trans gr) ⟨Dd, ys, rfl, g1.big.free hD, hd1, hd2, rp⟩⟩
  · cases e2
end
end G
namespace G
open PySem PySem.Spec PyProof.Rows L2
section
variable {X : Cx}
def compChk (N N' : List Str) (n : Nat) (caps : List Nat) (sc scope : Scope) : Bool :=
  (match scope.kind with | .function => true | _ => false) &&
  (scope.names.all fun y => (match y.2 with | .cell => false | .local => scope.names.lookup y.1 == some .local | .free => sc.names.lookup y.1 == some .cell || sc.names.lookup y.1 == some .free | _ => true)) &&
  (N'.length == n + caps.length) &&
  ((List.range caps.length).all fun i => match caps[i]? with
    | some j => (match N[j]? with | some x => N'[n + i]? == some x && scope.names.lookup x == some .free | none => false)
    | none => true)
theorem compSc_of {N N' : List Str} {n : Nat} {caps : List Nat} {sc scope : Scope} (h : compChk N N' n caps sc scope = true) (hN : X.N = N) (hS : X.env.scope = sc) : CompSc X N' n caps scope := by
  subst hN hS
  unfold compChk at h
  simp only [Bool.and_eq_true, List.all_eq_true] at h
  obtain ⟨⟨⟨h1, h2⟩, h3⟩, h4⟩ := h
  refine ⟨?_, fun y hy e => ?_, fun y hy e => ?_, fun y hy e => ?_, by simpa using h3, fun i j e => ?_⟩
  · cases q : scope.kind <;> rw [q] at h1 <;> first | rfl | cases h1
  · have := h2 y hy
    rw [e] at this; cases this
  · have := h2 y hy
    rw [e] at this; simpa using this
  · have := h2 y hy
    rw [e] at this; simpa using this
  · have hi : i < caps.length := (List.getElem?_eq_some_iff.mp e).1
    have := h4 i (by simpa using hi)
    rw [e] at this
    simp only at this
    cases q : X.N[j]? with
    | none => rw [q] at this; cases this
    | some x =>
      rw [q] at this
      simp only [Bool.and_eq_true] at this
      exact ⟨x, rfl, by simpa using this.1, by simpa using this.2⟩
theorem clos_ok {N' : List Str} {n : Nat} {caps : List Nat} {scope : Scope} {pins : List (Addr × Obj)} {σ : L2.St} {H : Hp} {s : Shared} (S : CompSc X N' n caps scope) (I : Inv X pins σ H s) : closureFor scope X.env = pure (closOf X.env.cells scope.names []) :=
  clos_eq fun y hy e => I.ok.has y.1 (S.free y hy e)
theorem jn_comp {N' : List Str} {n : Nat} {caps : List Nat} {scope : Scope} {elt tgt iter : Expr} {ifs : List Expr} {pos : Pos} {src : Rho → Option (List D)} {g : D → Rho → Option Rho} {c : Rho → Option Bool} {e : DE} (S : CompSc X N' n caps scope) (hx : ∀ e s, X.xe e s → False)
    (hi : JI X tgt iter src) (hg : ∀ C s0 H0 ex, JG (compCx X N' scope C s0 H0 ex) tgt g) (ht : ∀ C s0 H0 ex, JTs (compCx X N' scope C s0 H0 ex) ifs c) (he : ∀ C s0 H0 ex, JE (compCx X N' scope C s0 H0 ex) elt e)
    (hc : X.calm = true := by rfl) (hs : ∀ x, foldedSetIterable iter X.env x = pure x := by intro _; rfl) : JN X (.ListComp elt [⟨tgt, iter, ifs, 0⟩] scope pos) (nComp n caps src g c e) := by
  intro ρ out h
  obtain ⟨ds, e1, k⟩ := comp_reads (K := X.K) h
  intro pins s σ H Q I t
  rw [eval_ListComp]
  refine wpAny_comprehension_free (use := none) rfl hs (clos_ok S I) S.kind S.loc (comp_run (RR := fun acc C => compPost (model X.prog X.w) X.A X.xe none (EP X pins σ Q) acc C) S hx hc (hi ρ ds e1) (g := tgJ X.K g) (tc := tcAny X.K c) (te := teAny X.K e) hg ht (fun C s0 H0 ex pins s σ H Q I ⟨ρ, d, e, t⟩ => he C s0 H0 ex ρ d e pins s σ H Q I t) I (k σ H Q t) ?_)
  intro Dd C r s' hr ⟨m, hn, kk⟩ _
  subst hr
  exact ⟨m, hn, fun h' sb => let ⟨H', I', q⟩ := kk h' sb; ⟨.ref Dd, H', I', rfl, q⟩⟩
def sSetN (i : Nat) (f : Rho → Option (List D)) : DS := fun ρ => (f ρ).map fun ds => .nx (ρ.set i (some (.val (.list ds))))
theorem js_par {i j : Nat} {x y : Str} {a b : Expr} {f : Rho → Option (List D)} {px py pt : Pos} {kt k2 pt2} {pos : Pos} (hN : X.N.Nodup) (ha : JA X [a, b] f) (hw : swappedStores [.Tuple [.Name x px, .Name y py] kt pt] (.Tuple [a, b] k2 pt2) X.env = pure (some [x, y])) (hij : i ≠ j)
    (hi : X.N[i]? = some x := by rfl) (hj : X.N[j]? = some y := by rfl) (hx : X.env.scope.names.lookup x = some .local := by rfl) (hy : X.env.scope.names.lookup y = some .local := by rfl) (hc : X.calm = true := by rfl)
    (hs : swapsWithSole [.Tuple [.Name x px, .Name y py] kt pt] (.Tuple [a, b] k2 pt2) pos.line X.env = pure false := by rfl) : JS X (.Assign [.Tuple [.Name x px, .Name y py] kt pt] (.Tuple [a, b] k2 pt2) pos) (sPar i j f) := fun ρ fl q H0 Hf0 => by
  obtain ⟨ds, e1, e2⟩ := Option.bind_eq_some_iff.mp q
  split at e2
  · cases e2
    refine ps_imp (ps_par hc hN hi hj hij hx hy (fun pos pins s σ H Q I t => ha.run ρ _ e1 pos pins s σ H Q I t) hw hs) fun En σ H ⟨Hf, at', e⟩ => ⟨H0, Hf, at'.gr.sub, at'.sl, fun vs H' Hf' gg rp => ?_⟩
    obtain ⟨v, r, rfl, r1, w, r', rfl, r2, r3⟩ := rp
    cases r3
    exact ⟨v, w, rfl, e _ H' Hf' ⟨at'.gr.trans gg, ((at'.sl.grow gg).set r1).set r2⟩ gg.ext⟩
  · cases e2
def sAsg (f : DE) (g : D → Rho → Option Rho) : DS := fun ρ => (f ρ).bind fun d => (g d ρ).map Fl.nx
def tsAny (K : PySem.W.Frag) (H0 Hf0 : Hp) (f : DS) : TS := fun En σ H => ∃ ρ fl, f ρ = some fl ∧ tJS K H0 Hf0 ρ fl En σ H
theorem pss_any {sts : List Stmt} {f : DS} {H0 Hf0 : Hp} (h : JSs X sts f) : PSs X sts (tsAny X.K H0 Hf0 f) := fun pins s σ H En I ⟨ρ, fl, e, t⟩ => h ρ fl e H0 Hf0 pins s σ H En I t
theorem pt_any {e : Expr} {c : Rho → Option Bool} (h : JT X e c) : PT X e (tcAny X.K c) := fun pins s σ H Q I ⟨ρ, b, e, t⟩ => h ρ b e pins s σ H Q I t
def iterW (t : Rho → Option Bool) (f : DS) : Nat → DS
  | 0 => fun _ => none
  | n + 1 => fun ρ => (t ρ).bind fun c => if c then (f ρ).bind fun fl => match fl with
      | .nx ρ' => iterW t f n ρ'
      | .ct ρ' => iterW t f n ρ'
      | .bk ρ' => some (.nx ρ')
      | .rt d => some (.rt d)
    else some (.nx ρ)
theorem iterW_succ {t : Rho → Option Bool} {f : DS} : ∀ {n : Nat} {ρ : Rho} {fl : Fl}, iterW t f n ρ = some fl → iterW t f (n + 1) ρ = some fl
  | 0, _, _, h => by cases h
  | n + 1, ρ, fl, h => by
    obtain ⟨c, e1, h⟩ := Option.bind_eq_some_iff.mp h
    show (t ρ).bind _ = _
    rw [e1]
    cases c with
    | false => exact h
    | true =>
      obtain ⟨fl1, e2, h⟩ := Option.bind_eq_some_iff.mp h
      show (f ρ).bind _ = _
      rw [e2]
      cases fl1 with
      | nx ρ' => exact iterW_succ (n := n) h
      | ct ρ' => exact iterW_succ (n := n) h
      | bk ρ' => exact h
      | rt d => exact h
theorem iterW_le {t : Rho → Option Bool} {f : DS} {n m : Nat} {ρ : Rho} {fl : Fl} (h : iterW t f n ρ = some fl) (l : n ≤ m) : iterW t f m ρ = some fl := by
  induction l with
  | refl => exact h
  | step _ ih => exact iterW_succ ih
open Classical in
noncomputable def sWhile (t : Rho → Option Bool) (f : DS) : DS := fun ρ => if h : ∃ fl n, iterW t f n ρ = some fl then some h.choose else none
theorem sWhile_of {t : Rho → Option Bool} {f : DS} {n : Nat} {ρ : Rho} {fl : Fl} (h : iterW t f n ρ = some fl) : sWhile t f ρ = some fl := by
  have hx : ∃ fl n, iterW t f n ρ = some fl := ⟨fl, n, h⟩
  unfold sWhile
  rw [dif_pos hx]
  obtain ⟨m, hm⟩ := hx.choose_spec
  have h1 := iterW_le h (Nat.le_max_left n m)
  have h2 := iterW_le hm (Nat.le_max_right n m)
  rw [h1] at h2
  exact h2.symm
theorem of_sWhile {t : Rho → Option Bool} {f : DS} {ρ : Rho} {fl : Fl} (h : sWhile t f ρ = some fl) : ∃ n, iterW t f n ρ = some fl := by
  unfold sWhile at h
  split at h
  · rename_i hx
    cases h
    exact hx.choose_spec
  · cases h
theorem js_while {c : Expr} {body : List Stmt} {t : Rho → Option Bool} {f : DS} {pos : Pos} (hc : JT X c t) (hb : JSs X body f) (hp : PassesOwn (model X.prog X.w) X.A X.env X.xe := by exact PassesOwn.never) : JS X (.While c body [] pos) (sWhile t f) := fun ρ fl q H0 Hf0 => by
  obtain ⟨n, hn⟩ := of_sWhile q
  refine ps_imp (ps_while hp (pt_any hc) (pss_any (H0 := H0) (Hf0 := Hf0) hb)) fun En σ H ⟨Hf, a, e⟩ => ?_
  refine ⟨fun m σ H => ∃ Hf' ρ', At X.K H0 Hf0 ρ' σ H Hf' ∧ Same Hf Hf' ∧ iterW t f m ρ' = some fl, ⟨n, Hf, ρ, a, Same.refl _, hn⟩, ?_⟩
  rintro m σ' H' ⟨Hf', ρ', a', s', hm⟩
  cases m with
  | zero => cases hm
  | succ m =>
    obtain ⟨b, e1, hm⟩ := Option.bind_eq_some_iff.mp hm
    refine ⟨ρ', b, e1, H0, Hf', a'.gr.sub, a'.sl, fun H2 Hf2 g2 => ?_⟩
    have a2 := a'.grow g2
    have s2 := s'.trans g2.ext
    cases b with
    | false =>
      have : fl = .nx ρ' := by simpa using hm.symm
      subst this
      exact iteF (e σ' H2 Hf2 a2 s2)
    | true =>
      obtain ⟨fl1, e2, hm⟩ := Option.bind_eq_some_iff.mp (show (f ρ').bind _ = some fl from hm)
      refine iteT ⟨fun σ3 H3 => ∃ m', m' < m + 1 ∧ ∃ Hf' ρ', At X.K H0 Hf0 ρ' σ3 H3 Hf' ∧ Same Hf Hf' ∧ iterW t f m' ρ' = some fl, fun σ3 H3 z => z, ρ', fl1, e2, Hf2, a2, ?_⟩
      cases fl1 with
      | nx ρ3 => exact fun σ3 H3 Hf3 a3 s3 => ⟨m, Nat.lt_succ_self _, Hf3, ρ3, a3, s2.trans s3, hm⟩
      | ct ρ3 => exact fun σ3 H3 Hf3 a3 s3 => ⟨m, Nat.lt_succ_self _, Hf3, ρ3, a3, s2.trans s3, hm⟩
      | bk ρ3 =>
        cases hm
        exact fun σ3 H3 Hf3 a3 s3 => e σ3 H3 Hf3 a3 (s2.trans s3)
      | rt d =>
        cases hm
        exact e
def forD (g : D → Rho → Option Rho) (f : DS) : List D → DS
  | [] => fun ρ => some (.nx ρ)
  | d :: ds => fun ρ => (g d ρ).bind fun ρ1 => (f ρ1).bind fun fl => match fl with
      | .nx ρ' => forD g f ds ρ'
      | .ct ρ' => forD g f ds ρ'
      | .bk ρ' => some (.nx ρ')
      | .rt d => some (.rt d)
def sFor (src : Rho → Option (List D)) (g : D → Rho → Option Rho) (f : DS) : DS := fun ρ => (src ρ).bind fun ds => forD g f ds ρ
theorem js_for {tg iter : Expr} {body : List Stmt} {src : Rho → Option (List D)} {g : D → Rho → Option Rho} {f : DS} {pos : Pos} (hi : JI X tg iter src) (hg : JG X tg g) (hb : JSs X body f) (hp : PassesOwn (model X.prog X.w) X.A X.env X.xe := by exact PassesOwn.never) (hc : X.calm = true := by rfl)
    (hs : ∀ x, foldedSetIterable iter X.env x = pure x := by intro _; rfl) : JS X (.For tg iter body [] pos) (sFor src g f) := fun ρ fl q H0 Hf0 => by
  obtain ⟨ds, e1, e2⟩ := Option.bind_eq_some_iff.mp q
  refine ps_imp (ps_for hp hc (hi ρ ds e1) hg (pss_any (H0 := H0) (Hf0 := Hf0) hb) hs) fun En σ H ⟨Hf, a, e⟩ => ⟨H0, Hf, a.gr.sub, a.sl, fun J H1 Hf1 g1 Y => ?_⟩
  refine ⟨fun i m σ H => m = ds.length - i ∧ i ≤ ds.length ∧ ∃ Hf' ρ', At X.K H0 Hf0 ρ' σ H Hf' ∧ Same Hf1 Hf' ∧ forD g f (ds.drop i) ρ' = some fl, ⟨ds.length, by simp, Nat.zero_le _, Hf1, ρ, a.grow g1, Same.refl _, by simpa using e2⟩, ?_⟩
  rintro i m σ' H' ⟨rfl, hi, Hf', ρ', a', s', hm⟩
  obtain ⟨Ys, Yg⟩ := Y i H' Hf' s' a'.gr.sub
  rcases Nat.lt_or_ge i ds.length with hlt | hge
  · right
    obtain ⟨go, yl⟩ := Yg ds[i] (by simp [hlt])
    rw [List.drop_eq_getElem_cons hlt] at hm
    obtain ⟨ρ1, c1, hm⟩ := Option.bind_eq_some_iff.mp hm
    obtain ⟨fl1, c2, hm⟩ := Option.bind_eq_some_iff.mp hm
    refine ⟨go, fun σ3 H3 => ∃ m', m' < ds.length - i ∧ m' = ds.length - (i + 1) ∧ i + 1 ≤ ds.length ∧ ∃ Hf' ρ', At X.K H0 Hf0 ρ' σ3 H3 Hf' ∧ Same Hf1 Hf' ∧ forD g f (ds.drop (i + 1)) ρ' = some fl, fun σ3 H3 ⟨m', z1, z2⟩ => ⟨m', z1, z2⟩, fun x H2 hy => ?_⟩
    obtain ⟨Hf2, g2, r2⟩ := yl x H2 hy
    have a2 := a'.grow g2
    refine ⟨ds[i], ρ', ρ1, H0, Hf2, c1, g2.sub, a2.sl, r2, fun σ3 sl3 => ⟨ρ1, fl1, c2, Hf2, ⟨a2.gr, sl3⟩, ?_⟩⟩
    have s2 := s'.trans g2.ext
    cases fl1 with
    | nx ρ3 => exact fun σ3 H3 Hf3 a3 s3 => ⟨_, by omega, rfl, hlt, Hf3, ρ3, a3, s2.trans s3, hm⟩
    | ct ρ3 => exact fun σ3 H3 Hf3 a3 s3 => ⟨_, by omega, rfl, hlt, Hf3, ρ3, a3, s2.trans s3, hm⟩
    | bk ρ3 =>
      cases hm
      exact fun σ3 H3 Hf3 a3 s3 => e σ3 H3 Hf3 a3 (g1.ext.trans (s2.trans s3))
    | rt d =>
      cases hm
      exact e
  · left
    have : i = ds.length := by omega
    subst this
    rw [List.drop_length] at hm
    cases hm
    exact ⟨Ys (Nat.le_refl _), e σ' H' Hf' a' (g1.ext.trans s')⟩
end
def startD (n : Nat) (ds : List D) : Rho := ds.map (fun d => some (B.val d)) ++ List.replicate (n - ds.length) none
def runD (g : DS) (n : Nat) : List D → Option D := fun ds => (g (startD n ds)).bind fun fl => match fl with
  | .rt d => some d
  | .nx _ => some .none
  | _ => none
theorem start_slots {K : PySem.W.Frag} {H0 H Hf : Hp} {N : List Str} {ds : List D} {vs : List V} (r : Reps K Hf ds vs) : Slots K H0 (startD N.length ds) (L2.start N vs) H Hf := by
  have hl := r.length
  have noown : ∀ (i : Nat) (b : B), (startD N.length ds)[i]? = some (some b) → ∃ d, ds[i]? = some d ∧ b = .val d := fun i b h => by
    unfold startD at h
    rcases Nat.lt_or_ge i ds.length with q | q
    · rw [List.getElem?_append_left (by simpa using q), List.getElem?_map] at h
      rw [List.getElem?_eq_getElem q] at h ⊢
      simp only [Option.map_some, Option.some.injEq] at h
      exact ⟨ds[i], rfl, h.symm⟩
    · rw [List.getElem?_append_right (by simpa using q), List.getElem?_replicate] at h
      split at h <;> cases h
  refine ⟨by simp [startD, L2.start, hl], fun i b e => ?_, fun i j d1 d2 a e1 _ _ _ => ?_⟩
  · obtain ⟨d, h1, h2⟩ := noown i b e
    subst h2
    obtain ⟨v, h3, h4⟩ := r.get h1
    refine ⟨v, ?_, h4⟩
    have hi : i < vs.length := (List.getElem?_eq_some_iff.mp h3).1
    unfold L2.start
    rw [List.getElem?_append_left (by simpa using hi), List.getElem?_map, h3]; rfl
  · obtain ⟨d, _, h2⟩ := noown i _ e1
    cases h2
theorem fn_rule {P : Program} {w : World} {K : PySem.W.Frag} {mg : Str → Option Value} {base : Heap} {x qual : Str} {st : Stmt} {f : Addr} {fd : FuncData} {N ps : List Str} {k : Nat} {g : DS} (F : Fun K x qual st f fd) (S : FnScope N ps (defScope st))
    (hb : ∀ (cdv : Value) (A : Around) (outer : List Env) (s : Shared) (H : Hp) (E : XK), Room k (A.deeper (envOfC qual (defScope st) s.heap.objs.size f cdv)) → JSs (cxOf CX0 P w K mg base N qual (defScope st) f cdv A outer s H E).nox (defBody st) g) :
    FnOk P w K mg base CX0 (k + 1) f fd ps (spF K ps.length (runD g N.length)) := by
  refine F.ok S (fun vs H Q E h => h.1) fun cdv A outer s H vs Q E hr hsp => ?_
  obtain ⟨hlen, Hf, ds, d, ss, rp, e, kk⟩ := hsp
  obtain ⟨fl, e1, e2⟩ := Option.bind_eq_some_iff.mp e
  refine ⟨_, hb cdv A outer s H E hr _ fl e1 H Hf, Hf, ⟨Grow.refl ss, start_slots rp⟩, ?_⟩
  cases fl with
  | rt d' => cases e2; exact fun v H' Hf' g r => kk v H' Hf' g r
  | nx ρ => cases e2; exact fun σ' H' Hf' a _ => kk _ H' Hf' a.gr rfl
  | bk ρ => cases e2
  | ct ρ => cases e2
end G
namespace G
open PySem PySem.Spec PyProof.Rows L2
def SIt : Bool → Heap → Addr → Addr → Nat → Prop
  | true => Heap.IsTupleIter
  | false => Heap.IsListIter
def SSq : Bool → Heap → Addr → Array Value → Prop
  | true => Heap.IsTuple
  | false => Heap.IsList
section
variable {prog : Program} {w : World} {A : Around} {E : Value → Shared → Prop} {s : Shared} {t t1 t2 : Bool}
theorem SIt.ext {h h' : Heap} {it l : Addr} {k : Nat} (x : SIt t h it l k) (e : ∀ o, h.get? it = some o → h'.get? it = some o) : SIt t h' it l k := by
  cases t with
  | true => obtain ⟨o, ho, r⟩ := x; exact ⟨o, e o ho, r⟩
  | false => obtain ⟨o, ho, r⟩ := x; exact ⟨o, e o ho, r⟩
theorem SSq.ext {h h' : Heap} {l : Addr} {xs : Array Value} (x : SSq t h l xs) (e : ∀ o, h.get? l = some o → h'.get? l = some o) : SSq t h' l xs := by
  cases t with
  | true => obtain ⟨o, ho, r⟩ := x; exact ⟨o, e o ho, r⟩
  | false => obtain ⟨o, ho, r⟩ := x; exact ⟨o, e o ho, r⟩
end
end G
namespace G
open PySem PySem.Spec PyProof.Rows L2
section
variable {prog : Program} {w : World} {A : Around} {E : Value → Shared → Prop} {s : Shared} {t1 t2 : Bool}
end
end G
namespace G
open PySem PySem.Spec PyProof.Rows L2
section
variable {X : Cx}
def iZip (f g : Rho → Option (Bool × List D)) : Rho → Option (List D) := fun ρ => (f ρ).bind fun p => (g ρ).bind fun q => some ((p.2.zip q.2).map fun (x, y) => PyData.tuple [x, y])
end
end G
namespace G
open PySem PySem.Spec PyProof.Rows L2
theorem noMul_tuple : fillsNumberSlot (.type "tuple") "mul" = pure false := PySem.fillsNumberSlot_seq (id := "tuple.__mul__") (r := some (.builtin "tuple.__rmul__")) F.slot_tuple_mul.lookup (by decide +kernel) F.slot_tuple_rmul.lookup (by decide +kernel)
theorem rep_tuple : seqRepeat? (.type "tuple") = pure (some (.builtin "tuple.__mul__")) := by
  unfold seqRepeat?
  rw [PySem.seqSlot_of (T := "tuple") (name := "__mul__") (id := "tuple.__mul__") F.slot_tuple_mul.lookup (by decide +kernel), PySem.seqSlot_of (T := "tuple") (name := "__rmul__") (id := "tuple.__rmul__") F.slot_tuple_rmul.lookup (by decide +kernel)]; rfl
theorem rmul_int_tup (a : Int) (t : Tok) (l : Addr) (items : Array Value) (n : Nat) (dd : Option Addr) (sl : Array (Option Value)) :
    Meets (Builtin.«int.__rmul__» ⟨[.int a t, .ref l], []⟩) (fun _ R s => s.heap.get? l = some ⟨.type "tuple", dd, .seq items n, sl⟩ ∧ R (.ok (.ret Value.notImplemented)) s) :=
  .of_wp fun prog w A R s h => by obtain ⟨hp, g, d, tk, os⟩ := s; obtain ⟨hl, h⟩ := h; wp_walk; exact ⟨_, rfl, h⟩
theorem rep_eq (items : Array Value) (k : Nat) : List.foldl (fun x1 x2 => x1 ++ x2) #[] (List.replicate k items) = (List.replicate k items.toList).flatten.toArray := by
  have := foldl_rep items.toList k []
  rw [List.nil_append] at this
  simpa using this
theorem mul_tup_new (l : Addr) (items : Array Value) (n : Nat) (dd : Option Addr) (sl : Array (Option Value)) (x : Int) (u : Tok) (h2 : 2 ≤ x) (h3 : x < 1000000) (he : items.isEmpty = false) (hz : items.size * x.toNat ≤ sizeLine) :
    Meets (Builtin.«tuple.__mul__» ⟨[.ref l, .int x u], []⟩) (fun _ R s => s.heap.get? l = some ⟨.type "tuple", dd, .seq items n, sl⟩ ∧ R (.ok (.ret (Value.ref s.heap.objs.size))) { s with heap := s.heap.push { cls := Value.type "tuple", data := Data.seq (List.foldl (fun x1 x2 => x1 ++ x2) #[] (List.replicate x.toNat items)) } }) :=
  .of_wp fun prog w A R s h => by
    obtain ⟨hp, g, d, tk, os⟩ := s
    obtain ⟨hl, h⟩ := h
    have hm : (items.size : Int) * x ≤ 16777216 := by
      have e : ((items.size * x.toNat : Nat) : Int) = (items.size : Int) * x := by rw [Int.natCast_mul, Int.toNat_of_nonneg (by omega)]
      have : items.size * x.toNat ≤ 16777216 := by rw [← sizeLine_eq]; exact hz
      omega
    wp_walk
    refine wpAny_ite_false (by simp; omega) ?_
    have ht : Heap.IsTuple (Shared.heap ⟨hp, g, d, tk, os⟩) l items := ⟨_, hl, rfl, n, rfl⟩
    refine wpAny_bind (tupleItemsOf_ ht ?_)
    refine wpAny_ite_false (by rw [he]; simp; omega) ?_
    show wpAny _ _ (if (decide (x ≤ 0) || items.isEmpty) = true then _ else _) _ _ _
    refine wpAny_ite_false (by rw [he]; simp; omega) ?_
    show wpAny _ _ (if (items.size : Int) * x > (2 ^ 63 - 1) / 8 then _ else _) _ _ _
    rw [if_neg (by omega)]
    show wpAny _ _ (if Builtin.Tuple.tupleTooMany ((items.size : Int) * x) = true then _ else _) _ _ _
    rw [if_neg (by unfold Builtin.Tuple.tupleTooMany; rw [sizeLine_eq]; simp; omega)]
    refine wpAny_bind (m := Builtin.Tuple.tupleExact _) (wpAny_newObj_type (wpAny_pure ⟨_, rfl, h⟩) ?_)
    show (List.foldl (fun x1 x2 => x1 ++ x2) #[] (List.replicate x.toNat items)).size ≤ sizeLine
    rw [rep_eq items x.toNat, List.size_toArray, len_rep, Array.length_toList, Nat.mul_comm]
    exact hz
section
variable {X : Cx}
theorem op_repT : OpR X (binaryOp .Mult) (fun x y H Q => ∃ l k xs, x = .ref l ∧ y = .int k ∧ SqT X.K H l xs ∧ xs ≠ [] ∧ 2 ≤ k ∧ k < 1000000 ∧ xs.length * k.toNat ≤ sizeLine ∧ ∀ p, H p = none → Q (.ref p) (upd H p (.tup (List.replicate k.toNat xs).flatten))) := by
  intro pins s σ H x y v u Q I rx ry h
  obtain ⟨l, k, xs, rfl, rfl, hq, hx, h2, h3, hz, q⟩ := h
  cases rx
  obtain ⟨t, rfl⟩ := ry
  obtain ⟨its, r, p1, _⟩ := I.tuple hq
  obtain ⟨⟨cls, dd, data, sl⟩, ho, hc, n, hd⟩ := id p1
  simp only at hc hd
  subst hc hd
  have hl := r.length
  have he : its.toArray.isEmpty = false := by
    cases its with
    | nil => exact absurd (r.nil_iff.mp rfl) hx
    | cons a b => rfl
  refine wpAny_binaryOp_repeat_ref (T := "tuple") (U := "int") (by decide) ⟨_, ho, rfl⟩ (fun s' => typeIs_int s' k t) noMul_tuple F.fills_int_mul F.slot_int_rmul rep_tuple F.slot_int_index.lookup
    (call_meets F.slot_int_rmul (typeIs_int s k t) F.entry_int_rmul (F.args_int_rmul_2 _ _) (rmul_int_tup k t l its.toArray n dd sl) ⟨ho, rfl, ⟨_, ho, rfl⟩,
      call_meets F.slot_tuple_mul ⟨_, ho, rfl⟩ F.entry_tuple_mul (F.args_tuple_mul_2 _ _) (mul_tup_new l its.toArray n dd sl k t h2 h3 he (by rw [List.size_toArray, ← hl]; exact hz)) ⟨ho, ?_⟩⟩)
  rw [rep_eq]
  refine ⟨.ref _, _, I.laid (t' := s.toks) (o := .tup (List.replicate k.toNat xs).flatten) (fun b ob q => Heap.get?_push_of_some _ q) (Nat.le_refl _) ⟨?_, _, r.rep k.toNat, IsTup.new _ _⟩, rfl, q _ (I.hok.fresh (Nat.le_refl _))⟩
  rw [len_rep, Nat.mul_comm]; exact hz
def mulD (x y : D) : Option D := match x, y with
  | .int i, .int j => if Small i ∧ Small j then some (.int (i * j)) else none
  | .tuple xs, .int k => if xs.isEmpty = false ∧ 2 ≤ k ∧ k < 1000000 ∧ xs.length * k.toNat ≤ 16777216 then some (.tuple (List.replicate k.toNat xs).flatten) else none
  | _, _ => none
theorem od_mulD : OpD X (binaryOp .Mult) mulD := fun x y z h => by
  unfold mulD at h
  split at h
  · exact od_mul _ _ z (by unfold mulI; exact h)
  · split at h
    · rename_i xs k c
      cases h
      refine OpR.imp op_repT fun vx vy H Q ⟨Hf, s, r1, r2, kk⟩ => ?_
      obtain ⟨a, vs, rfl, h2, h3⟩ := r1
      refine ⟨a, k, vs, rfl, r2, sqT_mono s h2, ?_, c.2.1, c.2.2.1, by rw [h3.length, sizeLine_eq]; exact c.2.2.2, fun p hp => ?_⟩
      · intro e
        subst e
        have := h3.length
        cases xs with
        | nil => exact absurd c.1 (by simp)
        | cons a b => simp at this
      · exact kk _ _ _ (Grow.laid s hp) ⟨p, _, rfl, SqT.of upd_same, (h3.flatten k.toNat).mono (same_upd (s.free hp))⟩
    · cases h
  · cases h
def dNeg (f : DE) : DE := fun ρ => (f ρ).bind fun d => match d with
  | .int i => some (.int (-i))
  | _ => none
theorem je_neg {a : Expr} {f : DE} {pos : Pos} (h : JE X a f) : JE X (.UnaryOp .USub a pos) (dNeg f) := fun ρ d q => by
  obtain ⟨x, e1, e2⟩ := Option.bind_eq_some_iff.mp q
  cases x with
  | int i =>
    cases e2
    exact pe_imp (pe_un un_neg (h ρ _ e1)) fun σ H Q ⟨H0, Hf, s, sl, k⟩ => ⟨H0, Hf, s, sl, fun v H1 Hf1 g1 r1 => ⟨_, r1, k _ H1 Hf1 g1 rfl⟩⟩
  | _ => cases e2
def isB (x y : D) : Option D := match y with
  | .bool b => (match x with
    | .bool c => some (.bool (c == b))
    | .dict _ => none
    | _ => some (.bool false))
  | .none => isN x .none
  | _ => none
theorem od_is : OpD X (compareOp .Is) isB := fun x y z h => by
  cases y with
  | none => exact od_isN x .none z h
  | bool b =>
    intro pins s σ H vx vy v u Q I rx ry ⟨Hf, ss, r1, r2, k⟩
    cases r2
    cases ry
    have fin : ∀ c, z = .bool c → (v == Value.bool b) = c → EP X pins σ Q (.bool (v == Value.bool b)) s := fun c e1 e2 => by
      rw [e2]; subst e1; exact ⟨.bl c, H, I, rfl, k _ H Hf (Grow.refl ss) rfl⟩
    cases x with
    | none => cases r1; cases rx; cases h; exact wpAny_is_plain rfl (fin _ rfl rfl)
    | bool c => cases r1; cases rx; cases h; exact wpAny_is_plain rfl (fin _ rfl (by cases c <;> cases b <;> rfl))
    | int i => cases r1; obtain ⟨t, rfl⟩ := rx; cases h; exact wpAny_is_plain rfl (fin _ rfl rfl)
    | str i => cases r1; obtain ⟨t, rfl⟩ := rx; cases h; exact wpAny_is_plain rfl (fin _ rfl rfl)
    | tuple ds => obtain ⟨a, vs, rfl, _⟩ := r1; cases rx; cases h; exact wpAny_is_plain rfl (fin _ rfl rfl)
    | list ds => obtain ⟨a, vs, rfl, _⟩ := r1; cases rx; cases h; exact wpAny_is_plain rfl (fin _ rfl rfl)
    | dict ds => cases h
  | _ => cases h
def qN (f : Rho → Option (List D)) : Rho → Option (Bool × List D) := fun ρ => (f ρ).map fun ds => (false, ds)
theorem jq_n {e : Expr} {f : Rho → Option (List D)} (h : JN X e f) : JQ X e (qN f) := jq_of_jn h
def dTupN (f : Rho → Option (Bool × List D)) : DE := fun ρ => (f ρ).bind fun q => if q.1 = true then none else some (.tuple q.2)
theorem je_tupN {e : Expr} {f : Rho → Option (Bool × List D)} {p pos : Pos} (hg : Gl X "tuple") (hm : X.mg "tuple" = none) (h : JQ X e f) (he : starEach [e] X.env = [(false, eval e X.env)] := by rfl) : JE X (.Call (.Name "tuple" p) [e] [] pos) (dTupN f) := je_tupOf hg hm h (he := he)
end
end G
namespace G
open PySem PySem.Spec PyProof.Rows L2
theorem add_lists (l b : Addr) (items items2 : Array Value) (n n2 : Nat) (dd dd2 : Option Addr) (sl sl2 : Array (Option Value)) (hz : items.size + items2.size ≤ sizeLine) :
    Meets (Builtin.«list.__add__» ⟨[.ref l, .ref b], []⟩) (fun _ R s => s.heap.get? l = some ⟨.type "list", dd, .seq items n, sl⟩ ∧ s.heap.get? b = some ⟨.type "list", dd2, .seq items2 n2, sl2⟩ ∧ R (.ok (.ret (Value.ref s.heap.objs.size))) { s with heap := s.heap.push { cls := Value.type "list", data := Data.seq (items ++ items2) } }) :=
  .of_wp fun prog w A R s h => by
    obtain ⟨hp, g, d, tk, os⟩ := s
    obtain ⟨hl, hb, h⟩ := h
    have hsub : isSubtype (.type "list") (.type "list") = pure true := by rw [isSubtype_type]; kernel_rfl
    have hsz := hz
    wp_walk
    exact ⟨_, rfl, h⟩
section
variable {X : Cx}
theorem op_catL : OpR X (binaryOp .Add) (fun x y H Q => ∃ a b xs ys, x = .ref a ∧ y = .ref b ∧ SqL X.K H a xs ∧ SqL X.K H b ys ∧ xs.length + ys.length ≤ sizeLine ∧ ∀ p, H p = none → Q (.ref p) (upd H p (.lst (xs ++ ys)))) := by
  intro pins s σ H x y v u Q I rx ry h
  obtain ⟨a, b, xs, ys, rfl, rfl, ha, hb, hz, q⟩ := h
  cases rx
  cases ry
  obtain ⟨its, r1, p1, _⟩ := I.list ha
  obtain ⟨its2, r2, p2, _⟩ := I.list hb
  obtain ⟨⟨cls, dd, data, sl⟩, ho, hc, n, hd⟩ := p1.isList
  obtain ⟨⟨cls2, dd2, data2, sl2⟩, ho2, hc2, n2, hd2⟩ := p2.isList
  simp only at hc hd hc2 hd2
  subst hc hd hc2 hd2
  have l1 := r1.length
  have l2 := r2.length
  refine concat_meets ⟨_, ho, rfl⟩ ⟨_, ho2, rfl⟩ noFill_list_add seq_list_add PySem.F.slot_list_add PySem.F.entry_list_add (PySem.F.args_list_add_2 _ _) (add_lists a b its.toArray its2.toArray n n2 dd dd2 sl sl2 (by simp only [List.size_toArray]; omega)) ⟨ho, ho2, ?_⟩
  have ea : its.toArray ++ its2.toArray = (its ++ its2).toArray := by simp
  rw [ea]
  exact ⟨.ref _, _, I.lnew (t' := s.toks) (r1.append r2) (by rw [List.length_append]; omega), rfl, q _ I.fresh⟩
def catE (x y : D) : Option D := match x, y with
  | .list xs, .list ys => if xs.length + ys.length ≤ 16777216 then some (.list (xs ++ ys)) else none
  | x, y => catD x y
theorem od_catE : OpD X (binaryOp .Add) catE := fun x y z h => by
  unfold catE at h
  split at h
  · split at h
    · rename_i c
      cases h
      refine OpR.imp op_catL fun vx vy H Q ⟨Hf, s, r1, r2, k⟩ => ?_
      obtain ⟨a, vs, rfl, h2, h3⟩ := r1
      obtain ⟨b, us, rfl, h5, h6⟩ := r2
      refine ⟨a, b, vs, us, rfl, rfl, sqL_mono s h2, sqL_mono s h5, by rw [h3.length, h6.length, sizeLine_eq]; exact c, fun p hp => ?_⟩
      exact k _ _ _ (Grow.laid s hp) ⟨p, vs ++ us, rfl, SqL.of upd_same, (h3.append h6).mono (same_upd (s.free hp))⟩
    · cases h
  · exact od_cat _ _ z h
def dRevT (f : DE) : DE := fun ρ => (f ρ).bind fun d => match d with
  | .tuple xs => some (.tuple xs.reverse)
  | _ => none
end
end G
namespace G
theorem xg0 {α : Type} {a : α} {l : List α} : (a :: l)[0]? = some a := rfl
theorem xg1 {α : Type} {a : α} {i : Nat} {l : List α} : (a :: l)[i + 1]? = l[i]? := rfl
theorem xw0 {α : Type} {a b : α} {l : List α} : (a :: l).set 0 b = b :: l := rfl
theorem xw1 {α : Type} {a b : α} {i : Nat} {l : List α} : (a :: l).set (i + 1) b = a :: l.set i b := rfl
theorem xbs {α β : Type} {a : α} {f : α → Option β} : (some a).bind f = f a := rfl
theorem xms {α β : Type} {a : α} {f : α → β} : (some a).map f = some (f a) := rfl
theorem xca {α : Type} {a : α} {l m : List α} : (a :: l) ++ m = a :: (l ++ m) := rfl
theorem xna {α : Type} {l : List α} : [] ++ l = l := rfl
theorem xmc {α β : Type} {f : α → β} {a : α} {l : List α} : (a :: l).map f = f a :: l.map f := rfl
theorem xmn {α β : Type} {f : α → β} : [].map f = [] := rfl
theorem xnf : (!false) = true := rfl
theorem xnt : (!true) = false := rfl
theorem xft : (false = true) = False := by simp
end G
noncomputable section
namespace Sh
open PySem PySem.Spec PyProof.Rows L2 G
def G_common_divisor : DS := (sSeq (sWhile (tB2 neD (dVar 1) (dC (.int 0))) (sSeq (sSet 2 (dBin modI (dVar 0) (dVar 1))) (sSeq (sSet 0 (dVar 1)) (sSet 1 (dVar 2))))) (sRet (dVar 0)))
def F_common_divisor : List D → Option D := runD G_common_divisor 3
def G_least_form : DS := (sSeq (sSet 2 (dCall F_common_divisor (aCons (dVar 0) (aCons (dVar 1) aNil)))) (sRet (dTup (aCons (dBin divI (dVar 0) (dVar 2)) (aCons (dBin divI (dVar 1) (dVar 2)) aNil)))))
def F_least_form : List D → Option D := runD G_least_form 3
def G_is_at_most : DS := (sRet (dBin leI (dBin mulD (dIx (qVar 0) (dC (.int 0))) (dIx (qVar 1) (dC (.int 1)))) (dBin mulD (dIx (qVar 1) (dC (.int 0))) (dIx (qVar 0) (dC (.int 1))))))
def F_is_at_most : List D → Option D := runD G_is_at_most 2
def G_times : DS := (sRet (dCall F_least_form (aCons (dBin mulD (dIx (qVar 0) (dC (.int 0))) (dIx (qVar 1) (dC (.int 0)))) (aCons (dBin mulD (dIx (qVar 0) (dC (.int 1))) (dIx (qVar 1) (dC (.int 1)))) aNil))))
def F_times : List D → Option D := runD G_times 2
def G_l_cell : DS := (sSeq (sIf (tB2 eqD (dVar 0) (dLst aNil)) (sRet (dBin mulD (dC (.int 7)) (dVar 1))) sNil) (sRet (dBin catD (dIx (qVar 0) (dBin modI (dVar 1) (dLen (qVar 0)))) (dBin mulD (dC (.int 6553)) (dBin divI (dVar 1) (dLen (qVar 0)))))))
def F_l_cell : List D → Option D := runD G_l_cell 2
def G_l_drawn : DS := (sSeq (sSet 3 (dBin modI (dBin catD (dBin mulD (dBin modI (dCall F_l_cell (aCons (dVar 0) (aCons (dVar 1) aNil))) (dC (.int 2147483563))) (dC (.int 69069))) (dBin mulD (dC (.int 104723)) (dBin catD (dVar 1) (dC (.int 1))))) (dC (.int 2147483563)))) (sSeq (sSet 3 (dBin modI (dBin catD (dBin mulD (dVar 3) (dVar 3)) (dBin divI (dVar 3) (dC (.int 3)))) (dC (.int 2147483399)))) (sRet (dBin modI (dBin divI (dBin modI (dBin catD (dBin mulD (dVar 3) (dVar 3)) (dBin divI (dVar 3) (dC (.int 7)))) (dC (.int 2147483647))) (dC (.int 11))) (dVar 2)))))
def F_l_drawn : List D → Option D := runD G_l_drawn 4
def G_l_made : DS := (sSeq (sSet 2 (dVar 0)) (sSeq (sSet 3 (dVar 1)) (sSeq (sWhile (tB2 gtI (dVar 2) (dC (.int 0))) (sPar 2 3 (aCons (dBin modI (dVar 3) (dVar 2)) (aCons (dVar 2) aNil)))) (sRet (dTup (aCons (dBin divI (dVar 0) (dVar 3)) (aCons (dBin divI (dVar 1) (dVar 3)) aNil)))))))
def F_l_made : List D → Option D := runD G_l_made 4
def G_l_times : DS := (sRet (dCall F_l_made (aCons (dBin mulD (dIx (qVar 0) (dC (.int 0))) (dIx (qVar 1) (dC (.int 0)))) (aCons (dBin mulD (dIx (qVar 0) (dC (.int 1))) (dIx (qVar 1) (dC (.int 1)))) aNil))))
def F_l_times : List D → Option D := runD G_l_times 2
def G_l_share : DS := (sSeq (sSet 2 (dBin catD (dC (.int 1)) (dCall F_l_drawn (aCons (dVar 0) (aCons (dVar 1) (aCons (dC (.int 12)) aNil)))))) (sSeq (sSet 3 (dCall F_l_made (aCons (dCall F_l_drawn (aCons (dVar 0) (aCons (dBin catD (dVar 1) (dC (.int 1))) (aCons (dBin catD (dVar 2) (dC (.int 1))) aNil)))) (aCons (dVar 2) aNil)))) (sRet (dIx (qN (aCons (dVar 3) (aCons (dVar 3) (aCons (dVar 3) (aCons (dTup (aCons (dC (.int 0)) (aCons (dC (.int 1)) aNil))) (aCons (dTup (aCons (dC (.int 1)) (aCons (dC (.int 1)) aNil))) aNil)))))) (dCall F_l_drawn (aCons (dVar 0) (aCons (dBin catD (dVar 1) (dC (.int 2))) (aCons (dC (.int 5)) aNil))))))))
def F_l_share : List D → Option D := runD G_l_share 4
def G_l_spot : DS := (sSeq (sSet 2 (dCall F_l_share (aCons (dVar 0) (aCons (dVar 1) aNil)))) (sRet (dBin catD (dTup (aCons (dVar 2) aNil)) (dTupN (qN (nComp 1 [2, 0, 1] (iRan1 (dC (.int 3))) (gSet 0) cTrue (dCall F_l_times (aCons (dVar 1) (aCons (dCall F_l_share (aCons (dVar 2) (aCons (dBin catD (dBin catD (dVar 3) (dC (.int 3))) (dBin mulD (dC (.int 3)) (dVar 0))) aNil))) aNil)))))))))
def F_l_spot : List D → Option D := runD G_l_spot 3
def G_l_is_whole : DS := (sRet (dAnd (dIsi "int" (dVar 0)) (dNot (dIsi "bool" (dVar 0)))))
def F_l_is_whole : List D → Option D := runD G_l_is_whole 1
def G_l_is_share : DS := (sSeq (sIf (tOr2 (tNot2 (tTru (dIsi "tuple" (dVar 0)))) (tOr2 (tB2 neD (dLen (qVar 0)) (dC (.int 2))) (tOr2 (tNot2 (tTru (dCall F_l_is_whole (aCons (dIx (qVar 0) (dC (.int 0))) aNil)))) (tNot2 (tTru (dCall F_l_is_whole (aCons (dIx (qVar 0) (dC (.int 1))) aNil))))))) (sRet (dC (.bool false))) sNil) (sRet (dAnd (dBin gtI (dIx (qVar 0) (dC (.int 1))) (dC (.int 0))) (dAnd (dChain leI leI (dC (.int 0)) (dIx (qVar 0) (dC (.int 0))) (dIx (qVar 0) (dC (.int 1)))) (dBin eqD (dCall F_l_made (aCons (dIx (qVar 0) (dC (.int 0))) (aCons (dIx (qVar 0) (dC (.int 1))) aNil))) (dVar 0))))))
def F_l_is_share : List D → Option D := runD G_l_is_share 1
def G_l_is_spot : DS := (sSeq (sIf (tOr2 (tNot2 (tTru (dIsi "tuple" (dVar 0)))) (tOr2 (tB2 neD (dLen (qVar 0)) (dC (.int 4))) (tB2 neD (dLst (nComp 1 [] (iSeq (dVar 0)) (gSet 0) (tNot2 (tTru (dCall F_l_is_share (aCons (dVar 0) aNil)))) (dVar 0))) (dLst aNil)))) (sRet (dC (.bool false))) sNil) (sRet (dBin eqD (dLst (nComp 1 [0] (iSeq (dVar 0)) (gSet 0) (tB2 gtI (dBin mulD (dIx (qVar 0) (dC (.int 0))) (dIx (qE (dIx (qVar 1) (dC (.int 0)))) (dC (.int 1)))) (dBin mulD (dIx (qE (dIx (qVar 1) (dC (.int 0)))) (dC (.int 0))) (dIx (qVar 0) (dC (.int 1))))) (dVar 0))) (dLst aNil))))
def F_l_is_spot : List D → Option D := runD G_l_is_spot 1
def G_is_whole : DS := (sRet (dAnd (dIsi "int" (dVar 0)) (dNot (dIsi "bool" (dVar 0)))))
def F_is_whole : List D → Option D := runD G_is_whole 1
def G_is_share : DS := (sSeq (sIf (tOr2 (tNot2 (tTru (dIsi "tuple" (dVar 0)))) (tB2 neD (dLen (qVar 0)) (dC (.int 2)))) (sRet (dC (.bool false))) sNil) (sSeq (sSet 1 (dIx (qVar 0) (dC (.int 0)))) (sSeq (sSet 2 (dIx (qVar 0) (dC (.int 1)))) (sSeq (sIf (tOr2 (tNot2 (tTru (dCall F_is_whole (aCons (dVar 1) aNil)))) (tNot2 (tTru (dCall F_is_whole (aCons (dVar 2) aNil))))) (sRet (dC (.bool false))) sNil) (sRet (dAnd (dBin gtI (dVar 2) (dC (.int 0))) (dAnd (dChain leI leI (dC (.int 0)) (dVar 1) (dVar 2)) (dBin eqD (dCall F_common_divisor (aCons (dVar 1) (aCons (dVar 2) aNil))) (dC (.int 1))))))))))
def F_is_share : List D → Option D := runD G_is_share 3
def G_is_spot : DS := (sSeq (sIf (tOr2 (tNot2 (tTru (dIsi "tuple" (dVar 0)))) (tB2 neD (dLen (qVar 0)) (dC (.int 4)))) (sRet (dC (.bool false))) sNil) (sSeq (sIf (tNot2 (tTru (dAll (qN (nComp 1 [] (iSeq (dVar 0)) (gSet 0) cTrue (dCall F_is_share (aCons (dVar 0) aNil))))))) (sRet (dC (.bool false))) sNil) (sRet (dAll (qN (nComp 1 [0] (iSeq (dSlT (dVar 0) (oSome (dC (.int 1))) oNone)) (gSet 0) cTrue (dCall F_is_at_most (aCons (dVar 0) (aCons (dIx (qVar 1) (dC (.int 0))) aNil)))))))))
def F_is_spot : List D → Option D := runD G_is_spot 1
end Sh
namespace G
open PySem PySem.Spec PyProof.Rows L2
section
variable {prog : Program} {w : World} {A : Around} {E : Value → Shared → Prop} {s : Shared}
theorem adjust_rev (n : Nat) : Builtin.Slice.sliceAdjust none none (-1) (n : Int) = ((n : Int) - 1, -1) := by
  unfold Builtin.Slice.sliceAdjust
  have h1 : (-1 : Int) < 0 := by omega
  simp only [h1, if_true]
theorem places_rev (n : Nat) : Builtin.Slice.slicePlaces ((n : Int) - 1) (-1) (-1) = n := by
  unfold Builtin.Slice.slicePlaces
  have h1 : ¬ (-1 : Int) > 0 := by omega
  have h2 : -(-1 : Int) = 1 := by omega
  simp only [h1, if_false, h2, Int.ediv_one]
  split <;> omega
theorem sliceApplied_rev {sl : Addr} {t : Tok} {n : Nat} {Q : Int × Int × Nat → Shared → Prop} (hs : s.heap.IsSliceOf sl .none .none (.int (-1) t))
    (h : Q ((n : Int) - 1, -1, n) s) : wpAny (model prog w) A (Builtin.Slice.sliceApplied (.ref sl) (pure (n : Int))) Q E s := by
  obtain ⟨os, hos, hcs, hds⟩ := id hs
  unfold Builtin.Slice.sliceApplied Builtin.Slice.sliceFields
  refine wpAny_bind (wpAny_bind (wpAny_field hos hds (x := .none) rfl (wpAny_bind (wpAny_field hos hds (x := .none) rfl (wpAny_bind (wpAny_field hos hds (x := .int (-1) t) rfl (wpAny_pure ?_)))))))
  refine wpAny_bind (slicePart_int ?_)
  show wpAny _ _ (if ((-1 : Int) == 0) = true then _ else _) _ _ s
  rw [if_neg (by decide)]
  refine wpAny_bind (slicePart_none (wpAny_bind (slicePart_none (wpAny_bind (wpAny_pure ?_)))))
  show wpAny _ _ (match Builtin.Slice.sliceAdjust none none (-1) (n : Int) with | (lo, hi) => pure (lo, (-1 : Int), Builtin.Slice.slicePlaces lo hi (-1))) _ _ s
  rw [adjust_rev n]
  show wpAny _ _ (pure ((n : Int) - 1, (-1 : Int), Builtin.Slice.slicePlaces ((n : Int) - 1) (-1) (-1))) _ _ s
  rw [places_rev]
  exact wpAny_pure h
theorem pick_all {α : Type} : ∀ l : List α, (List.range l.length).filterMap (fun k => l[k]?) = l
  | [] => rfl
  | a :: l => by
    rw [List.length_cons, List.range_succ_eq_map, List.filterMap_cons, List.filterMap_map]
    simp only [xg0]
    congr 1
    exact pick_all l
theorem fm_congr {α β : Type} {f g : α → Option β} : ∀ {l : List α}, (∀ x ∈ l, f x = g x) → l.filterMap f = l.filterMap g
  | [], _ => rfl
  | a :: l, h => by rw [List.filterMap_cons, List.filterMap_cons, h a (List.mem_cons_self ..), fm_congr fun x hx => h x (List.mem_cons_of_mem _ hx)]
theorem pick_rev (xs : Array Value) : ((List.range xs.size).filterMap fun (k : Nat) => xs[(((xs.size : Int) - 1) + (k : Int) * -1).toNat]?).toArray = xs.toList.reverse.toArray := by
  congr 1
  have e : ∀ k ∈ List.range xs.size, xs[(((xs.size : Int) - 1) + (k : Int) * -1).toNat]? = xs.toList.reverse[k]? := by
    intro k hk
    have hk := List.mem_range.mp hk
    have : (((xs.size : Int) - 1) + (k : Int) * -1).toNat = xs.size - 1 - k := by omega
    rw [this, List.getElem?_reverse (by rw [Array.length_toList]; exact hk), Array.length_toList, Array.getElem?_toList]
  rw [fm_congr e]
  have := pick_all xs.toList.reverse
  rw [List.length_reverse, Array.length_toList] at this
  exact this
theorem getItem_tuple_rev {t sl : Addr} {items : Array Value} {k : Tok} {Q : Value → Shared → Prop} (ht : IsTup s.heap t items) (hs : s.heap.IsSliceOf sl .none .none (.int (-1) k))
    (h : Q (.ref s.heap.objs.size) { s with heap := s.heap.push { cls := .type "tuple", data := .seq items.toList.reverse.toArray } })
    (hsz : items.size ≤ sizeLine) : wpAny (model prog w) A (getItem (.ref t) (.ref sl)) Q E s := by
  have htake : sizeOk (.seq items.toList.reverse.toArray) := by
    show items.toList.reverse.toArray.size ≤ sizeLine
    rw [List.size_toArray, List.length_reverse, Array.length_toList]
    omega
  obtain ⟨os, hos, hcs, hds⟩ := id hs
  have hTs : s.TypeIs (.ref sl) "slice" := ⟨os, hos, hcs⟩
  unfold getItem
  try with_reducible refine wpAny_holding ?_
  first | refine wpAny_bind (wpAny_pure ?_) | skip
  refine wpAny_bind (wpAny_sequenceKey ht.typeIs (by decide) ?_)
  refine wpAny_bind (wpAny_callSpecial?_slot (name := Str.ofString "__getitem__") ht.typeIs PyProof.Rows.slot_tuple_getitem
    (wpAny_call_entry PyProof.Rows.slot_tuple_getitem ht.typeIs entry_tuple_getitem ?_ (args_tuple_getitem _ _)))
  show wpAny _ _ (Builtin.Tuple.tupleItemsOf (.ref t) >>= _) _ _ s
  refine wpAny_bind (tupleItemsOf_ ht ?_)
  refine wpAny_bind (wpAny_typeOf hTs ?_)
  rw [if_pos (by decide)]
  refine wpAny_bind (sliceApplied_rev hs ?_)
  have hno : ¬ ((((items.size : Int) - 1) == 0 && (-1 : Int) == 1 && items.size == items.size) = true) := by
    have : ((-1 : Int) == 1) = false := rfl
    rw [this]; simp
  show wpAny _ _ (if (((items.size : Int) - 1) == 0 && (-1 : Int) == 1 && items.size == items.size) = true then _ else _) _ _ s
  rw [if_neg hno, pick_rev]
  first
    | exact wpAny_bind (m := Builtin.Tuple.tupleExact _) (wpAny_newObj_type (wpAny_pure ⟨_, rfl, wpAny_pure h⟩) htake)
    | exact wpAny_bind (m := Builtin.Tuple.tupleExact _) (wpAny_newObj_type (wpAny_bind (wpAny_pure (wpAny_pure ⟨_, rfl, wpAny_pure h⟩))) htake)
    | exact wpAny_bind (wpAny_bind (m := Builtin.Tuple.tupleExact _) (wpAny_newObj_type (wpAny_pure (wpAny_pure ⟨_, rfl, wpAny_pure h⟩)) htake))
    | exact wpAny_bind (wpAny_bind (m := Builtin.Tuple.tupleExact _) (wpAny_newObj_type (wpAny_pure ⟨_, rfl, wpAny_pure h⟩) htake))
end
section
variable {X : Cx} {e st : Expr} {te ts : TE} {p2 pos : Pos}
theorem vals_rev : ∀ {xs : List V} {us : List Value}, Vals xs us → Vals xs.reverse us.reverse
  | [], [], h => h
  | x :: xs, u :: us, h => by
    cases h with
    | cons a b => rw [List.reverse_cons, List.reverse_cons]; exact (vals_rev b).append (.cons a .nil)
theorem pe_rev (he : PE X e te) (hs : PE X st ts) : PE X (.Subscript e (.Slice none none (some st) p2) pos)
    (fun σ H Q => te σ H fun x H1 => ts σ H1 fun y H2 => ∃ a xs, x = .ref a ∧ y = .int (-1) ∧ SqT X.K H2 a xs ∧ ∀ p, H2 p = none → Q (.ref p) (upd H2 p (.tup xs.reverse))) := by
  intro pins s σ H Q I h
  refine Subscript_ (thn (he pins s σ H _ I h) fun v s1 ⟨x, H1, I1, r1, q1⟩ => ?_)
  refine wpAny_Slice ?_
  rw [evalPart_none]
  refine wpAny_pure (wpAny_pure ?_)
  rw [evalPart_some]
  refine thn (hs pins s1 σ H1 _ I1 q1) fun vs s3 ⟨y, H3, I3, r3, a, xs, e1, e2, hx, q⟩ => ?_
  subst e1 e2
  cases r1
  obtain ⟨tk, rfl⟩ := r3
  have I4 : Inv X pins σ H3 { s3 with heap := s3.heap.push { cls := .type "slice", data := .fields #[.none, .none, .int (-1) tk] } } := I3.kept (t' := s3.toks) fun b ob q => Heap.get?_push_of_some _ q
  obtain ⟨its, r, ht, hz⟩ := I4.tuple hx
  have hlen : its.toArray.size = xs.length := by rw [List.size_toArray]; exact r.length.symm
  show wpAny (model X.prog X.w) X.A (subscriptTail e (.Slice none none (some st) p2) (.ref a) (.ref s3.heap.objs.size)) (EP X pins σ Q) X.xe { s3 with heap := s3.heap.push { cls := .type "slice", data := .fields #[.none, .none, .int (-1) tk] } }
  refine tail_any (ops := [.ref a, .ref s3.heap.objs.size]) ht.typeIs PyProof.Rows.slot_tuple_getitem.lookup ?_ (by with_unfolding_all rfl)
  refine getItem_tuple_rev ht (Heap.IsSliceOf.new ..) ?_ (by rw [hlen]; exact hz)
  refine ⟨.ref _, _, I4.laid (t' := s3.toks) (o := .tup xs.reverse) (fun b ob q => Heap.get?_push_of_some _ q) (Nat.le_refl _) ?_, rfl, q _ (I4.hok.fresh (Nat.le_refl _))⟩
  exact ⟨by rw [List.length_reverse]; exact hz, _, vals_rev r, IsTup.new _ _⟩
theorem reps_rev {K : PySem.W.Frag} {H : Hp} {ds : List D} {vs : List V} (h : Reps K H ds vs) : Reps K H ds.reverse vs.reverse := by
  induction ds generalizing vs with
  | nil => cases vs with
    | nil => exact h
    | cons _ _ => exact absurd h.length (by simp)
  | cons d ds ih => cases vs with
    | nil => exact absurd h.length (by simp)
    | cons v vs =>
      obtain ⟨v', r', e, h1, h2⟩ := h
      cases e
      rw [List.reverse_cons, List.reverse_cons]
      exact (ih h2).append ⟨_, _, rfl, h1, rfl⟩
theorem je_revT {a st : Expr} {f : DE} {pos p2 : Pos} (ha : JE X a f) (hs : JE X st (dNeg (dC (.int 1)))) : JE X (.Subscript a (.Slice none none (some st) p2) pos) (dRevT f) := fun ρ d q => by
  obtain ⟨x, e1, q⟩ := Option.bind_eq_some_iff.mp q
  cases x with
  | tuple xs =>
    cases q
    refine pe_imp (pe_rev (ha ρ _ e1) (hs ρ (.int (-1)) rfl)) fun σ H Q ⟨H0, Hf, s, sl, k⟩ => ?_
    refine ⟨H0, Hf, s, sl, fun v H1 Hf1 g1 ⟨p, vs, q1, q2, q3⟩ => ⟨H0, Hf1, g1.sub, sl.grow g1, fun u H2 Hf2 g2 r2 => ?_⟩⟩
    subst q1
    cases r2
    have q2' := sqT_mono g2.ext q2
    have q3' := q3.mono g2.ext
    refine ⟨p, vs, rfl, rfl, sqT_mono g2.sub q2', fun p' hp => ?_⟩
    exact k _ _ _ ((g1.trans g2).trans (Grow.laid g2.sub hp)) ⟨p', _, rfl, SqT.of upd_same, (reps_rev q3').mono (same_upd (g2.sub.free hp))⟩
  | _ => cases q
end
end G
namespace Sh
open PySem PySem.Spec PyProof.Rows L2 G
def G_weighted : DS := (sRet (dTupN (qN (nComp 1 [1] (iSeq (dVar 0)) (gSet 0) cTrue (dCall F_times (aCons (dVar 0) (aCons (dVar 1) aNil)))))))
def F_weighted : List D → Option D := runD G_weighted 2
def G_l_odd : DS := (sSeq (sSet 1 (dLst (aCons (dNeg (dC (.int 1))) (aCons (dC (.int 0)) (aCons (dC (.int 1)) (aCons (dC (.int 2)) (aCons (dC (.int 10)) (aCons (dC (.bool true)) (aCons (dC (.bool false)) (aCons (dC .none) (aCons (dC (.str "")) (aCons (dC (.str "a")) (aCons (dC (.str "over")) (aCons (dC (.str "Ab")) (aCons (dTup aNil) (aCons (dLst aNil) (aCons (dTup (aCons (dC (.int 0)) (aCons (dC (.int 1)) aNil))) (aCons (dTup (aCons (dC (.int 1)) (aCons (dC (.int 1)) aNil))) (aCons (dTup (aCons (dC (.int 1)) (aCons (dC (.int 2)) aNil))) (aCons (dTup (aCons (dC (.int 2)) (aCons (dC (.int 2)) aNil))) (aCons (dTup (aCons (dC (.int 2)) (aCons (dC (.int 1)) aNil))) aNil))))))))))))))))))))) (sSeq (sSet 1 (dBin catE (dVar 1) (dLst (aCons (dTup (aCons (dC (.str "a")) aNil)) (aCons (dLst (aCons (dC (.int 0)) (aCons (dC (.int 1)) aNil))) (aCons (dC (.str "abcdefg")) (aCons (dTup (aCons (dNeg (dC (.int 1))) (aCons (dC (.int 1)) aNil))) (aCons (dTup (aCons (dC (.int 1)) (aCons (dC (.int 0)) aNil))) (aCons (dBin mulD (dTup (aCons (dTup (aCons (dC (.int 0)) (aCons (dC (.int 1)) aNil))) aNil)) (dC (.int 4))) (aCons (dTup (aCons (dC (.str "tone")) (aCons (dC (.str "zz")) (aCons (dC (.str "grey")) (aCons (dTup (aCons (dC (.int 1)) (aCons (dC (.int 1)) aNil))) (aCons (dC (.bool true)) aNil)))))) aNil)))))))))) (sRet (dIx (qVar 1) (dBin modI (dVar 0) (dC (.int 26)))))))
def F_l_odd : List D → Option D := runD G_l_odd 2
def G_l_spoilt (self : List D → Option D) : DS := (sSeq (sIf (tAnd2 (tB2 gtI (dVar 2) (dC (.int 0))) (tAnd2 (tTru (dIsi "tuple" (dVar 0))) (tAnd2 (tB2 gtI (dLen (qVar 0)) (dC (.int 0))) (tB2 gtI (dBin modI (dVar 1) (dC (.int 7))) (dC (.int 0)))))) (sSeq (sSet 3 (dBin modI (dBin divI (dVar 1) (dC (.int 7))) (dLen (qVar 0)))) (sSeq (sSet 4 (dCall self (aCons (dIx (qVar 0) (dVar 3)) (aCons (dBin divI (dVar 1) (dC (.int 91))) (aCons (dBin subI (dVar 2) (dC (.int 1))) aNil))))) (sRet (dBin catD (dBin catD (dSlT (dVar 0) oNone (oSome (dVar 3))) (dTup (aCons (dVar 4) aNil))) (dSlT (dVar 0) (oSome (dBin catD (dVar 3) (dC (.int 1)))) oNone))))) sNil) (sSeq (sIf (tAnd2 (tTru (dIsi "tuple" (dVar 0))) (tAnd2 (tB2 gtI (dLen (qVar 0)) (dC (.int 0))) (tB2 eqD (dBin modI (dBin divI (dVar 1) (dC (.int 7))) (dC (.int 2))) (dC (.int 0))))) (sRet (dIx (qN (aCons (dLst (fun ρ => ((qVar 0) ρ).map fun q => q.2)) (aCons (dSlT (dVar 0) oNone (oSome (dNeg (dC (.int 1))))) (aCons (dBin catD (dVar 0) (dSlT (dVar 0) (oSome (dNeg (dC (.int 1)))) oNone)) (aCons (dSlT (dVar 0) (oSome (dC (.int 1))) oNone) (aCons (dRevT (dVar 0)) (aCons (dBin mulD (dVar 0) (dC (.int 2))) aNil))))))) (dBin modI (dBin divI (dVar 1) (dC (.int 14))) (dC (.int 6))))) sNil) (sSeq (sIf (tAnd2 (tTru (dIsi "int" (dVar 0))) (tB2 eqD (dBin modI (dBin divI (dVar 1) (dC (.int 7))) (dC (.int 2))) (dC (.int 0)))) (sRet (dIx (qN (aCons (dStr (dVar 0)) (aCons (dBin subI (dC (.int 0)) (dVar 0)) (aCons (dBin catD (dVar 0) (dC (.int 1))) (aCons (dBin eqD (dVar 0) (dC (.int 1))) (aCons (dBin subI (dVar 0) (dC (.int 1))) (aCons (dBin catD (dVar 0) (dC (.int 9))) aNil))))))) (dBin modI (dBin divI (dVar 1) (dC (.int 14))) (dC (.int 6))))) sNil) (sRet (dCall F_l_odd (aCons (dBin divI (dVar 1) (dC (.int 7))) aNil))))))
def F_l_spoilt : Nat → List D → Option D
  | 0 => fun _ => none
  | k + 1 => runD (G_l_spoilt (F_l_spoilt k)) 5
end Sh
namespace G
open PySem PySem.Spec PyProof.Rows L2
section
variable {X : Cx}
end
end G
namespace G
open PySem PySem.Spec PyProof.Rows L2
section
variable {X : Cx}
end
end G
namespace G
open PySem PySem.Spec PyProof.Rows L2
section
variable {X : Cx}
end
end G
namespace G
open PySem PySem.Spec PyProof.Rows L2
section
variable {X : Cx}
end
end G
namespace G
open PySem PySem.Spec PyProof.Rows L2
section
variable {K : PySem.W.Frag}
end
end G
namespace Lk01
open PySem PySem.Spec PyProof.Rows L2 G Sh
def top (i : Nat) : Stmt := PySem.Challenge.pw_glazework_k01_spots_known.main.body.getD i (.Pass ⟨0, 0, 0, 0⟩)
abbrev s_is_whole : Stmt := top 1
abbrev s_common_divisor : Stmt := top 2
abbrev s_is_share : Stmt := top 3
abbrev s_least_form : Stmt := top 4
abbrev s_is_at_most : Stmt := top 5
abbrev s_times : Stmt := top 6
abbrev s_is_spot : Stmt := top 8
abbrev s_weighted : Stmt := top 9
abbrev s_l_cell : Stmt := top 11
abbrev s_l_drawn : Stmt := top 12
abbrev s_l_made : Stmt := top 13
abbrev s_l_times : Stmt := top 15
abbrev s_l_share : Stmt := top 17
abbrev s_l_spot : Stmt := top 18
abbrev s_l_is_whole : Stmt := top 19
abbrev s_l_is_share : Stmt := top 20
abbrev s_l_is_spot : Stmt := top 21
abbrev s_l_odd : Stmt := top 22
abbrev s_l_spoilt : Stmt := top 23
abbrev s_law : Stmt := top 24
def G_law : DS := (sSeq (sSet 1 (dCall F_l_spot (aCons (dVar 0) (aCons (dC (.int 0)) aNil)))) (sSeq (sSet 2 (dCall F_l_share (aCons (dVar 0) (aCons (dC (.int 12)) aNil)))) (sSeq (sSet 3 (dCall (F_l_spoilt 12) (aCons (dVar 1) (aCons (dCall F_l_drawn (aCons (dVar 0) (aCons (dC (.int 15)) (aCons (dBin powI (dC (.int 10)) (dC (.int 6))) aNil)))) (aCons (dCall F_l_drawn (aCons (dVar 0) (aCons (dC (.int 16)) (aCons (dC (.int 3)) aNil)))) aNil))))) (sSeq (sSet 4 (dCall (F_l_spoilt 12) (aCons (dVar 2) (aCons (dCall F_l_drawn (aCons (dVar 0) (aCons (dC (.int 17)) (aCons (dBin powI (dC (.int 10)) (dC (.int 6))) aNil)))) (aCons (dCall F_l_drawn (aCons (dVar 0) (aCons (dC (.int 18)) (aCons (dC (.int 2)) aNil)))) aNil))))) (sSeq (sFor (iSeq (dLst (aCons (dVar 1) (aCons (dVar 2) (aCons (dVar 3) (aCons (dVar 4) (aCons (dIte (tTru (dIsi "tuple" (dVar 3))) (dSlT (dVar 3) oNone (oSome (dC (.int 1)))) (dVar 3)) aNil))))))) (gSet 5) (sFor (iSeq (dLst (aCons (dTup (aCons (dCall F_is_share (aCons (dVar 5) aNil)) (aCons (dCall F_l_is_share (aCons (dVar 5) aNil)) aNil))) (aCons (dTup (aCons (dCall F_is_spot (aCons (dVar 5) aNil)) (aCons (dCall F_l_is_spot (aCons (dVar 5) aNil)) aNil))) aNil)))) (gTupD 2 (gsCons (gSet 6) (gsCons (gSet 7) gsNil))) (sIf (tOr2 (tNot2 (tTru (dIsi "bool" (dVar 6)))) (tB2 neD (dVar 6) (dVar 7))) (sRet (dC (.bool false))) sNil))) (sSeq (sSet 8 (dCall F_weighted (aCons (dVar 1) (aCons (dVar 2) aNil)))) (sRet (dAnd (dBin eqD (dVar 8) (dTupN (qN (nComp 1 [2] (iSeq (dVar 1)) (gSet 0) cTrue (dCall F_l_times (aCons (dVar 0) (aCons (dVar 1) aNil))))))) (dBin isB (dCall F_is_spot (aCons (dVar 8) aNil)) (dC (.bool true)))))))))))
def F_law : List D → Option D := runD G_law 9
end Lk01
namespace Lk01
open PySem PySem.Spec PyProof.Rows L2 G Sh
structure Ad where
  a_is_whole : Addr
  d_is_whole : FuncData
  a_common_divisor : Addr
  d_common_divisor : FuncData
  a_is_share : Addr
  d_is_share : FuncData
  a_least_form : Addr
  d_least_form : FuncData
  a_is_at_most : Addr
  d_is_at_most : FuncData
  a_times : Addr
  d_times : FuncData
  a_is_spot : Addr
  d_is_spot : FuncData
  a_weighted : Addr
  d_weighted : FuncData
  a_l_cell : Addr
  d_l_cell : FuncData
  a_l_drawn : Addr
  d_l_drawn : FuncData
  a_l_made : Addr
  d_l_made : FuncData
  a_l_times : Addr
  d_l_times : FuncData
  a_l_share : Addr
  d_l_share : FuncData
  a_l_spot : Addr
  d_l_spot : FuncData
  a_l_is_whole : Addr
  d_l_is_whole : FuncData
  a_l_is_share : Addr
  d_l_is_share : FuncData
  a_l_is_spot : Addr
  d_l_is_spot : FuncData
  a_l_odd : Addr
  d_l_odd : FuncData
  a_l_spoilt : Addr
  d_l_spoilt : FuncData
  a_law : Addr
  d_law : FuncData
structure Tx (K : PySem.W.Frag) (mg : Str → Option Value) (t : Ad) : Prop where
  f_is_whole : Fun K "is_whole" "is_whole" s_is_whole t.a_is_whole t.d_is_whole
  m_is_whole : mg "is_whole" = some (.ref t.a_is_whole)
  b_is_whole : Binds K t.d_is_whole ["thing"] []
  f_common_divisor : Fun K "common_divisor" "common_divisor" s_common_divisor t.a_common_divisor t.d_common_divisor
  m_common_divisor : mg "common_divisor" = some (.ref t.a_common_divisor)
  b_common_divisor : Binds K t.d_common_divisor ["one", "other"] []
  f_is_share : Fun K "is_share" "is_share" s_is_share t.a_is_share t.d_is_share
  m_is_share : mg "is_share" = some (.ref t.a_is_share)
  b_is_share : Binds K t.d_is_share ["thing"] []
  f_least_form : Fun K "least_form" "least_form" s_least_form t.a_least_form t.d_least_form
  m_least_form : mg "least_form" = some (.ref t.a_least_form)
  b_least_form : Binds K t.d_least_form ["top", "under"] []
  f_is_at_most : Fun K "is_at_most" "is_at_most" s_is_at_most t.a_is_at_most t.d_is_at_most
  m_is_at_most : mg "is_at_most" = some (.ref t.a_is_at_most)
  b_is_at_most : Binds K t.d_is_at_most ["one", "other"] []
  f_times : Fun K "times" "times" s_times t.a_times t.d_times
  m_times : mg "times" = some (.ref t.a_times)
  b_times : Binds K t.d_times ["one", "other"] []
  f_is_spot : Fun K "is_spot" "is_spot" s_is_spot t.a_is_spot t.d_is_spot
  m_is_spot : mg "is_spot" = some (.ref t.a_is_spot)
  b_is_spot : Binds K t.d_is_spot ["thing"] []
  f_weighted : Fun K "weighted" "weighted" s_weighted t.a_weighted t.d_weighted
  m_weighted : mg "weighted" = some (.ref t.a_weighted)
  b_weighted : Binds K t.d_weighted ["spot", "share"] []
  f_l_cell : Fun K "_law_cell" "_law_cell" s_l_cell t.a_l_cell t.d_l_cell
  m_l_cell : mg "_law_cell" = some (.ref t.a_l_cell)
  b_l_cell : Binds K t.d_l_cell ["_law_script", "_law_k"] []
  f_l_drawn : Fun K "_law_drawn" "_law_drawn" s_l_drawn t.a_l_drawn t.d_l_drawn
  m_l_drawn : mg "_law_drawn" = some (.ref t.a_l_drawn)
  b_l_drawn : Binds K t.d_l_drawn ["_law_script", "_law_k", "_law_many"] []
  f_l_made : Fun K "_law_made" "_law_made" s_l_made t.a_l_made t.d_l_made
  m_l_made : mg "_law_made" = some (.ref t.a_l_made)
  b_l_made : Binds K t.d_l_made ["_law_top", "_law_under"] []
  f_l_times : Fun K "_law_times" "_law_times" s_l_times t.a_l_times t.d_l_times
  m_l_times : mg "_law_times" = some (.ref t.a_l_times)
  b_l_times : Binds K t.d_l_times ["_law_one", "_law_other"] []
  f_l_share : Fun K "_law_share" "_law_share" s_l_share t.a_l_share t.d_l_share
  m_l_share : mg "_law_share" = some (.ref t.a_l_share)
  b_l_share : Binds K t.d_l_share ["_law_script", "_law_at"] []
  f_l_spot : Fun K "_law_spot" "_law_spot" s_l_spot t.a_l_spot t.d_l_spot
  m_l_spot : mg "_law_spot" = some (.ref t.a_l_spot)
  b_l_spot : Binds K t.d_l_spot ["_law_script", "_law_at"] []
  f_l_is_whole : Fun K "_law_is_whole" "_law_is_whole" s_l_is_whole t.a_l_is_whole t.d_l_is_whole
  m_l_is_whole : mg "_law_is_whole" = some (.ref t.a_l_is_whole)
  b_l_is_whole : Binds K t.d_l_is_whole ["_law_thing"] []
  f_l_is_share : Fun K "_law_is_share" "_law_is_share" s_l_is_share t.a_l_is_share t.d_l_is_share
  m_l_is_share : mg "_law_is_share" = some (.ref t.a_l_is_share)
  b_l_is_share : Binds K t.d_l_is_share ["_law_thing"] []
  f_l_is_spot : Fun K "_law_is_spot" "_law_is_spot" s_l_is_spot t.a_l_is_spot t.d_l_is_spot
  m_l_is_spot : mg "_law_is_spot" = some (.ref t.a_l_is_spot)
  b_l_is_spot : Binds K t.d_l_is_spot ["_law_thing"] []
  f_l_odd : Fun K "_law_odd" "_law_odd" s_l_odd t.a_l_odd t.d_l_odd
  m_l_odd : mg "_law_odd" = some (.ref t.a_l_odd)
  b_l_odd : Binds K t.d_l_odd ["_law_number"] []
  f_l_spoilt : Fun K "_law_spoilt" "_law_spoilt" s_l_spoilt t.a_l_spoilt t.d_l_spoilt
  m_l_spoilt : mg "_law_spoilt" = some (.ref t.a_l_spoilt)
  b_l_spoilt : Binds K t.d_l_spoilt ["_law_thing", "_law_number", "_law_deep"] []
  f_law : Fun K "law" "law" s_law t.a_law t.d_law
  m_law : mg "law" = some (.ref t.a_law)
  b_law : Binds K t.d_law ["_law_script"] []
  n_all : mg "all" = none
  n_bool : mg "bool" = none
  n_int : mg "int" = none
  n_isinstance : mg "isinstance" = none
  n_len : mg "len" = none
  n_list : mg "list" = none
  n_range : mg "range" = none
  n_str : mg "str" = none
  n_tuple : mg "tuple" = none
section
variable {P : Program} {w : World} {K : PySem.W.Frag} {mg : Str → Option Value} {base : Heap} {t : Ad}
theorem sc_is_whole : FnScope ["thing"] ["thing"] (defScope s_is_whole) := ⟨rfl, rfl, rfl, by decide +kernel, rfl, by decide +kernel, by decide +kernel⟩
theorem ok_is_whole (T : Tx K mg t) : FnOk P w K mg base CX0 1 t.a_is_whole t.d_is_whole ["thing"] (spF K 1 F_is_whole) :=
  fn_rule (N := ["thing"]) T.f_is_whole sc_is_whole fun cdv A outer s H E hr => by
    have hu := hr.units
    exact (jss_one (js_ret (je_and (je_isi rfl T.n_isinstance rfl T.n_int bb_int (je_var 0)) (je_one (je_not (je_isi rfl T.n_isinstance rfl T.n_bool bb_bool (je_var 0)))))))
theorem sc_common_divisor : FnScope ["one", "other", "left_over"] ["one", "other"] (defScope s_common_divisor) := ⟨rfl, rfl, rfl, by decide +kernel, rfl, by decide +kernel, by decide +kernel⟩
theorem ok_common_divisor (T : Tx K mg t) : FnOk P w K mg base CX0 1 t.a_common_divisor t.d_common_divisor ["one", "other"] (spF K 2 F_common_divisor) :=
  fn_rule (N := ["one", "other", "left_over"]) T.f_common_divisor sc_common_divisor fun cdv A outer s H E hr => by
    have hu := hr.units
    exact (jss_cons (js_while (jt_cmp (od_ne hu) (je_var 1) je_int) (jss_cons (js_set 2 sc_common_divisor.nd (je_bin od_mod (je_var 0) (je_var 1))) (jss_cons (js_set 0 sc_common_divisor.nd (je_var 1)) (jss_one (js_set 1 sc_common_divisor.nd (je_var 2)))))) (jss_one (js_ret (je_var 0))))
theorem sc_is_share : FnScope ["thing", "top", "under"] ["thing"] (defScope s_is_share) := ⟨rfl, rfl, rfl, by decide +kernel, rfl, by decide +kernel, by decide +kernel⟩
theorem ok_is_share (T : Tx K mg t) : FnOk P w K mg base CX0 2 t.a_is_share t.d_is_share ["thing"] (spF K 1 F_is_share) :=
  fn_rule (N := ["thing", "top", "under"]) T.f_is_share sc_is_share fun cdv A outer s H E hr => by
    have hu := hr.units
    exact (jss_cons (js_if (jt_of_jw (jw_or (jt_not (jt_tru (je_isi rfl T.n_isinstance rfl T.n_tuple bb_tuple (je_var 0)))) (jw_or1 (jt_cmp (od_ne hu) (je_len rfl T.n_len (jq_var 0)) je_int)))) (jss_one (js_ret je_bl)) jss_nil) (jss_cons (js_set 1 sc_is_share.nd (je_ix (jq_var 0) je_int)) (jss_cons (js_set 2 sc_is_share.nd (je_ix (jq_var 0) je_int)) (jss_cons (js_if (jt_of_jw (jw_or (jt_not (jt_tru (je_call (ok_is_whole T) (hr.mono (by decide)) rfl T.m_is_whole T.f_is_whole.kp T.b_is_whole (ja_cons (je_var 1) ja_nil)))) (jw_or1 (jt_not (jt_tru (je_call (ok_is_whole T) (hr.mono (by decide)) rfl T.m_is_whole T.f_is_whole.kp T.b_is_whole (ja_cons (je_var 2) ja_nil))))))) (jss_one (js_ret je_bl)) jss_nil) (jss_one (js_ret (je_and (je_cmp od_gt (je_var 2) je_int) (je_and (je_chain od_le od_le je_int (je_var 1) (je_var 2)) (je_one (je_cmp (od_eq hu) (je_call (ok_common_divisor T) (hr.mono (by decide)) rfl T.m_common_divisor T.f_common_divisor.kp T.b_common_divisor (ja_cons (je_var 1) (ja_cons (je_var 2) ja_nil))) je_int))))))))))
theorem sc_least_form : FnScope ["top", "under", "divisor"] ["top", "under"] (defScope s_least_form) := ⟨rfl, rfl, rfl, by decide +kernel, rfl, by decide +kernel, by decide +kernel⟩
theorem ok_least_form (T : Tx K mg t) : FnOk P w K mg base CX0 2 t.a_least_form t.d_least_form ["top", "under"] (spF K 2 F_least_form) :=
  fn_rule (N := ["top", "under", "divisor"]) T.f_least_form sc_least_form fun cdv A outer s H E hr => by
    have hu := hr.units
    exact (jss_cons (js_set 2 sc_least_form.nd (je_call (ok_common_divisor T) (hr.mono (by decide)) rfl T.m_common_divisor T.f_common_divisor.kp T.b_common_divisor (ja_cons (je_var 0) (ja_cons (je_var 1) ja_nil)))) (jss_one (js_ret (je_tup (ja_cons (je_bin od_div (je_var 0) (je_var 2)) (ja_cons (je_bin od_div (je_var 1) (je_var 2)) ja_nil))))))
theorem sc_is_at_most : FnScope ["one", "other"] ["one", "other"] (defScope s_is_at_most) := ⟨rfl, rfl, rfl, by decide +kernel, rfl, by decide +kernel, by decide +kernel⟩
theorem ok_is_at_most (T : Tx K mg t) : FnOk P w K mg base CX0 1 t.a_is_at_most t.d_is_at_most ["one", "other"] (spF K 2 F_is_at_most) :=
  fn_rule (N := ["one", "other"]) T.f_is_at_most sc_is_at_most fun cdv A outer s H E hr => by
    have hu := hr.units
    exact (jss_one (js_ret (je_cmp od_le (je_bin od_mulD (je_ix (jq_var 0) je_int) (je_ix (jq_var 1) je_int)) (je_bin od_mulD (je_ix (jq_var 1) je_int) (je_ix (jq_var 0) je_int)))))
theorem sc_times : FnScope ["one", "other"] ["one", "other"] (defScope s_times) := ⟨rfl, rfl, rfl, by decide +kernel, rfl, by decide +kernel, by decide +kernel⟩
theorem ok_times (T : Tx K mg t) : FnOk P w K mg base CX0 3 t.a_times t.d_times ["one", "other"] (spF K 2 F_times) :=
  fn_rule (N := ["one", "other"]) T.f_times sc_times fun cdv A outer s H E hr => by
    have hu := hr.units
    exact (jss_one (js_ret (je_call (ok_least_form T) (hr.mono (by decide)) rfl T.m_least_form T.f_least_form.kp T.b_least_form (ja_cons (je_bin od_mulD (je_ix (jq_var 0) je_int) (je_ix (jq_var 1) je_int)) (ja_cons (je_bin od_mulD (je_ix (jq_var 0) je_int) (je_ix (jq_var 1) je_int)) ja_nil)))))
theorem sc_is_spot : FnScope ["thing"] ["thing"] (defScope s_is_spot) := ⟨rfl, rfl, rfl, by decide +kernel, rfl, by decide +kernel, by decide +kernel⟩
theorem ok_is_spot (T : Tx K mg t) : FnOk P w K mg base CX0 3 t.a_is_spot t.d_is_spot ["thing"] (spF K 1 F_is_spot) :=
  fn_rule (N := ["thing"]) T.f_is_spot sc_is_spot fun cdv A outer s H E hr => by
    have hu := hr.units
    exact (jss_cons (js_if (jt_of_jw (jw_or (jt_not (jt_tru (je_isi rfl T.n_isinstance rfl T.n_tuple bb_tuple (je_var 0)))) (jw_or1 (jt_cmp (od_ne hu) (je_len rfl T.n_len (jq_var 0)) je_int)))) (jss_one (js_ret je_bl)) jss_nil) (jss_cons (js_if (jt_not (jt_tru (je_all rfl T.n_all (jq_n (jn_comp (compSc_of (sc := defScope s_is_spot) (N := ["thing"]) (N' := ["part"]) (n := 1) (caps := []) (by decide +kernel) rfl rfl) (fun _ _ h => h) (ji_seq (je_var 0)) (fun _ _ _ _ => (jg_name 0 (show List.Nodup (["part"] : List Str) by decide +kernel))) (fun _ _ _ _ => jts_nil) (fun _ _ _ _ => (je_call (ok_is_share T) (hr.mono (by decide)) rfl T.m_is_share T.f_is_share.kp T.b_is_share (ja_cons (je_var 0) ja_nil)))))))) (jss_one (js_ret je_bl)) jss_nil) (jss_one (js_ret (je_all rfl T.n_all (jq_n (jn_comp (compSc_of (sc := defScope s_is_spot) (N := ["thing"]) (N' := ["colour", "thing"]) (n := 1) (caps := [0]) (by decide +kernel) rfl rfl) (fun _ _ h => h) (ji_seq (je_slT (je_var 0) (jo_some je_int) jo_none)) (fun _ _ _ _ => (jg_name 0 (show List.Nodup (["colour", "thing"] : List Str) by decide +kernel))) (fun _ _ _ _ => jts_nil) (fun _ _ _ _ => (je_call (ok_is_at_most T) (hr.mono (by decide)) rfl T.m_is_at_most T.f_is_at_most.kp T.b_is_at_most (ja_cons (je_var 0) (ja_cons (je_ix (jq_var 1) je_int) ja_nil)))))))))))
theorem sc_weighted : FnScope ["spot", "share"] ["spot", "share"] (defScope s_weighted) := ⟨rfl, rfl, rfl, by decide +kernel, rfl, by decide +kernel, by decide +kernel⟩
theorem ok_weighted (T : Tx K mg t) : FnOk P w K mg base CX0 4 t.a_weighted t.d_weighted ["spot", "share"] (spF K 2 F_weighted) :=
  fn_rule (N := ["spot", "share"]) T.f_weighted sc_weighted fun cdv A outer s H E hr => by
    have hu := hr.units
    exact (jss_one (js_ret (je_tupN rfl T.n_tuple (jq_n (jn_comp (compSc_of (sc := defScope s_weighted) (N := ["spot", "share"]) (N' := ["part", "share"]) (n := 1) (caps := [1]) (by decide +kernel) rfl rfl) (fun _ _ h => h) (ji_seq (je_var 0)) (fun _ _ _ _ => (jg_name 0 (show List.Nodup (["part", "share"] : List Str) by decide +kernel))) (fun _ _ _ _ => jts_nil) (fun _ _ _ _ => (je_call (ok_times T) (hr.mono (by decide)) rfl T.m_times T.f_times.kp T.b_times (ja_cons (je_var 0) (ja_cons (je_var 1) ja_nil)))))))))
theorem sc_l_cell : FnScope ["_law_script", "_law_k"] ["_law_script", "_law_k"] (defScope s_l_cell) := ⟨rfl, rfl, rfl, by decide +kernel, rfl, by decide +kernel, by decide +kernel⟩
theorem ok_l_cell (T : Tx K mg t) : FnOk P w K mg base CX0 1 t.a_l_cell t.d_l_cell ["_law_script", "_law_k"] (spF K 2 F_l_cell) :=
  fn_rule (N := ["_law_script", "_law_k"]) T.f_l_cell sc_l_cell fun cdv A outer s H E hr => by
    have hu := hr.units
    exact (jss_cons (js_if (jt_cmp (od_eq hu) (je_var 0) (je_of_jn (jn_lst ja_nil))) (jss_one (js_ret (je_bin od_mulD je_int (je_var 1)))) jss_nil) (jss_one (js_ret (je_bin od_cat (je_ix (jq_var 0) (je_bin od_mod (je_var 1) (je_len rfl T.n_len (jq_var 0)))) (je_bin od_mulD je_int (je_bin od_div (je_var 1) (je_len rfl T.n_len (jq_var 0))))))))
theorem sc_l_drawn : FnScope ["_law_script", "_law_k", "_law_many", "_law_cell_here"] ["_law_script", "_law_k", "_law_many"] (defScope s_l_drawn) := ⟨rfl, rfl, rfl, by decide +kernel, rfl, by decide +kernel, by decide +kernel⟩
theorem ok_l_drawn (T : Tx K mg t) : FnOk P w K mg base CX0 2 t.a_l_drawn t.d_l_drawn ["_law_script", "_law_k", "_law_many"] (spF K 3 F_l_drawn) :=
  fn_rule (N := ["_law_script", "_law_k", "_law_many", "_law_cell_here"]) T.f_l_drawn sc_l_drawn fun cdv A outer s H E hr => by
    have hu := hr.units
    exact (jss_cons (js_set 3 sc_l_drawn.nd (je_bin od_mod (je_bin od_cat (je_bin od_mulD (je_bin od_mod (je_call (ok_l_cell T) (hr.mono (by decide)) rfl T.m_l_cell T.f_l_cell.kp T.b_l_cell (ja_cons (je_var 0) (ja_cons (je_var 1) ja_nil))) je_int) je_int) (je_bin od_mulD je_int (je_bin od_cat (je_var 1) je_int))) je_int)) (jss_cons (js_set 3 sc_l_drawn.nd (je_bin od_mod (je_bin od_cat (je_bin od_mulD (je_var 3) (je_var 3)) (je_bin od_div (je_var 3) je_int)) je_int)) (jss_one (js_ret (je_bin od_mod (je_bin od_div (je_bin od_mod (je_bin od_cat (je_bin od_mulD (je_var 3) (je_var 3)) (je_bin od_div (je_var 3) je_int)) je_int) je_int) (je_var 2))))))
theorem sc_l_made : FnScope ["_law_top", "_law_under", "_law_one", "_law_by"] ["_law_top", "_law_under"] (defScope s_l_made) := ⟨rfl, rfl, rfl, by decide +kernel, rfl, by decide +kernel, by decide +kernel⟩
theorem ok_l_made (T : Tx K mg t) : FnOk P w K mg base CX0 1 t.a_l_made t.d_l_made ["_law_top", "_law_under"] (spF K 2 F_l_made) :=
  fn_rule (N := ["_law_top", "_law_under", "_law_one", "_law_by"]) T.f_l_made sc_l_made fun cdv A outer s H E hr => by
    have hu := hr.units
    exact (jss_cons (js_set 2 sc_l_made.nd (je_var 0)) (jss_cons (js_set 3 sc_l_made.nd (je_var 1)) (jss_cons (js_while (jt_cmp od_gt (je_var 2) je_int) (jss_one (js_par (i := 2) (j := 3) sc_l_made.nd (ja_cons (je_bin od_mod (je_var 3) (je_var 2)) (ja_cons (je_var 2) ja_nil)) (by rfl) (by decide)))) (jss_one (js_ret (je_tup (ja_cons (je_bin od_div (je_var 0) (je_var 3)) (ja_cons (je_bin od_div (je_var 1) (je_var 3)) ja_nil))))))))
theorem sc_l_times : FnScope ["_law_one", "_law_other"] ["_law_one", "_law_other"] (defScope s_l_times) := ⟨rfl, rfl, rfl, by decide +kernel, rfl, by decide +kernel, by decide +kernel⟩
theorem ok_l_times (T : Tx K mg t) : FnOk P w K mg base CX0 2 t.a_l_times t.d_l_times ["_law_one", "_law_other"] (spF K 2 F_l_times) :=
  fn_rule (N := ["_law_one", "_law_other"]) T.f_l_times sc_l_times fun cdv A outer s H E hr => by
    have hu := hr.units
    exact (jss_one (js_ret (je_call (ok_l_made T) (hr.mono (by decide)) rfl T.m_l_made T.f_l_made.kp T.b_l_made (ja_cons (je_bin od_mulD (je_ix (jq_var 0) je_int) (je_ix (jq_var 1) je_int)) (ja_cons (je_bin od_mulD (je_ix (jq_var 0) je_int) (je_ix (jq_var 1) je_int)) ja_nil)))))
theorem sc_l_share : FnScope ["_law_script", "_law_at", "_law_under", "_law_drawn_here"] ["_law_script", "_law_at"] (defScope s_l_share) := ⟨rfl, rfl, rfl, by decide +kernel, rfl, by decide +kernel, by decide +kernel⟩
theorem ok_l_share (T : Tx K mg t) : FnOk P w K mg base CX0 3 t.a_l_share t.d_l_share ["_law_script", "_law_at"] (spF K 2 F_l_share) :=
  fn_rule (N := ["_law_script", "_law_at", "_law_under", "_law_drawn_here"]) T.f_l_share sc_l_share fun cdv A outer s H E hr => by
    have hu := hr.units
    exact (jss_cons (js_set 2 sc_l_share.nd (je_bin od_cat je_int (je_call (ok_l_drawn T) (hr.mono (by decide)) rfl T.m_l_drawn T.f_l_drawn.kp T.b_l_drawn (ja_cons (je_var 0) (ja_cons (je_var 1) (ja_cons je_int ja_nil)))))) (jss_cons (js_set 3 sc_l_share.nd (je_call (ok_l_made T) (hr.mono (by decide)) rfl T.m_l_made T.f_l_made.kp T.b_l_made (ja_cons (je_call (ok_l_drawn T) (hr.mono (by decide)) rfl T.m_l_drawn T.f_l_drawn.kp T.b_l_drawn (ja_cons (je_var 0) (ja_cons (je_bin od_cat (je_var 1) je_int) (ja_cons (je_bin od_cat (je_var 2) je_int) ja_nil)))) (ja_cons (je_var 2) ja_nil)))) (jss_one (js_ret (je_ix (jq_n (jn_lst (ja_cons (je_var 3) (ja_cons (je_var 3) (ja_cons (je_var 3) (ja_cons (je_tup (ja_cons je_int (ja_cons je_int ja_nil))) (ja_cons (je_tup (ja_cons je_int (ja_cons je_int ja_nil))) ja_nil))))))) (je_call (ok_l_drawn T) (hr.mono (by decide)) rfl T.m_l_drawn T.f_l_drawn.kp T.b_l_drawn (ja_cons (je_var 0) (ja_cons (je_bin od_cat (je_var 1) je_int) (ja_cons je_int ja_nil)))))))))
theorem sc_l_spot : FnScope ["_law_script", "_law_at", "_law_cover"] ["_law_script", "_law_at"] (defScope s_l_spot) := ⟨rfl, rfl, rfl, by decide +kernel, rfl, by decide +kernel, by decide +kernel⟩
theorem ok_l_spot (T : Tx K mg t) : FnOk P w K mg base CX0 4 t.a_l_spot t.d_l_spot ["_law_script", "_law_at"] (spF K 2 F_l_spot) :=
  fn_rule (N := ["_law_script", "_law_at", "_law_cover"]) T.f_l_spot sc_l_spot fun cdv A outer s H E hr => by
    have hu := hr.units
    exact (jss_cons (js_set 2 sc_l_spot.nd (je_call (ok_l_share T) (hr.mono (by decide)) rfl T.m_l_share T.f_l_share.kp T.b_l_share (ja_cons (je_var 0) (ja_cons (je_var 1) ja_nil)))) (jss_one (js_ret (je_bin od_cat (je_tup (ja_cons (je_var 2) ja_nil)) (je_tupN rfl T.n_tuple (jq_n (jn_comp (compSc_of (sc := defScope s_l_spot) (N := ["_law_script", "_law_at", "_law_cover"]) (N' := ["_law_k", "_law_cover", "_law_script", "_law_at"]) (n := 1) (caps := [2, 0, 1]) (by decide +kernel) rfl rfl) (fun _ _ h => h) (ji_range1 rfl T.n_range je_int) (fun _ _ _ _ => (jg_name 0 (show List.Nodup (["_law_k", "_law_cover", "_law_script", "_law_at"] : List Str) by decide +kernel))) (fun _ _ _ _ => jts_nil) (fun _ _ _ _ => (je_call (ok_l_times T) (hr.mono (by decide)) rfl T.m_l_times T.f_l_times.kp T.b_l_times (ja_cons (je_var 1) (ja_cons (je_call (ok_l_share T) (hr.mono (by decide)) rfl T.m_l_share T.f_l_share.kp T.b_l_share (ja_cons (je_var 2) (ja_cons (je_bin od_cat (je_bin od_cat (je_var 3) je_int) (je_bin od_mulD je_int (je_var 0))) ja_nil))) ja_nil)))))))))))
theorem sc_l_is_whole : FnScope ["_law_thing"] ["_law_thing"] (defScope s_l_is_whole) := ⟨rfl, rfl, rfl, by decide +kernel, rfl, by decide +kernel, by decide +kernel⟩
theorem ok_l_is_whole (T : Tx K mg t) : FnOk P w K mg base CX0 1 t.a_l_is_whole t.d_l_is_whole ["_law_thing"] (spF K 1 F_l_is_whole) :=
  fn_rule (N := ["_law_thing"]) T.f_l_is_whole sc_l_is_whole fun cdv A outer s H E hr => by
    have hu := hr.units
    exact (jss_one (js_ret (je_and (je_isi rfl T.n_isinstance rfl T.n_int bb_int (je_var 0)) (je_one (je_not (je_isi rfl T.n_isinstance rfl T.n_bool bb_bool (je_var 0)))))))
theorem sc_l_is_share : FnScope ["_law_thing"] ["_law_thing"] (defScope s_l_is_share) := ⟨rfl, rfl, rfl, by decide +kernel, rfl, by decide +kernel, by decide +kernel⟩
theorem ok_l_is_share (T : Tx K mg t) : FnOk P w K mg base CX0 2 t.a_l_is_share t.d_l_is_share ["_law_thing"] (spF K 1 F_l_is_share) :=
  fn_rule (N := ["_law_thing"]) T.f_l_is_share sc_l_is_share fun cdv A outer s H E hr => by
    have hu := hr.units
    exact (jss_cons (js_if (jt_of_jw (jw_or (jt_not (jt_tru (je_isi rfl T.n_isinstance rfl T.n_tuple bb_tuple (je_var 0)))) (jw_or (jt_cmp (od_ne hu) (je_len rfl T.n_len (jq_var 0)) je_int) (jw_or (jt_not (jt_tru (je_call (ok_l_is_whole T) (hr.mono (by decide)) rfl T.m_l_is_whole T.f_l_is_whole.kp T.b_l_is_whole (ja_cons (je_ix (jq_var 0) je_int) ja_nil)))) (jw_or1 (jt_not (jt_tru (je_call (ok_l_is_whole T) (hr.mono (by decide)) rfl T.m_l_is_whole T.f_l_is_whole.kp T.b_l_is_whole (ja_cons (je_ix (jq_var 0) je_int) ja_nil))))))))) (jss_one (js_ret je_bl)) jss_nil) (jss_one (js_ret (je_and (je_cmp od_gt (je_ix (jq_var 0) je_int) je_int) (je_and (je_chain od_le od_le je_int (je_ix (jq_var 0) je_int) (je_ix (jq_var 0) je_int)) (je_one (je_cmp (od_eq hu) (je_call (ok_l_made T) (hr.mono (by decide)) rfl T.m_l_made T.f_l_made.kp T.b_l_made (ja_cons (je_ix (jq_var 0) je_int) (ja_cons (je_ix (jq_var 0) je_int) ja_nil))) (je_var 0))))))))
theorem sc_l_is_spot : FnScope ["_law_thing"] ["_law_thing"] (defScope s_l_is_spot) := ⟨rfl, rfl, rfl, by decide +kernel, rfl, by decide +kernel, by decide +kernel⟩
theorem ok_l_is_spot (T : Tx K mg t) : FnOk P w K mg base CX0 3 t.a_l_is_spot t.d_l_is_spot ["_law_thing"] (spF K 1 F_l_is_spot) :=
  fn_rule (N := ["_law_thing"]) T.f_l_is_spot sc_l_is_spot fun cdv A outer s H E hr => by
    have hu := hr.units
    exact (jss_cons (js_if (jt_of_jw (jw_or (jt_not (jt_tru (je_isi rfl T.n_isinstance rfl T.n_tuple bb_tuple (je_var 0)))) (jw_or (jt_cmp (od_ne hu) (je_len rfl T.n_len (jq_var 0)) je_int) (jw_or1 (jt_cmp (od_ne hu) (je_of_jn (jn_comp (compSc_of (sc := defScope s_l_is_spot) (N := ["_law_thing"]) (N' := ["_law_part"]) (n := 1) (caps := []) (by decide +kernel) rfl rfl) (fun _ _ h => h) (ji_seq (je_var 0)) (fun _ _ _ _ => (jg_name 0 (show List.Nodup (["_law_part"] : List Str) by decide +kernel))) (fun _ _ _ _ => (jts_one (jt_not (jt_tru (je_call (ok_l_is_share T) (hr.mono (by decide)) rfl T.m_l_is_share T.f_l_is_share.kp T.b_l_is_share (ja_cons (je_var 0) ja_nil)))))) (fun _ _ _ _ => (je_var 0)))) (je_of_jn (jn_lst ja_nil))))))) (jss_one (js_ret je_bl)) jss_nil) (jss_one (js_ret (je_cmp (od_eq hu) (je_of_jn (jn_comp (compSc_of (sc := defScope s_l_is_spot) (N := ["_law_thing"]) (N' := ["_law_part", "_law_thing"]) (n := 1) (caps := [0]) (by decide +kernel) rfl rfl) (fun _ _ h => h) (ji_seq (je_var 0)) (fun _ _ _ _ => (jg_name 0 (show List.Nodup (["_law_part", "_law_thing"] : List Str) by decide +kernel))) (fun _ _ _ _ => (jts_one (jt_cmp od_gt (je_bin od_mulD (je_ix (jq_var 0) je_int) (je_ix (jq_of (je_ix (jq_var 1) je_int)) je_int)) (je_bin od_mulD (je_ix (jq_of (je_ix (jq_var 1) je_int)) je_int) (je_ix (jq_var 0) je_int))))) (fun _ _ _ _ => (je_var 0)))) (je_of_jn (jn_lst ja_nil))))))
theorem sc_l_odd : FnScope ["_law_number", "_law_some"] ["_law_number"] (defScope s_l_odd) := ⟨rfl, rfl, rfl, by decide +kernel, rfl, by decide +kernel, by decide +kernel⟩
theorem ok_l_odd (T : Tx K mg t) : FnOk P w K mg base CX0 1 t.a_l_odd t.d_l_odd ["_law_number"] (spF K 1 F_l_odd) :=
  fn_rule (N := ["_law_number", "_law_some"]) T.f_l_odd sc_l_odd fun cdv A outer s H E hr => by
    have hu := hr.units
    exact (jss_cons (js_set 1 sc_l_odd.nd (je_of_jn (jn_lst (ja_cons (je_neg je_int) (ja_cons je_int (ja_cons je_int (ja_cons je_int (ja_cons je_int (ja_cons je_bl (ja_cons je_bl (ja_cons je_non (ja_cons je_str (ja_cons je_str (ja_cons je_str (ja_cons je_str (ja_cons (je_tup ja_nil) (ja_cons (je_of_jn (jn_lst ja_nil)) (ja_cons (je_tup (ja_cons je_int (ja_cons je_int ja_nil))) (ja_cons (je_tup (ja_cons je_int (ja_cons je_int ja_nil))) (ja_cons (je_tup (ja_cons je_int (ja_cons je_int ja_nil))) (ja_cons (je_tup (ja_cons je_int (ja_cons je_int ja_nil))) (ja_cons (je_tup (ja_cons je_int (ja_cons je_int ja_nil))) ja_nil)))))))))))))))))))))) (jss_cons (js_set 1 sc_l_odd.nd (je_bin od_catE (je_var 1) (je_of_jn (jn_lst (ja_cons (je_tup (ja_cons je_str ja_nil)) (ja_cons (je_of_jn (jn_lst (ja_cons je_int (ja_cons je_int ja_nil)))) (ja_cons je_str (ja_cons (je_tup (ja_cons (je_neg je_int) (ja_cons je_int ja_nil))) (ja_cons (je_tup (ja_cons je_int (ja_cons je_int ja_nil))) (ja_cons (je_bin od_mulD (je_tup (ja_cons (je_tup (ja_cons je_int (ja_cons je_int ja_nil))) ja_nil)) je_int) (ja_cons (je_tup (ja_cons je_str (ja_cons je_str (ja_cons je_str (ja_cons (je_tup (ja_cons je_int (ja_cons je_int ja_nil))) (ja_cons je_bl ja_nil)))))) ja_nil))))))))))) (jss_one (js_ret (je_ix (jq_var 1) (je_bin od_mod (je_var 0) je_int))))))
theorem sc_l_spoilt : FnScope ["_law_thing", "_law_number", "_law_deep", "_law_at", "_law_part"] ["_law_thing", "_law_number", "_law_deep"] (defScope s_l_spoilt) := ⟨rfl, rfl, rfl, by decide +kernel, rfl, by decide +kernel, by decide +kernel⟩
theorem ok_l_spoilt (T : Tx K mg t) : ∀ j : Nat, FnOk P w K mg base CX0 (j + 2) t.a_l_spoilt t.d_l_spoilt ["_law_thing", "_law_number", "_law_deep"] (spF K 3 (F_l_spoilt j))
  | 0 => ⟨fun vs H Q E h => h.1, fun A outer s H args us vs Q E hr e0 hb hv hs => by obtain ⟨_, Hf, ds, d, _, _, e, _⟩ := hs; cases e⟩
  | j + 1 => fn_rule (N := ["_law_thing", "_law_number", "_law_deep", "_law_at", "_law_part"]) T.f_l_spoilt sc_l_spoilt fun cdv A outer s H E hr => by
    have hu := hr.units
    have Self := ok_l_spoilt T j
    exact (jss_cons (js_if (jt_of_jw (jw_and (jt_cmp od_gt (je_var 2) je_int) (jw_and (jt_tru (je_isi rfl T.n_isinstance rfl T.n_tuple bb_tuple (je_var 0))) (jw_and (jt_cmp od_gt (je_len rfl T.n_len (jq_var 0)) je_int) (jw_and1 (jt_cmp od_gt (je_bin od_mod (je_var 1) je_int) je_int)))))) (jss_cons (js_set 3 sc_l_spoilt.nd (je_bin od_mod (je_bin od_div (je_var 1) je_int) (je_len rfl T.n_len (jq_var 0)))) (jss_cons (js_set 4 sc_l_spoilt.nd (je_call Self (hr.mono (by omega)) rfl T.m_l_spoilt T.f_l_spoilt.kp T.b_l_spoilt (ja_cons (je_ix (jq_var 0) (je_var 3)) (ja_cons (je_bin od_div (je_var 1) je_int) (ja_cons (je_bin od_sub (je_var 2) je_int) ja_nil))))) (jss_one (js_ret (je_bin od_cat (je_bin od_cat (je_slT (je_var 0) jo_none (jo_some (je_var 3))) (je_tup (ja_cons (je_var 4) ja_nil))) (je_slT (je_var 0) (jo_some (je_bin od_cat (je_var 3) je_int)) jo_none)))))) jss_nil) (jss_cons (js_if (jt_of_jw (jw_and (jt_tru (je_isi rfl T.n_isinstance rfl T.n_tuple bb_tuple (je_var 0))) (jw_and (jt_cmp od_gt (je_len rfl T.n_len (jq_var 0)) je_int) (jw_and1 (jt_cmp (od_eq hu) (je_bin od_mod (je_bin od_div (je_var 1) je_int) je_int) je_int))))) (jss_one (js_ret (je_ix (jq_n (jn_lst (ja_cons (je_of_jn (jn_list rfl T.n_list (jq_var 0))) (ja_cons (je_slT (je_var 0) jo_none (jo_some (je_neg je_int))) (ja_cons (je_bin od_cat (je_var 0) (je_slT (je_var 0) (jo_some (je_neg je_int)) jo_none)) (ja_cons (je_slT (je_var 0) (jo_some je_int) jo_none) (ja_cons (je_revT (je_var 0) (je_neg je_int)) (ja_cons (je_bin od_mulD (je_var 0) je_int) ja_nil)))))))) (je_bin od_mod (je_bin od_div (je_var 1) je_int) je_int)))) jss_nil) (jss_cons (js_if (jt_of_jw (jw_and (jt_tru (je_isi rfl T.n_isinstance rfl T.n_int bb_int (je_var 0))) (jw_and1 (jt_cmp (od_eq hu) (je_bin od_mod (je_bin od_div (je_var 1) je_int) je_int) je_int)))) (jss_one (js_ret (je_ix (jq_n (jn_lst (ja_cons (je_strOf rfl T.n_str (je_var 0)) (ja_cons (je_bin od_sub je_int (je_var 0)) (ja_cons (je_bin od_cat (je_var 0) je_int) (ja_cons (je_cmp (od_eq hu) (je_var 0) je_int) (ja_cons (je_bin od_sub (je_var 0) je_int) (ja_cons (je_bin od_cat (je_var 0) je_int) ja_nil)))))))) (je_bin od_mod (je_bin od_div (je_var 1) je_int) je_int)))) jss_nil) (jss_one (js_ret (je_call (ok_l_odd T) (hr.mono (by omega)) rfl T.m_l_odd T.f_l_odd.kp T.b_l_odd (ja_cons (je_bin od_div (je_var 1) je_int) ja_nil)))))))
theorem sc_law : FnScope ["_law_script", "_law_spot_here", "_law_share_here", "_law_thing", "_law_other", "_law_one", "_law_said", "_law_due", "_law_told"] ["_law_script"] (defScope s_law) := ⟨rfl, rfl, rfl, by decide +kernel, rfl, by decide +kernel, by decide +kernel⟩
theorem ok_law (T : Tx K mg t) : FnOk P w K mg base CX0 15 t.a_law t.d_law ["_law_script"] (spF K 1 F_law) :=
  fn_rule (N := ["_law_script", "_law_spot_here", "_law_share_here", "_law_thing", "_law_other", "_law_one", "_law_said", "_law_due", "_law_told"]) T.f_law sc_law fun cdv A outer s H E hr => by
    have hu := hr.units
    exact (jss_cons (js_set 1 sc_law.nd (je_call (ok_l_spot T) (hr.mono (by decide)) rfl T.m_l_spot T.f_l_spot.kp T.b_l_spot (ja_cons (je_var 0) (ja_cons je_int ja_nil)))) (jss_cons (js_set 2 sc_law.nd (je_call (ok_l_share T) (hr.mono (by decide)) rfl T.m_l_share T.f_l_share.kp T.b_l_share (ja_cons (je_var 0) (ja_cons je_int ja_nil)))) (jss_cons (js_set 3 sc_law.nd (je_call (ok_l_spoilt T 12) (hr.mono (by decide)) rfl T.m_l_spoilt T.f_l_spoilt.kp T.b_l_spoilt (ja_cons (je_var 1) (ja_cons (je_call (ok_l_drawn T) (hr.mono (by decide)) rfl T.m_l_drawn T.f_l_drawn.kp T.b_l_drawn (ja_cons (je_var 0) (ja_cons je_int (ja_cons (je_bin od_pow je_int je_int) ja_nil)))) (ja_cons (je_call (ok_l_drawn T) (hr.mono (by decide)) rfl T.m_l_drawn T.f_l_drawn.kp T.b_l_drawn (ja_cons (je_var 0) (ja_cons je_int (ja_cons je_int ja_nil)))) ja_nil))))) (jss_cons (js_set 4 sc_law.nd (je_call (ok_l_spoilt T 12) (hr.mono (by decide)) rfl T.m_l_spoilt T.f_l_spoilt.kp T.b_l_spoilt (ja_cons (je_var 2) (ja_cons (je_call (ok_l_drawn T) (hr.mono (by decide)) rfl T.m_l_drawn T.f_l_drawn.kp T.b_l_drawn (ja_cons (je_var 0) (ja_cons je_int (ja_cons (je_bin od_pow je_int je_int) ja_nil)))) (ja_cons (je_call (ok_l_drawn T) (hr.mono (by decide)) rfl T.m_l_drawn T.f_l_drawn.kp T.b_l_drawn (ja_cons (je_var 0) (ja_cons je_int (ja_cons je_int ja_nil)))) ja_nil))))) (jss_cons (js_for (ji_seq (je_of_jn (jn_lst (ja_cons (je_var 1) (ja_cons (je_var 2) (ja_cons (je_var 3) (ja_cons (je_var 4) (ja_cons (je_ife (jt_tru (je_isi rfl T.n_isinstance rfl T.n_tuple bb_tuple (je_var 3))) (je_slT (je_var 3) jo_none (jo_some je_int)) (je_var 3)) ja_nil)))))))) (jg_name 5 sc_law.nd) (jss_one (js_for (ji_seq (je_of_jn (jn_lst (ja_cons (je_tup (ja_cons (je_call (ok_is_share T) (hr.mono (by decide)) rfl T.m_is_share T.f_is_share.kp T.b_is_share (ja_cons (je_var 5) ja_nil)) (ja_cons (je_call (ok_l_is_share T) (hr.mono (by decide)) rfl T.m_l_is_share T.f_l_is_share.kp T.b_l_is_share (ja_cons (je_var 5) ja_nil)) ja_nil))) (ja_cons (je_tup (ja_cons (je_call (ok_is_spot T) (hr.mono (by decide)) rfl T.m_is_spot T.f_is_spot.kp T.b_is_spot (ja_cons (je_var 5) ja_nil)) (ja_cons (je_call (ok_l_is_spot T) (hr.mono (by decide)) rfl T.m_l_is_spot T.f_l_is_spot.kp T.b_l_is_spot (ja_cons (je_var 5) ja_nil)) ja_nil))) ja_nil))))) (jg_tup (jgs_cons (jg_name 6 sc_law.nd) (jgs_cons (jg_name 7 sc_law.nd) jgs_nil))) (jss_one (js_if (jt_of_jw (jw_or (jt_not (jt_tru (je_isi rfl T.n_isinstance rfl T.n_bool bb_bool (je_var 6)))) (jw_or1 (jt_cmp (od_ne hu) (je_var 6) (je_var 7))))) (jss_one (js_ret je_bl)) jss_nil))))) (jss_cons (js_set 8 sc_law.nd (je_call (ok_weighted T) (hr.mono (by decide)) rfl T.m_weighted T.f_weighted.kp T.b_weighted (ja_cons (je_var 1) (ja_cons (je_var 2) ja_nil)))) (jss_one (js_ret (je_and (je_cmp (od_eq hu) (je_var 8) (je_tupN rfl T.n_tuple (jq_n (jn_comp (compSc_of (sc := defScope s_law) (N := ["_law_script", "_law_spot_here", "_law_share_here", "_law_thing", "_law_other", "_law_one", "_law_said", "_law_due", "_law_told"]) (N' := ["_law_part", "_law_share_here"]) (n := 1) (caps := [2]) (by decide +kernel) rfl rfl) (fun _ _ h => h) (ji_seq (je_var 1)) (fun _ _ _ _ => (jg_name 0 (show List.Nodup (["_law_part", "_law_share_here"] : List Str) by decide +kernel))) (fun _ _ _ _ => jts_nil) (fun _ _ _ _ => (je_call (ok_l_times T) (hr.mono (by decide)) rfl T.m_l_times T.f_l_times.kp T.b_l_times (ja_cons (je_var 0) (ja_cons (je_var 1) ja_nil)))))))) (je_one (je_cmp od_is (je_call (ok_is_spot T) (hr.mono (by decide)) rfl T.m_is_spot T.f_is_spot.kp T.b_is_spot (ja_cons (je_var 8) ja_nil)) je_bl)))))))))))
end
theorem all_mk {l : PySem.W.OpenLaw} {w : World} {K : PySem.W.Frag} {h : Heap} {mg : Str → Option Value} {fa f0 f1 f2 f3 f4 f5 f6 f7 f8 f9 f10 f11 f12 f13 f14 f15 f16 f17 f18 f19  : Addr} {od0 an0 od1 an1 od2 an2 od3 an3 od4 an4 od5 an5 od6 an6 od7 an7 od8 an8 od9 an9 od10 an10 od11 an11 od12 an12 od13 an13 od14 an14 od15 an15 od16 an16 od17 an17 od18 an18 od19 an19  : Option Addr} {sl0 sl1 sl2 sl3 sl4 sl5 sl6 sl7 sl8 sl9 sl10 sl11 sl12 sl13 sl14 sl15 sl16 sl17 sl18 sl19  : Array (Option Value)} {oc0 kV0 dc0 pm0 cd0 ct0 oc1 kV1 dc1 pm1 cd1 ct1 oc2 kV2 dc2 pm2 cd2 ct2 oc3 kV3 dc3 pm3 cd3 ct3 oc4 kV4 dc4 pm4 cd4 ct4 oc5 kV5 dc5 pm5 cd5 ct5 oc6 kV6 dc6 pm6 cd6 ct6 oc7 kV7 dc7 pm7 cd7 ct7 oc8 kV8 dc8 pm8 cd8 ct8 oc9 kV9 dc9 pm9 cd9 ct9 oc10 kV10 dc10 pm10 cd10 ct10 oc11 kV11 dc11 pm11 cd11 ct11 oc12 kV12 dc12 pm12 cd12 ct12 oc13 kV13 dc13 pm13 cd13 ct13 oc14 kV14 dc14 pm14 cd14 ct14 oc15 kV15 dc15 pm15 cd15 ct15 oc16 kV16 dc16 pm16 cd16 ct16 oc17 kV17 dc17 pm17 cd17 ct17 oc18 kV18 dc18 pm18 cd18 ct18 oc19 kV19 dc19 pm19 cd19 ct19 : Value} (X : K.In h) (G : h.Ns mainGlobals mg) (hfa : mg "law" = some (.ref fa))
    (a0 : PySem.W.nsIn K mainGlobals "is_whole" = some (some (.ref f0))) (l0 : K.lookup f0 = some ⟨oc0, od0, .func (PySem.W.fnOf "is_whole" "is_whole" (defArgs s_is_whole) (defBody s_is_whole) (defScope s_is_whole) .none kV0 dc0 pm0 an0 cd0 ct0), sl0⟩) (c0 : PySem.W.codeIn K cd0 "is_whole" = true) (k0 : PySem.W.keepIn K (.ref f0) = true)
    (a1 : PySem.W.nsIn K mainGlobals "common_divisor" = some (some (.ref f1))) (l1 : K.lookup f1 = some ⟨oc1, od1, .func (PySem.W.fnOf "common_divisor" "common_divisor" (defArgs s_common_divisor) (defBody s_common_divisor) (defScope s_common_divisor) .none kV1 dc1 pm1 an1 cd1 ct1), sl1⟩) (c1 : PySem.W.codeIn K cd1 "common_divisor" = true) (k1 : PySem.W.keepIn K (.ref f1) = true)
    (a2 : PySem.W.nsIn K mainGlobals "is_share" = some (some (.ref f2))) (l2 : K.lookup f2 = some ⟨oc2, od2, .func (PySem.W.fnOf "is_share" "is_share" (defArgs s_is_share) (defBody s_is_share) (defScope s_is_share) .none kV2 dc2 pm2 an2 cd2 ct2), sl2⟩) (c2 : PySem.W.codeIn K cd2 "is_share" = true) (k2 : PySem.W.keepIn K (.ref f2) = true)
    (a3 : PySem.W.nsIn K mainGlobals "least_form" = some (some (.ref f3))) (l3 : K.lookup f3 = some ⟨oc3, od3, .func (PySem.W.fnOf "least_form" "least_form" (defArgs s_least_form) (defBody s_least_form) (defScope s_least_form) .none kV3 dc3 pm3 an3 cd3 ct3), sl3⟩) (c3 : PySem.W.codeIn K cd3 "least_form" = true) (k3 : PySem.W.keepIn K (.ref f3) = true)
    (a4 : PySem.W.nsIn K mainGlobals "is_at_most" = some (some (.ref f4))) (l4 : K.lookup f4 = some ⟨oc4, od4, .func (PySem.W.fnOf "is_at_most" "is_at_most" (defArgs s_is_at_most) (defBody s_is_at_most) (defScope s_is_at_most) .none kV4 dc4 pm4 an4 cd4 ct4), sl4⟩) (c4 : PySem.W.codeIn K cd4 "is_at_most" = true) (k4 : PySem.W.keepIn K (.ref f4) = true)
    (a5 : PySem.W.nsIn K mainGlobals "times" = some (some (.ref f5))) (l5 : K.lookup f5 = some ⟨oc5, od5, .func (PySem.W.fnOf "times" "times" (defArgs s_times) (defBody s_times) (defScope s_times) .none kV5 dc5 pm5 an5 cd5 ct5), sl5⟩) (c5 : PySem.W.codeIn K cd5 "times" = true) (k5 : PySem.W.keepIn K (.ref f5) = true)
    (a6 : PySem.W.nsIn K mainGlobals "is_spot" = some (some (.ref f6))) (l6 : K.lookup f6 = some ⟨oc6, od6, .func (PySem.W.fnOf "is_spot" "is_spot" (defArgs s_is_spot) (defBody s_is_spot) (defScope s_is_spot) .none kV6 dc6 pm6 an6 cd6 ct6), sl6⟩) (c6 : PySem.W.codeIn K cd6 "is_spot" = true) (k6 : PySem.W.keepIn K (.ref f6) = true)
    (a7 : PySem.W.nsIn K mainGlobals "weighted" = some (some (.ref f7))) (l7 : K.lookup f7 = some ⟨oc7, od7, .func (PySem.W.fnOf "weighted" "weighted" (defArgs s_weighted) (defBody s_weighted) (defScope s_weighted) .none kV7 dc7 pm7 an7 cd7 ct7), sl7⟩) (c7 : PySem.W.codeIn K cd7 "weighted" = true) (k7 : PySem.W.keepIn K (.ref f7) = true)
    (a8 : PySem.W.nsIn K mainGlobals "_law_cell" = some (some (.ref f8))) (l8 : K.lookup f8 = some ⟨oc8, od8, .func (PySem.W.fnOf "_law_cell" "_law_cell" (defArgs s_l_cell) (defBody s_l_cell) (defScope s_l_cell) .none kV8 dc8 pm8 an8 cd8 ct8), sl8⟩) (c8 : PySem.W.codeIn K cd8 "_law_cell" = true) (k8 : PySem.W.keepIn K (.ref f8) = true)
    (a9 : PySem.W.nsIn K mainGlobals "_law_drawn" = some (some (.ref f9))) (l9 : K.lookup f9 = some ⟨oc9, od9, .func (PySem.W.fnOf "_law_drawn" "_law_drawn" (defArgs s_l_drawn) (defBody s_l_drawn) (defScope s_l_drawn) .none kV9 dc9 pm9 an9 cd9 ct9), sl9⟩) (c9 : PySem.W.codeIn K cd9 "_law_drawn" = true) (k9 : PySem.W.keepIn K (.ref f9) = true)
    (a10 : PySem.W.nsIn K mainGlobals "_law_made" = some (some (.ref f10))) (l10 : K.lookup f10 = some ⟨oc10, od10, .func (PySem.W.fnOf "_law_made" "_law_made" (defArgs s_l_made) (defBody s_l_made) (defScope s_l_made) .none kV10 dc10 pm10 an10 cd10 ct10), sl10⟩) (c10 : PySem.W.codeIn K cd10 "_law_made" = true) (k10 : PySem.W.keepIn K (.ref f10) = true)
    (a11 : PySem.W.nsIn K mainGlobals "_law_times" = some (some (.ref f11))) (l11 : K.lookup f11 = some ⟨oc11, od11, .func (PySem.W.fnOf "_law_times" "_law_times" (defArgs s_l_times) (defBody s_l_times) (defScope s_l_times) .none kV11 dc11 pm11 an11 cd11 ct11), sl11⟩) (c11 : PySem.W.codeIn K cd11 "_law_times" = true) (k11 : PySem.W.keepIn K (.ref f11) = true)
    (a12 : PySem.W.nsIn K mainGlobals "_law_share" = some (some (.ref f12))) (l12 : K.lookup f12 = some ⟨oc12, od12, .func (PySem.W.fnOf "_law_share" "_law_share" (defArgs s_l_share) (defBody s_l_share) (defScope s_l_share) .none kV12 dc12 pm12 an12 cd12 ct12), sl12⟩) (c12 : PySem.W.codeIn K cd12 "_law_share" = true) (k12 : PySem.W.keepIn K (.ref f12) = true)
    (a13 : PySem.W.nsIn K mainGlobals "_law_spot" = some (some (.ref f13))) (l13 : K.lookup f13 = some ⟨oc13, od13, .func (PySem.W.fnOf "_law_spot" "_law_spot" (defArgs s_l_spot) (defBody s_l_spot) (defScope s_l_spot) .none kV13 dc13 pm13 an13 cd13 ct13), sl13⟩) (c13 : PySem.W.codeIn K cd13 "_law_spot" = true) (k13 : PySem.W.keepIn K (.ref f13) = true)
    (a14 : PySem.W.nsIn K mainGlobals "_law_is_whole" = some (some (.ref f14))) (l14 : K.lookup f14 = some ⟨oc14, od14, .func (PySem.W.fnOf "_law_is_whole" "_law_is_whole" (defArgs s_l_is_whole) (defBody s_l_is_whole) (defScope s_l_is_whole) .none kV14 dc14 pm14 an14 cd14 ct14), sl14⟩) (c14 : PySem.W.codeIn K cd14 "_law_is_whole" = true) (k14 : PySem.W.keepIn K (.ref f14) = true)
    (a15 : PySem.W.nsIn K mainGlobals "_law_is_share" = some (some (.ref f15))) (l15 : K.lookup f15 = some ⟨oc15, od15, .func (PySem.W.fnOf "_law_is_share" "_law_is_share" (defArgs s_l_is_share) (defBody s_l_is_share) (defScope s_l_is_share) .none kV15 dc15 pm15 an15 cd15 ct15), sl15⟩) (c15 : PySem.W.codeIn K cd15 "_law_is_share" = true) (k15 : PySem.W.keepIn K (.ref f15) = true)
    (a16 : PySem.W.nsIn K mainGlobals "_law_is_spot" = some (some (.ref f16))) (l16 : K.lookup f16 = some ⟨oc16, od16, .func (PySem.W.fnOf "_law_is_spot" "_law_is_spot" (defArgs s_l_is_spot) (defBody s_l_is_spot) (defScope s_l_is_spot) .none kV16 dc16 pm16 an16 cd16 ct16), sl16⟩) (c16 : PySem.W.codeIn K cd16 "_law_is_spot" = true) (k16 : PySem.W.keepIn K (.ref f16) = true)
    (a17 : PySem.W.nsIn K mainGlobals "_law_odd" = some (some (.ref f17))) (l17 : K.lookup f17 = some ⟨oc17, od17, .func (PySem.W.fnOf "_law_odd" "_law_odd" (defArgs s_l_odd) (defBody s_l_odd) (defScope s_l_odd) .none kV17 dc17 pm17 an17 cd17 ct17), sl17⟩) (c17 : PySem.W.codeIn K cd17 "_law_odd" = true) (k17 : PySem.W.keepIn K (.ref f17) = true)
    (a18 : PySem.W.nsIn K mainGlobals "_law_spoilt" = some (some (.ref f18))) (l18 : K.lookup f18 = some ⟨oc18, od18, .func (PySem.W.fnOf "_law_spoilt" "_law_spoilt" (defArgs s_l_spoilt) (defBody s_l_spoilt) (defScope s_l_spoilt) .none kV18 dc18 pm18 an18 cd18 ct18), sl18⟩) (c18 : PySem.W.codeIn K cd18 "_law_spoilt" = true) (k18 : PySem.W.keepIn K (.ref f18) = true)
    (a19 : PySem.W.nsIn K mainGlobals "law" = some (some (.ref f19))) (l19 : K.lookup f19 = some ⟨oc19, od19, .func (PySem.W.fnOf "law" "law" (defArgs s_law) (defBody s_law) (defScope s_law) .none kV19 dc19 pm19 an19 cd19 ct19), sl19⟩) (c19 : PySem.W.codeIn K cd19 "law" = true) (k19 : PySem.W.keepIn K (.ref f19) = true)
    (z0 : PySem.W.nsIn K mainGlobals "all" = some none)
    (z1 : PySem.W.nsIn K mainGlobals "bool" = some none)
    (z2 : PySem.W.nsIn K mainGlobals "int" = some none)
    (z3 : PySem.W.nsIn K mainGlobals "isinstance" = some none)
    (z4 : PySem.W.nsIn K mainGlobals "len" = some none)
    (z5 : PySem.W.nsIn K mainGlobals "list" = some none)
    (z6 : PySem.W.nsIn K mainGlobals "range" = some none)
    (z7 : PySem.W.nsIn K mainGlobals "str" = some none)
    (z8 : PySem.W.nsIn K mainGlobals "tuple" = some none)
    : ∃ fd : FuncData, (∀ (s : Shared) (v : Value), BindsTo s fd ⟨[v], []⟩ [("_law_script", v)]) ∧ ∀ base : Heap, K.In base → base.Ns mainGlobals mg → FnOk l.prog w K mg base CX0 15 fa fd ["_law_script"] (spF K 1 F_law) := by
  have e0 := hfa.symm.trans (PySem.W.mg_of X G a19)
  have e1 : fa = f19 := by cases e0; rfl
  rw [e1]
  have F0 := fun_mk (st := s_is_whole) l0 c0 k0
  have B0 := F0.binds (ps := ["thing"]) fun _ _ _ _ _ _ us hl => match us, hl with | [_], _ => rfl
  have F1 := fun_mk (st := s_common_divisor) l1 c1 k1
  have B1 := F1.binds (ps := ["one", "other"]) fun _ _ _ _ _ _ us hl => match us, hl with | [_, _], _ => rfl
  have F2 := fun_mk (st := s_is_share) l2 c2 k2
  have B2 := F2.binds (ps := ["thing"]) fun _ _ _ _ _ _ us hl => match us, hl with | [_], _ => rfl
  have F3 := fun_mk (st := s_least_form) l3 c3 k3
  have B3 := F3.binds (ps := ["top", "under"]) fun _ _ _ _ _ _ us hl => match us, hl with | [_, _], _ => rfl
  have F4 := fun_mk (st := s_is_at_most) l4 c4 k4
  have B4 := F4.binds (ps := ["one", "other"]) fun _ _ _ _ _ _ us hl => match us, hl with | [_, _], _ => rfl
  have F5 := fun_mk (st := s_times) l5 c5 k5
  have B5 := F5.binds (ps := ["one", "other"]) fun _ _ _ _ _ _ us hl => match us, hl with | [_, _], _ => rfl
  have F6 := fun_mk (st := s_is_spot) l6 c6 k6
  have B6 := F6.binds (ps := ["thing"]) fun _ _ _ _ _ _ us hl => match us, hl with | [_], _ => rfl
  have F7 := fun_mk (st := s_weighted) l7 c7 k7
  have B7 := F7.binds (ps := ["spot", "share"]) fun _ _ _ _ _ _ us hl => match us, hl with | [_, _], _ => rfl
  have F8 := fun_mk (st := s_l_cell) l8 c8 k8
  have B8 := F8.binds (ps := ["_law_script", "_law_k"]) fun _ _ _ _ _ _ us hl => match us, hl with | [_, _], _ => rfl
  have F9 := fun_mk (st := s_l_drawn) l9 c9 k9
  have B9 := F9.binds (ps := ["_law_script", "_law_k", "_law_many"]) fun _ _ _ _ _ _ us hl => match us, hl with | [_, _, _], _ => rfl
  have F10 := fun_mk (st := s_l_made) l10 c10 k10
  have B10 := F10.binds (ps := ["_law_top", "_law_under"]) fun _ _ _ _ _ _ us hl => match us, hl with | [_, _], _ => rfl
  have F11 := fun_mk (st := s_l_times) l11 c11 k11
  have B11 := F11.binds (ps := ["_law_one", "_law_other"]) fun _ _ _ _ _ _ us hl => match us, hl with | [_, _], _ => rfl
  have F12 := fun_mk (st := s_l_share) l12 c12 k12
  have B12 := F12.binds (ps := ["_law_script", "_law_at"]) fun _ _ _ _ _ _ us hl => match us, hl with | [_, _], _ => rfl
  have F13 := fun_mk (st := s_l_spot) l13 c13 k13
  have B13 := F13.binds (ps := ["_law_script", "_law_at"]) fun _ _ _ _ _ _ us hl => match us, hl with | [_, _], _ => rfl
  have F14 := fun_mk (st := s_l_is_whole) l14 c14 k14
  have B14 := F14.binds (ps := ["_law_thing"]) fun _ _ _ _ _ _ us hl => match us, hl with | [_], _ => rfl
  have F15 := fun_mk (st := s_l_is_share) l15 c15 k15
  have B15 := F15.binds (ps := ["_law_thing"]) fun _ _ _ _ _ _ us hl => match us, hl with | [_], _ => rfl
  have F16 := fun_mk (st := s_l_is_spot) l16 c16 k16
  have B16 := F16.binds (ps := ["_law_thing"]) fun _ _ _ _ _ _ us hl => match us, hl with | [_], _ => rfl
  have F17 := fun_mk (st := s_l_odd) l17 c17 k17
  have B17 := F17.binds (ps := ["_law_number"]) fun _ _ _ _ _ _ us hl => match us, hl with | [_], _ => rfl
  have F18 := fun_mk (st := s_l_spoilt) l18 c18 k18
  have B18 := F18.binds (ps := ["_law_thing", "_law_number", "_law_deep"]) fun _ _ _ _ _ _ us hl => match us, hl with | [_, _, _], _ => rfl
  have F19 := fun_mk (st := s_law) l19 c19 k19
  have B19 := F19.binds (ps := ["_law_script"]) fun _ _ _ _ _ _ us hl => match us, hl with | [_], _ => rfl
  have T : Tx K mg ⟨f0, (PySem.W.fnOf "is_whole" "is_whole" (defArgs s_is_whole) (defBody s_is_whole) (defScope s_is_whole) .none kV0 dc0 pm0 an0 cd0 ct0), f1, (PySem.W.fnOf "common_divisor" "common_divisor" (defArgs s_common_divisor) (defBody s_common_divisor) (defScope s_common_divisor) .none kV1 dc1 pm1 an1 cd1 ct1), f2, (PySem.W.fnOf "is_share" "is_share" (defArgs s_is_share) (defBody s_is_share) (defScope s_is_share) .none kV2 dc2 pm2 an2 cd2 ct2), f3, (PySem.W.fnOf "least_form" "least_form" (defArgs s_least_form) (defBody s_least_form) (defScope s_least_form) .none kV3 dc3 pm3 an3 cd3 ct3), f4, (PySem.W.fnOf "is_at_most" "is_at_most" (defArgs s_is_at_most) (defBody s_is_at_most) (defScope s_is_at_most) .none kV4 dc4 pm4 an4 cd4 ct4), f5, (PySem.W.fnOf "times" "times" (defArgs s_times) (defBody s_times) (defScope s_times) .none kV5 dc5 pm5 an5 cd5 ct5), f6, (PySem.W.fnOf "is_spot" "is_spot" (defArgs s_is_spot) (defBody s_is_spot) (defScope s_is_spot) .none kV6 dc6 pm6 an6 cd6 ct6), f7, (PySem.W.fnOf "weighted" "weighted" (defArgs s_weighted) (defBody s_weighted) (defScope s_weighted) .none kV7 dc7 pm7 an7 cd7 ct7), f8, (PySem.W.fnOf "_law_cell" "_law_cell" (defArgs s_l_cell) (defBody s_l_cell) (defScope s_l_cell) .none kV8 dc8 pm8 an8 cd8 ct8), f9, (PySem.W.fnOf "_law_drawn" "_law_drawn" (defArgs s_l_drawn) (defBody s_l_drawn) (defScope s_l_drawn) .none kV9 dc9 pm9 an9 cd9 ct9), f10, (PySem.W.fnOf "_law_made" "_law_made" (defArgs s_l_made) (defBody s_l_made) (defScope s_l_made) .none kV10 dc10 pm10 an10 cd10 ct10), f11, (PySem.W.fnOf "_law_times" "_law_times" (defArgs s_l_times) (defBody s_l_times) (defScope s_l_times) .none kV11 dc11 pm11 an11 cd11 ct11), f12, (PySem.W.fnOf "_law_share" "_law_share" (defArgs s_l_share) (defBody s_l_share) (defScope s_l_share) .none kV12 dc12 pm12 an12 cd12 ct12), f13, (PySem.W.fnOf "_law_spot" "_law_spot" (defArgs s_l_spot) (defBody s_l_spot) (defScope s_l_spot) .none kV13 dc13 pm13 an13 cd13 ct13), f14, (PySem.W.fnOf "_law_is_whole" "_law_is_whole" (defArgs s_l_is_whole) (defBody s_l_is_whole) (defScope s_l_is_whole) .none kV14 dc14 pm14 an14 cd14 ct14), f15, (PySem.W.fnOf "_law_is_share" "_law_is_share" (defArgs s_l_is_share) (defBody s_l_is_share) (defScope s_l_is_share) .none kV15 dc15 pm15 an15 cd15 ct15), f16, (PySem.W.fnOf "_law_is_spot" "_law_is_spot" (defArgs s_l_is_spot) (defBody s_l_is_spot) (defScope s_l_is_spot) .none kV16 dc16 pm16 an16 cd16 ct16), f17, (PySem.W.fnOf "_law_odd" "_law_odd" (defArgs s_l_odd) (defBody s_l_odd) (defScope s_l_odd) .none kV17 dc17 pm17 an17 cd17 ct17), f18, (PySem.W.fnOf "_law_spoilt" "_law_spoilt" (defArgs s_l_spoilt) (defBody s_l_spoilt) (defScope s_l_spoilt) .none kV18 dc18 pm18 an18 cd18 ct18), f19, (PySem.W.fnOf "law" "law" (defArgs s_law) (defBody s_law) (defScope s_law) .none kV19 dc19 pm19 an19 cd19 ct19)⟩ := ⟨F0, PySem.W.mg_of X G a0, B0, F1, PySem.W.mg_of X G a1, B1, F2, PySem.W.mg_of X G a2, B2, F3, PySem.W.mg_of X G a3, B3, F4, PySem.W.mg_of X G a4, B4, F5, PySem.W.mg_of X G a5, B5, F6, PySem.W.mg_of X G a6, B6, F7, PySem.W.mg_of X G a7, B7, F8, PySem.W.mg_of X G a8, B8, F9, PySem.W.mg_of X G a9, B9, F10, PySem.W.mg_of X G a10, B10, F11, PySem.W.mg_of X G a11, B11, F12, PySem.W.mg_of X G a12, B12, F13, PySem.W.mg_of X G a13, B13, F14, PySem.W.mg_of X G a14, B14, F15, PySem.W.mg_of X G a15, B15, F16, PySem.W.mg_of X G a16, B16, F17, PySem.W.mg_of X G a17, B17, F18, PySem.W.mg_of X G a18, B18, F19, PySem.W.mg_of X G a19, B19, PySem.W.mg_none_of X G z0, PySem.W.mg_none_of X G z1, PySem.W.mg_none_of X G z2, PySem.W.mg_none_of X G z3, PySem.W.mg_none_of X G z4, PySem.W.mg_none_of X G z5, PySem.W.mg_none_of X G z6, PySem.W.mg_none_of X G z7, PySem.W.mg_none_of X G z8⟩
  exact ⟨(PySem.W.fnOf "law" "law" (defArgs s_law) (defBody s_law) (defScope s_law) .none kV19 dc19 pm19 an19 cd19 ct19), fun s v => .of_eq rfl, fun base _ _ => ok_law T⟩
theorem walk {l : PySem.W.OpenLaw} {q : Program} {loose : List Str} {XP : (Str → Option Value) → Heap → Prop} {YP : World → Heap → Prop} {d : DefRec} {K : Params → PySem.W.Frag} (hn : l.most = some 63) (hdf : d.params.defaults = [])
    (hY : ∀ (w : World) (h : Heap), YP w h → (K w.params).In h)
    (F : ∀ (w : World) (mg : Str → Option Value) (fa : Addr) (h : Heap), (K w.params).In h → h.Ns mainGlobals mg → mg d.name = some (.ref fa) →
      ∃ fd : FuncData, (∀ (s : Shared) (u : Value), BindsTo s fd ⟨[u], []⟩ [("_law_script", u)]) ∧ ∀ base : Heap, (K w.params).In base → base.Ns mainGlobals mg → FnOk l.prog w (K w.params) mg base CX0 15 fa fd ["_law_script"] (spF (K w.params) 1 F_law))
    (M : ∀ ns : List Int, ns.length ≤ 63 → F_law [.list (ns.map PyData.int)] = some (.bool true)) :
    PySem.W.WalkO q loose XP YP l.row.toRowW d [] (fun f vs => PySem.call f vs) :=
  L2.walk_of (n := 63) (k := 15) (x := "_law_script") (CX := fun _ => CX0) (sp := fun w => spF (K w.params) 1 F_law) hn (by decide) hdf ⟨rfl, by decide, by decide⟩ hY F
    (fun w H a ns hl _ hS => ⟨rfl, H, [.list (ns.map PyData.int)], .bool true, Same.refl _, ⟨.ref a, [], rfl, ⟨a, _, rfl, hS, Reps.ints ns⟩, rfl⟩, M ns hl, fun v H' Hf' g r => r⟩) fun _ _ _ _ _ z => z
end Lk01
namespace Sh
open PySem G
theorem ne_ints (i j : Int) : neD (.int i) (.int j) = some (.bool (!(i == j))) := rfl
theorem eq_ints (i j : Int) : eqD (.int i) (.int j) = some (.bool (i == j)) := rfl
theorem iter_nx {t : Rho → Option Bool} {f : DS} {n : Nat} {ρ ρ' : Rho} (h1 : t ρ = some true) (h2 : f ρ = some (.nx ρ')) : iterW t f (n + 1) ρ = iterW t f n ρ' := by
  simp only [iterW, h1, h2, xbs, if_true]
theorem gcd_loop : ∀ (b a : Nat) (x : Option B), ∃ n x', iterW (tB2 neD (dVar 1) (dC (.int 0))) (sSeq (sSet 2 (dBin modI (dVar 0) (dVar 1))) (sSeq (sSet 0 (dVar 1)) (sSet 1 (dVar 2)))) n [some (.val (.int a)), some (.val (.int b)), x]
    = some (.nx [some (.val (.int (Nat.gcd a b))), some (.val (.int 0)), x']) := by
  intro b
  induction b using Nat.strongRecOn with
  | _ b ih =>
    intro a x
    by_cases hb : b = 0
    · subst hb
      refine ⟨1, x, ?_⟩
      rw [Nat.gcd_zero_right]
      rfl
    · obtain ⟨n, x', h⟩ := ih (a % b) (Nat.mod_lt _ (Nat.pos_of_ne_zero hb)) b (some (.val (.int ((a % b : Nat) : Int))))
      refine ⟨n + 1, x', ?_⟩
      have e1 : tB2 neD (dVar 1) (dC (.int 0)) [some (.val (.int a)), some (.val (.int b)), x] = some true := by
        show (neD (.int b) (.int 0)).bind boolOf = some true
        rw [ne_ints]
        have : ((b : Int) == 0) = false := by simp; omega
        rw [this]; rfl
      have e2 : modI (.int a) (.int b) = some (.int ((a % b : Nat) : Int)) := by
        show (if (0 : Int) < (b : Int) then some (PyData.int ((a : Int) % (b : Int))) else none) = _
        rw [if_pos (by omega)]
        simp
      have e3 : sSeq (sSet 2 (dBin modI (dVar 0) (dVar 1))) (sSeq (sSet 0 (dVar 1)) (sSet 1 (dVar 2))) [some (.val (.int a)), some (.val (.int b)), x] = some (.nx [some (.val (.int b)), some (.val (.int ((a % b : Nat) : Int))), some (.val (.int ((a % b : Nat) : Int)))]) := by
        show ((((modI (.int a) (.int b))).map fun d => Fl.nx [some (.val (.int a)), some (.val (.int b)), some (.val d)]).bind _) = _
        rw [e2]
        rfl
      rw [iter_nx e1 e3, h, Nat.gcd_comm b, Nat.gcd_comm a b, ← Nat.gcd_rec]
theorem F_gcd (a b : Nat) : F_common_divisor [.int a, .int b] = some (.int (Nat.gcd a b)) := by
  obtain ⟨n, x', h⟩ := gcd_loop b a none
  show ((sWhile _ _ [some (.val (.int a)), some (.val (.int b)), none]).bind _).bind _ = _
  rw [sWhile_of h]
  rfl
theorem made_loop : ∀ (a b : Nat) (t u : D), ∃ n, iterW (tB2 gtI (dVar 2) (dC (.int 0))) (sPar 2 3 (aCons (dBin modI (dVar 3) (dVar 2)) (aCons (dVar 2) aNil))) n [some (.val t), some (.val u), some (.val (.int a)), some (.val (.int b))]
    = some (.nx [some (.val t), some (.val u), some (.val (.int 0)), some (.val (.int (Nat.gcd a b)))]) := by
  intro a
  induction a using Nat.strongRecOn with
  | _ a ih =>
    intro b t u
    by_cases ha : a = 0
    · subst ha
      refine ⟨1, ?_⟩
      rw [Nat.gcd_zero_left]
      rfl
    · obtain ⟨n, h⟩ := ih (b % a) (Nat.mod_lt _ (Nat.pos_of_ne_zero ha)) a t u
      refine ⟨n + 1, ?_⟩
      have e1 : tB2 gtI (dVar 2) (dC (.int 0)) [some (.val t), some (.val u), some (.val (.int a)), some (.val (.int b))] = some true := by
        show some (decide ((0 : Int) < (a : Int))) = some true
        rw [decide_eq_true (by omega)]
      have e2 : modI (.int b) (.int a) = some (.int ((b % a : Nat) : Int)) := by
        show (if (0 : Int) < (a : Int) then some (PyData.int ((b : Int) % (a : Int))) else none) = _
        rw [if_pos (by omega)]
        simp
      have e3 : sPar 2 3 (aCons (dBin modI (dVar 3) (dVar 2)) (aCons (dVar 2) aNil)) [some (.val t), some (.val u), some (.val (.int a)), some (.val (.int b))] = some (.nx [some (.val t), some (.val u), some (.val (.int ((b % a : Nat) : Int))), some (.val (.int a))]) := by
        show ((modI (.int b) (.int a)).bind fun d => (some [PyData.int (a : Int)]).map fun ds => d :: ds).bind _ = _
        rw [e2]
        rfl
      rw [iter_nx e1 e3, h, ← Nat.gcd_rec]
def fr (r : Rat) : D := .tuple [.int r.num, .int r.den]
theorem small_of {i : Int} {k : Nat} (h : i.natAbs < 2 ^ k) (hk : k ≤ 8000) : Small i := Nat.lt_of_lt_of_le h (Nat.pow_le_pow_right (by decide) hk)
theorem mkRat_fr (a b : Nat) (hb : 0 < b) : fr (mkRat a b) = .tuple [.int ((a / Nat.gcd a b : Nat) : Int), .int ((b / Nat.gcd a b : Nat) : Int)] := by
  unfold fr
  rw [Rat.num_mkRat, Rat.den_mkRat, if_neg (by omega), if_neg (by omega)]
  have e : b.gcd (a : Int).natAbs = Nat.gcd a b := by rw [Int.natAbs_natCast, Nat.gcd_comm]
  rw [e]
  simp
theorem div_gcd (a b x k : Nat) (hb : 0 < b) (hk : b < 2 ^ k) (hk8 : k ≤ 8000) : divI (.int x) (.int (Nat.gcd a b)) = some (.int ((x / Nat.gcd a b : Nat) : Int)) := by
  have g0 : 0 < Nat.gcd a b := Nat.gcd_pos_of_pos_right _ hb
  have gs : Small (Nat.gcd a b : Nat) := small_of (k := k) (by rw [Int.natAbs_natCast]; exact Nat.lt_of_le_of_lt (Nat.le_of_dvd hb (Nat.gcd_dvd_right a b)) hk) hk8
  show (if (0 : Int) < ((Nat.gcd a b : Nat) : Int) ∧ Small (Nat.gcd a b : Nat) then some (PyData.int ((x : Int) / ((Nat.gcd a b : Nat) : Int))) else none) = _
  rw [if_pos ⟨by omega, gs⟩]
  simp
theorem F_least (a b k : Nat) (hb : 0 < b) (hk : b < 2 ^ k) (hk8 : k ≤ 8000) : F_least_form [.int a, .int b] = some (fr (mkRat a b)) := by
  have d := fun x => div_gcd a b x k hb hk hk8
  have e : G_least_form [some (.val (.int a)), some (.val (.int b)), none] = some (.rt (fr (mkRat a b))) := by
    rw [mkRat_fr a b hb]
    simp only [G_least_form, sSeq, sSet, dCall, aCons, aNil, dVar, xg0, xg1, xbs, xms, F_gcd, xw1, xw0, sRet, dTup, dBin, d]
  show (G_least_form [some (.val (.int a)), some (.val (.int b)), none]).bind _ = _
  rw [e]; rfl
theorem F_made (a b k : Nat) (hb : 0 < b) (hk : b < 2 ^ k) (hk8 : k ≤ 8000) : F_l_made [.int a, .int b] = some (fr (mkRat a b)) := by
  have d := fun x => div_gcd a b x k hb hk hk8
  obtain ⟨n, h⟩ := made_loop a b (.int a) (.int b)
  have e : G_l_made [some (.val (.int a)), some (.val (.int b)), none, none] = some (.rt (fr (mkRat a b))) := by
    rw [mkRat_fr a b hb]
    simp only [G_l_made, sSeq, sSet, dCall, aCons, aNil, dVar, xg0, xg1, xbs, xms, xw1, xw0, sRet, dTup, dBin, d, sWhile_of h]
  show (G_l_made [some (.val (.int a)), some (.val (.int b)), none, none]).bind _ = _
  rw [e]; rfl
structure Bd (k : Nat) (r : Rat) : Prop where
  nn : 0 ≤ r
  num : r.num.natAbs < 2 ^ k
  den : r.den < 2 ^ k
theorem Bd.mono {j k : Nat} {r : Rat} (h : Bd j r) (l : j ≤ k) : Bd k r := ⟨h.nn, Nat.lt_of_lt_of_le h.num (Nat.pow_le_pow_right (by decide) l), Nat.lt_of_lt_of_le h.den (Nat.pow_le_pow_right (by decide) l)⟩
theorem Bd.nat {k : Nat} {r : Rat} (h : Bd k r) : r.num = (r.num.natAbs : Int) := by
  have := Rat.num_nonneg.mpr h.nn
  omega
theorem mkRat_nn (a b : Nat) : 0 ≤ mkRat (a : Int) b := by
  rw [← Rat.num_nonneg, Rat.num_mkRat]
  split
  · exact Int.le_refl _
  · exact Int.ediv_nonneg (by omega) (by omega)
theorem Bd.of {a b k : Nat} (hb : 0 < b) (h1 : a < 2 ^ k) (h2 : b < 2 ^ k) : Bd k (mkRat a b) := by
  refine ⟨mkRat_nn a b, ?_, ?_⟩
  · rw [Rat.num_mkRat, if_neg (by omega)]
    rw [show ((a : Int) / ((b.gcd (a : Int).natAbs : Nat) : Int)) = ((a / b.gcd (a : Int).natAbs : Nat) : Int) by simp, Int.natAbs_natCast]
    exact Nat.lt_of_le_of_lt (Nat.div_le_self _ _) h1
  · rw [Rat.den_mkRat, if_neg (by omega)]
    exact Nat.lt_of_le_of_lt (Nat.div_le_self _ _) h2
theorem mul_lt_pow {a b j k : Nat} (h1 : a < 2 ^ j) (h2 : b < 2 ^ k) : a * b < 2 ^ (j + k) := by
  rw [Nat.pow_add]
  exact Nat.mul_lt_mul'' h1 h2
theorem rat_mul {j k : Nat} {r s : Rat} (hr : Bd j r) (hs : Bd k s) : r * s = mkRat ((r.num.natAbs * s.num.natAbs : Nat) : Int) (r.den * s.den) := by
  rw [Rat.mul_def, Rat.normalize_eq_mkRat, Int.natCast_mul, ← hr.nat, ← hs.nat]
theorem den_pos (r : Rat) : 0 < r.den := Nat.pos_of_ne_zero r.den_nz
theorem Bd.mul {j k : Nat} {r s : Rat} (hr : Bd j r) (hs : Bd k s) : Bd (j + k) (r * s) := by
  rw [rat_mul hr hs]
  exact Bd.of (Nat.mul_pos (den_pos r) (den_pos s)) (mul_lt_pow hr.num hs.num) (mul_lt_pow hr.den hs.den)
theorem Bd.one : Bd 1 1 := ⟨by decide, by decide, by decide⟩
theorem Bd.zero : Bd 1 0 := ⟨by decide, by decide, by decide⟩
theorem Bd.sn {k : Nat} {r : Rat} (h : Bd k r) (hk : k ≤ 8000) : Small r.num := small_of h.num hk
theorem Bd.sd {k : Nat} {r : Rat} (h : Bd k r) (hk : k ≤ 8000) : Small r.den := small_of (k := k) (by rw [Int.natAbs_natCast]; exact h.den) hk
theorem mul_ints {i j : Int} (h1 : Small i) (h2 : Small j) : mulD (.int i) (.int j) = some (.int (i * j)) := by
  show (if Small i ∧ Small j then some (PyData.int (i * j)) else none) = _
  rw [if_pos ⟨h1, h2⟩]
theorem cat_ints (i j : Int) : catD (.int i) (.int j) = some (.int (i + j)) := rfl
theorem sub_ints (i j : Int) : subI (.int i) (.int j) = some (.int (i - j)) := rfl
theorem le_ints (i j : Int) : leI (.int i) (.int j) = some (.bool (decide (i ≤ j))) := rfl
theorem at20 (a b : D) : L2.atI [a, b] 0 = some a := rfl
theorem at21 (a b : D) : L2.atI [a, b] 1 = some b := rfl
theorem ix0 {ρ : Rho} {i : Nat} {r : Rat} (h : ρ[i]? = some (some (.val (fr r)))) : dIx (qVar i) (dC (.int 0)) ρ = some (.int r.num) := by
  simp only [dIx, qVar, h, fr, dC, xbs, at20]
theorem ix1 {ρ : Rho} {i : Nat} {r : Rat} (h : ρ[i]? = some (some (.val (fr r)))) : dIx (qVar i) (dC (.int 1)) ρ = some (.int r.den) := by
  simp only [dIx, qVar, h, fr, dC, xbs, at21]
theorem v0 (x : Option B) (l : Rho) : (x :: l)[0]? = some x := rfl
theorem v1 (y x : Option B) (l : Rho) : (y :: x :: l)[1]? = some x := rfl
theorem F_times_ok {j k : Nat} {r s : Rat} (hr : Bd j r) (hs : Bd k s) (l : j + k ≤ 8000) : F_times [fr r, fr s] = some (fr (r * s)) := by
  have e : G_times [some (.val (fr r)), some (.val (fr s))] = some (.rt (fr (r * s))) := by
    simp only [G_times, sRet, dCall, aCons, aNil, dBin, ix0 (v0 _ _), ix1 (v0 _ _), ix0 (v1 _ _ _), ix1 (v1 _ _ _), xbs, xms, mul_ints (hr.sn (by omega)) (hs.sn (by omega)), mul_ints (hr.sd (by omega)) (hs.sd (by omega))]
    have := F_least (r.num.natAbs * s.num.natAbs) (r.den * s.den) (j + k) (Nat.mul_pos (den_pos r) (den_pos s)) (mul_lt_pow hr.den hs.den) l
    rw [← rat_mul hr hs, Int.natCast_mul, Int.natCast_mul, ← hr.nat, ← hs.nat] at this
    rw [this]; rfl
  show (G_times [some (.val (fr r)), some (.val (fr s))]).bind _ = _
  rw [e]; rfl
theorem F_atmost_ok {j k : Nat} {r s : Rat} (hr : Bd j r) (hs : Bd k s) (l : j + k ≤ 8000) : F_is_at_most [fr r, fr s] = some (.bool (decide (r ≤ s))) := by
  have e : G_is_at_most [some (.val (fr r)), some (.val (fr s))] = some (.rt (.bool (decide (r ≤ s)))) := by
    simp only [G_is_at_most, sRet, dCall, aCons, aNil, dBin, ix0 (v0 _ _), ix1 (v0 _ _), ix0 (v1 _ _ _), ix1 (v1 _ _ _), xbs, xms, mul_ints (hr.sn (by omega)) (hs.sd (by omega)), mul_ints (hs.sn (by omega)) (hr.sd (by omega)), le_ints]
    simp only [← Rat.le_iff]
  show (G_is_at_most [some (.val (fr r)), some (.val (fr s))]).bind _ = _
  rw [e]; rfl
end Sh
set_option exponentiation.threshold 9000
namespace Sh
open PySem G L2
theorem lt_ints (i j : Int) : ltI (.int i) (.int j) = some (.bool (decide (i < j))) := rfl
theorem gt_ints (i j : Int) : gtI (.int i) (.int j) = some (.bool (decide (j < i))) := rfl
theorem rep0 {α : Type} (x : α) : List.replicate 0 x = [] := rfl
theorem rep1 {α : Type} (x : α) : List.replicate 1 x = [x] := rfl
theorem rep2 {α : Type} (x : α) : List.replicate 2 x = [x, x] := rfl
theorem cut41 (a b c d : D) : cutD [a, b, c, d] (some 1) none = [b, c, d] := rfl
theorem at40 (a b c d : D) : L2.atI [a, b, c, d] 0 = some a := rfl
theorem at41 (a b c d : D) : L2.atI [a, b, c, d] 1 = some b := rfl
theorem at42 (a b c d : D) : L2.atI [a, b, c, d] 2 = some c := rfl
theorem at43 (a b c d : D) : L2.atI [a, b, c, d] 3 = some d := rfl
theorem at30 (a b c : D) : L2.atI [a, b, c] 0 = some a := rfl
theorem at31 (a b c : D) : L2.atI [a, b, c] 1 = some b := rfl
theorem at32 (a b c : D) : L2.atI [a, b, c] 2 = some c := rfl
theorem small_nat {n k : Nat} (h : n < 2 ^ k) (hk : k ≤ 8000) : Small (n : Int) := small_of (k := k) (by rw [Int.natAbs_natCast]; exact h) hk
theorem mod_ints {i j : Int} (h : 0 < j) : modI (.int i) (.int j) = some (.int (i % j)) := by
  show (if (0 : Int) < j then some (PyData.int (i % j)) else none) = _
  rw [if_pos h]
theorem div_ints {i j : Int} (h : 0 < j) (s : Small j) : divI (.int i) (.int j) = some (.int (i / j)) := by
  show (if (0 : Int) < j ∧ Small j then some (PyData.int (i / j)) else none) = _
  rw [if_pos ⟨h, s⟩]
theorem run_rt {g : DS} {n : Nat} {ds : List D} {ρ : Rho} {d : D} (h : startD n ds = ρ) (e : g ρ = some (.rt d)) : runD g n ds = some d := by
  unfold runD
  rw [h, e]; rfl
theorem L_times_ok {j k : Nat} {r s : Rat} (hr : Bd j r) (hs : Bd k s) (l : j + k ≤ 8000) : F_l_times [fr r, fr s] = some (fr (r * s)) := by
  refine run_rt (ρ := [some (.val (fr r)), some (.val (fr s))]) rfl ?_
  simp only [G_l_times, sRet, dCall, aCons, aNil, dBin, ix0 (v0 _ _), ix1 (v0 _ _), ix0 (v1 _ _ _), ix1 (v1 _ _ _), xbs, xms, mul_ints (hr.sn (by omega)) (hs.sn (by omega)), mul_ints (hr.sd (by omega)) (hs.sd (by omega))]
  have := F_made (r.num.natAbs * s.num.natAbs) (r.den * s.den) (j + k) (Nat.mul_pos (den_pos r) (den_pos s)) (mul_lt_pow hr.den hs.den) l
  rw [← rat_mul hr hs, Int.natCast_mul, Int.natCast_mul, ← hr.nat, ← hs.nat] at this
  rw [this]; rfl
def cellZ (ns : List Int) (k : Nat) : Int := if ns.length = 0 then 7 * (k : Int) else ns.getD (k % ns.length) 0 + 6553 * ((k / ns.length : Nat) : Int)
theorem eq_nil (ns : List Int) : eqD (.list (ns.map PyData.int)) (.list []) = some (.bool (decide (ns.length = 0))) := by
  have h1 : SeqAt.shaped (.list (ns.map PyData.int)) = true := by
    have c : ∀ l : List Int, PyData.canLayAll0 (l.map PyData.int) = true := fun l => by
      induction l with
      | nil => rfl
      | cons a r ih => simp only [xmc, PyData.canLayAll0, PyData.canLay0, ih]; rfl
    have d : ∀ l : List Int, PyData.depthAll (l.map PyData.int) = 0 := fun l => by
      induction l with
      | nil => rfl
      | cons a r ih => simp only [xmc, PyData.depthAll, PyData.depth, ih]; rfl
    unfold SeqAt.shaped
    simp only [PyData.canLay0, c, PyData.depth, d]
    rfl
  unfold eqD
  rw [if_pos ⟨h1, rfl⟩]
  cases ns with
  | nil => rfl
  | cons a r => simp [PyData.eqv, PyData.eqvAll]
theorem F_cell (ns : List Int) (k : Nat) (hn : ns.length ≤ 63) (hk : k < 2 ^ 60) : F_l_cell [.list (ns.map PyData.int), .int k] = some (.int (cellZ ns k)) := by
  refine run_rt (ρ := [some (.val (.list (ns.map PyData.int))), some (.val (.int k))]) rfl ?_
  have sk : Small (k : Int) := small_nat hk (by decide)
  by_cases h : ns.length = 0
  · have e : cellZ ns k = 7 * (k : Int) := by unfold cellZ; rw [if_pos h]
    simp only [G_l_cell, sSeq, sSet, sRet, sIf, sNil, sSetN, sAsg, dVar, dC, dTup, dLst, dBin, dCall, dIte, dAnd, dOr, dNot, dChain, dIx, dSlT, dLen, dTupN, dAll, dInt, dIsi, qVar, qE, qN, seqD, oNone, oSome, intOf, aNil, aCons, tTru, tB2, tAnd2, tOr2, tNot2, truD, boolOf, nComp, compD, capD, cTrue, gSet, gTupD, gsCons, gsNil, iSeq, iRan1, iZip, isiD, xg0, xg1, xw0, xw1, xbs, xms, xmc, xmn, xna, xca, cat_ints, sub_ints, le_ints, ne_ints, eq_ints, lt_ints, gt_ints, rep0, rep1, rep2, cut41, at40, at41, at42, at43, at30, at31, at32, at20, at21, xnt, xnf, xft, if_true, if_false, ite_true, ite_false, eq_nil, h, decide_true, mul_ints (i := 7) (small_of (k := 3) (by decide) (by decide)) sk, e]
  · have e : cellZ ns k = ns.getD (k % ns.length) 0 + 6553 * ((k / ns.length : Nat) : Int) := by unfold cellZ; rw [if_neg h]
    have hl : (List.map PyData.int ns).length = ns.length := List.length_map ..
    have hp : 0 < ns.length := Nat.pos_of_ne_zero h
    have m1 : modI (.int k) (.int ns.length) = some (.int ((k % ns.length : Nat) : Int)) := by rw [mod_ints (by omega)]; simp
    have m2 : divI (.int k) (.int ns.length) = some (.int ((k / ns.length : Nat) : Int)) := by rw [div_ints (by omega) (small_nat (k := 6) (by omega) (by decide))]; simp
    have m3 : L2.atI (List.map PyData.int ns) ((k % ns.length : Nat) : Int) = some (.int (ns.getD (k % ns.length) 0)) := by
      refine L2.atI_nat ?_
      have hlt : k % ns.length < ns.length := Nat.mod_lt _ hp
      rw [List.getElem?_map, List.getElem?_eq_getElem hlt]
      simp [List.getD, hlt]
    have sq : Small ((k / ns.length : Nat) : Int) := small_nat (k := 60) (Nat.lt_of_le_of_lt (Nat.div_le_self _ _) hk) (by decide)
    simp only [G_l_cell, sSeq, sSet, sRet, sIf, sNil, sSetN, sAsg, dVar, dC, dTup, dLst, dBin, dCall, dIte, dAnd, dOr, dNot, dChain, dIx, dSlT, dLen, dTupN, dAll, dInt, dIsi, qVar, qE, qN, seqD, oNone, oSome, intOf, aNil, aCons, tTru, tB2, tAnd2, tOr2, tNot2, truD, boolOf, nComp, compD, capD, cTrue, gSet, gTupD, gsCons, gsNil, iSeq, iRan1, iZip, isiD, xg0, xg1, xw0, xw1, xbs, xms, xmc, xmn, xna, xca, cat_ints, sub_ints, le_ints, ne_ints, eq_ints, lt_ints, gt_ints, rep0, rep1, rep2, cut41, at40, at41, at42, at43, at30, at31, at32, at20, at21, xnt, xnf, xft, if_true, if_false, ite_true, ite_false, eq_nil, h, decide_false, hl, m1, m2, m3, mul_ints (i := 6553) (small_of (k := 13) (by decide) (by decide)) sq, e]
def drawZ (ns : List Int) (k : Nat) (m : Int) : Int :=
  let c := (cellZ ns k % 2147483563 * 69069 + 104723 * ((k : Int) + 1)) % 2147483563
  let c := (c * c + c / 3) % 2147483399
  (c * c + c / 7) % 2147483647 / 11 % m
theorem small_lt {i : Int} (h0 : 0 ≤ i) (h : i < 4294967296) : Small i := small_of (k := 32) (by omega) (by decide)
theorem F_drawn (ns : List Int) (k : Nat) (m : Int) (hn : ns.length ≤ 63) (hk : k < 2 ^ 60) (hm : 0 < m) : F_l_drawn [.list (ns.map PyData.int), .int k, .int m] = some (.int (drawZ ns k m)) := by
  refine run_rt (ρ := [some (.val (.list (ns.map PyData.int))), some (.val (.int k)), some (.val (.int m)), none]) rfl ?_
  have c0 : ∀ x : Int, Small (x % 2147483563) := fun x => small_lt (by omega) (by omega)
  have c1 : ∀ x : Int, Small (x % 2147483399) := fun x => small_lt (by omega) (by omega)
  have sk : Small ((k : Int) + 1) := small_of (k := 61) (by omega) (by decide)
  have s1 : Small 69069 := small_of (k := 17) (by decide) (by decide)
  have s2 : Small 104723 := small_of (k := 17) (by decide) (by decide)
  have s3 : Small 3 := small_of (k := 2) (by decide) (by decide)
  have s7 : Small 7 := small_of (k := 3) (by decide) (by decide)
  have s11 : Small 11 := small_of (k := 4) (by decide) (by decide)
  simp only [G_l_drawn, sSeq, sSet, sRet, sIf, sNil, sSetN, sAsg, dVar, dC, dTup, dLst, dBin, dCall, dIte, dAnd, dOr, dNot, dChain, dIx, dSlT, dLen, dTupN, dAll, dInt, dIsi, qVar, qE, qN, seqD, oNone, oSome, intOf, aNil, aCons, tTru, tB2, tAnd2, tOr2, tNot2, truD, boolOf, nComp, compD, capD, cTrue, gSet, gTupD, gsCons, gsNil, iSeq, iRan1, iZip, isiD, xg0, xg1, xw0, xw1, xbs, xms, xmc, xmn, xna, xca, cat_ints, sub_ints, le_ints, ne_ints, eq_ints, lt_ints, gt_ints, rep0, rep1, rep2, cut41, at40, at41, at42, at43, at30, at31, at32, at20, at21, xnt, xnf, xft, if_true, if_false, ite_true, ite_false, F_cell ns k hn hk, mod_ints (show (0 : Int) < 2147483563 by decide), mod_ints (show (0 : Int) < 2147483399 by decide), mod_ints (show (0 : Int) < 2147483647 by decide), mod_ints hm, mul_ints (c0 _) s1, mul_ints s2 sk, mul_ints (c0 _) (c0 _), mul_ints (c1 _) (c1 _), div_ints (show (0 : Int) < 3 by decide) s3, div_ints (show (0 : Int) < 7 by decide) s7, div_ints (show (0 : Int) < 11 by decide) s11]
  rfl
theorem draw_lt (ns : List Int) (k : Nat) (m : Int) (hm : 0 < m) : 0 ≤ drawZ ns k m ∧ drawZ ns k m < m := by
  unfold drawZ
  exact ⟨Int.emod_nonneg _ (by omega), Int.emod_lt_of_pos _ hm⟩
structure IsSh (k : Nat) (r : Rat) : Prop where
  bd : Bd k r
  le : r ≤ 1
theorem le_one_of {a b : Nat} (hb : 0 < b) (h : a ≤ b) : mkRat (a : Int) b ≤ 1 := by
  rw [Rat.le_iff, Rat.num_mkRat, Rat.den_mkRat, if_neg (by omega), if_neg (by omega)]
  have e0 : (1 : Rat).num = 1 := rfl
  have e1 : (1 : Rat).den = 1 := rfl
  rw [e0, e1]
  have : a / b.gcd a ≤ b / b.gcd a := Nat.div_le_div_right h
  simp
  exact_mod_cast this
theorem F_share (ns : List Int) (at' : Nat) (hn : ns.length ≤ 63) (hk : at' < 2 ^ 40) : ∃ r, F_l_share [.list (ns.map PyData.int), .int at'] = some (fr r) ∧ IsSh 4 r := by
  obtain ⟨u0, u1⟩ := draw_lt ns at' 12 (by decide)
  obtain ⟨u, hu⟩ : ∃ u : Nat, (1 : Int) + drawZ ns at' 12 = u ∧ 0 < u ∧ u ≤ 12 := ⟨(1 + drawZ ns at' 12).toNat, by omega, by omega, by omega⟩
  obtain ⟨t0, t1⟩ := draw_lt ns (at' + 1) ((u : Int) + 1) (by omega)
  obtain ⟨t, ht⟩ : ∃ t : Nat, drawZ ns (at' + 1) ((u : Int) + 1) = t ∧ t ≤ u := ⟨(drawZ ns (at' + 1) ((u : Int) + 1)).toNat, by omega, by omega⟩
  obtain ⟨p0, p1⟩ := draw_lt ns (at' + 2) 5 (by decide)
  have hs : IsSh 4 (mkRat (t : Int) u) := ⟨Bd.of (by omega) (by omega) (by omega), le_one_of (by omega) (by omega)⟩
  have e1 := F_drawn ns at' 12 hn (by omega) (by decide)
  have e2 := F_drawn ns (at' + 1) ((u : Int) + 1) hn (by omega) (by omega)
  have e3 := F_drawn ns (at' + 2) 5 hn (by omega) (by decide)
  have e4 := F_made t u 4 (by omega) (by omega) (by decide)
  have c1 : ((at' : Int) + 1) = ((at' + 1 : Nat) : Int) := by omega
  have c2 : ((at' : Int) + 2) = ((at' + 2 : Nat) : Int) := by omega
  rw [ht.1] at e2
  have pick : ∀ (j : Int), 0 ≤ j → j < 5 → ∃ r, L2.atI [fr (mkRat (t : Int) u), fr (mkRat (t : Int) u), fr (mkRat (t : Int) u), .tuple [.int 0, .int 1], .tuple [.int 1, .int 1]] j = some (fr r) ∧ IsSh 4 r := fun j h0 h5 => by
    have : j = 0 ∨ j = 1 ∨ j = 2 ∨ j = 3 ∨ j = 4 := by omega
    rcases this with rfl | rfl | rfl | rfl | rfl
    · exact ⟨_, rfl, hs⟩
    · exact ⟨_, rfl, hs⟩
    · exact ⟨_, rfl, hs⟩
    · exact ⟨0, rfl, Bd.zero.mono (by decide), by decide⟩
    · exact ⟨1, rfl, Bd.one.mono (by decide), by decide⟩
  obtain ⟨r, hr1, hr2⟩ := pick _ p0 p1
  refine ⟨r, run_rt (ρ := [some (.val (.list (ns.map PyData.int))), some (.val (.int at')), none, none]) rfl ?_, hr2⟩
  simp only [G_l_share, sSeq, sSet, sRet, sIf, sNil, sSetN, sAsg, dVar, dC, dTup, dLst, dBin, dCall, dIte, dAnd, dOr, dNot, dChain, dIx, dSlT, dLen, dTupN, dAll, dInt, dIsi, qVar, qE, qN, seqD, oNone, oSome, intOf, aNil, aCons, tTru, tB2, tAnd2, tOr2, tNot2, truD, boolOf, nComp, compD, capD, cTrue, gSet, gTupD, gsCons, gsNil, iSeq, iRan1, iZip, isiD, xg0, xg1, xw0, xw1, xbs, xms, xmc, xmn, xna, xca, cat_ints, sub_ints, le_ints, ne_ints, eq_ints, lt_ints, gt_ints, rep0, rep1, rep2, cut41, at40, at41, at42, at43, at30, at31, at32, at20, at21, xnt, xnf, xft, if_true, if_false, ite_true, ite_false, e1, hu.1, c1, c2, e2, e3, e4, hr1]
end Sh
namespace Sh
open PySem G L2
def sp (c x y z : Rat) : D := .tuple [fr c, fr x, fr y, fr z]
structure Spot (k : Nat) (c x y z : Rat) : Prop where
  hc : IsSh k c
  hx : Bd k x
  hy : Bd k y
  hz : Bd k z
  xc : x ≤ c
  yc : y ≤ c
  zc : z ≤ c
theorem IsSh.mono {j k : Nat} {r : Rat} (h : IsSh j r) (l : j ≤ k) : IsSh k r := ⟨h.bd.mono l, h.le⟩
theorem Spot.mono {j k : Nat} {c x y z : Rat} (h : Spot j c x y z) (l : j ≤ k) : Spot k c x y z := ⟨h.hc.mono l, h.hx.mono l, h.hy.mono l, h.hz.mono l, h.xc, h.yc, h.zc⟩
theorem mul_le_self {c r : Rat} (hc : 0 ≤ c) (hr : r ≤ 1) : c * r ≤ c := by
  have := Rat.mul_le_mul_of_nonneg_right hr hc
  grind
theorem ran3 : rangeD 0 3 = [.int 0, .int 1, .int 2] := rfl
theorem F_spot (ns : List Int) (k : Nat) (hn : ns.length ≤ 63) (hk : k < 2 ^ 30) : ∃ c x y z, F_l_spot [.list (ns.map PyData.int), .int k] = some (sp c x y z) ∧ Spot 8 c x y z := by
  obtain ⟨c, ec, hc⟩ := F_share ns k hn (by omega)
  obtain ⟨a0, e0, h0⟩ := F_share ns (k + 3) hn (by omega)
  obtain ⟨a1, e1, h1⟩ := F_share ns (k + 6) hn (by omega)
  obtain ⟨a2, e2, h2⟩ := F_share ns (k + 9) hn (by omega)
  refine ⟨c, c * a0, c * a1, c * a2, ?_, ⟨hc.mono (by decide), hc.bd.mul h0.bd, hc.bd.mul h1.bd, hc.bd.mul h2.bd, mul_le_self hc.bd.nn h0.le, mul_le_self hc.bd.nn h1.le, mul_le_self hc.bd.nn h2.le⟩⟩
  refine run_rt (ρ := [some (.val (.list (ns.map PyData.int))), some (.val (.int k)), none]) rfl ?_
  have i0 : (k : Int) + 3 + 3 * 0 = ((k + 3 : Nat) : Int) := by omega
  have i1 : (k : Int) + 3 + 3 * 1 = ((k + 6 : Nat) : Int) := by omega
  have i2 : (k : Int) + 3 + 3 * 2 = ((k + 9 : Nat) : Int) := by omega
  have s0 : Small 0 := small_of (k := 2) (by decide) (by decide)
  have s1 : Small 1 := small_of (k := 2) (by decide) (by decide)
  have s2 : Small 2 := small_of (k := 2) (by decide) (by decide)
  have s3 : Small 3 := small_of (k := 2) (by decide) (by decide)
  have m0 := mul_ints s3 s0
  have m1 := mul_ints s3 s1
  have m2 := mul_ints s3 s2
  have r3 : ((-(2 ^ 62) : Int) ≤ 3 ∧ (3 : Int) < 2 ^ 62) := by decide
  have l3 : ([PyData.int 0, .int 1, .int 2] : List D).length ≤ 16777216 := by decide
  have ct : ∀ a b c d : D, catD (.tuple [a]) (.tuple [b, c, d]) = some (.tuple [a, b, c, d]) := fun a b c d => rfl
  simp only [G_l_spot, sSeq, sSet, sRet, sIf, sNil, sSetN, sAsg, dVar, dC, dTup, dLst, dBin, dCall, dIte, dAnd, dOr, dNot, dChain, dIx, dSlT, dLen, dTupN, dAll, dInt, dIsi, qVar, qE, qN, seqD, oNone, oSome, intOf, aNil, aCons, tTru, tB2, tAnd2, tOr2, tNot2, truD, boolOf, nComp, compD, capD, cTrue, gSet, gTupD, gsCons, gsNil, iSeq, iRan1, iZip, isiD, xg0, xg1, xw0, xw1, xbs, xms, xmc, xmn, xna, xca, cat_ints, sub_ints, le_ints, ne_ints, eq_ints, lt_ints, gt_ints, rep0, rep1, rep2, cut41, at40, at41, at42, at43, at30, at31, at32, at20, at21, xnt, xnf, xft, if_true, if_false, ite_true, ite_false, ec, r3, and_self, ran3, l3, m0, m1, m2, i0, i1, i2, e0, e1, e2, L_times_ok hc.bd h0.bd (by decide), L_times_ok hc.bd h1.bd (by decide), L_times_ok hc.bd h2.bd (by decide), ct, sp]
theorem ne_nil : neD (.list []) (.list []) = some (.bool false) := rfl
theorem eq_nil0 : eqD (.list []) (.list []) = some (.bool true) := rfl
theorem isw_int (i : Int) : F_l_is_whole [.int i] = some (.bool true) := rfl
theorem isw_int' (i : Int) : F_is_whole [.int i] = some (.bool true) := rfl
theorem fr_shaped (r : Rat) : SeqAt.shaped (fr r) = true := rfl
theorem eq_fr (r s : Rat) : eqD (fr r) (fr s) = some (.bool (decide (r = s))) := by
  unfold eqD
  rw [if_pos ⟨fr_shaped r, fr_shaped s⟩]
  congr 2
  show ((r.num == s.num) && (((r.den : Int) == (s.den : Int)) && true)) = _
  rw [Bool.eq_iff_iff]
  simp only [Bool.and_true, Bool.and_eq_true, beq_iff_eq, decide_eq_true_eq]
  constructor
  · intro h; exact Rat.ext h.1 (by exact_mod_cast h.2)
  · intro h; subst h; exact ⟨rfl, rfl⟩
theorem mkRat_self' {k : Nat} {r : Rat} (h : Bd k r) : mkRat ((r.num.natAbs : Nat) : Int) r.den = r := by
  rw [← h.nat]; exact Rat.mkRat_self r
theorem num_le_den {k : Nat} {r : Rat} (h : IsSh k r) : r.num ≤ r.den := by
  have := (Rat.le_iff r 1).mp h.le
  have e0 : (1 : Rat).num = 1 := rfl
  have e1 : (1 : Rat).den = 1 := rfl
  rw [e0, e1] at this
  omega
theorem len2 (a b : D) : ((([a, b] : List D).length : Nat) : Int) = 2 := rfl
theorem len4 (a b c d : D) : ((([a, b, c, d] : List D).length : Nat) : Int) = 4 := rfl
theorem bb2 : ((2 : Int) == 2) = true := rfl
theorem bb4 : ((4 : Int) == 4) = true := rfl
theorem L_share_ok {k : Nat} {r : Rat} (h : IsSh k r) (hk : k ≤ 8000) : F_l_is_share [fr r] = some (.bool true) := by
  have n0 := Rat.num_nonneg.mpr h.bd.nn
  have nd := num_le_den h
  have d0 : (0 : Int) < r.den := by have := den_pos r; omega
  have e := F_made r.num.natAbs r.den k (den_pos r) h.bd.den hk
  rw [mkRat_self' h.bd, ← h.bd.nat] at e
  have e2 := eq_fr r r
  refine run_rt (ρ := [some (.val (fr r))]) rfl ?_
  have e' : F_l_made [PyData.int r.num, PyData.int r.den] = some (.tuple [.int r.num, .int r.den]) := e
  have e2' : eqD (.tuple [.int r.num, .int r.den]) (.tuple [.int r.num, .int r.den]) = some (.bool true) := by
    have := e2
    simp only [decide_true] at this
    exact this
  simp only [G_l_is_share, fr, sSeq, sSet, sRet, sIf, sNil, sSetN, sAsg, dVar, dC, dTup, dLst, dBin, dCall, dIte, dAnd, dOr, dNot, dChain, dIx, dSlT, dLen, dTupN, dAll, dInt, dIsi, qVar, qE, qN, seqD, oNone, oSome, intOf, aNil, aCons, tTru, tB2, tAnd2, tOr2, tNot2, truD, boolOf, nComp, compD, capD, cTrue, gSet, gTupD, gsCons, gsNil, iSeq, iRan1, iZip, isiD, xg0, xg1, xw0, xw1, xbs, xms, xmc, xmn, xna, xca, cat_ints, sub_ints, le_ints, ne_ints, eq_ints, lt_ints, gt_ints, rep0, rep1, rep2, cut41, at40, at41, at42, at43, at30, at31, at32, at20, at21, xnt, xnf, xft, if_true, if_false, ite_true, ite_false, len2, bb2, isw_int, d0, decide_true, n0, nd, e', e2']
theorem P_share_ok {k : Nat} {r : Rat} (h : IsSh k r) (hk : k ≤ 8000) : F_is_share [fr r] = some (.bool true) := by
  have n0 := Rat.num_nonneg.mpr h.bd.nn
  have nd := num_le_den h
  have d0 : (0 : Int) < r.den := by have := den_pos r; omega
  have e := F_gcd r.num.natAbs r.den
  rw [← h.bd.nat, show Nat.gcd r.num.natAbs r.den = 1 from r.reduced] at e
  have e' : F_common_divisor [PyData.int r.num, PyData.int r.den] = some (.int 1) := e
  have b1 : ((1 : Int) == 1) = true := rfl
  refine run_rt (ρ := [some (.val (fr r)), none, none]) rfl ?_
  simp only [G_is_share, fr, sSeq, sSet, sRet, sIf, sNil, sSetN, sAsg, dVar, dC, dTup, dLst, dBin, dCall, dIte, dAnd, dOr, dNot, dChain, dIx, dSlT, dLen, dTupN, dAll, dInt, dIsi, qVar, qE, qN, seqD, oNone, oSome, intOf, aNil, aCons, tTru, tB2, tAnd2, tOr2, tNot2, truD, boolOf, nComp, compD, capD, cTrue, gSet, gTupD, gsCons, gsNil, iSeq, iRan1, iZip, isiD, xg0, xg1, xw0, xw1, xbs, xms, xmc, xmn, xna, xca, cat_ints, sub_ints, le_ints, ne_ints, eq_ints, lt_ints, gt_ints, rep0, rep1, rep2, cut41, at40, at41, at42, at43, at30, at31, at32, at20, at21, xnt, xnf, xft, if_true, if_false, ite_true, ite_false, len2, bb2, isw_int', d0, decide_true, n0, nd, e', b1]
theorem gt_fr {j k : Nat} {r s : Rat} (hr : Bd j r) (hs : Bd k s) (hj : j ≤ 8000) (hk : k ≤ 8000) (l : r ≤ s) : (decide (s.num * (r.den : Int) < r.num * (s.den : Int))) = false := by
  have := (Rat.le_iff r s).mp l
  exact decide_eq_false (by omega)
theorem allB3 : allB [.bool true, .bool true, .bool true] = some true := rfl
theorem allB4 : allB [.bool true, .bool true, .bool true, .bool true] = some true := rfl
theorem P_spot_ok {k : Nat} {c x y z : Rat} (S : Spot k c x y z) (hk : k + k ≤ 8000) : F_is_spot [sp c x y z] = some (.bool true) := by
  have hk1 : k ≤ 8000 := by omega
  have lx : IsSh k x := ⟨S.hx, Rat.le_trans S.xc S.hc.le⟩
  have ly : IsSh k y := ⟨S.hy, Rat.le_trans S.yc S.hc.le⟩
  have lz : IsSh k z := ⟨S.hz, Rat.le_trans S.zc S.hc.le⟩
  refine run_rt (ρ := [some (.val (sp c x y z))]) rfl ?_
  have f4 : ([fr c, fr x, fr y, fr z] : List D).length ≤ 16777216 := by show 4 ≤ 16777216; decide
  have f3 : ([fr x, fr y, fr z] : List D).length ≤ 16777216 := by show 3 ≤ 16777216; decide
  simp only [G_is_spot, sp, sSeq, sSet, sRet, sIf, sNil, sSetN, sAsg, dVar, dC, dTup, dLst, dBin, dCall, dIte, dAnd, dOr, dNot, dChain, dIx, dSlT, dLen, dTupN, dAll, dInt, dIsi, qVar, qE, qN, seqD, oNone, oSome, intOf, aNil, aCons, tTru, tB2, tAnd2, tOr2, tNot2, truD, boolOf, nComp, compD, capD, cTrue, gSet, gTupD, gsCons, gsNil, iSeq, iRan1, iZip, isiD, xg0, xg1, xw0, xw1, xbs, xms, xmc, xmn, xna, xca, cat_ints, sub_ints, le_ints, ne_ints, eq_ints, lt_ints, gt_ints, rep0, rep1, rep2, cut41, at40, at41, at42, at43, at30, at31, at32, at20, at21, xnt, xnf, xft, if_true, if_false, ite_true, ite_false, len4, bb4, f4, f3, P_share_ok S.hc hk1, P_share_ok lx hk1, P_share_ok ly hk1, P_share_ok lz hk1, allB3, allB4, F_atmost_ok S.hx S.hc.bd hk, F_atmost_ok S.hy S.hc.bd hk, F_atmost_ok S.hz S.hc.bd hk, S.xc, S.yc, S.zc, decide_true]
end Sh
namespace Sh
open PySem G L2
inductive Man where
  | over | mult | screen | plus | atop | cut
def Man.s : Man → Str
  | .over => "over"
  | .mult => "multiply"
  | .screen => "screen"
  | .plus => "plus"
  | .atop => "atop"
  | .cut => "cut"
theorem ln2 (a b : D) : ([a, b] : List D).length = 2 := rfl
end Sh
namespace Sh
open PySem G L2
inductive Rul where
  | turn | grey | round
def Rul.s : Rul → Str
  | .turn => "turn"
  | .grey => "grey"
  | .round => "round"
theorem eqv_fr (r : Rat) : PyData.eqv (fr r) (fr r) = true := by
  show ((r.num == r.num) && (((r.den : Int) == (r.den : Int)) && true)) = true
  simp
end Sh
namespace Sh
open PySem G L2
def Gd : Nat → D → Prop
  | _, .none => True
  | _, .bool _ => True
  | _, .int i => i.natAbs < 2 ^ 40
  | _, .str x => PyData.strOk x = true
  | n + 1, .tuple xs => xs.length ≤ 64 ∧ ∀ x ∈ xs, Gd n x
  | n + 1, .list xs => xs.length ≤ 64 ∧ ∀ x ∈ xs, Gd n x
  | _, _ => False
theorem all_lay {n : Nat} (h : ∀ d, Gd n d → PyData.canLay0 d = true ∧ PyData.depth d ≤ n) : ∀ xs : List D, (∀ x ∈ xs, Gd n x) → PyData.canLayAll0 xs = true ∧ PyData.depthAll xs ≤ n
  | [], _ => ⟨rfl, Nat.zero_le _⟩
  | x :: xs, g => by
    have a := h x (g x (List.mem_cons_self ..))
    have b := all_lay h xs fun y hy => g y (List.mem_cons_of_mem _ hy)
    refine ⟨?_, ?_⟩
    · show (PyData.canLay0 x && PyData.canLayAll0 xs) = true
      rw [a.1, b.1]; rfl
    · show max (PyData.depth x) (PyData.depthAll xs) ≤ n
      omega
theorem Gd.lay : ∀ (n : Nat) (d : D), Gd n d → PyData.canLay0 d = true ∧ PyData.depth d ≤ n := by
  intro n
  induction n with
  | zero => intro d g; cases d <;> first | exact ⟨rfl, Nat.zero_le _⟩ | exact ⟨g, Nat.zero_le _⟩ | exact g.elim
  | succ n ih =>
    intro d g
    cases d with
    | tuple xs => have := all_lay ih xs g.2; exact ⟨this.1, Nat.succ_le_succ this.2⟩
    | list xs => have := all_lay ih xs g.2; exact ⟨this.1, Nat.succ_le_succ this.2⟩
    | none => exact ⟨rfl, Nat.zero_le _⟩
    | bool b => exact ⟨rfl, Nat.zero_le _⟩
    | int i => exact ⟨rfl, Nat.zero_le _⟩
    | str x => exact ⟨g, Nat.zero_le _⟩
    | dict _ => exact g.elim
theorem Gd.shaped {n : Nat} {d : D} (g : Gd n d) (hn : n ≤ 64) : SeqAt.shaped d = true := by
  have := Gd.lay n d g
  unfold SeqAt.shaped
  rw [this.1, Bool.true_and]
  exact decide_eq_true (by omega)
theorem ne_cons {n : Nat} {x : D} {xs : List D} (g : ∀ y ∈ x :: xs, Gd n y) (hl : (x :: xs).length ≤ 64) (hn : n ≤ 60) : neD (.list (x :: xs)) (.list []) = some (.bool true) := by
  have : Gd (n + 1) (.list (x :: xs)) := ⟨hl, g⟩
  unfold neD
  rw [if_pos ⟨this.shaped (by omega), rfl⟩]; rfl
theorem tup_len {a b c : D} {r : List D} : ((((a :: b :: c :: r).length : Nat) : Int) == 2) = false := by
  rw [beq_eq_false_iff_ne]
  simp only [List.length_cons]; omega
theorem share_int (a b : Int) (ha : a.natAbs < 2 ^ 40) (hb : b.natAbs < 2 ^ 40) : ∃ c, F_is_share [.tuple [.int a, .int b]] = some (.bool c) ∧ F_l_is_share [.tuple [.int a, .int b]] = some (.bool c) ∧ (c = true → ∃ r, .tuple [.int a, .int b] = fr r ∧ IsSh 40 r) := by
  have b2 : ((2 : Int) == 2) = true := rfl
  by_cases h1 : 0 < b
  · by_cases h2 : 0 ≤ a
    · by_cases h3 : a ≤ b
      · obtain ⟨p, rfl⟩ := Int.eq_ofNat_of_zero_le h2
        obtain ⟨q, rfl⟩ := Int.eq_ofNat_of_zero_le (Int.le_of_lt h1)
        have e1 := F_gcd p q
        have q0 : 0 < q := by omega
        have e2 := F_made p q 40 q0 (by omega) (by decide)
        rw [mkRat_fr p q q0] at e2
        have g0 : 0 < Nat.gcd p q := Nat.gcd_pos_of_pos_right _ q0
        have eqq : eqD (.tuple [.int ((p / Nat.gcd p q : Nat) : Int), .int ((q / Nat.gcd p q : Nat) : Int)]) (.tuple [.int p, .int q]) = some (.bool (decide (Nat.gcd p q = 1))) := by
          unfold eqD
          rw [if_pos ⟨rfl, rfl⟩]
          congr 2
          show (((((p / Nat.gcd p q : Nat) : Int)) == (p : Int)) && ((((q / Nat.gcd p q : Nat) : Int) == (q : Int)) && true)) = _
          rw [Bool.eq_iff_iff]
          simp only [Bool.and_true, Bool.and_eq_true, beq_iff_eq, decide_eq_true_eq]
          constructor
          · intro h
            have h4 : q / Nat.gcd p q = q := by exact_mod_cast h.2
            rcases Nat.lt_or_ge 1 (Nat.gcd p q) with h5 | h5
            · have := Nat.div_lt_self q0 h5; omega
            · omega
          · intro h; rw [h, Nat.div_one, Nat.div_one]; exact ⟨rfl, rfl⟩
        have c1 : (((Nat.gcd p q : Nat) : Int) == 1) = decide (Nat.gcd p q = 1) := by
          rw [Bool.eq_iff_iff]; simp only [beq_iff_eq, decide_eq_true_eq]; omega
        refine ⟨decide (Nat.gcd p q = 1), ?_, ?_, fun h => ?_⟩
        · refine run_rt (ρ := [some (.val (.tuple [.int p, .int q])), none, none]) rfl ?_
          simp only [G_is_share, sSeq, sSet, sRet, sIf, sNil, sSetN, sAsg, dVar, dC, dTup, dLst, dBin, dCall, dIte, dAnd, dOr, dNot, dChain, dIx, dSlT, dLen, dTupN, dAll, dInt, dIsi, qVar, qE, qN, seqD, oNone, oSome, intOf, aNil, aCons, tTru, tB2, tAnd2, tOr2, tNot2, truD, boolOf, nComp, compD, capD, cTrue, gSet, gTupD, gsCons, gsNil, iSeq, iRan1, iZip, isiD, xg0, xg1, xw0, xw1, xbs, xms, xmc, xmn, xna, xca, cat_ints, sub_ints, le_ints, ne_ints, eq_ints, lt_ints, gt_ints, rep0, rep1, rep2, cut41, at40, at41, at42, at43, at30, at31, at32, at20, at21, xnt, xnf, xft, if_true, if_false, ite_true, ite_false, len2, b2, isw_int', h1, h2, h3, decide_true, e1, c1]
        · refine run_rt (ρ := [some (.val (.tuple [.int p, .int q]))]) rfl ?_
          simp only [G_l_is_share, sSeq, sSet, sRet, sIf, sNil, sSetN, sAsg, dVar, dC, dTup, dLst, dBin, dCall, dIte, dAnd, dOr, dNot, dChain, dIx, dSlT, dLen, dTupN, dAll, dInt, dIsi, qVar, qE, qN, seqD, oNone, oSome, intOf, aNil, aCons, tTru, tB2, tAnd2, tOr2, tNot2, truD, boolOf, nComp, compD, capD, cTrue, gSet, gTupD, gsCons, gsNil, iSeq, iRan1, iZip, isiD, xg0, xg1, xw0, xw1, xbs, xms, xmc, xmn, xna, xca, cat_ints, sub_ints, le_ints, ne_ints, eq_ints, lt_ints, gt_ints, rep0, rep1, rep2, cut41, at40, at41, at42, at43, at30, at31, at32, at20, at21, xnt, xnf, xft, if_true, if_false, ite_true, ite_false, len2, b2, isw_int, h1, h2, h3, decide_true, e2, eqq]
        · have g1 := of_decide_eq_true h
          refine ⟨mkRat p q, ?_, ⟨Bd.of q0 (by omega) (by omega), le_one_of q0 (by omega)⟩⟩
          rw [mkRat_fr p q q0, g1, Nat.div_one, Nat.div_one]
      · refine ⟨false, ?_, ?_, fun h => by cases h⟩
        · refine run_rt (ρ := [some (.val (.tuple [.int a, .int b])), none, none]) rfl ?_
          simp only [G_is_share, sSeq, sSet, sRet, sIf, sNil, sSetN, sAsg, dVar, dC, dTup, dLst, dBin, dCall, dIte, dAnd, dOr, dNot, dChain, dIx, dSlT, dLen, dTupN, dAll, dInt, dIsi, qVar, qE, qN, seqD, oNone, oSome, intOf, aNil, aCons, tTru, tB2, tAnd2, tOr2, tNot2, truD, boolOf, nComp, compD, capD, cTrue, gSet, gTupD, gsCons, gsNil, iSeq, iRan1, iZip, isiD, xg0, xg1, xw0, xw1, xbs, xms, xmc, xmn, xna, xca, cat_ints, sub_ints, le_ints, ne_ints, eq_ints, lt_ints, gt_ints, rep0, rep1, rep2, cut41, at40, at41, at42, at43, at30, at31, at32, at20, at21, xnt, xnf, xft, if_true, if_false, ite_true, ite_false, len2, b2, isw_int', h1, h2, h3, decide_true, decide_false]
        · refine run_rt (ρ := [some (.val (.tuple [.int a, .int b]))]) rfl ?_
          simp only [G_l_is_share, sSeq, sSet, sRet, sIf, sNil, sSetN, sAsg, dVar, dC, dTup, dLst, dBin, dCall, dIte, dAnd, dOr, dNot, dChain, dIx, dSlT, dLen, dTupN, dAll, dInt, dIsi, qVar, qE, qN, seqD, oNone, oSome, intOf, aNil, aCons, tTru, tB2, tAnd2, tOr2, tNot2, truD, boolOf, nComp, compD, capD, cTrue, gSet, gTupD, gsCons, gsNil, iSeq, iRan1, iZip, isiD, xg0, xg1, xw0, xw1, xbs, xms, xmc, xmn, xna, xca, cat_ints, sub_ints, le_ints, ne_ints, eq_ints, lt_ints, gt_ints, rep0, rep1, rep2, cut41, at40, at41, at42, at43, at30, at31, at32, at20, at21, xnt, xnf, xft, if_true, if_false, ite_true, ite_false, len2, b2, isw_int, h1, h2, h3, decide_true, decide_false]
    · refine ⟨false, ?_, ?_, fun h => by cases h⟩
      · refine run_rt (ρ := [some (.val (.tuple [.int a, .int b])), none, none]) rfl ?_
        simp only [G_is_share, sSeq, sSet, sRet, sIf, sNil, sSetN, sAsg, dVar, dC, dTup, dLst, dBin, dCall, dIte, dAnd, dOr, dNot, dChain, dIx, dSlT, dLen, dTupN, dAll, dInt, dIsi, qVar, qE, qN, seqD, oNone, oSome, intOf, aNil, aCons, tTru, tB2, tAnd2, tOr2, tNot2, truD, boolOf, nComp, compD, capD, cTrue, gSet, gTupD, gsCons, gsNil, iSeq, iRan1, iZip, isiD, xg0, xg1, xw0, xw1, xbs, xms, xmc, xmn, xna, xca, cat_ints, sub_ints, le_ints, ne_ints, eq_ints, lt_ints, gt_ints, rep0, rep1, rep2, cut41, at40, at41, at42, at43, at30, at31, at32, at20, at21, xnt, xnf, xft, if_true, if_false, ite_true, ite_false, len2, b2, isw_int', h1, h2, decide_true, decide_false]
      · refine run_rt (ρ := [some (.val (.tuple [.int a, .int b]))]) rfl ?_
        simp only [G_l_is_share, sSeq, sSet, sRet, sIf, sNil, sSetN, sAsg, dVar, dC, dTup, dLst, dBin, dCall, dIte, dAnd, dOr, dNot, dChain, dIx, dSlT, dLen, dTupN, dAll, dInt, dIsi, qVar, qE, qN, seqD, oNone, oSome, intOf, aNil, aCons, tTru, tB2, tAnd2, tOr2, tNot2, truD, boolOf, nComp, compD, capD, cTrue, gSet, gTupD, gsCons, gsNil, iSeq, iRan1, iZip, isiD, xg0, xg1, xw0, xw1, xbs, xms, xmc, xmn, xna, xca, cat_ints, sub_ints, le_ints, ne_ints, eq_ints, lt_ints, gt_ints, rep0, rep1, rep2, cut41, at40, at41, at42, at43, at30, at31, at32, at20, at21, xnt, xnf, xft, if_true, if_false, ite_true, ite_false, len2, b2, isw_int, h1, h2, decide_true, decide_false]
  · refine ⟨false, ?_, ?_, fun h => by cases h⟩
    · refine run_rt (ρ := [some (.val (.tuple [.int a, .int b])), none, none]) rfl ?_
      simp only [G_is_share, sSeq, sSet, sRet, sIf, sNil, sSetN, sAsg, dVar, dC, dTup, dLst, dBin, dCall, dIte, dAnd, dOr, dNot, dChain, dIx, dSlT, dLen, dTupN, dAll, dInt, dIsi, qVar, qE, qN, seqD, oNone, oSome, intOf, aNil, aCons, tTru, tB2, tAnd2, tOr2, tNot2, truD, boolOf, nComp, compD, capD, cTrue, gSet, gTupD, gsCons, gsNil, iSeq, iRan1, iZip, isiD, xg0, xg1, xw0, xw1, xbs, xms, xmc, xmn, xna, xca, cat_ints, sub_ints, le_ints, ne_ints, eq_ints, lt_ints, gt_ints, rep0, rep1, rep2, cut41, at40, at41, at42, at43, at30, at31, at32, at20, at21, xnt, xnf, xft, if_true, if_false, ite_true, ite_false, len2, b2, isw_int', h1, decide_true, decide_false]
    · refine run_rt (ρ := [some (.val (.tuple [.int a, .int b]))]) rfl ?_
      simp only [G_l_is_share, sSeq, sSet, sRet, sIf, sNil, sSetN, sAsg, dVar, dC, dTup, dLst, dBin, dCall, dIte, dAnd, dOr, dNot, dChain, dIx, dSlT, dLen, dTupN, dAll, dInt, dIsi, qVar, qE, qN, seqD, oNone, oSome, intOf, aNil, aCons, tTru, tB2, tAnd2, tOr2, tNot2, truD, boolOf, nComp, compD, capD, cTrue, gSet, gTupD, gsCons, gsNil, iSeq, iRan1, iZip, isiD, xg0, xg1, xw0, xw1, xbs, xms, xmc, xmn, xna, xca, cat_ints, sub_ints, le_ints, ne_ints, eq_ints, lt_ints, gt_ints, rep0, rep1, rep2, cut41, at40, at41, at42, at43, at30, at31, at32, at20, at21, xnt, xnf, xft, if_true, if_false, ite_true, ite_false, len2, b2, isw_int, h1, decide_true, decide_false]
theorem share_long (a b c : D) (r : List D) : F_is_share [.tuple (a :: b :: c :: r)] = some (.bool false) ∧ F_l_is_share [.tuple (a :: b :: c :: r)] = some (.bool false) := by
  have h := @tup_len a b c r
  constructor
  · refine run_rt (ρ := [some (.val (.tuple (a :: b :: c :: r))), none, none]) rfl ?_
    simp only [G_is_share, sSeq, sSet, sRet, sIf, sNil, sSetN, sAsg, dVar, dC, dTup, dLst, dBin, dCall, dIte, dAnd, dOr, dNot, dChain, dIx, dSlT, dLen, dTupN, dAll, dInt, dIsi, qVar, qE, qN, seqD, oNone, oSome, intOf, aNil, aCons, tTru, tB2, tAnd2, tOr2, tNot2, truD, boolOf, nComp, compD, capD, cTrue, gSet, gTupD, gsCons, gsNil, iSeq, iRan1, iZip, isiD, xg0, xg1, xw0, xw1, xbs, xms, xmc, xmn, xna, xca, cat_ints, sub_ints, le_ints, ne_ints, eq_ints, lt_ints, gt_ints, rep0, rep1, rep2, cut41, at40, at41, at42, at43, at30, at31, at32, at20, at21, xnt, xnf, xft, if_true, if_false, ite_true, ite_false, h]
  · refine run_rt (ρ := [some (.val (.tuple (a :: b :: c :: r)))]) rfl ?_
    simp only [G_l_is_share, sSeq, sSet, sRet, sIf, sNil, sSetN, sAsg, dVar, dC, dTup, dLst, dBin, dCall, dIte, dAnd, dOr, dNot, dChain, dIx, dSlT, dLen, dTupN, dAll, dInt, dIsi, qVar, qE, qN, seqD, oNone, oSome, intOf, aNil, aCons, tTru, tB2, tAnd2, tOr2, tNot2, truD, boolOf, nComp, compD, capD, cTrue, gSet, gTupD, gsCons, gsNil, iSeq, iRan1, iZip, isiD, xg0, xg1, xw0, xw1, xbs, xms, xmc, xmn, xna, xca, cat_ints, sub_ints, le_ints, ne_ints, eq_ints, lt_ints, gt_ints, rep0, rep1, rep2, cut41, at40, at41, at42, at43, at30, at31, at32, at20, at21, xnt, xnf, xft, if_true, if_false, ite_true, ite_false, h]
theorem share_any {n : Nat} {d : D} (g : Gd n d) : ∃ c, F_is_share [d] = some (.bool c) ∧ F_l_is_share [d] = some (.bool c) ∧ (c = true → ∃ r, d = fr r ∧ IsSh 40 r) := by
  have no : ∀ {d : D}, F_is_share [d] = some (.bool false) → F_l_is_share [d] = some (.bool false) → ∃ c, F_is_share [d] = some (.bool c) ∧ F_l_is_share [d] = some (.bool c) ∧ (c = true → ∃ r, d = fr r ∧ IsSh 40 r) := fun h1 h2 => ⟨false, h1, h2, fun h => by cases h⟩
  cases d with
  | none => exact no rfl rfl
  | bool b => exact no rfl rfl
  | int i => exact no rfl rfl
  | str x => exact no rfl rfl
  | list xs => exact no rfl rfl
  | dict _ => cases n <;> exact g.elim
  | tuple xs =>
    cases n with
    | zero => exact g.elim
    | succ n =>
      match xs, g with
      | [], _ => exact no rfl rfl
      | [a], _ => exact no rfl rfl
      | a :: b :: c :: r, _ => exact no (share_long a b c r).1 (share_long a b c r).2
      | [a, b], g =>
        have ga := g.2 a (by simp)
        have gb := g.2 b (by simp)
        cases a <;> cases b <;> first
          | exact share_int _ _ (by cases n <;> exact ga) (by cases n <;> exact gb)
          | exact no rfl rfl
          | (exfalso; cases n <;> exact ga.elim)
          | (exfalso; cases n <;> exact gb.elim)
--main
theorem eq_cons {n : Nat} {x : D} {xs : List D} (g : ∀ y ∈ x :: xs, Gd n y) (hl : (x :: xs).length ≤ 64) (hn : n ≤ 60) : eqD (.list (x :: xs)) (.list []) = some (.bool false) := by
  have : Gd (n + 1) (.list (x :: xs)) := ⟨hl, g⟩
  unfold eqD
  rw [if_pos ⟨this.shaped (by omega), rfl⟩]; rfl
theorem gd_fr {k : Nat} {r : Rat} (h : Bd k r) (hk : k ≤ 40) (n : Nat) : Gd (n + 1) (fr r) := by
  have h := h.mono hk
  refine ⟨by show 2 ≤ 64; decide, ?_⟩
  intro x hx
  simp only [List.mem_cons, List.not_mem_nil, or_false] at hx
  rcases hx with rfl | rfl
  · cases n <;> exact h.num
  · have : ((r.den : Int)).natAbs < 2 ^ 40 := by rw [Int.natAbs_natCast]; exact h.den
    cases n <;> exact this
theorem gt_fr' {r s : Rat} (l : ¬ r ≤ s) : (decide (s.num * (r.den : Int) < r.num * (s.den : Int))) = true := by
  have := mt (Rat.le_iff r s).mpr l
  exact decide_eq_true (by omega)
theorem allB3' (a b c : Bool) : allB [.bool a, .bool b, .bool c] = some (a && (b && (c && true))) := rfl
theorem allB4' (a b c d : Bool) : allB [.bool a, .bool b, .bool c, .bool d] = some (a && (b && (c && (d && true)))) := rfl
theorem spot_fr {c x y z : Rat} (hc : IsSh 40 c) (hx : IsSh 40 x) (hy : IsSh 40 y) (hz : IsSh 40 z) : ∃ t, F_is_spot [sp c x y z] = some (.bool t) ∧ F_l_is_spot [sp c x y z] = some (.bool t) := by
  have hk : 40 ≤ 8000 := by decide
  have f4 : ∀ a b c d : D, ([a, b, c, d] : List D).length ≤ 16777216 := fun a b c d => by show 4 ≤ 16777216; decide
  have f3 : ∀ a b c : D, ([a, b, c] : List D).length ≤ 16777216 := fun a b c => by show 3 ≤ 16777216; decide
  refine ⟨decide (x ≤ c) && (decide (y ≤ c) && (decide (z ≤ c) && true)), ?_, ?_⟩
  · refine run_rt (ρ := [some (.val (sp c x y z))]) rfl ?_
    simp only [G_is_spot, sp, sSeq, sSet, sRet, sIf, sNil, sSetN, sAsg, dVar, dC, dTup, dLst, dBin, dCall, dIte, dAnd, dOr, dNot, dChain, dIx, dSlT, dLen, dTupN, dAll, dInt, dIsi, qVar, qE, qN, seqD, oNone, oSome, intOf, aNil, aCons, tTru, tB2, tAnd2, tOr2, tNot2, truD, boolOf, nComp, compD, capD, cTrue, gSet, gTupD, gsCons, gsNil, iSeq, iRan1, iZip, isiD, xg0, xg1, xw0, xw1, xbs, xms, xmc, xmn, xna, xca, cat_ints, sub_ints, le_ints, ne_ints, eq_ints, lt_ints, gt_ints, rep0, rep1, rep2, cut41, at40, at41, at42, at43, at30, at31, at32, at20, at21, xnt, xnf, xft, if_true, if_false, ite_true, ite_false, len4, bb4, f4, f3, P_share_ok hc hk, P_share_ok hx hk, P_share_ok hy hk, P_share_ok hz hk, allB4, F_atmost_ok hx.bd hc.bd (by decide), F_atmost_ok hy.bd hc.bd (by decide), F_atmost_ok hz.bd hc.bd (by decide), allB3']
  · refine run_rt (ρ := [some (.val (sp c x y z))]) rfl ?_
    have q : ∀ {r : Rat}, (fr r) = .tuple [.int r.num, .int r.den] := rfl
    have gx := gd_fr hx.bd (by decide) 1
    have gy := gd_fr hy.bd (by decide) 1
    have gz := gd_fr hz.bd (by decide) 1
    have e1 := eq_cons (n := 2) (x := fr x) (xs := []) (by simp [gx]) (by simp) (by decide)
    have e2 := eq_cons (n := 2) (x := fr y) (xs := []) (by simp [gy]) (by simp) (by decide)
    have e3 := eq_cons (n := 2) (x := fr z) (xs := []) (by simp [gz]) (by simp) (by decide)
    have e4 := eq_cons (n := 2) (x := fr x) (xs := [fr y]) (by simp [gx, gy]) (by simp) (by decide)
    have e5 := eq_cons (n := 2) (x := fr x) (xs := [fr z]) (by simp [gx, gz]) (by simp) (by decide)
    have e6 := eq_cons (n := 2) (x := fr y) (xs := [fr z]) (by simp [gy, gz]) (by simp) (by decide)
    have e7 := eq_cons (n := 2) (x := fr x) (xs := [fr y, fr z]) (by simp [gx, gy, gz]) (by simp) (by decide)
    have S := L_share_ok hc hk
    simp only [G_l_is_spot, sp, sSeq, sSet, sRet, sIf, sNil, sSetN, sAsg, dVar, dC, dTup, dLst, dBin, dCall, dIte, dAnd, dOr, dNot, dChain, dIx, dSlT, dLen, dTupN, dAll, dInt, dIsi, qVar, qE, qN, seqD, oNone, oSome, intOf, aNil, aCons, tTru, tB2, tAnd2, tOr2, tNot2, truD, boolOf, nComp, compD, capD, cTrue, gSet, gTupD, gsCons, gsNil, iSeq, iRan1, iZip, isiD, xg0, xg1, xw0, xw1, xbs, xms, xmc, xmn, xna, xca, cat_ints, sub_ints, le_ints, ne_ints, eq_ints, lt_ints, gt_ints, rep0, rep1, rep2, cut41, at40, at41, at42, at43, at30, at31, at32, at20, at21, xnt, xnf, xft, if_true, if_false, ite_true, ite_false, len4, bb4, f4, L_share_ok hc hk, L_share_ok hx hk, L_share_ok hy hk, L_share_ok hz hk, ne_nil]
    simp only [q] at e1 e2 e3 e4 e5 e6 e7
    by_cases h1 : x ≤ c <;> by_cases h2 : y ≤ c <;> by_cases h3 : z ≤ c <;>
    simp only [q, sSeq, sSet, sRet, sIf, sNil, sSetN, sAsg, dVar, dC, dTup, dLst, dBin, dCall, dIte, dAnd, dOr, dNot, dChain, dIx, dSlT, dLen, dTupN, dAll, dInt, dIsi, qVar, qE, qN, seqD, oNone, oSome, intOf, aNil, aCons, tTru, tB2, tAnd2, tOr2, tNot2, truD, boolOf, nComp, compD, capD, cTrue, gSet, gTupD, gsCons, gsNil, iSeq, iRan1, iZip, isiD, xg0, xg1, xw0, xw1, xbs, xms, xmc, xmn, xna, xca, cat_ints, sub_ints, le_ints, ne_ints, eq_ints, lt_ints, gt_ints, rep0, rep1, rep2, cut41, at40, at41, at42, at43, at30, at31, at32, at20, at21, xnt, xnf, xft, if_true, if_false, ite_true, ite_false, mul_ints (hc.bd.sn hk) (hc.bd.sd hk), mul_ints (hx.bd.sn hk) (hc.bd.sd hk), mul_ints (hy.bd.sn hk) (hc.bd.sd hk), mul_ints (hz.bd.sn hk) (hc.bd.sd hk), mul_ints (hc.bd.sn hk) (hx.bd.sd hk), mul_ints (hc.bd.sn hk) (hy.bd.sd hk), mul_ints (hc.bd.sn hk) (hz.bd.sd hk), h1, h2, h3, decide_true, decide_false, Bool.and_true, Bool.and_false, Bool.true_and, Bool.false_and,
      gt_fr hc.bd hc.bd hk hk (Rat.le_refl), (gt_fr hx.bd hc.bd hk hk : x ≤ c → _), (gt_fr hy.bd hc.bd hk hk : y ≤ c → _), (gt_fr hz.bd hc.bd hk hk : z ≤ c → _), (gt_fr' : ¬ x ≤ c → _), (gt_fr' : ¬ y ≤ c → _), (gt_fr' : ¬ z ≤ c → _), not_false_eq_true, eq_nil0, e1, e2, e3, e4, e5, e6, e7]
theorem spot4 {n : Nat} {a b c e : D} (hn : n ≤ 60) (ga : Gd n a) (gb : Gd n b) (gc : Gd n c) (ge : Gd n e) : ∃ t, F_is_spot [.tuple [a, b, c, e]] = some (.bool t) ∧ F_l_is_spot [.tuple [a, b, c, e]] = some (.bool t) := by
  obtain ⟨c1, p1, l1, r1⟩ := share_any ga
  obtain ⟨c2, p2, l2, r2⟩ := share_any gb
  obtain ⟨c3, p3, l3, r3⟩ := share_any gc
  obtain ⟨c4, p4, l4, r4⟩ := share_any ge
  have f4 : ∀ a b c d : D, ([a, b, c, d] : List D).length ≤ 16777216 := fun a b c d => by show 4 ≤ 16777216; decide
  by_cases H : (c1 && (c2 && (c3 && (c4 && true)))) = true
  · simp only [Bool.and_eq_true, Bool.and_true] at H
    obtain ⟨h1, h2, h3, h4⟩ := H
    obtain ⟨ra, rfl, ia⟩ := r1 h1
    obtain ⟨rb, rfl, ib⟩ := r2 h2
    obtain ⟨rc, rfl, ic⟩ := r3 h3
    obtain ⟨re, rfl, ie⟩ := r4 h4
    exact spot_fr ia ib ic ie
  · have H : (c1 && (c2 && (c3 && (c4 && true)))) = false := by simpa using H
    refine ⟨false, ?_, ?_⟩
    · refine run_rt (ρ := [some (.val (.tuple [a, b, c, e]))]) rfl ?_
      simp only [G_is_spot, sSeq, sSet, sRet, sIf, sNil, sSetN, sAsg, dVar, dC, dTup, dLst, dBin, dCall, dIte, dAnd, dOr, dNot, dChain, dIx, dSlT, dLen, dTupN, dAll, dInt, dIsi, qVar, qE, qN, seqD, oNone, oSome, intOf, aNil, aCons, tTru, tB2, tAnd2, tOr2, tNot2, truD, boolOf, nComp, compD, capD, cTrue, gSet, gTupD, gsCons, gsNil, iSeq, iRan1, iZip, isiD, xg0, xg1, xw0, xw1, xbs, xms, xmc, xmn, xna, xca, cat_ints, sub_ints, le_ints, ne_ints, eq_ints, lt_ints, gt_ints, rep0, rep1, rep2, cut41, at40, at41, at42, at43, at30, at31, at32, at20, at21, xnt, xnf, xft, if_true, if_false, ite_true, ite_false, len4, bb4, f4, p1, p2, p3, p4, allB4', H]
    · refine run_rt (ρ := [some (.val (.tuple [a, b, c, e]))]) rfl ?_
      clear p1 p2 p3 p4 r1 r2 r3 r4
      cases c1 <;> cases c2 <;> cases c3 <;> cases c4 <;> first
        | (exfalso; exact absurd H (by decide))
        | (simp only [G_l_is_spot, sSeq, sSet, sRet, sIf, sNil, sSetN, sAsg, dVar, dC, dTup, dLst, dBin, dCall, dIte, dAnd, dOr, dNot, dChain, dIx, dSlT, dLen, dTupN, dAll, dInt, dIsi, qVar, qE, qN, seqD, oNone, oSome, intOf, aNil, aCons, tTru, tB2, tAnd2, tOr2, tNot2, truD, boolOf, nComp, compD, capD, cTrue, gSet, gTupD, gsCons, gsNil, iSeq, iRan1, iZip, isiD, xg0, xg1, xw0, xw1, xbs, xms, xmc, xmn, xna, xca, cat_ints, sub_ints, le_ints, ne_ints, eq_ints, lt_ints, gt_ints, rep0, rep1, rep2, cut41, at40, at41, at42, at43, at30, at31, at32, at20, at21, xnt, xnf, xft, if_true, if_false, ite_true, ite_false, len4, bb4, f4, l1, l2, l3, l4]
           rw [ne_cons (n := n) (by simp [ga, gb, gc, ge]) (by simp) hn]
           rfl)
theorem len_ne4 {a b c d e : D} {r : List D} : ((((a :: b :: c :: d :: e :: r).length : Nat) : Int) == 4) = false := by
  rw [beq_eq_false_iff_ne]
  simp only [List.length_cons]; omega
theorem spot_long (a b c d e : D) (r : List D) : F_is_spot [.tuple (a :: b :: c :: d :: e :: r)] = some (.bool false) ∧ F_l_is_spot [.tuple (a :: b :: c :: d :: e :: r)] = some (.bool false) := by
  have h := @len_ne4 a b c d e r
  constructor
  · refine run_rt (ρ := [some (.val (.tuple (a :: b :: c :: d :: e :: r)))]) rfl ?_
    simp only [G_is_spot, sSeq, sSet, sRet, sIf, sNil, sSetN, sAsg, dVar, dC, dTup, dLst, dBin, dCall, dIte, dAnd, dOr, dNot, dChain, dIx, dSlT, dLen, dTupN, dAll, dInt, dIsi, qVar, qE, qN, seqD, oNone, oSome, intOf, aNil, aCons, tTru, tB2, tAnd2, tOr2, tNot2, truD, boolOf, nComp, compD, capD, cTrue, gSet, gTupD, gsCons, gsNil, iSeq, iRan1, iZip, isiD, xg0, xg1, xw0, xw1, xbs, xms, xmc, xmn, xna, xca, cat_ints, sub_ints, le_ints, ne_ints, eq_ints, lt_ints, gt_ints, rep0, rep1, rep2, cut41, at40, at41, at42, at43, at30, at31, at32, at20, at21, xnt, xnf, xft, if_true, if_false, ite_true, ite_false, h]
  · refine run_rt (ρ := [some (.val (.tuple (a :: b :: c :: d :: e :: r)))]) rfl ?_
    simp only [G_l_is_spot, sSeq, sSet, sRet, sIf, sNil, sSetN, sAsg, dVar, dC, dTup, dLst, dBin, dCall, dIte, dAnd, dOr, dNot, dChain, dIx, dSlT, dLen, dTupN, dAll, dInt, dIsi, qVar, qE, qN, seqD, oNone, oSome, intOf, aNil, aCons, tTru, tB2, tAnd2, tOr2, tNot2, truD, boolOf, nComp, compD, capD, cTrue, gSet, gTupD, gsCons, gsNil, iSeq, iRan1, iZip, isiD, xg0, xg1, xw0, xw1, xbs, xms, xmc, xmn, xna, xca, cat_ints, sub_ints, le_ints, ne_ints, eq_ints, lt_ints, gt_ints, rep0, rep1, rep2, cut41, at40, at41, at42, at43, at30, at31, at32, at20, at21, xnt, xnf, xft, if_true, if_false, ite_true, ite_false, h]
theorem spot_any {n : Nat} {d : D} (g : Gd n d) (hn : n ≤ 60) : ∃ t, F_is_spot [d] = some (.bool t) ∧ F_l_is_spot [d] = some (.bool t) := by
  cases d with
  | none => exact ⟨false, rfl, rfl⟩
  | bool b => exact ⟨false, rfl, rfl⟩
  | int i => exact ⟨false, rfl, rfl⟩
  | str x => exact ⟨false, rfl, rfl⟩
  | list xs => exact ⟨false, rfl, rfl⟩
  | dict _ => cases n <;> exact g.elim
  | tuple xs =>
    cases n with
    | zero => exact g.elim
    | succ n =>
      match xs, g with
      | [], _ => exact ⟨false, rfl, rfl⟩
      | [a], _ => exact ⟨false, rfl, rfl⟩
      | [a, b], _ => exact ⟨false, rfl, rfl⟩
      | [a, b, c], _ => exact ⟨false, rfl, rfl⟩
      | a :: b :: c :: d :: e :: r, _ => exact ⟨false, (spot_long a b c d e r).1, (spot_long a b c d e r).2⟩
      | [a, b, c, e], g => exact spot4 (by omega) (g.2 a (by simp)) (g.2 b (by simp)) (g.2 c (by simp)) (g.2 e (by simp))
--main
theorem strOk_of (s : String) : PyData.strOk (Str.ofString s) = true := by
  unfold PyData.strOk
  rw [← Array.all_toList, PyProof.Rows.signs_ofString, List.all_map, List.all_eq_true]
  intro c _
  have := c.valid
  simp only [Function.comp, decide_eq_true_eq]
  show c.val.toNat < 0x110000
  rcases this with h | h
  · have : c.val.toNat < 0xd800 := h
    omega
  · exact h.2
theorem at_mod (l : List D) (n m : Int) (hm : m = (l.length : Nat)) (h0 : 0 < l.length) : ∃ d ∈ l, atI l (n % m) = some d := by
  subst hm
  have a := Int.emod_nonneg n (show ((l.length : Nat) : Int) ≠ 0 by omega)
  have b := Int.emod_lt_of_pos n (show 0 < ((l.length : Nat) : Int) by omega)
  obtain ⟨j, e⟩ := Int.eq_ofNat_of_zero_le a
  rw [e] at b ⊢
  have hj : j < l.length := by omega
  exact ⟨l[j], List.getElem_mem hj, atI_nat (List.getElem?_eq_getElem hj)⟩
def oddL : List D := [.int (-1), .int 0, .int 1, .int 2, .int 10, .bool true, .bool false, .none, .str "", .str "a", .str "over", .str "Ab", .tuple [], .list [], .tuple [.int 0, .int 1], .tuple [.int 1, .int 1], .tuple [.int 1, .int 2], .tuple [.int 2, .int 2], .tuple [.int 2, .int 1],
  .tuple [.str "a"], .list [.int 0, .int 1], .str "abcdefg", .tuple [.int (-1), .int 1], .tuple [.int 1, .int 0], .tuple [.tuple [.int 0, .int 1], .tuple [.int 0, .int 1], .tuple [.int 0, .int 1], .tuple [.int 0, .int 1]], .tuple [.str "tone", .str "zz", .str "grey", .tuple [.int 1, .int 1], .bool true]]
theorem odd_run (n : Int) : G_l_odd [some (.val (.int n)), none] = (atI oddL (n % 26)).map Fl.rt := rfl
theorem gd_str (n : Nat) (s : String) : Gd n (.str (Str.ofString s)) := by cases n <;> exact strOk_of s
theorem gd_bool (n : Nat) (b : Bool) : Gd n (.bool b) := by cases n <;> exact trivial
theorem gd_none (n : Nat) : Gd n .none := by cases n <;> exact trivial
theorem gd_int (n : Nat) (i : Int) (h : i.natAbs < 2 ^ 40) : Gd n (.int i) := by cases n <;> exact h
theorem gd_tup {n : Nat} {xs : List D} (h : xs.length ≤ 64) (g : ∀ x ∈ xs, Gd n x) : Gd (n + 1) (.tuple xs) := ⟨h, g⟩
theorem gd_lst {n : Nat} {xs : List D} (h : xs.length ≤ 64) (g : ∀ x ∈ xs, Gd n x) : Gd (n + 1) (.list xs) := ⟨h, g⟩
theorem gd2 (n : Nat) (i j : Int) (hi : i.natAbs < 2 ^ 40) (hj : j.natAbs < 2 ^ 40) : Gd (n + 1) (.tuple [.int i, .int j]) := gd_tup (by show 2 ≤ 64; decide) (by
  intro x hx
  simp only [List.mem_cons, List.not_mem_nil, or_false] at hx
  rcases hx with rfl | rfl
  · exact gd_int n _ hi
  · exact gd_int n _ hj)
theorem odd_gd (n : Nat) : ∀ d ∈ oddL, Gd (n + 2) d := by
  intro d hd
  simp only [oddL, List.mem_cons, List.not_mem_nil, or_false] at hd
  rcases hd with rfl | rfl | rfl | rfl | rfl | rfl | rfl | rfl | rfl | rfl | rfl | rfl | rfl | rfl | rfl | rfl | rfl | rfl | rfl | rfl | rfl | rfl | rfl | rfl | rfl | rfl
  all_goals first
    | exact gd_int _ _ (by decide)
    | exact gd_bool _ _
    | exact gd_none _
    | exact gd_str _ _
    | exact gd2 _ _ _ (by decide) (by decide)
    | exact gd_tup (by simp) (fun x hx => absurd hx List.not_mem_nil)
    | exact gd_lst (by simp) (fun x hx => absurd hx List.not_mem_nil)
    | (refine gd_tup (by simp) ?_
       intro x hx
       simp only [List.mem_cons, List.not_mem_nil, or_false] at hx
       first
         | (subst hx; exact gd_str _ _)
         | (rcases hx with rfl | rfl | rfl | rfl <;> exact gd2 _ _ _ (by decide) (by decide))
         | (rcases hx with rfl | rfl | rfl | rfl | rfl <;> first | exact gd2 _ _ _ (by decide) (by decide) | exact gd_str _ _ | exact gd_bool _ _))
    | (refine gd_lst (by simp) ?_
       intro x hx
       simp only [List.mem_cons, List.not_mem_nil, or_false] at hx
       first
         | (rcases hx with rfl | rfl <;> exact gd_int _ _ (by decide)))
theorem odd_ok (m : Nat) (n : Int) : ∃ d, F_l_odd [.int n] = some d ∧ Gd (m + 2) d := by
  obtain ⟨d, hd, e⟩ := at_mod oddL n 26 rfl (by decide)
  refine ⟨d, ?_, odd_gd m d hd⟩
  refine run_rt (ρ := [some (.val (.int n)), none]) rfl ?_
  rw [odd_run, e]; rfl
theorem sml (i : Int) (h : i.natAbs < 2 ^ 40) : Small i := small_of (k := 40) h (by decide)
theorem spoilt_int (j m : Nat) (i n k : Int) (hi : i.natAbs < 2 ^ 30) : ∃ d, F_l_spoilt (j + 1) [.int i, .int n, .int k] = some d ∧ Gd (m + 2) d := by
  have d7 : divI (.int n) (.int 7) = some (.int (n / 7)) := div_ints (by decide) (sml 7 (by decide))
  have d14 : divI (.int n) (.int 14) = some (.int (n / 14)) := div_ints (by decide) (sml 14 (by decide))
  have m2 : modI (.int (n / 7)) (.int 2) = some (.int (n / 7 % 2)) := mod_ints (by decide)
  have m6 : modI (.int (n / 14)) (.int 6) = some (.int (n / 14 % 6)) := mod_ints (by decide)
  have lg : i.natAbs.log2 < 1920 := by
    rcases Nat.eq_zero_or_pos i.natAbs with h | h
    · rw [h]; decide
    · have := (Nat.log2_lt (n := i.natAbs) (k := 30) (by omega)).mpr hi
      omega
  obtain ⟨d, hd, e⟩ := at_mod [.str (Str.ofString (toString i)), .int (0 - i), .int (i + 1), .bool (i == 1), .int (i - 1), .int (i + 9)] (n / 14) 6 rfl (by show 0 < 6; decide)
  have gd : Gd (m + 2) d := by
    simp only [List.mem_cons, List.not_mem_nil, or_false] at hd
    rcases hd with rfl | rfl | rfl | rfl | rfl | rfl
    · exact gd_str _ _
    · exact gd_int _ _ (by omega)
    · exact gd_int _ _ (by omega)
    · exact gd_bool _ _
    · exact gd_int _ _ (by omega)
    · exact gd_int _ _ (by omega)
  obtain ⟨o, eo, go⟩ := odd_ok m (n / 7)
  cases h : (n / 7 % 2 == 0) with
  | true =>
    refine ⟨d, ?_, gd⟩
    refine run_rt (ρ := [some (.val (.int i)), some (.val (.int n)), some (.val (.int k)), none, none]) rfl ?_
    by_cases hk : 0 < k
    · simp only [G_l_spoilt, sSeq, sSet, sRet, sIf, sNil, sSetN, sAsg, dVar, dC, dTup, dLst, dBin, dCall, dIte, dAnd, dOr, dNot, dChain, dIx, dSlT, dLen, dTupN, dAll, dInt, dIsi, qVar, qE, qN, seqD, oNone, oSome, intOf, aNil, aCons, tTru, tB2, tAnd2, tOr2, tNot2, truD, boolOf, nComp, compD, capD, cTrue, gSet, gTupD, gsCons, gsNil, iSeq, iRan1, iZip, isiD, xg0, xg1, xw0, xw1, xbs, xms, xmc, xmn, xna, xca, cat_ints, sub_ints, le_ints, ne_ints, eq_ints, lt_ints, gt_ints, rep0, rep1, rep2, cut41, at40, at41, at42, at43, at30, at31, at32, at20, at21, xnt, xnf, xft, if_true, if_false, ite_true, ite_false, hk, decide_true, d7, d14, m2, m6, h, dStr, lg, e]
    · simp only [G_l_spoilt, sSeq, sSet, sRet, sIf, sNil, sSetN, sAsg, dVar, dC, dTup, dLst, dBin, dCall, dIte, dAnd, dOr, dNot, dChain, dIx, dSlT, dLen, dTupN, dAll, dInt, dIsi, qVar, qE, qN, seqD, oNone, oSome, intOf, aNil, aCons, tTru, tB2, tAnd2, tOr2, tNot2, truD, boolOf, nComp, compD, capD, cTrue, gSet, gTupD, gsCons, gsNil, iSeq, iRan1, iZip, isiD, xg0, xg1, xw0, xw1, xbs, xms, xmc, xmn, xna, xca, cat_ints, sub_ints, le_ints, ne_ints, eq_ints, lt_ints, gt_ints, rep0, rep1, rep2, cut41, at40, at41, at42, at43, at30, at31, at32, at20, at21, xnt, xnf, xft, if_true, if_false, ite_true, ite_false, hk, decide_false, d7, d14, m2, m6, h, dStr, lg, e]
  | false =>
    refine ⟨o, ?_, go⟩
    refine run_rt (ρ := [some (.val (.int i)), some (.val (.int n)), some (.val (.int k)), none, none]) rfl ?_
    by_cases hk : 0 < k
    · simp only [G_l_spoilt, sSeq, sSet, sRet, sIf, sNil, sSetN, sAsg, dVar, dC, dTup, dLst, dBin, dCall, dIte, dAnd, dOr, dNot, dChain, dIx, dSlT, dLen, dTupN, dAll, dInt, dIsi, qVar, qE, qN, seqD, oNone, oSome, intOf, aNil, aCons, tTru, tB2, tAnd2, tOr2, tNot2, truD, boolOf, nComp, compD, capD, cTrue, gSet, gTupD, gsCons, gsNil, iSeq, iRan1, iZip, isiD, xg0, xg1, xw0, xw1, xbs, xms, xmc, xmn, xna, xca, cat_ints, sub_ints, le_ints, ne_ints, eq_ints, lt_ints, gt_ints, rep0, rep1, rep2, cut41, at40, at41, at42, at43, at30, at31, at32, at20, at21, xnt, xnf, xft, if_true, if_false, ite_true, ite_false, hk, decide_true, d7, m2, h, eo]
    · simp only [G_l_spoilt, sSeq, sSet, sRet, sIf, sNil, sSetN, sAsg, dVar, dC, dTup, dLst, dBin, dCall, dIte, dAnd, dOr, dNot, dChain, dIx, dSlT, dLen, dTupN, dAll, dInt, dIsi, qVar, qE, qN, seqD, oNone, oSome, intOf, aNil, aCons, tTru, tB2, tAnd2, tOr2, tNot2, truD, boolOf, nComp, compD, capD, cTrue, gSet, gTupD, gsCons, gsNil, iSeq, iRan1, iZip, isiD, xg0, xg1, xw0, xw1, xbs, xms, xmc, xmn, xna, xca, cat_ints, sub_ints, le_ints, ne_ints, eq_ints, lt_ints, gt_ints, rep0, rep1, rep2, cut41, at40, at41, at42, at43, at30, at31, at32, at20, at21, xnt, xnf, xft, if_true, if_false, ite_true, ite_false, hk, decide_false, d7, m2, h, eo]
theorem cut_mem {xs : List D} {l h : Option Int} {x : D} (hx : x ∈ cutD xs l h) : x ∈ xs := List.mem_of_mem_drop (List.mem_of_mem_take hx)
theorem cut_len (xs : List D) (l h : Option Int) : (cutD xs l h).length ≤ xs.length := by
  unfold cutD
  rw [List.length_take, List.length_drop]
  omega
theorem cat_tup {xs ys : List D} (h : xs.length + ys.length ≤ 16777216) : catD (.tuple xs) (.tuple ys) = some (.tuple (xs ++ ys)) := if_pos h
theorem twice (xs : List D) (h0 : xs ≠ []) (hl : xs.length ≤ 16) : mulD (.tuple xs) (.int 2) = some (.tuple (xs ++ xs)) := by
  have e : (List.replicate 2 xs).flatten = xs ++ xs := by simp [List.replicate]
  have : xs.isEmpty = false := by cases xs with
    | nil => exact absurd rfl h0
    | cons _ _ => rfl
  show (if xs.isEmpty = false ∧ (2 : Int) ≤ 2 ∧ (2 : Int) < 1000000 ∧ xs.length * (2 : Int).toNat ≤ 16777216 then some (PyData.tuple (List.replicate (2 : Int).toNat xs).flatten) else none) = _
  rw [if_pos ⟨this, by decide, by decide, by show xs.length * 2 ≤ 16777216; omega⟩]
  exact congrArg (fun z => some (PyData.tuple z)) e
theorem spoilt_tup {j m : Nat} {xs : List D} (h0 : xs ≠ []) (hl : xs.length ≤ 16) (g : ∀ x ∈ xs, Gd (m + 2) x) (R : ∀ x ∈ xs, ∀ n k : Int, ∃ d, F_l_spoilt j [x, .int n, .int k] = some d ∧ Gd (m + 2) d) (n k : Int) :
    ∃ d, F_l_spoilt (j + 1) [.tuple xs, .int n, .int k] = some d ∧ Gd (m + 3) d := by
  have lp : 0 < xs.length := by cases xs with
    | nil => exact absurd rfl h0
    | cons _ _ => simp
  have d7 : divI (.int n) (.int 7) = some (.int (n / 7)) := div_ints (by decide) (sml 7 (by decide))
  have d91 : divI (.int n) (.int 91) = some (.int (n / 91)) := div_ints (by decide) (sml 91 (by decide))
  have d14 : divI (.int n) (.int 14) = some (.int (n / 14)) := div_ints (by decide) (sml 14 (by decide))
  have m2 : modI (.int (n / 7)) (.int 2) = some (.int (n / 7 % 2)) := mod_ints (by decide)
  have m6 : modI (.int (n / 14)) (.int 6) = some (.int (n / 14 % 6)) := mod_ints (by decide)
  have m7 : modI (.int n) (.int 7) = some (.int (n % 7)) := mod_ints (by decide)
  have ml : modI (.int (n / 7)) (.int ((xs.length : Nat) : Int)) = some (.int (n / 7 % ((xs.length : Nat) : Int))) := mod_ints (by omega)
  have lz : decide ((0 : Int) < ((xs.length : Nat) : Int)) = true := decide_eq_true (by omega)
  have c1 := cut_len xs none (some (-1))
  have c2 := cut_len xs (some (-1)) none
  have c3 := cut_len xs (some 1) none
  have k1 : catD (.tuple xs) (.tuple (cutD xs (some (-1)) none)) = _ := cat_tup (by omega)
  have k2 := twice xs h0 hl
  obtain ⟨o, eo, go⟩ := odd_ok (m + 1) (n / 7)
  obtain ⟨d, hd, e⟩ := at_mod [.list xs, .tuple (cutD xs none (some (-1))), .tuple (xs ++ cutD xs (some (-1)) none), .tuple (cutD xs (some 1) none), .tuple xs.reverse, .tuple (xs ++ xs)] (n / 14) 6 rfl (by show 0 < 6; decide)
  have gd : Gd (m + 3) d := by
    simp only [List.mem_cons, List.not_mem_nil, or_false] at hd
    rcases hd with rfl | rfl | rfl | rfl | rfl | rfl
    · exact gd_lst (by omega) g
    · exact gd_tup (by omega) fun x hx => g x (cut_mem hx)
    · exact gd_tup (by rw [List.length_append]; omega) fun x hx => (List.mem_append.mp hx).elim (g x) fun hx => g x (cut_mem hx)
    · exact gd_tup (by omega) fun x hx => g x (cut_mem hx)
    · exact gd_tup (by rw [List.length_reverse]; omega) fun x hx => g x (List.mem_reverse.mp hx)
    · exact gd_tup (by rw [List.length_append]; omega) fun x hx => (List.mem_append.mp hx).elim (g x) (g x)
  obtain ⟨a, ha, ea⟩ := at_mod xs (n / 7) ((xs.length : Nat) : Int) rfl lp
  obtain ⟨b, eb, gb⟩ := R a ha (n / 91) (k - 1)
  generalize hP : n / 7 % ((xs.length : Nat) : Int) = P at *
  have c4 := cut_len xs none (some P)
  have c5 := cut_len xs (some (P + 1)) none
  have k3 : catD (.tuple (cutD xs none (some P))) (.tuple [b]) = _ := cat_tup (by show _ + 1 ≤ _; omega)
  have k4 : catD (.tuple (cutD xs none (some P) ++ [b])) (.tuple (cutD xs (some (P + 1)) none)) = _ := cat_tup (by rw [List.length_append]; show _ + 1 + _ ≤ _; omega)
  have gw : Gd (m + 3) (.tuple (cutD xs none (some P) ++ [b] ++ cutD xs (some (P + 1)) none)) := by
    refine gd_tup (by rw [List.length_append, List.length_append]; show _ + 1 + _ ≤ _; omega) fun x hx => ?_
    rcases List.mem_append.mp hx with hx | hx
    · rcases List.mem_append.mp hx with hx | hx
      · exact g x (cut_mem hx)
      · rw [List.mem_singleton.mp hx]; exact gb
    · exact g x (cut_mem hx)
  by_cases q : 0 < k ∧ 0 < n % 7
  · refine ⟨_, ?_, gw⟩
    refine run_rt (ρ := [some (.val (.tuple xs)), some (.val (.int n)), some (.val (.int k)), none, none]) rfl ?_
    simp only [G_l_spoilt, sSeq, sSet, sRet, sIf, sNil, sSetN, sAsg, dVar, dC, dTup, dLst, dBin, dCall, dIte, dAnd, dOr, dNot, dChain, dIx, dSlT, dLen, dTupN, dAll, dInt, dIsi, qVar, qE, qN, seqD, oNone, oSome, intOf, aNil, aCons, tTru, tB2, tAnd2, tOr2, tNot2, truD, boolOf, nComp, compD, capD, cTrue, gSet, gTupD, gsCons, gsNil, iSeq, iRan1, iZip, isiD, xg0, xg1, xw0, xw1, xbs, xms, xmc, xmn, xna, xca, cat_ints, sub_ints, le_ints, ne_ints, eq_ints, lt_ints, gt_ints, rep0, rep1, rep2, cut41, at40, at41, at42, at43, at30, at31, at32, at20, at21, xnt, xnf, xft, if_true, if_false, ite_true, ite_false, q.1, q.2, decide_true, lz, d7, d91, m7, ml, ea, eb, k3, k4]
  · have nx : tAnd2 (tB2 gtI (dVar 2) (dC (.int 0))) (tAnd2 (tTru (dIsi "tuple" (dVar 0))) (tAnd2 (tB2 gtI (dLen (qVar 0)) (dC (.int 0))) (tB2 gtI (dBin modI (dVar 1) (dC (.int 7))) (dC (.int 0))))) [some (.val (.tuple xs)), some (.val (.int n)), some (.val (.int k)), none, none] = some false := by
      by_cases hk : 0 < k
      · have : ¬ 0 < n % 7 := fun h => q ⟨hk, h⟩
        simp only [sSeq, sSet, sRet, sIf, sNil, sSetN, sAsg, dVar, dC, dTup, dLst, dBin, dCall, dIte, dAnd, dOr, dNot, dChain, dIx, dSlT, dLen, dTupN, dAll, dInt, dIsi, qVar, qE, qN, seqD, oNone, oSome, intOf, aNil, aCons, tTru, tB2, tAnd2, tOr2, tNot2, truD, boolOf, nComp, compD, capD, cTrue, gSet, gTupD, gsCons, gsNil, iSeq, iRan1, iZip, isiD, xg0, xg1, xw0, xw1, xbs, xms, xmc, xmn, xna, xca, cat_ints, sub_ints, le_ints, ne_ints, eq_ints, lt_ints, gt_ints, rep0, rep1, rep2, cut41, at40, at41, at42, at43, at30, at31, at32, at20, at21, xnt, xnf, xft, if_true, if_false, ite_true, ite_false, hk, decide_true, lz, m7, this, decide_false]
      · simp only [sSeq, sSet, sRet, sIf, sNil, sSetN, sAsg, dVar, dC, dTup, dLst, dBin, dCall, dIte, dAnd, dOr, dNot, dChain, dIx, dSlT, dLen, dTupN, dAll, dInt, dIsi, qVar, qE, qN, seqD, oNone, oSome, intOf, aNil, aCons, tTru, tB2, tAnd2, tOr2, tNot2, truD, boolOf, nComp, compD, capD, cTrue, gSet, gTupD, gsCons, gsNil, iSeq, iRan1, iZip, isiD, xg0, xg1, xw0, xw1, xbs, xms, xmc, xmn, xna, xca, cat_ints, sub_ints, le_ints, ne_ints, eq_ints, lt_ints, gt_ints, rep0, rep1, rep2, cut41, at40, at41, at42, at43, at30, at31, at32, at20, at21, xnt, xnf, xft, if_true, if_false, ite_true, ite_false, hk, decide_false]
    cases h : (n / 7 % 2 == 0) with
    | true =>
      refine ⟨d, ?_, gd⟩
      refine run_rt (ρ := [some (.val (.tuple xs)), some (.val (.int n)), some (.val (.int k)), none, none]) rfl ?_
      unfold G_l_spoilt
      rw [sSeq, sIf, nx]
      simp only [sSeq, sSet, sRet, sIf, sNil, sSetN, sAsg, dVar, dC, dTup, dLst, dBin, dCall, dIte, dAnd, dOr, dNot, dChain, dIx, dSlT, dLen, dTupN, dAll, dInt, dIsi, qVar, qE, qN, seqD, oNone, oSome, intOf, aNil, aCons, tTru, tB2, tAnd2, tOr2, tNot2, truD, boolOf, nComp, compD, capD, cTrue, gSet, gTupD, gsCons, gsNil, iSeq, iRan1, iZip, isiD, xg0, xg1, xw0, xw1, xbs, xms, xmc, xmn, xna, xca, cat_ints, sub_ints, le_ints, ne_ints, eq_ints, lt_ints, gt_ints, rep0, rep1, rep2, cut41, at40, at41, at42, at43, at30, at31, at32, at20, at21, xnt, xnf, xft, if_true, if_false, ite_true, ite_false, lz, d7, d14, m2, m6, h, dNeg, dRevT, k1, k2, e]
    | false =>
      refine ⟨o, ?_, go⟩
      refine run_rt (ρ := [some (.val (.tuple xs)), some (.val (.int n)), some (.val (.int k)), none, none]) rfl ?_
      unfold G_l_spoilt
      rw [sSeq, sIf, nx]
      simp only [sSeq, sSet, sRet, sIf, sNil, sSetN, sAsg, dVar, dC, dTup, dLst, dBin, dCall, dIte, dAnd, dOr, dNot, dChain, dIx, dSlT, dLen, dTupN, dAll, dInt, dIsi, qVar, qE, qN, seqD, oNone, oSome, intOf, aNil, aCons, tTru, tB2, tAnd2, tOr2, tNot2, truD, boolOf, nComp, compD, capD, cTrue, gSet, gTupD, gsCons, gsNil, iSeq, iRan1, iZip, isiD, xg0, xg1, xw0, xw1, xbs, xms, xmc, xmn, xna, xca, cat_ints, sub_ints, le_ints, ne_ints, eq_ints, lt_ints, gt_ints, rep0, rep1, rep2, cut41, at40, at41, at42, at43, at30, at31, at32, at20, at21, xnt, xnf, xft, if_true, if_false, ite_true, ite_false, lz, d7, m2, h, eo]
--main
theorem eq_tup4 (a b c d : Rat) : eqD (.tuple [fr a, fr b, fr c, fr d]) (.tuple [fr a, fr b, fr c, fr d]) = some (.bool true) := by
  unfold eqD
  rw [if_pos ⟨rfl, rfl⟩]
  show some (PyData.bool (PyData.eqv (fr a) (fr a) && (PyData.eqv (fr b) (fr b) && (PyData.eqv (fr c) (fr c) && (PyData.eqv (fr d) (fr d) && true))))) = _
  simp only [eqv_fr]; rfl
theorem isB_tt : isB (.bool true) (.bool true) = some (.bool true) := rfl
theorem weighted_ok {c x y z s : Rat} (S : Spot 8 c x y z) (hs : IsSh 8 s) : F_weighted [sp c x y z, fr s] = some (sp (c * s) (x * s) (y * s) (z * s)) := by
  refine run_rt (ρ := [some (.val (sp c x y z)), some (.val (fr s))]) rfl ?_
  have f4 : ∀ a b c d : D, ([a, b, c, d] : List D).length ≤ 16777216 := fun a b c d => by show 4 ≤ 16777216; decide
  simp only [G_weighted, sp, sSeq, sSet, sRet, sIf, sNil, sSetN, sAsg, dVar, dC, dTup, dLst, dBin, dCall, dIte, dAnd, dOr, dNot, dChain, dIx, dSlT, dLen, dTupN, dAll, dInt, dIsi, qVar, qE, qN, seqD, oNone, oSome, intOf, aNil, aCons, tTru, tB2, tAnd2, tOr2, tNot2, truD, boolOf, nComp, compD, capD, cTrue, gSet, gTupD, gsCons, gsNil, iSeq, iRan1, iZip, isiD, xg0, xg1, xw0, xw1, xbs, xms, xmc, xmn, xna, xca, cat_ints, sub_ints, le_ints, ne_ints, eq_ints, lt_ints, gt_ints, rep0, rep1, rep2, cut41, at40, at41, at42, at43, at30, at31, at32, at20, at21, xnt, xnf, xft, if_true, if_false, ite_true, ite_false, f4, F_times_ok S.hc.bd hs.bd (by decide), F_times_ok S.hx hs.bd (by decide), F_times_ok S.hy hs.bd (by decide), F_times_ok S.hz hs.bd (by decide)]
theorem spoilt_fr {j : Nat} {k : Nat} {r : Rat} (h : Bd k r) (hk : k ≤ 30) (n q : Int) : ∃ d, F_l_spoilt (j + 2) [fr r, .int n, .int q] = some d ∧ Gd 3 d := by
  have h := h.mono hk
  have hd : ((r.den : Int)).natAbs < 2 ^ 30 := by rw [Int.natAbs_natCast]; exact h.den
  refine spoilt_tup (j := j + 1) (m := 0) (xs := [.int r.num, .int r.den]) (by simp) (by show 2 ≤ 16; decide) ?_ ?_ n q
  · intro x hx
    simp only [List.mem_cons, List.not_mem_nil, or_false] at hx
    rcases hx with rfl | rfl
    · exact gd_int _ _ (Nat.lt_trans h.num (by decide))
    · exact gd_int _ _ (Nat.lt_trans hd (by decide))
  · intro x hx n q
    simp only [List.mem_cons, List.not_mem_nil, or_false] at hx
    rcases hx with rfl | rfl
    · exact spoilt_int j 0 _ n q h.num
    · exact spoilt_int j 0 _ n q hd
theorem spoilt_sp {j : Nat} {c x y z : Rat} (S : Spot 8 c x y z) (n q : Int) : ∃ d, F_l_spoilt (j + 4) [sp c x y z, .int n, .int q] = some d ∧ Gd 4 d := by
  refine spoilt_tup (j := j + 3) (m := 1) (xs := [fr c, fr x, fr y, fr z]) (by simp) (by show 4 ≤ 16; decide) ?_ ?_ n q
  · intro d hd
    simp only [List.mem_cons, List.not_mem_nil, or_false] at hd
    rcases hd with rfl | rfl | rfl | rfl
    · exact gd_fr S.hc.bd (by decide) 2
    · exact gd_fr S.hx (by decide) 2
    · exact gd_fr S.hy (by decide) 2
    · exact gd_fr S.hz (by decide) 2
  · intro d hd n q
    simp only [List.mem_cons, List.not_mem_nil, or_false] at hd
    rcases hd with rfl | rfl | rfl | rfl
    · exact spoilt_fr (j := j + 1) S.hc.bd (by decide) n q
    · exact spoilt_fr (j := j + 1) S.hx (by decide) n q
    · exact spoilt_fr (j := j + 1) S.hy (by decide) n q
    · exact spoilt_fr (j := j + 1) S.hz (by decide) n q
theorem pow6 : powI (.int 10) (.int 6) = some (.int 1000000) := rfl
end Sh
namespace Lk01
open PySem G L2 Sh
def bodyL : DS := (sFor (iSeq (dLst (aCons (dTup (aCons (dCall F_is_share (aCons (dVar 5) aNil)) (aCons (dCall F_l_is_share (aCons (dVar 5) aNil)) aNil))) (aCons (dTup (aCons (dCall F_is_spot (aCons (dVar 5) aNil)) (aCons (dCall F_l_is_spot (aCons (dVar 5) aNil)) aNil))) aNil)))) (gTupD 2 (gsCons (gSet 6) (gsCons (gSet 7) gsNil))) (sIf (tOr2 (tNot2 (tTru (dIsi "bool" (dVar 6)))) (tB2 neD (dVar 6) (dVar 7))) (sRet (dC (.bool false))) sNil))
def e5 : DE := (dIte (tTru (dIsi "tuple" (dVar 3))) (dSlT (dVar 3) oNone (oSome (dC (.int 1)))) (dVar 3))
def fin : DS := (sSeq (sSet 8 (dCall F_weighted (aCons (dVar 1) (aCons (dVar 2) aNil)))) (sRet (dAnd (dBin eqD (dVar 8) (dTupN (qN (nComp 1 [2] (iSeq (dVar 1)) (gSet 0) cTrue (dCall F_l_times (aCons (dVar 0) (aCons (dVar 1) aNil))))))) (dBin isB (dCall F_is_spot (aCons (dVar 8) aNil)) (dC (.bool true))))))
theorem hG : G_law = (sSeq (sSet 1 (dCall F_l_spot (aCons (dVar 0) (aCons (dC (.int 0)) aNil)))) (sSeq (sSet 2 (dCall F_l_share (aCons (dVar 0) (aCons (dC (.int 12)) aNil)))) (sSeq (sSet 3 (dCall (F_l_spoilt 12) (aCons (dVar 1) (aCons (dCall F_l_drawn (aCons (dVar 0) (aCons (dC (.int 15)) (aCons (dBin powI (dC (.int 10)) (dC (.int 6))) aNil)))) (aCons (dCall F_l_drawn (aCons (dVar 0) (aCons (dC (.int 16)) (aCons (dC (.int 3)) aNil)))) aNil))))) (sSeq (sSet 4 (dCall (F_l_spoilt 12) (aCons (dVar 2) (aCons (dCall F_l_drawn (aCons (dVar 0) (aCons (dC (.int 17)) (aCons (dBin powI (dC (.int 10)) (dC (.int 6))) aNil)))) (aCons (dCall F_l_drawn (aCons (dVar 0) (aCons (dC (.int 18)) (aCons (dC (.int 2)) aNil)))) aNil))))) (sSeq (sFor (iSeq (dLst (aCons (dVar 1) (aCons (dVar 2) (aCons (dVar 3) (aCons (dVar 4) (aCons e5 aNil))))))) (gSet 5) bodyL) fin))))) := rfl
theorem neb (b : Bool) : neD (.bool b) (.bool b) = some (.bool false) := by cases b <;> rfl
theorem body_ok {n : Nat} {d : D} (g : Gd n d) (hn : n ≤ 60) : ∃ t : D, ∀ a0 a1 a2 a3 a4 a6 a7 a8 : Option B, bodyL [a0, a1, a2, a3, a4, some (.val d), a6, a7, a8] = some (.nx [a0, a1, a2, a3, a4, some (.val d), some (.val t), some (.val t), a8]) := by
  obtain ⟨c, p1, l1, _⟩ := share_any g
  obtain ⟨t, p2, l2⟩ := spot_any g hn
  refine ⟨.bool t, fun a0 a1 a2 a3 a4 a6 a7 a8 => ?_⟩
  simp only [bodyL, sFor, forD, sSeq, sSet, sRet, sIf, sNil, sSetN, sAsg, dVar, dC, dTup, dLst, dBin, dCall, dIte, dAnd, dOr, dNot, dChain, dIx, dSlT, dLen, dTupN, dAll, dInt, dIsi, qVar, qE, qN, seqD, oNone, oSome, intOf, aNil, aCons, tTru, tB2, tAnd2, tOr2, tNot2, truD, boolOf, nComp, compD, capD, cTrue, gSet, gTupD, gsCons, gsNil, iSeq, iRan1, iZip, isiD, xg0, xg1, xw0, xw1, xbs, xms, xmc, xmn, xna, xca, cat_ints, sub_ints, le_ints, ne_ints, eq_ints, lt_ints, gt_ints, rep0, rep1, rep2, cut41, at40, at41, at42, at43, at30, at31, at32, at20, at21, xnt, xnf, xft, if_true, if_false, ite_true, ite_false, ln2, p1, l1, p2, l2, neb]
theorem e5_ok {n : Nat} {d : D} (g : Gd n d) : ∃ d', Gd n d' ∧ ∀ a0 a1 a2 a4 a5 a6 a7 a8 : Option B, e5 [a0, a1, a2, some (.val d), a4, a5, a6, a7, a8] = some d' := by
  cases d with
  | none => exact ⟨_, g, fun _ _ _ _ _ _ _ _ => rfl⟩
  | bool b => exact ⟨_, g, fun _ _ _ _ _ _ _ _ => rfl⟩
  | int i => exact ⟨_, g, fun _ _ _ _ _ _ _ _ => rfl⟩
  | str x => exact ⟨_, g, fun _ _ _ _ _ _ _ _ => rfl⟩
  | list xs => exact ⟨_, g, fun _ _ _ _ _ _ _ _ => rfl⟩
  | dict _ => cases n <;> exact g.elim
  | tuple xs =>
    cases n with
    | zero => exact g.elim
    | succ n =>
      refine ⟨.tuple (cutD xs none (some 1)), gd_tup (Nat.le_trans (cut_len xs none (some 1)) g.1) fun x hx => g.2 x (cut_mem hx), fun _ _ _ _ _ _ _ _ => ?_⟩
      simp only [e5, sSeq, sSet, sRet, sIf, sNil, sSetN, sAsg, dVar, dC, dTup, dLst, dBin, dCall, dIte, dAnd, dOr, dNot, dChain, dIx, dSlT, dLen, dTupN, dAll, dInt, dIsi, qVar, qE, qN, seqD, oNone, oSome, intOf, aNil, aCons, tTru, tB2, tAnd2, tOr2, tNot2, truD, boolOf, nComp, compD, capD, cTrue, gSet, gTupD, gsCons, gsNil, iSeq, iRan1, iZip, isiD, xg0, xg1, xw0, xw1, xbs, xms, xmc, xmn, xna, xca, cat_ints, sub_ints, le_ints, ne_ints, eq_ints, lt_ints, gt_ints, rep0, rep1, rep2, cut41, at40, at41, at42, at43, at30, at31, at32, at20, at21, xnt, xnf, xft, if_true, if_false, ite_true, ite_false]
theorem fin_ok {c x y z s : Rat} (S : Spot 8 c x y z) (hs : IsSh 8 s) (a0 a3 a4 a5 a6 a7 a8 : Option B) : fin [a0, some (.val (sp c x y z)), some (.val (fr s)), a3, a4, a5, a6, a7, a8] = some (.rt (.bool true)) := by
  have f4 : ∀ a b c d : D, ([a, b, c, d] : List D).length ≤ 16777216 := fun a b c d => by show 4 ≤ 16777216; decide
  have w := weighted_ok S hs
  have mono : ∀ {u : Rat}, u ≤ c → u * s ≤ c * s := fun h => Rat.mul_le_mul_of_nonneg_right h hs.bd.nn
  have T : Spot 16 (c * s) (x * s) (y * s) (z * s) := ⟨⟨S.hc.bd.mul hs.bd, Rat.le_trans (mul_le_self S.hc.bd.nn hs.le) S.hc.le⟩, S.hx.mul hs.bd, S.hy.mul hs.bd, S.hz.mul hs.bd, mono S.xc, mono S.yc, mono S.zc⟩
  have p := P_spot_ok T (by decide)
  simp only [sp] at w p
  simp only [fin, sp, sSeq, sSet, sRet, sIf, sNil, sSetN, sAsg, dVar, dC, dTup, dLst, dBin, dCall, dIte, dAnd, dOr, dNot, dChain, dIx, dSlT, dLen, dTupN, dAll, dInt, dIsi, qVar, qE, qN, seqD, oNone, oSome, intOf, aNil, aCons, tTru, tB2, tAnd2, tOr2, tNot2, truD, boolOf, nComp, compD, capD, cTrue, gSet, gTupD, gsCons, gsNil, iSeq, iRan1, iZip, isiD, xg0, xg1, xw0, xw1, xbs, xms, xmc, xmn, xna, xca, cat_ints, sub_ints, le_ints, ne_ints, eq_ints, lt_ints, gt_ints, rep0, rep1, rep2, cut41, at40, at41, at42, at43, at30, at31, at32, at20, at21, xnt, xnf, xft, if_true, if_false, ite_true, ite_false, f4, w, p, L_times_ok S.hc.bd hs.bd (by decide), L_times_ok S.hx hs.bd (by decide), L_times_ok S.hy hs.bd (by decide), L_times_ok S.hz hs.bd (by decide), eq_tup4, isB_tt]
theorem main : ∀ ns : List Int, ns.length ≤ 63 → F_law [.list (ns.map PyData.int)] = some (.bool true) := by
  intro ns hn
  obtain ⟨c, x, y, z, e1, S⟩ := F_spot ns 0 hn (by decide)
  have k0 : ((0 : Nat) : Int) = 0 := rfl
  rw [k0] at e1
  obtain ⟨s, e2, hs4⟩ := F_share ns 12 hn (by decide)
  have k12 : ((12 : Nat) : Int) = 12 := rfl
  rw [k12] at e2
  have hs := hs4.mono (by decide : 4 ≤ 8)
  have e15 : F_l_drawn [.list (ns.map PyData.int), .int 15, .int 1000000] = _ := F_drawn ns 15 1000000 hn (by decide) (by decide)
  have e16 : F_l_drawn [.list (ns.map PyData.int), .int 16, .int 3] = _ := F_drawn ns 16 3 hn (by decide) (by decide)
  have e17 : F_l_drawn [.list (ns.map PyData.int), .int 17, .int 1000000] = _ := F_drawn ns 17 1000000 hn (by decide) (by decide)
  have e18 : F_l_drawn [.list (ns.map PyData.int), .int 18, .int 2] = _ := F_drawn ns 18 2 hn (by decide) (by decide)
  obtain ⟨d3, s3, g3⟩ := spoilt_sp (j := 8) S (drawZ ns 15 1000000) (drawZ ns 16 3)
  obtain ⟨d4, s4, g4⟩ := spoilt_fr (j := 10) hs.bd (by decide) (drawZ ns 17 1000000) (drawZ ns 18 2)
  obtain ⟨d5, g5, v5⟩ := e5_ok g3
  have gs : Gd 4 (sp c x y z) := gd_tup (by show 4 ≤ 64; decide) (by
    intro d hd
    simp only [List.mem_cons, List.not_mem_nil, or_false] at hd
    rcases hd with rfl | rfl | rfl | rfl
    · exact gd_fr S.hc.bd (by decide) 2
    · exact gd_fr S.hx (by decide) 2
    · exact gd_fr S.hy (by decide) 2
    · exact gd_fr S.hz (by decide) 2)
  obtain ⟨t1, b1⟩ := body_ok gs (by decide)
  obtain ⟨t2, b2⟩ := body_ok (gd_fr hs.bd (by decide) 2) (by decide)
  obtain ⟨t3, b3⟩ := body_ok g3 (by decide)
  obtain ⟨t4, b4⟩ := body_ok g4 (by decide)
  obtain ⟨t5, b5⟩ := body_ok g5 (by decide)
  have f := fun a0 a3 a4 a5 a6 a7 a8 => fin_ok S hs a0 a3 a4 a5 a6 a7 a8
  refine run_rt (ρ := [some (.val (.list (ns.map PyData.int))), none, none, none, none, none, none, none, none]) rfl ?_
  rw [hG]
  simp only [sFor, forD, sSeq, sSet, sRet, sIf, sNil, sSetN, sAsg, dVar, dC, dTup, dLst, dBin, dCall, dIte, dAnd, dOr, dNot, dChain, dIx, dSlT, dLen, dTupN, dAll, dInt, dIsi, qVar, qE, qN, seqD, oNone, oSome, intOf, aNil, aCons, tTru, tB2, tAnd2, tOr2, tNot2, truD, boolOf, nComp, compD, capD, cTrue, gSet, gTupD, gsCons, gsNil, iSeq, iRan1, iZip, isiD, xg0, xg1, xw0, xw1, xbs, xms, xmc, xmn, xna, xca, cat_ints, sub_ints, le_ints, ne_ints, eq_ints, lt_ints, gt_ints, rep0, rep1, rep2, cut41, at40, at41, at42, at43, at30, at31, at32, at20, at21, xnt, xnf, xft, if_true, if_false, ite_true, ite_false, pow6, e1, e2, e15, e16, e17, e18, s3, s4, v5, b1, b2, b3, b4, b5, f]
end Lk01
open PySem PySem.W PyProof.Rows
set_option maxRecDepth 100000 in
set_option maxHeartbeats 0 in
theorem PySem.Challenge.cw_glazework_k01_spots_known_holds : PySem.Challenge.rw_glazework_k01_spots_known.Holds := by
  w_on; o_law; k_head; (case hw => w_witness2)
  k_fill
  refine Lk01.walk (l := PySem.Challenge.rw_glazework_k01_spots_known) rfl rfl (fun w h Y => PySem.W.kIn_of Y) ?F Lk01.main
  case F =>
    intro w mg fa h KX G hmg
    refine' Lk01.all_mk KX G hmg ?a0 ?l0 ?c0 ?k0 ?a1 ?l1 ?c1 ?k1 ?a2 ?l2 ?c2 ?k2 ?a3 ?l3 ?c3 ?k3 ?a4 ?l4 ?c4 ?k4 ?a5 ?l5 ?c5 ?k5 ?a6 ?l6 ?c6 ?k6 ?a7 ?l7 ?c7 ?k7 ?a8 ?l8 ?c8 ?k8 ?a9 ?l9 ?c9 ?k9 ?a10 ?l10 ?c10 ?k10 ?a11 ?l11 ?c11 ?k11 ?a12 ?l12 ?c12 ?k12 ?a13 ?l13 ?c13 ?k13 ?a14 ?l14 ?c14 ?k14 ?a15 ?l15 ?c15 ?k15 ?a16 ?l16 ?c16 ?k16 ?a17 ?l17 ?c17 ?k17 ?a18 ?l18 ?c18 ?k18 ?a19 ?l19 ?c19 ?k19 ?z0 ?z1 ?z2 ?z3 ?z4 ?z5 ?z6 ?z7 ?z8
    (case a0 => k_is); (case l0 => k_is); (case c0 => k_is); (case k0 => k_is); (case a1 => k_is); (case l1 => k_is); (case c1 => k_is); (case k1 => k_is); (case a2 => k_is); (case l2 => k_is); (case c2 => k_is); (case k2 => k_is); (case a3 => k_is); (case l3 => k_is); (case c3 => k_is); (case k3 => k_is); (case a4 => k_is); (case l4 => k_is); (case c4 => k_is); (case k4 => k_is); (case a5 => k_is); (case l5 => k_is); (case c5 => k_is); (case k5 => k_is); (case a6 => k_is); (case l6 => k_is); (case c6 => k_is); (case k6 => k_is); (case a7 => k_is); (case l7 => k_is); (case c7 => k_is); (case k7 => k_is); (case a8 => k_is); (case l8 => k_is); (case c8 => k_is); (case k8 => k_is); (case a9 => k_is); (case l9 => k_is); (case c9 => k_is); (case k9 => k_is); (case a10 => k_is); (case l10 => k_is); (case c10 => k_is); (case k10 => k_is); (case a11 => k_is); (case l11 => k_is); (case c11 => k_is); (case k11 => k_is); (case a12 => k_is); (case l12 => k_is); (case c12 => k_is); (case k12 => k_is); (case a13 => k_is); (case l13 => k_is); (case c13 => k_is); (case k13 => k_is); (case a14 => k_is); (case l14 => k_is); (case c14 => k_is); (case k14 => k_is); (case a15 => k_is); (case l15 => k_is); (case c15 => k_is); (case k15 => k_is); (case a16 => k_is); (case l16 => k_is); (case c16 => k_is); (case k16 => k_is); (case a17 => k_is); (case l17 => k_is); (case c17 => k_is); (case k17 => k_is); (case a18 => k_is); (case l18 => k_is); (case c18 => k_is); (case k18 => k_is); (case a19 => k_is); (case l19 => k_is); (case c19 => k_is); (case k19 => k_is); (case z0 => k_is); (case z1 => k_is); (case z2 => k_is); (case z3 => k_is); (case z4 => k_is); (case z5 => k_is); (case z6 => k_is); (case z7 => k_is); (case z8 => k_is)
