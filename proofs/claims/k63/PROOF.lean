import PyProof.Rows.All
import Wide.All
import OpenK.AllK
import Wide.FinOn
import Lean
import PyProof.EqAt
import PyProof.EqKinds
import PyProof.TupleCall
import KE.KTryMore
import KE.KRevSl
import KE.KRevIter
import KE.RegKIsAll
import KE.RegKTryMore
import PySem.Challenge.RW_paygaps_k63_houses_counted
set_option Elab.async false
set_option linter.all false
set_option maxRecDepth 100000
/-! THE HAND LAYER, for ints, bools, texts, own classes, LISTS and tuples (index, slices, in, append, pop ..), calls, loops. Paste it whole ahead of your own text; what your proof does not reach may be deleted. -/
namespace L2
open PySem PySem.Spec PyProof.Rows

/-- a key: an int or a str -/
noncomputable abbrev Key := Sum Int Str
noncomputable def keyIs : Key → Value → Bool
  | .inl k, v => Value.isInt k v
  | .inr x, v => Value.isStrOf x v
noncomputable def keyH (w : World) : Key → Int
  | .inl k => hashInt k
  | .inr x => hashStr w x
theorem keyIs_shape : ∀ {k : Key} {v : Value}, keyIs k v = true → (∃ i t, k = Sum.inl i ∧ v = Value.int i t) ∨ (∃ x t, k = Sum.inr x ∧ v = Value.str x t)
  | .inl i, v, h => by
    obtain ⟨t, e⟩ := Value.isInt_shape (k := i) (v := v) h
    exact .inl ⟨i, t, rfl, e⟩
  | .inr x, v, h => by
    obtain ⟨t, e⟩ := Value.isStrOf_shape (x := x) (v := v) h
    exact .inr ⟨x, t, rfl, e⟩
theorem keyIs_int (i : Int) (t : Tok) : keyIs (.inl i) (.int i t) = true := by simp [keyIs, Value.isInt]
theorem keyIs_str (x : Str) (t : Tok) : keyIs (.inr x) (.str x t) = true := by simp [keyIs, Value.isStrOf]
theorem key_ll (a b : Int) : decide ((Sum.inl a : Key) = Sum.inl b) = (a == b) := by
  by_cases e : a = b
  · subst e; simp
  · have h : ¬ (Sum.inl a : Key) = Sum.inl b := fun q => e (Sum.inl.inj q)
    rw [decide_eq_false h]
    exact (beq_eq_false_iff_ne.mpr e).symm
theorem key_rr (a b : Str) : decide ((Sum.inr a : Key) = Sum.inr b) = decide (a = b) := by
  by_cases e : a = b
  · subst e; simp
  · have h : ¬ (Sum.inr a : Key) = Sum.inr b := fun q => e (Sum.inr.inj q)
    rw [decide_eq_false h, decide_eq_false e]
theorem key_lr (a : Int) (b : Str) : decide ((Sum.inl a : Key) = Sum.inr b) = false := decide_eq_false (fun q => nomatch q)
theorem key_rl (a : Str) (b : Int) : decide ((Sum.inr a : Key) = Sum.inl b) = false := decide_eq_false (fun q => nomatch q)

noncomputable def mixKind (prog : Program) (w : World) : PySem.KeyKind prog w Key where
  is := keyIs
  hash := keyH w
  inj := fun v a b ha hb => by
    rcases keyIs_shape ha with ⟨i, t, rfl, rfl⟩ | ⟨x, t, rfl, rfl⟩
    · rcases keyIs_shape hb with ⟨j, u, rfl, e⟩ | ⟨y, u, rfl, e⟩
      · injection e with e1 _; rw [e1]
      · exact nomatch e
    · rcases keyIs_shape hb with ⟨j, u, rfl, e⟩ | ⟨y, u, rfl, e⟩
      · exact nomatch e
      · injection e with e1 _; rw [e1]
  byValue := fun k v h => by
    rcases keyIs_shape h with ⟨i, t, rfl, rfl⟩ | ⟨x, t, rfl, rfl⟩ <;> rfl
  pyHash := fun hv h => by
    rcases keyIs_shape hv with ⟨i, t, rfl, rfl⟩ | ⟨x, t, rfl, rfl⟩
    · exact wpAny_pyHash_int h
    · exact wpAny_pyHash_str h
  eqBool := fun hu hv h => by
    rcases keyIs_shape hu with ⟨i, t, rfl, rfl⟩ | ⟨x, t, rfl, rfl⟩
    · rcases keyIs_shape hv with ⟨j, u, rfl, rfl⟩ | ⟨y, u, rfl, rfl⟩
      · rw [key_ll] at h; exact wpAny_eqBool_int h
      · rw [key_lr] at h; exact SeqAt.EqAt.int_str i t y u _ _ _ _ h
    · rcases keyIs_shape hv with ⟨j, u, rfl, rfl⟩ | ⟨y, u, rfl, rfl⟩
      · rw [key_rl] at h; exact SeqAt.EqAt.str_int x t j u _ _ _ _ h
      · rw [key_rr] at h; exact wpAny_eqBool_str h
  «strs» := fun k x t v h => by
    rcases keyIs_shape h with ⟨i, u, rfl, e⟩ | ⟨y, u, rfl, e⟩
    · exact nomatch e
    · injection e with e1 _
      subst e1
      cases v <;> rfl

theorem mixKind_int (prog : Program) (w : World) (i : Int) (t : Tok) : (mixKind prog w).is (.inl i) (.int i t) = true := keyIs_int i t
theorem mixKind_str (prog : Program) (w : World) (x : Str) (t : Tok) : (mixKind prog w).is (.inr x) (.str x t) = true := keyIs_str x t
end L2

namespace L2
open PySem PySem.Spec PyProof.Rows

/-- a value, without the heap -/
inductive V where
  | non | bl (b : Bool) | int (i : Int) | str (x : Str) | byt (b : Array UInt8) | flt (b : UInt64) | ref (a : Addr) | ty (n : String)
  deriving DecidableEq

noncomputable def RelV : V → Value → Prop
  | .non, u => u = Value.none
  | .bl b, u => u = Value.bool b
  | .int i, u => ∃ t, u = Value.int i t
  | .str x, u => ∃ t, u = Value.str x t
  | .byt b, u => ∃ t, u = Value.bytes b t
  | .flt b, u => ∃ t, u = Value.float b t
  | .ref a, u => u = Value.ref a
  | .ty n, u => u = Value.type n

noncomputable abbrev Vals : List V → List Value → Prop := Paired RelV
theorem Vals.length {xs : List V} {us : List Value} (r : Vals xs us) : xs.length = us.length := Paired.length r
theorem Vals.get : ∀ {xs : List V} {us : List Value} {i : Nat} {x : V}, Vals xs us → xs[i]? = some x → ∃ u, us[i]? = some u ∧ RelV x u
  | _, _, _, _, .nil, e => by simp at e
  | _, _, 0, _, .cons r _, e => by simp at e; subst e; exact ⟨_, rfl, r⟩
  | _, _, i + 1, x, .cons _ t, e => by
    obtain ⟨u, h1, h2⟩ := Vals.get (i := i) (x := x) t (by simpa using e)
    exact ⟨u, by simpa using h1, h2⟩
theorem Vals.append : ∀ {xs ys : List V} {us ws : List Value}, Vals xs us → Vals ys ws → Vals (xs ++ ys) (us ++ ws)
  | _, _, _, _, .nil, s => s
  | _, _, _, _, .cons r t, s => .cons r (Vals.append t s)
theorem Vals.take : ∀ {xs : List V} {us : List Value} (n : Nat), Vals xs us → Vals (xs.take n) (us.take n)
  | _, _, 0, _ => .nil
  | _, _, _ + 1, .nil => .nil
  | _, _, n + 1, .cons r t => .cons r (Vals.take n t)
theorem Vals.drop : ∀ {xs : List V} {us : List Value} (n : Nat), Vals xs us → Vals (xs.drop n) (us.drop n)
  | _, _, 0, r => r
  | _, _, _ + 1, .nil => .nil
  | _, _, n + 1, .cons _ t => Vals.drop n t

noncomputable def RelO : Option V → Option Value → Prop
  | some v, some u => RelV v u
  | none, none => True
  | _, _ => False
noncomputable def KV {κ : Type} : List (κ × V) → List (κ × Value) → Prop := Paired fun (p : κ × V) (q : κ × Value) => p.1 = q.1 ∧ RelV p.2 q.2

/-- a key of a dict (00_mix): an int or a text -/
noncomputable def kV : Key → V
  | .inl i => .int i
  | .inr x => .str x

/-- what stands at a tracked address -/
inductive HO where
  /-- a list -/
  | lst (xs : List V)
  /-- a tuple (never changes) -/
  | tup (xs : List V)
  /-- a dict whose keys are ints and texts; one whose keys are tuples of ints and texts (the empty one is both) -/
  | dK (kvs : List (Key × V)) | dT (kvs : List (List Key × V))
  /-- a set of ints: its members, its size -/
  | set (S : Int → Bool) (n : Nat)
  /-- an instance of the class at C, its dict at dx, its attributes -/
  | ins (C dx : Addr) (fs : List (Str × V))
  /-- the dict of the instance at x -/
  | own (x : Addr)
  /-- the dict of an exception -/
  | xd (fs : List (Str × V))
  /-- a bound method, f of x -/
  | met (f x : Addr)
  /-- a range object lo, lo + 1, .. below hi -/
  | rng (lo hi : Int)
  /-- a thing that is known to the object (the script; a dict while a loop walks it): read, never written while it is so -/
  | frz (o : Obj) (u : HO)
  /-- a code object's table -/
  | tbl (ps : Array Value)
  /-- any other thing, by what is true of its one object (a def of one's own: SetO a S n := HO.ext fun h => ..) -/
  | ext (φ : Heap → Prop)

noncomputable abbrev Hp := Addr → Option HO
noncomputable def upd (H : Hp) (a : Addr) (o : HO) : Hp := fun b => if b = a then some o else H b
theorem upd_same {H : Hp} {a : Addr} {o : HO} : upd H a o a = some o := by unfold upd; rw [if_pos rfl]
theorem upd_ne {H : Hp} {a b : Addr} {o : HO} (h : b ≠ a) : upd H a o b = H b := by unfold upd; rw [if_neg h]
theorem ne_of_none {H : Hp} {a b : Addr} {o : HO} (h : H a = some o) (h' : H b = none) : a ≠ b := by
  intro e; subst e; rw [h] at h'; cases h'

section
variable (P : Program) (w : World)
noncomputable def ObjOk (H : Hp) (h : Heap) (a : Addr) : HO → Prop
  | .lst xs => xs.length ≤ sizeLine ∧ ∃ (its : List Value) (n : Nat), Vals xs its ∧ h.get? a = some { cls := .type "list", data := .seq its.toArray n }
  | .tup xs => xs.length ≤ sizeLine ∧ ∃ its : List Value, Vals xs its ∧ IsTup h a its.toArray
  | .dK kvs => kvs.length ≤ sizeLine ∧ (a == sysModules) = false ∧ ∃ vs, KV kvs vs ∧ h.DictOf (mixKind P w) a vs
  | .dT kvs => kvs.length ≤ sizeLine ∧ (a == sysModules) = false ∧ ∃ xs : List (List Key × Addr × Value),
      Paired (fun (p : List Key × V) (q : List Key × Addr × Value) => p.1 = q.1 ∧ H q.2.1 = some (.tup (p.1.map kV)) ∧ RelV p.2 q.2.2) kvs xs ∧
      ∃ o es ep, h.get? a = some o ∧ o.ExactDict ∧ o.data = .dict es ep ∧ es.toList = xs.map (entryOfKey (tupleKind (mixKind P w))) ∧ (xs.map (·.1)).Nodup
  | .set S n => h.SetOf (intKind P w) a S n
  | .ins C dx fs => H dx = some (.own a) ∧ fs.length ≤ 1000 ∧ dx ≠ a ∧ h.get? a = some (PySem.W.instObj C dx) ∧
      ∃ mA, h.Ns1 dx mA ∧ (∀ f, RelO (fs.lookup f) (mA f)) ∧ PySem.Within mA (fs.map (·.1))
  | .own _ => ∃ o, h.get? a = some o
  | .xd fs => ∃ mA, h.Ns1 a mA ∧ ∀ f, RelO (fs.lookup f) (mA f)
  | .rng lo hi => ∃ t u v, h.get? a = some { cls := .type "range", data := .fields #[.int lo t, .int hi u, .int 1 v] }
  | .frz o u => h.get? a = some o ∧ ObjOk H h a u
  | .tbl ps => h.get? a = some { cls := .none, data := .fields ps }
  | .met f x => h.get? a = some (PySem.W.methodObj (.ref f) (.ref x))
  | .ext φ => φ h ∧ (∃ o, h.get? a = some o) ∧ ∀ h1 h2 : Heap, φ h1 → (∀ o, h1.get? a = some o → h2.get? a = some o) → φ h2
/-- the abstract heap is held -/
noncomputable def HOk (H : Hp) (h : Heap) : Prop := ∀ a o, H a = some o → ObjOk P w H h a o
end

section
variable {P : Program} {w : World} {H H' : Hp} {h h' : Heap} {a : Addr} {o : HO}
theorem ObjOk.lt (x : ObjOk P w H h a o) : a < h.objs.size := by
  cases o with
  | lst xs => obtain ⟨_, _, _, _, e⟩ := x; exact Heap.lt_size e
  | tup xs => obtain ⟨_, _, _, p⟩ := x; exact p.lt
  | dK kvs => obtain ⟨_, _, _, _, o, _, _, e, _⟩ := x; exact Heap.lt_size e
  | dT kvs => obtain ⟨_, _, _, _, o, _, _, e, _⟩ := x; exact Heap.lt_size e
  | set S n => obtain ⟨o, _, _, _, e, _⟩ := x; exact Heap.lt_size e
  | ins C dx fs => obtain ⟨_, _, _, e, _⟩ := x; exact Heap.lt_size e
  | own y => obtain ⟨_, e⟩ := x; exact Heap.lt_size e
  | xd fs => obtain ⟨_, ⟨_, _, _, e, _⟩, _⟩ := x; exact Heap.lt_size e
  | rng lo hi => obtain ⟨_, _, _, e⟩ := x; exact Heap.lt_size e
  | frz ob u => obtain ⟨e, _⟩ := x; exact Heap.lt_size e
  | tbl ps => exact Heap.lt_size (show h.get? a = some _ from x)
  | met f y => exact Heap.lt_size (show h.get? a = some _ from x)
  | ext φ => obtain ⟨_, ⟨_, e⟩, _⟩ := x; exact Heap.lt_size e
theorem Paired.mapP {α β : Type} {F G : α → β → Prop} : ∀ {l₁ : List α} {l₂ : List β}, Paired F l₁ l₂ → (∀ a b, F a b → G a b) → Paired G l₁ l₂
  | _, _, .nil, _ => .nil
  | _, _, .cons r t, f => .cons (f _ _ r) (Paired.mapP t f)
/-- what an object's description leans on: its own object, its own dict, the tuples -/
theorem ObjOk.stay (x : ObjOk P w H h a o) (k : ∀ b u, (b = a ∨ H b = some (.own a)) → h.get? b = some u → h'.get? b = some u)
    (ho : ∀ b, H b = some (.own a) → H' b = some (.own a)) (ht : ∀ b xs, H b = some (.tup xs) → H' b = some (.tup xs)) : ObjOk P w H' h' a o := by
  induction o with
  | lst xs => obtain ⟨z, its, n, r, e⟩ := x; exact ⟨z, its, n, r, k _ _ (.inl rfl) e⟩
  | tup xs => obtain ⟨z, its, r, ob, e, c⟩ := x; exact ⟨z, its, r, ob, k _ _ (.inl rfl) e, c⟩
  | dK kvs => obtain ⟨z, y, vs, r, ob, es, ep, e, c⟩ := x; exact ⟨z, y, vs, r, ob, es, ep, k _ _ (.inl rfl) e, c⟩
  | dT kvs =>
    obtain ⟨z, y, xs, r, ob, es, ep, e, c⟩ := x
    exact ⟨z, y, xs, Paired.mapP r fun p q z => ⟨z.1, ht _ _ z.2.1, z.2.2⟩, ob, es, ep, k _ _ (.inl rfl) e, c⟩
  | set S n => obtain ⟨ob, es, ep, t, e, c⟩ := x; exact ⟨ob, es, ep, t, k _ _ (.inl rfl) e, c⟩
  | ins C dx fs =>
    obtain ⟨d, z, ne, e, mA, ⟨od, es, ep, e2, c⟩, r⟩ := x
    exact ⟨ho _ d, z, ne, k _ _ (.inl rfl) e, mA, ⟨od, es, ep, k _ _ (.inr d) e2, c⟩, r⟩
  | own y => obtain ⟨ob, e⟩ := x; exact ⟨ob, k _ _ (.inl rfl) e⟩
  | xd fs => obtain ⟨mA, ⟨od, es, ep, e, c⟩, r⟩ := x; exact ⟨mA, ⟨od, es, ep, k _ _ (.inl rfl) e, c⟩, r⟩
  | rng lo hi => obtain ⟨t, u, v, e⟩ := x; exact ⟨t, u, v, k _ _ (.inl rfl) e⟩
  | frz ob u ih => obtain ⟨e, q⟩ := x; exact ⟨k _ _ (.inl rfl) e, ih q⟩
  | tbl ps =>
    have e : h.get? a = some { cls := .none, data := .fields ps } := x
    show h'.get? a = some { cls := .none, data := .fields ps }
    exact k a _ (.inl rfl) e
  | met f y =>
    have e : h.get? a = some (PySem.W.methodObj (.ref f) (.ref y)) := x
    show h'.get? a = some (PySem.W.methodObj (.ref f) (.ref y))
    exact k a _ (.inl rfl) e
  | ext φ => obtain ⟨p, ⟨o, e⟩, st⟩ := x; exact ⟨st _ _ p fun o q => k _ _ (.inl rfl) q, ⟨o, k _ _ (.inl rfl) e⟩, st⟩
theorem HOk.lt (x : HOk P w H h) (e : H a = some o) : a < h.objs.size := (x a o e).lt
theorem HOk.fresh (x : HOk P w H h) (e : h.objs.size ≤ a) : H a = none := by
  cases q : H a with
  | none => rfl
  | some u => exact absurd (Nat.lt_of_lt_of_le (x.lt q) e) (Nat.lt_irrefl _)
/-- every object of the heap is kept -/
theorem HOk.kept (x : HOk P w H h) (k : ∀ b u, h.get? b = some u → h'.get? b = some u) : HOk P w H h' := fun a o e =>
  (x a o e).stay (fun b u _ q => k b u q) (fun _ q => q) fun _ _ q => q
/-- a new object is laid and tracked -/
theorem HOk.laid (x : HOk P w H h) (k : ∀ b u, h.get? b = some u → h'.get? b = some u) (hp : h.objs.size ≤ a) (new : ObjOk P w (upd H a o) h' a o) : HOk P w (upd H a o) h' := fun b u e => by
  have hn := x.fresh hp
  by_cases hb : b = a
  · subst hb; rw [upd_same] at e; cases e; exact new
  · rw [upd_ne hb] at e
    exact (x b u e).stay (fun c v _ q => k c v q) (fun c q => by rw [upd_ne (ne_of_none q hn)]; exact q) fun c xs q => by rw [upd_ne (ne_of_none q hn)]; exact q
end

/-- what may be read as u: it is u, or a known u -/
noncomputable def Rd (H : Hp) (a : Addr) (u : HO) : Prop := H a = some u ∨ ∃ o, H a = some (.frz o u)
theorem Rd.ok {P : Program} {w : World} {H : Hp} {h : Heap} {a : Addr} {u : HO} (r : Rd H a u) (x : HOk P w H h) : ObjOk P w H h a u := by
  rcases r with r | ⟨o, r⟩
  · exact x a u r
  · obtain ⟨_, q⟩ := x a _ r
    exact q
/-- what may be written -/
noncomputable def Mut : Option HO → Prop
  | some (.lst _) => True
  | some (.dK _) => True
  | some (.dT _) => True
  | some (.set _ _) => True
  | some (.ins _ _ _) => True
  | some (.ext _) => True
  | _ => False
section
variable {P : Program} {w : World} {H : Hp} {h h' : Heap} {x e : Addr} {o' : HO}
/-- the object at e is changed: x itself, or the dict of the instance x -/
theorem HOk.write (ok : HOk P w H h) (mu : Mut (H x)) (he : e = x ∨ H e = some (.own x)) (k : ∀ b u, b ≠ e → h.get? b = some u → h'.get? b = some u) (heo : ∃ u, h'.get? e = some u)
    (new : ObjOk P w (upd H x o') h' x o') : HOk P w (upd H x o') h' := fun b u q => by
  have nown : ∀ c y, H c = some (.own y) → c ≠ x := fun c y r z => by subst z; rw [r] at mu; exact mu
  have ntup : ∀ c xs, H c = some (.tup xs) → c ≠ x := fun c xs r z => by subst z; rw [r] at mu; exact mu
  by_cases hb : b = x
  · subst hb; rw [upd_same] at q; cases q; exact new
  · rw [upd_ne hb] at q
    by_cases hbe : b = e
    · have q' : H b = some (.own x) := by
        rcases he with z | z
        · exact absurd (hbe.trans z) hb
        · rw [hbe]; exact z
      rw [q] at q'; cases q'
      obtain ⟨v, hv⟩ := heo
      exact ⟨v, by rw [hbe]; exact hv⟩
    · refine (ok b u q).stay (fun c v hc r => k c v ?_ r) (fun c r => by rw [upd_ne (nown c b r)]; exact r) fun c xs r => by rw [upd_ne (ntup c xs r)]; exact r
      rcases hc with rfl | hc
      · exact hbe
      · rintro rfl
        rcases he with z | z
        · exact nown c b hc z
        · rw [hc] at z; cases z; exact hb rfl
end

/-! ### kept unless tracked; of the frames at fs (the callers') the slots may change (an exception that passes writes there); of the records at ex (iterators) nothing is said -/
structure Un (fs ex : List Addr) (H H' : Hp) (h h' : Heap) : Prop where
  keep : ∀ b o, h.get? b = some o → H b = none → b ∉ fs → b ∉ ex → h'.get? b = some o
  slot : ∀ b o, h.get? b = some o → H b = none → b ∈ fs → b ∉ ex → ∃ sl, h'.get? b = some { o with slots := sl }
  free : ∀ b o, h.get? b = some o → H b = none → b ∉ ex → H' b = none
  there : ∀ b o, h.get? b = some o → b ∉ ex → ∃ o', h'.get? b = some o'
  tups : ∀ b xs, H b = some (.tup xs) → H' b = some (.tup xs)
  frzs : ∀ b o u, H b = some (.frz o u) → H' b = some (.frz o u)
  tbls : ∀ b ps, H b = some (.tbl ps) → ∃ more, H' b = some (.tbl (ps ++ more))
section
variable {fs fs' ex ex' : List Addr} {H H1 H2 : Hp} {h h1 h2 h' : Heap} {a x e : Addr} {o : HO}
theorem Un.any (u : Un fs ex H H1 h h1) {b : Addr} {ob : Obj} (q : h.get? b = some ob) (n : H b = none) (hx : b ∉ ex) : ∃ sl, h1.get? b = some { ob with slots := sl } := by
  by_cases hb : b ∈ fs
  · exact u.slot b ob q n hb hx
  · exact ⟨ob.slots, u.keep b ob q n hb hx⟩
theorem Un.kept (k : ∀ b u, h.get? b = some u → h'.get? b = some u) : Un fs ex H H h h' :=
  ⟨fun b ob q _ _ _ => k b ob q, fun b ob q _ _ _ => ⟨ob.slots, k b ob q⟩, fun _ _ _ n _ => n, fun b ob q _ => ⟨ob, k b ob q⟩, fun _ _ q => q, fun _ _ _ q => q, fun _ ps q => ⟨#[], by rw [q]; simp⟩⟩
theorem Un.refl : Un fs ex H H h h := Un.kept fun _ _ q => q
theorem Un.laid (k : ∀ b u, h.get? b = some u → h'.get? b = some u) (hp : h.objs.size ≤ a) (hn : H a = none) : Un fs ex H (upd H a o) h h' where
  keep := fun b u q _ _ _ => k b u q
  slot := fun b u q _ _ _ => ⟨u.slots, k b u q⟩
  free := fun b u q n _ => by rw [upd_ne (Nat.ne_of_lt (Nat.lt_of_lt_of_le (Heap.lt_size q) hp))]; exact n
  there := fun b u q _ => ⟨u, k b u q⟩
  tups := fun b xs q => by rw [upd_ne (ne_of_none q hn)]; exact q
  frzs := fun b u xs q => by rw [upd_ne (ne_of_none q hn)]; exact q
  tbls := fun b ps q => ⟨#[], by rw [upd_ne (ne_of_none q hn), q]; simp⟩
theorem Un.write (mu : Mut (H x)) (he : e = x ∨ H e = some (.own x)) (k : ∀ b u, b ≠ e → h.get? b = some u → h'.get? b = some u) (heo : ∃ u, h'.get? e = some u) : Un fs ex H (upd H x o) h h' := by
  have hx : ∀ b, H b = none → b ≠ x := fun b n z => by subst z; rw [n] at mu; exact mu
  have hb : ∀ b, H b = none → b ≠ e := fun b n z => by
    subst z
    rcases he with r | r
    · exact hx b n r
    · rw [n] at r; cases r
  have hm : ∀ b u, H b = some u → ¬ Mut (some u) → b ≠ x := fun b u q nm z => by subst z; rw [q] at mu; exact nm mu
  refine ⟨fun b u q n _ _ => k b u (hb b n) q, fun b u q n _ _ => ⟨u.slots, k b u (hb b n) q⟩, fun b u q n _ => by rw [upd_ne (hx b n)]; exact n, fun b u q _ => ?_,
    fun b xs q => by rw [upd_ne (hm b _ q fun z => z)]; exact q, fun b u xs q => by rw [upd_ne (hm b _ q fun z => z)]; exact q, fun b ps q => ⟨#[], by rw [upd_ne (hm b _ q fun z => z), q]; simp⟩⟩
  by_cases hbe : b = e
  · subst hbe; exact heo
  · exact ⟨u, k b u hbe q⟩
end

/-! ### the heap without what is tracked -/
noncomputable def trk (h : Heap) (H : Hp) : List Addr := (List.range h.objs.size).filter fun a => (H a).isSome
noncomputable def hidT (h : Heap) (H : Hp) : Heap := PySem.W.hideAll h (trk h H)
theorem hidT_size (h : Heap) (H : Hp) : (hidT h H).objs.size = h.objs.size := PySem.W.hideAll_size _ _
theorem hidT_get {h : Heap} {H : Hp} {b : Addr} {o : Obj} (e : h.get? b = some o) (n : H b = none) : (hidT h H).get? b = some o :=
  PySem.W.hideAll_get _ e fun hm => by
    have q : (H b).isSome = true := (List.mem_filter.mp hm).2
    rw [n] at q; simp at q
theorem of_hidT {h : Heap} {H : Hp} {b : Addr} {o : Obj} (e : (hidT h H).get? b = some o) : h.get? b = some o ∧ H b = none := by
  have e' : h.get? b = some o := PySem.W.of_hideAll (trk h H) e
  refine ⟨e', ?_⟩
  cases q : H b with
  | none => rfl
  | some x =>
    have hm : b ∈ trk h H := List.mem_filter.mpr ⟨List.mem_range.mpr (Heap.lt_size e'), by simp [q]⟩
    have z : (hidT h H).get? b = none := PySem.W.hideAll_none (trk h H) hm
    rw [z] at e; cases e

/-! ### OpenK's ledger, filled with every new object but one -/
noncomputable def allNews (g h : Heap) (L : Addr) : List (Addr × Obj) := (List.range h.objs.size).filterMap fun a => if a = L ∨ (g.get? a).isSome = true then none else (h.get? a).map fun o => (a, o)
noncomputable def rest (g h : Heap) (L d : Addr) : List (Addr × Obj) := (allNews g h L).filter fun p => decide (p.1 ≠ d)
end L2

namespace L2
open PySem PySem.Spec PyProof.Rows

/-- the module's facts, over the base: the heap at the law's entry without what is tracked there -/
structure Mod (K : PySem.W.Frag) (mg : Str → Option Value) (base : Heap) : Prop where
  kin : K.In base
  glob : base.Ns mainGlobals mg
  blt : ∃ mb, base.Ns builtinsNs mb ∧ ∀ x : Str, x ≠ "__name__" → mb x = bootBuiltins x
  nolimit : base.NoLimit

/-- the context: a def's body (or a comprehension's block) running. base: fixed through the whole law; s₀, H₀: the entry; outer: the frames whose slots others may change (a def's callers); stack: all frames that run;
   ex: iterators that were made ahead of the entry and are walked here (a comprehension's); fn: the names whose cells were made at the entry (a def: all; a comprehension's block: its own); calm: not within an except suite; pn: pins that every state bears; xe: what is wanted of an exception that leaves the code -/
structure Cx where
  prog : Program
  w : World
  K : PySem.W.Frag
  mg : Str → Option Value
  base : Heap
  A : Around
  N : List Str
  s₀ : Shared
  H₀ : Hp
  env : Env
  outer : List Env
  stack : List Env
  ex : List Addr
  fn : Str → Bool
  calm : Bool
  pn : List (Addr × Obj)
  xe : Value → Shared → Prop
/-- the callers' frames -/
noncomputable def frs (l : List Env) : List Addr := l.filterMap (·.frame)
noncomputable abbrev Cx.fs (X : Cx) : List Addr := frs X.outer

noncomputable def Vis (sc : Scope) (x : Str) : Prop := sc.names.lookup x = some .local ∨ sc.names.lookup x = some .cell ∨ sc.names.lookup x = some .free
noncomputable def Loc (sc : Scope) (x : Str) : Prop := sc.names.lookup x = some .local ∨ sc.names.lookup x = some .cell
noncomputable def Look (env : Env) (h : Heap) (m : Str → Option Value) (x : Str) (u : Value) : Prop :=
  (env.kindOf x = some .local ∧ m x = some u) ∨ ((env.kindOf x = some .cell ∨ env.kindOf x = some .free) ∧ ∃ c, env.cells.lookup x = some c ∧ h.IsCell c (some u))

structure Cx.Ok (X : Cx) : Prop where
  mod : Mod X.K X.mg X.base
  kind : X.env.scope.kind = .function
  glob : X.env.globals = mainGlobals
  blt : X.env.builtins = builtinsNs
  above : X.s₀.heap.objs.size ≤ X.env.locals
  inj : ∀ x y c, X.env.cells.lookup x = some c → X.env.cells.lookup y = some c → x = y
  has : ∀ x, (X.env.kindOf x = some .cell ∨ X.env.kindOf x = some .free) → ∃ c, X.env.cells.lookup x = some c
  cab : ∀ x c, X.fn x = true → X.env.cells.lookup x = some c → X.s₀.heap.objs.size ≤ c
  hd : X.calm = true → X.A.handled = none
  frames : X.A.frames = some X.stack
  stk : X.stack = X.outer ∨ (X.stack = X.env :: X.outer ∧ X.env.frame = some X.env.locals)
  exf : ∀ b ∈ X.ex, b ≠ X.env.locals ∧ ∀ x c, X.env.cells.lookup x = some c → c ≠ b
  bs : ∀ b o, X.base.get? b = some o → X.s₀.heap.get? b = some o ∧ X.H₀ b = none
  bsz : X.base.objs.size ≤ X.s₀.heap.objs.size
  noex : ∀ b o, X.base.get? b = some o → b ∉ X.ex
  exfs : ∀ b ∈ X.ex, b ∉ X.fs
  funs : X.s₀.heap.FunFrames X.base X.outer
  frf : ∀ b ∈ X.fs, X.H₀ b = none

structure Inv (X : Cx) (pins : List (Addr × Obj)) (σ : List (Option V)) (H : Hp) (s : Shared) : Prop where
  ok : X.Ok
  os : s.os = X.s₀.os
  bare : AllBare s.gens
  base : Un X.fs X.ex X.H₀ H X.s₀.heap s.heap
  loc : ∃ m, s.heap.Ns X.env.locals m ∧ ∀ (i : Nat) (x : Str) (v : V), X.N[i]? = some x → σ[i]? = some (some v) → Vis X.env.scope x → ∃ u, RelV v u ∧ Look X.env s.heap m x u
  cell : ∀ x c, X.env.cells.lookup x = some c → ∃ v, s.heap.IsCell c v
  free : H X.env.locals = none
  freeC : ∀ x c, X.env.cells.lookup x = some c → H c = none
  pin : ∀ p ∈ X.pn ++ pins, s.heap.get? p.1 = some p.2 ∧ H p.1 = none ∧ p.1 ≠ X.env.locals ∧ p.1 ∉ X.fs ∧ ∀ v, p.2.data ≠ .cell v
  hok : HOk X.prog X.w H s.heap
  len : σ.length = X.N.length

section
variable {X : Cx} {pins : List (Addr × Obj)} {σ : List (Option V)} {H H' : Hp} {s : Shared} {h' : Heap}

theorem Cx.Ok.nofr (ok : X.Ok) {b : Addr} {o : Obj} (e : X.base.get? b = some o) : b ∉ X.fs := fun hb => by
  have := (ok.funs.mem hb).1
  rw [e] at this; cases this
theorem Inv.bs (I : Inv X pins σ H s) : ∀ b o, X.base.get? b = some o → s.heap.get? b = some o ∧ H b = none := fun b o e =>
  ⟨I.base.keep b o (I.ok.bs b o e).1 (I.ok.bs b o e).2 (I.ok.nofr e) (I.ok.noex b o e), I.base.free b o (I.ok.bs b o e).1 (I.ok.bs b o e).2 (I.ok.noex b o e)⟩
theorem Inv.bk (I : Inv X pins σ H s) : ∀ b o, X.base.get? b = some o → s.heap.get? b = some o := fun b o e => (I.bs b o e).1
theorem Inv.mod (I : Inv X pins σ H s) : Mod X.K X.mg X.base := I.ok.mod
theorem Inv.kIn (I : Inv X pins σ H s) : X.K.In s.heap := I.ok.mod.kin.keeps I.bk
theorem Inv.lt (I : Inv X pins σ H s) : X.env.locals < s.heap.objs.size := let ⟨_, hn, _⟩ := I.loc; hn.lt
theorem Inv.sz (I : Inv X pins σ H s) : X.s₀.heap.objs.size ≤ s.heap.objs.size := Nat.le_trans I.ok.above (Nat.le_of_lt I.lt)
theorem Inv.nofs (I : Inv X pins σ H s) {a : Addr} (h : s.heap.objs.size ≤ a) : a ∉ X.fs := fun hb => by
  obtain ⟨_, o, ho, _⟩ := I.ok.funs.mem hb
  exact absurd (Nat.lt_of_lt_of_le (Heap.lt_size ho) (Nat.le_trans I.sz h)) (Nat.lt_irrefl _)
theorem Inv.cne (I : Inv X pins σ H s) : ∀ x c, X.env.cells.lookup x = some c → c ≠ X.env.locals := fun x c e z => by
  obtain ⟨v, o, ho, hd⟩ := I.cell x c e
  obtain ⟨m, ⟨o', es, ep, ho', hd', _⟩, _⟩ := I.loc
  rw [z, ho'] at ho; cases ho; rw [hd'] at hd; cases hd
theorem Inv.funs (I : Inv X pins σ H s) : s.heap.FunFrames X.base X.outer := by
  have all : ∀ (l : List Env), (∀ b ∈ frs l, b ∈ X.fs) → X.s₀.heap.FunFrames X.base l → s.heap.FunFrames X.base l := by
    intro l
    induction l with
    | nil => intro _ _; trivial
    | cons env r ih =>
      intro hs hl
      obtain ⟨hk, ⟨L, o, hf, hn, ho, hd⟩, hr⟩ := hl
      have hL : L ∈ X.fs := hs L (by unfold frs; rw [List.filterMap_cons, hf]; exact List.mem_cons_self)
      obtain ⟨sl, e⟩ := I.base.slot L o ho (I.ok.frf L hL) hL fun z => I.ok.exfs L z hL
      exact ⟨hk, ⟨L, _, hf, hn, e, hd⟩, ih (fun b hb => hs b (by unfold frs; rw [List.filterMap_cons, hf]; exact List.mem_cons_of_mem _ hb)) hr⟩
  exact all X.outer (fun _ hb => hb) I.ok.funs

/-- the frames that run, for a call -/
theorem Inv.stack (I : Inv X pins σ H s) : s.heap.FunFrames X.base X.stack := by
  rcases I.ok.stk with e | ⟨e, hf⟩
  · rw [e]; exact I.funs
  · rw [e]
    obtain ⟨m, hn, _⟩ := I.loc
    refine .cons (by rw [I.ok.kind]; decide) hf hn ?_ I.funs
    exact Heap.get?_none_of_le (Nat.le_trans I.ok.bsz I.ok.above)
theorem Inv.stkSub (I : Inv X pins σ H s) : ∀ b ∈ frs X.stack, b ∈ X.env.locals :: X.fs := fun b hb => by
  rcases I.ok.stk with e | ⟨e, hf⟩
  · rw [e] at hb; exact List.mem_cons_of_mem _ hb
  · rw [e] at hb
    unfold frs at hb
    rw [List.filterMap_cons, hf] at hb
    exact hb
theorem Inv.stkFree (I : Inv X pins σ H s) : ∀ b ∈ frs X.stack, H b = none := fun b hb => by
  rcases List.mem_cons.mp (I.stkSub b hb) with e | hb
  · rw [e]; exact I.free
  · obtain ⟨_, o, ho, _⟩ := I.ok.funs.mem hb
    exact I.base.free b o ho (I.ok.frf b hb) fun z => I.ok.exfs b z hb

/-- THE STEP: the untracked objects but the frame and the records at ch are kept (the callers' frames up to slots), the frame's map is kept, the new abstract heap is held -/
theorem Inv.step {g' : Array GenState} {t' : Nat} {d' : Drawn} {ch : List Addr} (I : Inv X pins σ H s)
    (hch : ∀ b ∈ ch, (b ∈ X.ex ∨ X.s₀.heap.objs.size ≤ b) ∧ b ≠ X.env.locals ∧ (∀ x c, X.env.cells.lookup x = some c → c ≠ b) ∧ ∀ p ∈ X.pn ++ pins, p.1 ≠ b)
    (keep : ∀ b o, b ≠ X.env.locals → b ∉ X.fs → b ∉ ch → s.heap.get? b = some o → H b = none → h'.get? b = some o)
    (slot : ∀ b o, b ≠ X.env.locals → b ∈ X.fs → b ∉ ch → s.heap.get? b = some o → H b = none → ∃ sl, h'.get? b = some { o with slots := sl }) (free : ∀ b o, b ∉ ch → s.heap.get? b = some o → H b = none → H' b = none)
    (there : ∀ b o, b ∉ ch → s.heap.get? b = some o → ∃ o', h'.get? b = some o')
    (tups : ∀ b xs, H b = some (.tup xs) → H' b = some (.tup xs)) (frzs : ∀ b o u, H b = some (.frz o u) → H' b = some (.frz o u)) (tbls : ∀ b ps, H b = some (.tbl ps) → ∃ more, H' b = some (.tbl (ps ++ more)))
    (ns : ∀ m, s.heap.Ns X.env.locals m → h'.Ns X.env.locals m) (hok : HOk X.prog X.w H' h') (hg : AllBare g') :
    Inv X pins σ H' { s with heap := h', gens := g', drawn := d', toks := t' } := by
  have neL : ∀ b o, X.s₀.heap.get? b = some o → b ≠ X.env.locals := fun b o e => Nat.ne_of_lt (Nat.lt_of_lt_of_le (Heap.lt_size e) I.ok.above)
  have neC : ∀ b o, X.s₀.heap.get? b = some o → b ∉ X.ex → b ∉ ch := fun b o e hx hb => by
    rcases (hch b hb).1 with z | z
    · exact hx z
    · exact absurd (Nat.lt_of_lt_of_le (Heap.lt_size e) z) (Nat.lt_irrefl _)
  have cellK : ∀ x c, X.env.cells.lookup x = some c → ∀ v, s.heap.IsCell c v → h'.IsCell c v := fun x c e v ⟨o, ho, hd⟩ => by
    have nch : c ∉ ch := fun z => (hch c z).2.2.1 x c e rfl
    by_cases hc : c ∈ X.fs
    · obtain ⟨sl, q⟩ := slot c o (I.cne x c e) hc nch ho (I.freeC x c e)
      exact ⟨_, q, hd⟩
    · exact ⟨o, keep c o (I.cne x c e) hc nch ho (I.freeC x c e), hd⟩
  refine ⟨I.ok, I.os, hg, ⟨fun b o e n hb hx => ?_, fun b o e n hb hx => ?_, fun b o e n hx => ?_, fun b o e hx => ?_, fun b xs e => tups b xs (I.base.tups b xs e), fun b o xs e => frzs b o xs (I.base.frzs b o xs e), fun b ps e => ?_⟩, ?_, fun x c e => ?_, ?_, fun x c e => ?_, fun p hp => ?_, hok, I.len⟩
  · exact keep b o (neL b o e) hb (neC b o e hx) (I.base.keep b o e n hb hx) (I.base.free b o e n hx)
  · obtain ⟨sl, e1⟩ := I.base.slot b o e n hb hx
    obtain ⟨sl', e2⟩ := slot b _ (neL b o e) hb (neC b o e hx) e1 (I.base.free b o e n hx)
    exact ⟨sl', e2⟩
  · obtain ⟨o', e1⟩ := I.base.there b o e hx
    exact free b o' (neC b o e hx) e1 (I.base.free b o e n hx)
  · obtain ⟨o', e1⟩ := I.base.there b o e hx
    exact there b o' (neC b o e hx) e1
  · obtain ⟨m1, e1⟩ := I.base.tbls b ps e
    obtain ⟨m2, e2⟩ := tbls b _ e1
    exact ⟨m1 ++ m2, by rw [e2, Array.append_assoc]⟩
  · obtain ⟨m, hn, hl⟩ := I.loc
    refine ⟨m, ns m hn, fun i x v e1 e2 e3 => ?_⟩
    obtain ⟨u, r, l⟩ := hl i x v e1 e2 e3
    refine ⟨u, r, ?_⟩
    rcases l with l | ⟨k, c, e, z⟩
    · exact .inl l
    · exact .inr ⟨k, c, e, cellK x c e _ z⟩
  · obtain ⟨v, z⟩ := I.cell x c e
    exact ⟨v, cellK x c e v z⟩
  · obtain ⟨m, ⟨o, _, _, ho, _⟩, _⟩ := I.loc
    exact free _ o (fun z => (hch _ z).2.1 rfl) ho I.free
  · obtain ⟨v, o, ho, hd⟩ := I.cell x c e
    exact free c o (fun z => (hch c z).2.2.1 x c e rfl) ho (I.freeC x c e)
  · obtain ⟨e, n, ne, nf, d⟩ := I.pin p hp
    have nch : p.1 ∉ ch := fun z => (hch p.1 z).2.2.2 p hp rfl
    exact ⟨keep p.1 p.2 ne nf nch e n, free p.1 p.2 nch e n, ne, nf, d⟩
/-- .. where the frame's own object is kept too -/
theorem Inv.un {t' : Nat} (I : Inv X pins σ H s) (u : Un X.fs [] H H' s.heap h') (hok : HOk X.prog X.w H' h') : Inv X pins σ H' { s with heap := h', toks := t' } := by
  obtain ⟨m, ⟨o, es, ep, ho, r⟩, _⟩ := id I.loc
  obtain ⟨sl, hL⟩ := u.any ho I.free (by simp)
  exact I.step (g' := s.gens) (d' := s.drawn) (ch := []) (fun _ z => nomatch z) (fun b o _ hb _ e n => u.keep b o e n hb (by simp)) (fun b o _ hb _ e n => u.slot b o e n hb (by simp)) (fun b o _ e n => u.free b o e n (by simp)) (fun b o _ e => u.there b o e (by simp)) u.tups u.frzs u.tbls (fun m' hm => by
    obtain ⟨o', es', ep', ho', r'⟩ := hm
    rw [ho] at ho'; cases ho'
    exact ⟨_, es', ep', hL, r'⟩) hok I.bare
/-- behind a call (or a comprehension's block): the slots of this frame may have changed too, the records at ch may have turned -/
theorem Inv.call {g' : Array GenState} {t' : Nat} {d' : Drawn} {ch : List Addr} (I : Inv X pins σ H s) (u : Un (frs X.stack) ch H H' s.heap h') (hok : HOk X.prog X.w H' h') (hg : AllBare g')
    (hch : ∀ b ∈ ch, (b ∈ X.ex ∨ X.s₀.heap.objs.size ≤ b) ∧ b ≠ X.env.locals ∧ (∀ x c, X.env.cells.lookup x = some c → c ≠ b) ∧ ∀ p ∈ X.pn ++ pins, p.1 ≠ b) :
    Inv X pins σ H' { s with heap := h', gens := g', drawn := d', toks := t' } := by
  obtain ⟨m, ⟨o, es, ep, ho, r⟩, _⟩ := id I.loc
  obtain ⟨sl, hL⟩ := u.any ho I.free fun z => (hch _ z).2.1 rfl
  exact I.step (ch := ch) hch (fun b o hL hb hc e n => u.keep b o e n (fun z => (List.mem_cons.mp (I.stkSub b z)).elim hL hb) hc) (fun b o _ _ hc e n => u.any e n hc) (fun b o hc e n => u.free b o e n hc) (fun b o hc e => u.there b o e hc) u.tups u.frzs u.tbls (fun m' hm => by
    obtain ⟨o', es', ep', ho', r'⟩ := hm
    rw [ho] at ho'; cases ho'
    exact ⟨_, es', ep', hL, r'⟩) hok hg
/-- an untracked record of ours (an iterator) has turned -/
theorem Inv.turned {t' : Nat} {it : Addr} (I : Inv X pins σ H s) (k : ∀ b o, b ≠ it → s.heap.get? b = some o → h'.get? b = some o) (hn : H it = none) (hL : it ≠ X.env.locals)
    (h1 : it ∈ X.ex ∨ X.s₀.heap.objs.size ≤ it) (h2 : ∀ x c, X.env.cells.lookup x = some c → c ≠ it) (h3 : ∀ p ∈ X.pn ++ pins, p.1 ≠ it) : Inv X pins σ H { s with heap := h', toks := t' } := by
  have nit : ∀ b u, H b = some u → b ≠ it := fun b u e z => by rw [z, hn] at e; cases e
  refine I.step (g' := s.gens) (d' := s.drawn) (ch := [it]) (fun b hb => ?_) (fun b o _ _ hc e _ => k b o (fun z => hc (by simp [z])) e) (fun b o _ _ hc e _ => ⟨o.slots, k b o (fun z => hc (by simp [z])) e⟩) (fun _ _ _ _ n => n)
    (fun b o hc e => ⟨o, k b o (fun z => hc (by simp [z])) e⟩) (fun _ _ e => e) (fun _ _ _ e => e) (fun b ps e => ⟨#[], by rw [e]; simp⟩) (fun m hm => ?_) (fun b u e => ?_) I.bare
  · have e : b = it := by simpa using hb
    subst e
    exact ⟨h1, hL, h2, h3⟩
  · obtain ⟨o, es, ep, ho, r⟩ := hm
    exact ⟨o, es, ep, k _ o (Ne.symm hL) ho, r⟩
  · refine (I.hok b u e).stay (fun c v hc q => k c v ?_ q) (fun _ q => q) fun _ _ q => q
    rcases hc with z | z
    · rw [z]; exact nit b u e
    · exact nit c _ z
theorem Inv.tok (I : Inv X pins σ H s) (t : Nat) : Inv X pins σ H { s with toks := t } := I.un (h' := s.heap) (t' := t) Un.refl I.hok
/-- all objects kept -/
theorem Inv.kept {t' : Nat} (I : Inv X pins σ H s) (k : ∀ b u, s.heap.get? b = some u → h'.get? b = some u) : Inv X pins σ H { s with heap := h', toks := t' } := I.un (Un.kept k) (I.hok.kept k)
/-- a new object laid and tracked -/
theorem Inv.laid {a : Addr} {o : HO} {t' : Nat} (I : Inv X pins σ H s) (k : ∀ b u, s.heap.get? b = some u → h'.get? b = some u) (hp : s.heap.objs.size ≤ a) (new : ObjOk X.prog X.w (upd H a o) h' a o) :
    Inv X pins σ (upd H a o) { s with heap := h', toks := t' } := I.un (Un.laid k hp (I.hok.fresh hp)) (I.hok.laid k hp new)
/-- an object written -/
theorem Inv.write {x e : Addr} {o : HO} {t' : Nat} (I : Inv X pins σ H s) (mu : Mut (H x)) (he : e = x ∨ H e = some (.own x)) (k : ∀ b u, b ≠ e → s.heap.get? b = some u → h'.get? b = some u) (heo : ∃ u, h'.get? e = some u)
    (new : ObjOk X.prog X.w (upd H x o) h' x o) : Inv X pins σ (upd H x o) { s with heap := h', toks := t' } := I.un (Un.write mu he k heo) (I.hok.write mu he k heo new)
/-- forgetting slots, pins -/
theorem Inv.weak {σ' : List (Option V)} (I : Inv X pins σ H s) (hl : σ'.length = σ.length) (w : ∀ (i : Nat) v, σ'[i]? = some (some v) → σ[i]? = some (some v)) : Inv X pins σ' H s :=
  ⟨I.ok, I.os, I.bare, I.base, let ⟨m, hn, hl'⟩ := I.loc; ⟨m, hn, fun i x v e1 e2 e3 => hl' i x v e1 (w i v e2) e3⟩, I.cell, I.free, I.freeC, I.pin, I.hok, hl.trans I.len⟩
theorem Inv.pins_of {pins' : List (Addr × Obj)} (I : Inv X pins σ H s) (h : ∀ p ∈ pins', s.heap.get? p.1 = some p.2 ∧ H p.1 = none ∧ p.1 ≠ X.env.locals ∧ p.1 ∉ X.fs ∧ ∀ v, p.2.data ≠ .cell v) : Inv X pins' σ H s :=
  ⟨I.ok, I.os, I.bare, I.base, I.loc, I.cell, I.free, I.freeC, fun p hp => (List.mem_append.mp hp).elim (fun z => I.pin p (List.mem_append_left _ z)) (h p), I.hok, I.len⟩

theorem nodup_ix {N : List Str} (hN : N.Nodup) {i j : Nat} {x : Str} (a : N[i]? = some x) (b : N[j]? = some x) : i = j := by
  obtain ⟨h1, e1⟩ := List.getElem?_eq_some_iff.mp a
  obtain ⟨h2, e2⟩ := List.getElem?_eq_some_iff.mp b
  exact (List.getElem_inj hN).mp (e1.trans e2.symm)

/-- a name is stored; what changed -/
theorem store_ok2 {M : Model} {A : Around} {E : Value → Shared → Prop} {i : Nat} {x : Str} {v : V} {u : Value} {Q : Unit → Shared → Prop} (I : Inv X pins σ H s) (hN : X.N.Nodup) (hi : X.N[i]? = some x) (hx : Loc X.env.scope x) (r : RelV v u)
    (h : ∀ s', Inv X pins (σ.set i (some v)) H s' → (∃ a, Heap.SameBut a s.heap s'.heap ∧ (a = X.env.locals ∨ X.env.cells.lookup x = some a)) → Q () s') (hf : X.fn x = true ∨ X.env.scope.names.lookup x = some .local := by first | exact .inl rfl | exact .inr rfl | assumption) : wpAny M A (storeName X.env x u) Q E s := by
  obtain ⟨m, hn, hl⟩ := id I.loc
  have hcls : (X.env.scope.kind == .class || (X.env.scope.kind == .module && X.env.locals != X.env.globals)) = false := by rw [I.ok.kind]; rfl
  have hiσ : i < σ.length := by rw [I.len]; exact (List.getElem?_eq_some_iff.mp hi).1
  have cne := I.cne
  have tracked : ∀ {a : Addr} {h' : Heap}, (∃ o, s.heap.get? a = some o ∧ H a = none) → Heap.SameBut a s.heap h' → HOk X.prog X.w H h' := fun {a h'} ha hs b ob e => by
    obtain ⟨_, _, hfree⟩ := ha
    refine (I.hok b ob e).stay (fun c w' hc q => (hs.2 c ?_).trans q) (fun _ q => q) fun _ _ q => q
    rintro rfl
    rcases hc with rfl | hc
    · rw [hfree] at e; cases e
    · rw [hfree] at hc; cases hc
  rcases hx with hk | hk
  · refine wpAny_storeName_local hk hn (fun h' hn' hs => ?_) hcls
    obtain ⟨oL, _, _, hoL, _⟩ := id hn
    refine h _ ⟨I.ok, I.os, I.bare, ⟨fun b o e n hb hx => ?_, fun b o e n hb hx => ?_, I.base.free, fun b o e hx => ?_, I.base.tups, I.base.frzs, I.base.tbls⟩, ⟨_, hn', fun j y v' e1 e2 e3 => ?_⟩, fun y c e => ?_, I.free, I.freeC, fun p hp => ?_, tracked ⟨oL, hoL, I.free⟩ hs, by simpa using I.len⟩ ⟨_, hs, .inl rfl⟩
    · exact (hs.2 b (Nat.ne_of_lt (Nat.lt_of_lt_of_le (Heap.lt_size e) I.ok.above))).trans (I.base.keep b o e n hb hx)
    · obtain ⟨sl, e1⟩ := I.base.slot b o e n hb hx
      exact ⟨sl, (hs.2 b (Nat.ne_of_lt (Nat.lt_of_lt_of_le (Heap.lt_size e) I.ok.above))).trans e1⟩
    · obtain ⟨o', e1⟩ := I.base.there b o e hx
      exact ⟨o', (hs.2 b (Nat.ne_of_lt (Nat.lt_of_lt_of_le (Heap.lt_size e) I.ok.above))).trans e1⟩
    · by_cases hj : j = i
      · subst hj
        rw [hi] at e1; cases e1
        rw [List.getElem?_set_self hiσ] at e2
        cases e2
        exact ⟨u, r, .inl ⟨hk, by simp⟩⟩
      · rw [List.getElem?_set_ne (Ne.symm hj)] at e2
        obtain ⟨u', r', q⟩ := hl j y v' e1 e2 e3
        refine ⟨u', r', ?_⟩
        rcases q with ⟨k, e⟩ | ⟨k, c, e, z⟩
        · refine .inl ⟨k, ?_⟩
          have : y ≠ x := fun e => hj (nodup_ix hN e1 (e ▸ hi))
          simp [this, e]
        · exact .inr ⟨k, c, e, z.sameBut hs (cne y c e)⟩
    · obtain ⟨w', z⟩ := I.cell y c e
      exact ⟨w', z.sameBut hs (cne y c e)⟩
    · obtain ⟨e, n, ne, nf, d⟩ := I.pin p hp
      exact ⟨(hs.2 p.1 ne).trans e, n, ne, nf, d⟩
  · have hfn : X.fn x = true := by
      rcases hf with z | z
      · exact z
      · rw [z] at hk; cases hk
    obtain ⟨c, hc⟩ := I.ok.has x (.inl hk)
    obtain ⟨w', z⟩ := I.cell x c hc
    refine wpAny_storeName_cell I.ok.kind hk hc z (fun h' hc' hs => ?_)
    obtain ⟨oc, hoc, hocd⟩ := id z
    refine h { s with heap := h' } ⟨I.ok, I.os, I.bare, ⟨fun b o e n hb hx => ?_, fun b o e n hb hx => ?_, I.base.free, fun b o e hx => ?_, I.base.tups, I.base.frzs, I.base.tbls⟩, ⟨m, hn.sameBut hs (Ne.symm (cne x c hc)), fun j y v' e1 e2 e3 => ?_⟩, fun y c' e => ?_, I.free, I.freeC, fun p hp => ?_, tracked ⟨oc, hoc, I.freeC x c hc⟩ hs, by simpa using I.len⟩ ⟨c, hs, .inr hc⟩
    · exact (hs.2 b (Nat.ne_of_lt (Nat.lt_of_lt_of_le (Heap.lt_size e) (I.ok.cab x c hfn hc)))).trans (I.base.keep b o e n hb hx)
    · obtain ⟨sl, e1⟩ := I.base.slot b o e n hb hx
      exact ⟨sl, (hs.2 b (Nat.ne_of_lt (Nat.lt_of_lt_of_le (Heap.lt_size e) (I.ok.cab x c hfn hc)))).trans e1⟩
    · obtain ⟨o', e1⟩ := I.base.there b o e hx
      exact ⟨o', (hs.2 b (Nat.ne_of_lt (Nat.lt_of_lt_of_le (Heap.lt_size e) (I.ok.cab x c hfn hc)))).trans e1⟩
    · by_cases hj : j = i
      · subst hj
        rw [hi] at e1; cases e1
        rw [List.getElem?_set_self hiσ] at e2
        cases e2
        exact ⟨u, r, .inr ⟨.inl hk, c, hc, hc'⟩⟩
      · rw [List.getElem?_set_ne (Ne.symm hj)] at e2
        obtain ⟨u', r', q⟩ := hl j y v' e1 e2 e3
        refine ⟨u', r', ?_⟩
        rcases q with q | ⟨k, c', e, z'⟩
        · exact .inl q
        · refine .inr ⟨k, c', e, z'.sameBut hs ?_⟩
          rintro rfl
          exact hj (nodup_ix hN e1 (I.ok.inj _ _ _ e hc ▸ hi))
    · by_cases hcc : c' = c
      · subst hcc; exact ⟨_, hc'⟩
      · obtain ⟨w2, z2⟩ := I.cell y c' e
        exact ⟨w2, z2.sameBut hs hcc⟩
    · obtain ⟨e, n, ne, nf, d⟩ := I.pin p hp
      refine ⟨(hs.2 p.1 ?_).trans e, n, ne, nf, d⟩
      intro q
      rw [q, hoc] at e
      have q' : oc = p.2 := Option.some.inj e
      exact d w' (by rw [← q']; exact hocd)
theorem store_ok {M : Model} {A : Around} {E : Value → Shared → Prop} {i : Nat} {x : Str} {v : V} {u : Value} {Q : Unit → Shared → Prop} (I : Inv X pins σ H s) (hN : X.N.Nodup) (hi : X.N[i]? = some x) (hx : Loc X.env.scope x) (r : RelV v u)
    (h : ∀ s', Inv X pins (σ.set i (some v)) H s' → Q () s') (hf : X.fn x = true ∨ X.env.scope.names.lookup x = some .local := by first | exact .inl rfl | exact .inr rfl | assumption) : wpAny M A (storeName X.env x u) Q E s :=
  store_ok2 I hN hi hx r (fun s' I' _ => h s' I') hf
/-- behind a call or a block, the state as it is -/
theorem Inv.call' {s' : Shared} {ch : List Addr} (I : Inv X pins σ H s) (ho : s'.os = s.os) (u : Un (frs X.stack) ch H H' s.heap s'.heap) (hok : HOk X.prog X.w H' s'.heap) (hg : AllBare s'.gens)
    (hch : ∀ b ∈ ch, (b ∈ X.ex ∨ X.s₀.heap.objs.size ≤ b) ∧ b ≠ X.env.locals ∧ (∀ x c, X.env.cells.lookup x = some c → c ≠ b) ∧ ∀ p ∈ X.pn ++ pins, p.1 ≠ b) : Inv X pins σ H' s' := by
  obtain ⟨h', g', d', t', o'⟩ := s'
  have e : o' = s.os := ho
  subst e
  exact I.call (g' := g') (t' := t') (d' := d') u hok hg hch
end

/-! ### the judgements -/
/-- an exception: its class, its own dict's address (where it has one), the abstract heap behind it -/
noncomputable abbrev XK := Value → Option Addr → Hp → Prop
noncomputable abbrev St := List (Option V)
noncomputable abbrev VK := V → Hp → Prop
/-- an expression's reading; a test's; an argument list's -/
noncomputable abbrev TE := St → Hp → VK → Prop
noncomputable abbrev TT := St → Hp → (Bool → Hp → Prop) → Prop
noncomputable abbrev TA := St → Hp → (List V → Hp → Prop) → Prop
/-- what is wanted behind a statement -/
structure Ends where
  nx : St → Hp → Prop
  rt : VK
  bk : St → Hp → Prop := fun _ _ => False
  ct : St → Hp → Prop := fun _ _ => False
noncomputable abbrev TS := Ends → St → Hp → Prop

noncomputable def EP (X : Cx) (pins : List (Addr × Obj)) (σ : St) (Q : VK) (u : Value) (s' : Shared) : Prop := ∃ v H', Inv X pins σ H' s' ∧ RelV v u ∧ Q v H'
noncomputable def TP (X : Cx) (pins : List (Addr × Obj)) (σ : St) (Q : Bool → Hp → Prop) (b : Bool) (s' : Shared) : Prop := ∃ H', Inv X pins σ H' s' ∧ Q b H'
noncomputable def AP (X : Cx) (pins : List (Addr × Obj)) (σ : St) (Q : List V → Hp → Prop) (us : List Value) (s' : Shared) : Prop := ∃ vs H', Inv X pins σ H' s' ∧ Vals vs us ∧ Q vs H'
noncomputable def SP (X : Cx) (pins : List (Addr × Obj)) (D : Ends) (f : Flow) (s' : Shared) : Prop :=
  match f with
  | .next => ∃ σ' H', Inv X pins σ' H' s' ∧ D.nx σ' H'
  | .brk => ∃ σ' H', Inv X pins σ' H' s' ∧ D.bk σ' H'
  | .cont => ∃ σ' H', Inv X pins σ' H' s' ∧ D.ct σ' H'
  | .ret u => ∃ v σ' H', Inv X pins σ' H' s' ∧ RelV v u ∧ D.rt v H'

noncomputable def PE (X : Cx) (e : Expr) (t : TE) : Prop :=
  ∀ (pins : List (Addr × Obj)) (s : Shared) (σ : St) (H : Hp) (Q : VK), Inv X pins σ H s → t σ H Q → wpAny (model X.prog X.w) X.A (eval e X.env) (EP X pins σ Q) X.xe s
noncomputable def PT (X : Cx) (e : Expr) (t : TT) : Prop :=
  ∀ (pins : List (Addr × Obj)) (s : Shared) (σ : St) (H : Hp) (Q : Bool → Hp → Prop), Inv X pins σ H s → t σ H Q → wpAny (model X.prog X.w) X.A (isTrue e X.env (eval e X.env)) (TP X pins σ Q) X.xe s
/-- a test whatever its 'whole' is (and, or) -/
noncomputable def PW (X : Cx) (e : Expr) (t : TT) : Prop :=
  ∀ (whole : Sem Value) (pins : List (Addr × Obj)) (s : Shared) (σ : St) (H : Hp) (Q : Bool → Hp → Prop), Inv X pins σ H s → t σ H Q → wpAny (model X.prog X.w) X.A (isTrue e X.env whole) (TP X pins σ Q) X.xe s
theorem PW.pt {X : Cx} {e : Expr} {t : TT} (h : PW X e t) : PT X e t := h _
/-- an argument list (no star), from the left -/
noncomputable def PA (X : Cx) (es : List Expr) (t : TA) : Prop :=
  ∀ (pos : Pos) (pins : List (Addr × Obj)) (s : Shared) (σ : St) (H : Hp) (Q : List V → Hp → Prop), Inv X pins σ H s → t σ H Q → wpAny (model X.prog X.w) X.A (spliced (backTo pos (starEach es X.env))) (AP X pins σ Q) X.xe s
noncomputable def PS (X : Cx) (st : Stmt) (t : TS) : Prop :=
  ∀ (pins : List (Addr × Obj)) (s : Shared) (σ : St) (H : Hp) (D : Ends), Inv X pins σ H s → t D σ H → wpAny (model X.prog X.w) X.A (exec st X.env) (SP X pins D) X.xe s
noncomputable def PSs (X : Cx) (st : List Stmt) (t : TS) : Prop :=
  ∀ (pins : List (Addr × Obj)) (s : Shared) (σ : St) (H : Hp) (D : Ends), Inv X pins σ H s → t D σ H → wpAny (model X.prog X.w) X.A (execs st X.env) (SP X pins D) X.xe s
/-- weaken the end -/
theorem thn {α : Type} {t : Sem α} {Q Q' : α → Shared → Prop} {M : Model} {A : Around} {E : Value → Shared → Prop} {s : Shared} (h : wpAny M A t Q E s) (hQ : ∀ a s, Q a s → Q' a s) : wpAny M A t Q' E s := wpAny_mono h hQ fun _ _ x => x
end L2

namespace L2
open PySem PySem.Spec PyProof.Rows
section
variable {X : Cx}


/-! ### names and constants -/
noncomputable def tVar (i : Nat) : TE := fun σ H Q => ∃ v, σ[i]? = some (some v) ∧ Q v H
noncomputable def tC (v : V) : TE := fun _ H Q => Q v H
theorem pe_var {i : Nat} {x : Str} {pos : Pos} (hN : X.N[i]? = some x) (hv : Vis X.env.scope x) (hd : (x == ("__debug__" : Str)) = false := by decide) (hcd : (x == ("__classdict__" : Str)) = false := by decide) : PE X (.Name x pos) (tVar i) := by
  intro pins s σ H Q I h
  obtain ⟨v, e, h⟩ := h
  obtain ⟨m, hn, hl⟩ := I.loc
  obtain ⟨u, r, l⟩ := hl i x v hN e hv
  have fin : EP X pins σ Q u s := ⟨v, H, I, r, h⟩
  rcases l with ⟨hk, hm⟩ | ⟨hk, c, hc, hcell⟩
  · exact wpAny_Name (wpAny_loadName_local I.ok.kind hk hn hm fin) hd
  · rcases hk with hk | hk
    · exact wpAny_Name (wpAny_loadName_cell I.ok.kind hk hc hcell fin) hd
    · exact wpAny_Name (wpAny_loadName_free I.ok.kind hk hc hcell fin hcd) hd
theorem pe_int {i j pos} : PE X (.Constant (.int i) j pos) (tC (.int i)) := fun _ _ _ H _ I h => wpAny_Constant_int ⟨.int i, H, I.tok _, ⟨_, rfl⟩, h⟩
theorem pe_bl {b j pos} : PE X (.Constant (.bool b) j pos) (tC (.bl b)) := fun _ _ _ H _ I h => Constant_bool ⟨.bl b, H, I, rfl, h⟩
theorem pe_non {j pos} : PE X (.Constant .none j pos) (tC .non) := fun _ _ _ H _ I h => Constant_none ⟨.non, H, I, rfl, h⟩
theorem pe_str {x j pos} : PE X (.Constant (.str x) j pos) (tC (.str x)) := fun _ _ _ H _ I h => Calls.Constant_str ⟨.str x, H, I.tok _, ⟨_, rfl⟩, h⟩

/-- a global name of the def -/
noncomputable def Gl (X : Cx) (x : Str) : Prop := X.env.kindOf x = some .globalImplicit
theorem ld_glob {E : Value → Shared → Prop} {pins : List (Addr × Obj)} {s : Shared} {σ : St} {H : Hp} {x : Str} {u : Value} {pos : Pos} {Q : Value → Shared → Prop} (I : Inv X pins σ H s) (hg : Gl X x) (hm : X.mg x = some u) (h : Q u s)
    (hd : (x == ("__debug__" : Str)) = false := by decide) : wpAny (model X.prog X.w) X.A (eval (.Name x pos) X.env) Q E s :=
  Calls.Name_function_global I.ok.kind hg (Calls.loadGlobal_global (by rw [I.ok.glob]; exact I.mod.glob.keeps I.bk) hm h) hd
theorem ld_blt {E : Value → Shared → Prop} {pins : List (Addr × Obj)} {s : Shared} {σ : St} {H : Hp} {x : Str} {u : Value} {pos : Pos} {Q : Value → Shared → Prop} (I : Inv X pins σ H s) (hg : Gl X x) (hm : X.mg x = none) (hv : bootBuiltins x = some u) (h : Q u s)
    (hn : x ≠ "__name__" := by decide) (hd : (x == ("__debug__" : Str)) = false := by decide) : wpAny (model X.prog X.w) X.A (eval (.Name x pos) X.env) Q E s := by
  obtain ⟨mb, h1, h2⟩ := I.mod.blt
  exact Calls.Name_function_global I.ok.kind hg (Calls.loadGlobal_builtin (by rw [I.ok.glob]; exact I.mod.glob.keeps I.bk) hm (by rw [I.ok.blt]; exact h1.keeps I.bk) ((h2 x hn).trans hv) h) hd
/-- a module's constant, a class, a function, as a value -/
theorem pe_glob {x : Str} {v : V} {u : Value} {pos : Pos} (hg : Gl X x) (hm : X.mg x = some u) (r : RelV v u) (hd : (x == ("__debug__" : Str)) = false := by decide) : PE X (.Name x pos) (tC v) :=
  fun _ _ _ H _ I h => ld_glob I hg hm ⟨v, H, I, r, h⟩ hd
theorem pe_bltn {x : Str} {v : V} {u : Value} {pos : Pos} (hg : Gl X x) (hm : X.mg x = none) (hv : bootBuiltins x = some u) (r : RelV v u) (hn : x ≠ "__name__" := by decide) (hd : (x == ("__debug__" : Str)) = false := by decide) : PE X (.Name x pos) (tC v) :=
  fun _ _ _ H _ I h => ld_blt I hg hm hv ⟨v, H, I, r, h⟩ hn hd

/-! ### arithmetic -/
/-- two ints -/
noncomputable def t2I (ta tb : TE) (k : Int → Int → Hp → Prop) : St → Hp → Prop := fun σ H => ta σ H fun x H1 => tb σ H1 fun y H2 => ∃ i j, x = .int i ∧ y = .int j ∧ k i j H2
noncomputable def tAdd (ta tb : TE) : TE := fun σ H Q => t2I ta tb (fun i j H2 => Q (.int (i + j)) H2) σ H
noncomputable def tSub (ta tb : TE) : TE := fun σ H Q => t2I ta tb (fun i j H2 => Q (.int (i - j)) H2) σ H
/-- the left factor below 2^64 -/
noncomputable def tMul (ta tb : TE) : TE := fun σ H Q => t2I ta tb (fun i j H2 => (-(2 ^ 64) < i ∧ i < 2 ^ 64) ∧ Q (.int (i * j)) H2) σ H
variable {a b : Expr} {ta tb : TE} {pos : Pos}

/-! ### comparisons -/
noncomputable def PC (X : Cx) (op : CmpOp) (a b : Expr) (t : TE) : Prop :=
  ∀ (pins : List (Addr × Obj)) (s : Shared) (σ : St) (H : Hp) (Q : VK), Inv X pins σ H s → t σ H Q →
    wpAny (model X.prog X.w) X.A (eval a X.env) (fun v s₁ => wpAny (model X.prog X.w) X.A (eval b X.env) (fun u s₂ => wpAny (model X.prog X.w) X.A (compareOp op v u) (EP X pins σ Q) X.xe s₂) X.xe s₁) X.xe s
noncomputable def tCmp (p : Int → Int → Bool) (ta tb : TE) : TE := fun σ H Q => t2I ta tb (fun i j H2 => Q (.bl (p i j)) H2) σ H
noncomputable abbrev tLt : TE → TE → TE := tCmp fun i j => decide (i < j)
noncomputable abbrev tLe : TE → TE → TE := tCmp fun i j => decide (i ≤ j)
noncomputable abbrev tGt : TE → TE → TE := tCmp fun i j => decide (j < i)
noncomputable abbrev tGe : TE → TE → TE := tCmp fun i j => decide (j ≤ i)
noncomputable abbrev tEqI : TE → TE → TE := tCmp fun i j => decide (i = j)
noncomputable abbrev tNeI : TE → TE → TE := tCmp fun i j => !decide (i = j)
/-- is None -/
noncomputable def tIsN (ta : TE) : TE := fun σ H Q => ta σ H fun x H1 => Q (.bl (decide (x = .non))) H1
noncomputable def tNotN (ta : TE) : TE := fun σ H Q => ta σ H fun x H1 => Q (.bl (!decide (x = .non))) H1
/-- a comparison as a value, as a test -/
noncomputable def tB (t : TE) : TT := fun σ H Q => t σ H fun x H1 => ∃ c, x = .bl c ∧ Q c H1

/-! ### and, or, not -/
variable {tA tB' : TT} {rest : List Expr}
noncomputable def tAnd (t u : TT) : TT := fun σ H Q => t σ H fun c H1 => if c = true then u σ H1 Q else Q false H1
noncomputable def tOr (t u : TT) : TT := fun σ H Q => t σ H fun c H1 => if c = true then Q true H1 else u σ H1 Q
noncomputable def tNot (t : TT) : TT := fun σ H Q => t σ H fun c H1 => Q (!c) H1
theorem pw_and1 (ha : PT X a tA) : PW X (.BoolOp .And [a] pos) tA := by
  intro wh pins s σ H Q I h
  refine isTrue_and (thn (ha pins s σ H Q I h) fun c s1 e => ?_)
  cases c with
  | true => exact isTrue_and_nil e
  | false => exact e
theorem pw_or1 (ha : PT X a tA) : PW X (.BoolOp .Or [a] pos) tA := by
  intro wh pins s σ H Q I h
  refine isTrue_or (thn (ha pins s σ H Q I h) fun c s1 e => ?_)
  cases c with
  | false => exact isTrue_or_nil e
  | true => exact e
theorem pw_and (ha : PT X a tA) (hb : PW X (.BoolOp .And (b :: rest) pos) tB') : PW X (.BoolOp .And (a :: b :: rest) pos) (tAnd tA tB') := by
  intro wh pins s σ H Q I h
  refine isTrue_and (thn (ha pins s σ H _ I h) fun c s1 ⟨H1, I1, q1⟩ => ?_)
  cases c with
  | true => exact hb wh pins s1 σ H1 Q I1 q1
  | false => exact ⟨H1, I1, q1⟩
theorem pw_or (ha : PT X a tA) (hb : PW X (.BoolOp .Or (b :: rest) pos) tB') : PW X (.BoolOp .Or (a :: b :: rest) pos) (tOr tA tB') := by
  intro wh pins s σ H Q I h
  refine isTrue_or (thn (ha pins s σ H _ I h) fun c s1 ⟨H1, I1, q1⟩ => ?_)
  cases c with
  | true => exact ⟨H1, I1, q1⟩
  | false => exact hb wh pins s1 σ H1 Q I1 q1
theorem pt_not (ha : PT X a tA) : PT X (.UnaryOp .Not a pos) (tNot tA) := by
  intro pins s σ H Q I h
  exact isTrue_not (ha pins s σ H (fun c H1 => Q (!c) H1) I h)
/-- .. as values (bools) -/
noncomputable def tAndV (ta tb : TE) : TE := fun σ H Q => ta σ H fun x H1 => ∃ c, x = .bl c ∧ if c = true then tb σ H1 Q else Q (.bl false) H1
noncomputable def tOrV (ta tb : TE) : TE := fun σ H Q => ta σ H fun x H1 => ∃ c, x = .bl c ∧ if c = true then Q (.bl true) H1 else tb σ H1 Q
noncomputable def tNotV (ta : TE) : TE := fun σ H Q => ta σ H fun x H1 => ∃ c, x = .bl c ∧ Q (.bl (!c)) H1
theorem pe_one {op} {t : TE} (h : PE X a t) : PE X (.BoolOp op [a] pos) t := fun pins s σ H Q I hw => BoolOp_one (h pins s σ H Q I hw)
/-- a if t else b -/
noncomputable def tIf (t : TT) (ta tb : TE) : TE := fun σ H Q => t σ H fun c H1 => if c = true then ta σ H1 Q else tb σ H1 Q
theorem pe_ifExp {c : Expr} (hc : PT X c tA) (ha : PE X a ta) (hb : PE X b tb) : PE X (.IfExp c a b pos) (tIf tA ta tb) := by
  intro pins s σ H Q I h
  refine wpAny_IfExp (thn (hc pins s σ H _ I h) fun d s1 ⟨H1, I1, q1⟩ => ?_)
  cases d with
  | true => exact ha pins s1 σ H1 Q I1 q1
  | false => exact hb pins s1 σ H1 Q I1 q1
end
end L2

namespace L2
open PySem PySem.Spec PyProof.Rows

/-! ### a list, a tuple that is read: tracked, frozen, or an object of the module -/
noncomputable def SqL (K : PySem.W.Frag) (H : Hp) (a : Addr) (xs : List V) : Prop :=
  Rd H a (.lst xs) ∨
    ∃ (o : Obj) (its : Array Value) (n : Nat), K.lookup a = some o ∧ o.cls = .type "list" ∧ o.dict = none ∧ o.data = .seq its n ∧ its.size ≤ sizeLine ∧ Vals xs its.toList
noncomputable def SqT (K : PySem.W.Frag) (H : Hp) (a : Addr) (xs : List V) : Prop :=
  Rd H a (.tup xs) ∨
    ∃ (o : Obj) (its : Array Value) (n : Nat), K.lookup a = some o ∧ o.cls = .type "tuple" ∧ o.data = .seq its n ∧ its.size ≤ sizeLine ∧ Vals xs its.toList
noncomputable def absV : Value → Option V
  | .none => some .non
  | .bool b => some (.bl b)
  | .int i _ => some (.int i)
  | .str x _ => some (.str x)
  | .bytes b _ => some (.byt b)
  | .float b _ => some (.flt b)
  | .ref a => some (.ref a)
  | .type n => some (.ty n)
  | _ => none
theorem RelV.abs {x : V} {u : Value} (r : RelV x u) : absV u = some x := by
  cases x with
  | non => cases r; rfl
  | bl _ => cases r; rfl
  | int _ => obtain ⟨t, rfl⟩ := r; rfl
  | str _ => obtain ⟨t, rfl⟩ := r; rfl
  | byt _ => obtain ⟨t, rfl⟩ := r; rfl
  | flt _ => obtain ⟨t, rfl⟩ := r; rfl
  | ref _ => cases r; rfl
  | ty _ => cases r; rfl
theorem RelV.inj {x y : V} {u : Value} (r : RelV x u) (q : RelV y u) : x = y := Option.some.inj (r.abs.symm.trans q.abs)
theorem Vals.inj : ∀ {xs ys : List V} {us : List Value}, Vals xs us → Vals ys us → xs = ys
  | _, _, _, .nil, .nil => rfl
  | _, _, _, .cons r t, .cons r' t' => by rw [r.inj r', Vals.inj t t']
section
variable {X : Cx} {pins : List (Addr × Obj)} {σ : St} {H : Hp} {s : Shared} {a : Addr} {xs ys : List V}
theorem SqL.of {K : PySem.W.Frag} (h : H a = some (.lst xs)) : SqL K H a xs := .inl (.inl h)
theorem Inv.list (I : Inv X pins σ H s) (h : SqL X.K H a xs) : ∃ its : List Value, Vals xs its ∧ PlainL s.heap a its.toArray ∧ xs.length ≤ sizeLine := by
  rcases h with h | ⟨o, its, n, hk, hc, hd, hs, hz, r⟩
  · obtain ⟨z, its, n, r, e⟩ := h.ok I.hok
    exact ⟨its, r, ⟨_, n, e, rfl, rfl, rfl⟩, z⟩
  · refine ⟨its.toList, r, ⟨o, n, I.kIn a o hk, hc, hd, by simpa using hs⟩, ?_⟩
    have e := r.length
    simp only [Array.length_toList] at e
    omega
theorem Inv.tuple (I : Inv X pins σ H s) (h : SqT X.K H a xs) : ∃ its : List Value, Vals xs its ∧ IsTup s.heap a its.toArray ∧ xs.length ≤ sizeLine := by
  rcases h with h | ⟨o, its, n, hk, hc, hs, hz, r⟩
  · obtain ⟨z, its, r, p⟩ := h.ok I.hok
    exact ⟨its, r, p, z⟩
  · refine ⟨its.toList, r, ⟨o, I.kIn a o hk, hc, n, by simpa using hs⟩, ?_⟩
    have e := r.length
    simp only [Array.length_toList] at e
    omega
theorem Inv.list_inj (I : Inv X pins σ H s) (h : SqL X.K H a xs) (h' : SqL X.K H a ys) : xs = ys := by
  obtain ⟨its, r, ⟨o, n, e, _, _, d⟩, _⟩ := I.list h
  obtain ⟨its', r', ⟨o', n', e', _, _, d'⟩, _⟩ := I.list h'
  rw [e] at e'; cases e'
  rw [d] at d'
  injection d' with d1 _
  have : its = its' := by simpa using congrArg Array.toList d1
  subst this
  exact r.inj r'
theorem Inv.tuple_inj (I : Inv X pins σ H s) (h : SqT X.K H a xs) (h' : SqT X.K H a ys) : xs = ys := by
  obtain ⟨its, r, ⟨o, e, _, n, d⟩, _⟩ := I.tuple h
  obtain ⟨its', r', ⟨o', e', _, n', d'⟩, _⟩ := I.tuple h'
  rw [e] at e'; cases e'
  rw [d] at d'
  injection d' with d1 _
  have : its = its' := by simpa using congrArg Array.toList d1
  subst this
  exact r.inj r'
end

/-! ### another wish about exceptions -/
noncomputable abbrev Cx.wish (X : Cx) (E : Value → Shared → Prop) : Cx := { X with xe := E }
/-- no exception leaves -/
noncomputable abbrev Cx.nox (X : Cx) : Cx := X.wish fun _ _ => False
theorem Cx.Ok.wish {X : Cx} (ok : X.Ok) (E : Value → Shared → Prop) : (X.wish E).Ok :=
  ⟨ok.mod, ok.kind, ok.glob, ok.blt, ok.above, ok.inj, ok.has, ok.cab, ok.hd, ok.frames, ok.stk, ok.exf, ok.bs, ok.bsz, ok.noex, ok.exfs, ok.funs, ok.frf⟩
theorem Cx.Ok.unwish {X : Cx} {E : Value → Shared → Prop} (ok : (X.wish E).Ok) : X.Ok :=
  ⟨ok.mod, ok.kind, ok.glob, ok.blt, ok.above, ok.inj, ok.has, ok.cab, ok.hd, ok.frames, ok.stk, ok.exf, ok.bs, ok.bsz, ok.noex, ok.exfs, ok.funs, ok.frf⟩
section
variable {X : Cx} {pins : List (Addr × Obj)} {σ : St} {H : Hp} {s : Shared} {E : Value → Shared → Prop}
theorem Inv.wish (I : Inv X pins σ H s) (E : Value → Shared → Prop) : Inv (X.wish E) pins σ H s := ⟨I.ok.wish E, I.os, I.bare, I.base, I.loc, I.cell, I.free, I.freeC, I.pin, I.hok, I.len⟩
theorem Inv.unwish (I : Inv (X.wish E) pins σ H s) : Inv X pins σ H s := ⟨I.ok.unwish, I.os, I.bare, I.base, I.loc, I.cell, I.free, I.freeC, I.pin, I.hok, I.len⟩
theorem SP.unwish {D : Ends} {f : Flow} {s' : Shared} (h : SP (X.wish E) pins D f s') : SP X pins D f s' := by
  cases f with
  | next => obtain ⟨σ', H', I, q⟩ := h; exact ⟨σ', H', I.unwish, q⟩
  | brk => obtain ⟨σ', H', I, q⟩ := h; exact ⟨σ', H', I.unwish, q⟩
  | cont => obtain ⟨σ', H', I, q⟩ := h; exact ⟨σ', H', I.unwish, q⟩
  | ret u => obtain ⟨v, σ', H', I, r, q⟩ := h; exact ⟨v, σ', H', I.unwish, r, q⟩
theorem PSs.nox {st : List Stmt} {t : TS} (h : PSs X.nox st t) : PSs X st t := fun pins s σ H D I hw =>
  wpAny_mono (h pins s σ H D (I.wish _) hw) (fun _ _ q => q.unwish) fun _ _ z => False.elim z
end

/-! ### blocks and small statements -/
section
variable {X : Cx} {st : Stmt} {rest : List Stmt} {t u : TS} {e : Expr} {te : TE} {pos : Pos}
noncomputable def tNext : TS := fun D σ H => D.nx σ H
noncomputable def tSeq (t u : TS) : TS := fun D σ H => t { D with nx := u D } σ H
theorem pss_nil : PSs X [] tNext := fun _ _ σ H _ I h => wpAny_execs_nil ⟨σ, H, I, h⟩
theorem pss_cons (h1 : PS X st t) (h2 : PSs X rest u) : PSs X (st :: rest) (tSeq t u) := by
  intro pins s σ H D I h
  refine wpAny_execs_cons (thn (h1 pins s σ H { D with nx := u D } I h) fun f s1 q => ?_)
  cases f with
  | next =>
    obtain ⟨σ', H', I', q⟩ := q
    exact h2 pins s1 σ' H' D I' q
  | ret v => exact q
  | brk => exact q
  | cont => exact q
theorem pss_one (h1 : PS X st t) : PSs X [st] t := by
  intro pins s σ H D I h
  refine wpAny_execs_cons (thn (h1 pins s σ H D I h) fun f s1 q => ?_)
  cases f with
  | next => exact wpAny_execs_nil q
  | ret v => exact q
  | brk => exact q
  | cont => exact q
noncomputable def tBreak : TS := fun D σ H => D.bk σ H
noncomputable def tCont : TS := fun D σ H => D.ct σ H
/-- in a def's body nothing is shown -/
theorem Inv.quiet {pins : List (Addr × Obj)} {σ : St} {H : Hp} {s : Shared} (I : Inv X pins σ H s) : interactive X.env = false := by simp [interactive, I.ok.kind]
/-- an expression whose value is dropped -/
noncomputable def tDrop (te : TE) : TS := fun D σ H => te σ H fun _ H1 => D.nx σ H1
theorem ps_expr (he : PE X e te) (hs : swapsWith e none pos.line X.env = pure false := by rfl) : PS X (.Expr e pos) (tDrop te) := by
  intro pins s σ H D I h
  exact wpAny_Expr_any (thn (he pins s σ H _ I h) fun v s1 ⟨x, H1, I1, r1, q1⟩ => ⟨σ, H1, I1, q1⟩) I.quiet hs
noncomputable def tRet (te : TE) : TS := fun D σ H => te σ H D.rt
theorem ps_ret (he : PE X e te) : PS X (.Return (some e) pos) (tRet te) := by
  intro pins s σ H D I h
  exact wpAny_Return_some (thn (he pins s σ H _ I h) fun v s1 ⟨x, H1, I1, r1, q1⟩ => ⟨x, σ, H1, I1, r1, q1⟩)
noncomputable def tRetN : TS := fun D _ H => D.rt .non H
noncomputable def tIfS (c : TT) (t u : TS) : TS := fun D σ H => c σ H fun b H1 => if b = true then t D σ H1 else u D σ H1
theorem ps_if {c : Expr} {a b : List Stmt} {tc : TT} (hc : PT X c tc) (ha : PSs X a t) (hb : PSs X b u) : PS X (.If c a b pos) (tIfS tc t u) := by
  intro pins s σ H D I h
  refine wpAny_If (thn (hc pins s σ H _ I h) fun d s1 ⟨H1, I1, q1⟩ => ?_)
  cases d with
  | true => exact ha pins s1 σ H1 D I1 q1
  | false => exact hb pins s1 σ H1 D I1 q1
/-- code that the proof never comes to -/
noncomputable def tNever : TS := fun _ _ _ => False
theorem ps_never : PS X st tNever := fun _ _ _ _ _ _ h => h.elim
end

/-! ### targets -/
noncomputable abbrev TG := V → St → Hp → (St → Hp → Prop) → Prop
noncomputable abbrev TGs := List V → St → Hp → (St → Hp → Prop) → Prop
noncomputable def PG (X : Cx) (target : Expr) (t : TG) : Prop :=
  ∀ (pins : List (Addr × Obj)) (s : Shared) (σ : St) (H : Hp) (v : V) (u : Value) (Q : St → Hp → Prop), Inv X pins σ H s → RelV v u → t v σ H Q →
    wpAny (model X.prog X.w) X.A (assign target X.env u) (fun _ s' => ∃ σ' H', Inv X pins σ' H' s' ∧ Q σ' H') X.xe s
/-- several targets, one after another -/
noncomputable def PGs (X : Cx) (ts : List Expr) (t : TGs) : Prop :=
  ∀ (pins : List (Addr × Obj)) (s : Shared) (σ : St) (H : Hp) (vs : List V) (us : List Value) (Q : St → Hp → Prop), Inv X pins σ H s → Vals vs us → t vs σ H Q →
    wpAny (model X.prog X.w) X.A (assignInOrder ((assignEach ts X.env).map (·.2)) us) (fun _ s' => ∃ σ' H', Inv X pins σ' H' s' ∧ Q σ' H') X.xe s
/-- o[i] = v, by values -/
noncomputable abbrev TSet := V → V → V → Hp → (Hp → Prop) → Prop
noncomputable def PSet (X : Cx) (t : TSet) : Prop :=
  ∀ (pins : List (Addr × Obj)) (s : Shared) (σ : St) (H : Hp) (o i v : V) (ov iv u : Value) (Q : Hp → Prop), Inv X pins σ H s → RelV o ov → RelV i iv → RelV v u → t o i v H Q →
    wpAny (model X.prog X.w) X.A (setItem ov iv u) (fun _ s' => ∃ H', Inv X pins σ H' s' ∧ Q H') X.xe s
/-- a op= b, by values -/
noncomputable abbrev TIp := V → V → Hp → VK → Prop
noncomputable def PIp (X : Cx) (op : Operator) (t : TIp) : Prop :=
  ∀ (pins : List (Addr × Obj)) (s : Shared) (σ : St) (H : Hp) (x y : V) (v u : Value) (Q : VK), Inv X pins σ H s → RelV x v → RelV y u → t x y H Q →
    wpAny (model X.prog X.w) X.A (inplaceOp op v u) (EP X pins σ Q) X.xe s
section
variable {X : Cx} {pos : Pos}
noncomputable def gName (i : Nat) : TG := fun v σ H Q => Q (σ.set i (some v)) H
theorem pg_name {i : Nat} {x : Str} (hN : X.N.Nodup) (hi : X.N[i]? = some x) (hx : Loc X.env.scope x) (hf : X.fn x = true ∨ X.env.scope.names.lookup x = some .local := by first | exact .inl rfl | exact .inr rfl | assumption) : PG X (.Name x pos) (gName i) := by
  intro pins s σ H v u Q I r h
  exact wpAny_assign_Name (store_ok I hN hi hx r (fun s' I' => ⟨_, H, I', h⟩) hf)
noncomputable def gNil : TGs := fun vs σ H Q => vs = [] ∧ Q σ H
noncomputable def gCons (t : TG) (u : TGs) : TGs := fun vs σ H Q => ∃ v r, vs = v :: r ∧ t v σ H fun σ' H' => u r σ' H' Q
/-- (a, b, ..) = a tuple of that length -/
noncomputable def gTup (K : PySem.W.Frag) (n : Nat) (t : TGs) : TG := fun v σ H Q => ∃ a xs, v = .ref a ∧ SqT K H a xs ∧ xs.length = n ∧ t xs σ H Q
/-- o[i] = .. -/
noncomputable def gSub (to ti : TE) (t : TSet) : TG := fun v σ H Q => to σ H fun o H1 => ti σ H1 fun i H2 => t o i v H2 fun H3 => Q σ H3
/-- target = value -/
noncomputable def tAsg (te : TE) (g : TG) : TS := fun D σ H => te σ H fun x H1 => g x σ H1 D.nx
/-- name = value -/
theorem ps_set {i : Nat} {x : Str} {e : Expr} {te : TE} {pos' : Pos} (hN : X.N.Nodup) (hi : X.N[i]? = some x) (hx : Loc X.env.scope x) (he : PE X e te) (hs : swapsWith e (some (.Name x pos')) pos.line X.env = pure false := by rfl) (hf : X.fn x = true ∨ X.env.scope.names.lookup x = some .local := by first | exact .inl rfl | exact .inr rfl | assumption) :
    PS X (.Assign [.Name x pos'] e pos) (tAsg te (gName i)) := by
  intro pins s σ H D I h
  refine wpAny_Assign_Name (thn (he pins s σ H _ I h) fun v s1 ⟨y, H1, I1, r1, q1⟩ => ?_) hs
  exact store_ok I1 hN hi hx r1 (fun s2 I2 => ⟨_, H1, I2, q1⟩) hf
/-- a, b = x, y with plain local names: stored from the right; the pair itself is not tracked (the opening rows as in PyProof/Rows/TupAssign.lean:23) -/
noncomputable def tPar (i j : Nat) (ta : TA) : TS := fun D σ H => ta σ H fun vs H1 => ∃ v w, vs = [v, w] ∧ D.nx ((σ.set i (some v)).set j (some w)) H1
/-- name op= e -/
noncomputable def tAug (i : Nat) (te : TE) (ti : TIp) : TS := fun D σ H => ∃ x, σ[i]? = some (some x) ∧ te σ H fun y H1 => ti x y H1 fun z H2 => D.nx (σ.set i (some z)) H2
/-- o[i] op= e -/
noncomputable def tAugS (to ti te : TE) (tget : V → V → Hp → VK → Prop) (tip : TIp) (tset : TSet) : TS := fun D σ H => to σ H fun o H1 => ti σ H1 fun i H2 => tget o i H2 fun x H3 => te σ H3 fun y H4 => tip x y H4 fun z H5 => tset o i z H5 fun H6 => D.nx σ H6
/-- o[i], by values -/
noncomputable def PGet (X : Cx) (t : V → V → Hp → VK → Prop) : Prop :=
  ∀ (pins : List (Addr × Obj)) (s : Shared) (σ : St) (H : Hp) (o i : V) (ov iv : Value) (Q : VK), Inv X pins σ H s → RelV o ov → RelV i iv → t o i H Q →
    wpAny (model X.prog X.w) X.A (getItem ov iv) (EP X pins σ Q) X.xe s
/-- ints -/
noncomputable def ipI (f : Int → Int → Int) : TIp := fun x y H Q => ∃ i j, x = .int i ∧ y = .int j ∧ Q (.int (f i j)) H
end

/-! ### while -/
section
variable {X : Cx} {pos : Pos}
/-- the invariant W with its measure -/
noncomputable def tWhile (c : TT) (tb : TS) : TS := fun D σ H => ∃ W : Nat → St → Hp → Prop, (∃ m, W m σ H) ∧ ∀ m σ H, W m σ H →
  c σ H fun b H1 => if b = true then ∃ N : St → Hp → Prop, (∀ σ' H', N σ' H' → ∃ m', m' < m ∧ W m' σ' H') ∧ tb { D with nx := N, ct := N, bk := D.nx } σ H1 else D.nx σ H1
theorem ps_while {c : Expr} {body : List Stmt} {tc : TT} {tb : TS} (hp : PassesOwn (model X.prog X.w) X.A X.env X.xe) (hc : PT X c tc) (hb : PSs X body tb) : PS X (.While c body [] pos) (tWhile tc tb) := by
  intro pins s σ H D I h
  obtain ⟨W, ⟨m0, w0⟩, turn⟩ := h
  refine wpAny_While (codeAny_whileLoop (fun n s' => ∃ σ' H', Inv X pins σ' H' s' ∧ W n σ' H') ?_ m0 ⟨σ, H, I, w0⟩)
  rintro n s1 ⟨σ1, H1, I1, w1⟩
  refine wpAny_passesOwn hp (thn (hc pins s1 σ1 H1 _ I1 (turn n σ1 H1 w1)) fun b s2 ⟨H2, I2, q2⟩ => ?_)
  cases b with
  | true =>
    obtain ⟨N, hN, q2⟩ := q2
    rw [if_pos rfl]
    refine wpAny_passesOwn hp (thn (hb pins s2 σ1 H2 _ I2 q2) fun f s3 q3 => ?_)
    cases f with
    | next =>
      obtain ⟨σ3, H3, I3, n3⟩ := q3
      obtain ⟨m', hm, w3⟩ := hN σ3 H3 n3
      exact ⟨m', hm, σ3, H3, I3, w3⟩
    | cont =>
      obtain ⟨σ3, H3, I3, n3⟩ := q3
      obtain ⟨m', hm, w3⟩ := hN σ3 H3 n3
      exact ⟨m', hm, σ3, H3, I3, w3⟩
    | brk => exact q3
    | ret v => exact q3
  | false =>
    rw [if_neg Bool.false_ne_true]
    exact wpAny_execs_nil ⟨σ1, H2, I2, q2⟩
end

/-! ### what a loop or a comprehension walks -/
/-- at turn i: it yields x (the heap may grow), or it stops -/
structure It where
  go : Nat → Hp → Prop
  yld : Nat → Hp → V → Hp → Prop
  stop : Nat → Hp → Prop
/-- the iterator's own objects may turn: they are not the frame's, not pinned, younger than the entry (or a comprehension's own) -/
noncomputable def FpOk (X : Cx) (pins : List (Addr × Obj)) (H : Hp) (b : Addr) : Prop :=
  H b = none ∧ b ≠ X.env.locals ∧ b ∉ X.fs ∧ (b ∈ X.ex ∨ X.s₀.heap.objs.size ≤ b) ∧ (∀ x c, X.env.cells.lookup x = some c → c ≠ b) ∧ ∀ p ∈ X.pn ++ pins, p.1 ≠ b
theorem Inv.fpOk {X : Cx} {pins : List (Addr × Obj)} {σ : St} {H H' : Hp} {s : Shared} {b : Addr} (I : Inv X pins σ H s) (hb : s.heap.objs.size ≤ b) (hn : H' b = none) : FpOk X pins H' b := by
  refine ⟨hn, Nat.ne_of_gt (Nat.lt_of_lt_of_le I.lt hb), I.nofs hb, .inr (Nat.le_trans I.sz hb), fun x c e z => ?_, fun p hp z => ?_⟩
  · obtain ⟨v, q⟩ := I.cell x c e
    exact absurd (Nat.lt_of_lt_of_le q.lt (by rw [z]; exact hb)) (Nat.lt_irrefl _)
  · exact absurd (Nat.lt_of_lt_of_le (Heap.lt_size (I.pin p hp).1) (by rw [z]; exact hb)) (Nat.lt_irrefl _)
structure Turn (P : Program) (w : World) (K : PySem.W.Frag) (tg : Expr) (J : It) (fp : List Addr) (it : Addr) (tn : Nat → Heap → Prop) : Prop where
  mem : it ∈ fp
  obj : ∀ i h, tn i h → ∀ b ∈ fp, ∃ o, h.get? b = some o ∧ ∀ v, o.data ≠ .cell v
  keep : ∀ i h h', tn i h → (∀ b ∈ fp, ∀ o, h.get? b = some o → h'.get? b = some o) → tn i h'
  item : ∀ (X : Cx), X.prog = P → X.w = w → X.K = K → X.calm = true → ∀ (i : Nat) (pins : List (Addr × Obj)) (s : Shared) (σ : St) (H : Hp) (E : Value → Shared → Prop), Inv X pins σ H s → (∀ b ∈ fp, FpOk X pins H b) → tn i s.heap → J.go i H →
    wpAny (model P w) X.A (pyNext (.ref it)) (fun r s1 => ∃ u, r = some u ∧
      wpAny (model P w) X.A (letOwnedTupleGo tg (.ref it) u) (fun _ s2 => ∃ x H', Inv X pins σ H' s2 ∧ RelV x u ∧ J.yld i H x H' ∧ tn (i + 1) s2.heap ∧ ∀ b ∈ fp, H' b = none) E s1) E s
  done : ∀ (X : Cx), X.prog = P → X.w = w → X.K = K → X.calm = true → ∀ (i : Nat) (pins : List (Addr × Obj)) (s : Shared) (σ : St) (H : Hp) (E : Value → Shared → Prop), Inv X pins σ H s → (∀ b ∈ fp, FpOk X pins H b) → tn i s.heap → J.stop i H →
    wpAny (model P w) X.A (pyNext (.ref it)) (fun r s1 => r = none ∧ Inv X pins σ H s1) E s
  self : ∀ (A : Around) (i : Nat) (s : Shared) (Q : Value → Shared → Prop) (E : Value → Shared → Prop), tn i s.heap → Q (.ref it) s → wpAny (model P w) A (pyIter (.ref it)) Q E s
noncomputable abbrev TI := St → Hp → (It → Hp → Prop) → Prop
/-- an iterator has come -/
noncomputable def PIE (X : Cx) (pins : List (Addr × Obj)) (σ : St) (tg : Expr) (R : It → Hp → Prop) (itv : Value) (s2 : Shared) : Prop :=
  ∃ (it : Addr) (fp : List Addr) (tn : Nat → Heap → Prop) (J : It) (H' : Hp), itv = .ref it ∧ Inv X pins σ H' s2 ∧ Turn X.prog X.w X.K tg J fp it tn ∧ tn 0 s2.heap ∧ (∀ b ∈ fp, FpOk X pins H' b) ∧ R J H'
noncomputable def PI (X : Cx) (tg iter : Expr) (wi : TI) : Prop :=
  ∀ (pins : List (Addr × Obj)) (s : Shared) (σ : St) (H : Hp) (R : It → Hp → Prop), Inv X pins σ H s → wi σ H R →
    wpAny (model X.prog X.w) X.A (eval iter X.env) (fun v s1 => wpAny (model X.prog X.w) X.A (pyIter v) (PIE X pins σ tg R) X.xe s1) X.xe s

/-- the step ahead of the store is nothing for an iterator that keeps no tuple -/
theorem go_of {M : Model} {A : Around} {E : Value → Shared → Prop} {s : Shared} {tg : Expr} {it : Addr} {u : Value} {o : Obj} {n : String} {vs : Array Value} {Q : Unit → Shared → Prop} (ho : s.heap.get? it = some o) (hc : o.cls = .type n) (hd : o.data = .fields vs)
    (hn : ["enumerate", "zip", "dict_itemiterator", "dict_reverseitemiterator", "odict_iterator", "itertools.zip_longest", "itertools.pairwise"].contains n = false) (hQ : Q () s) : wpAny M A (letOwnedTupleGo tg (.ref it) u) Q E s := by
  unfold letOwnedTupleGo
  cases tg <;> first
    | exact wpAny_pure hQ
    | (cases u <;> first
        | exact wpAny_pure hQ
        | (refine wpAny_bind (wpAny_load ho ?_)
           rw [hc, hd]
           show wpAny M A (if (["enumerate", "zip", "dict_itemiterator", "dict_reverseitemiterator", "odict_iterator", "itertools.zip_longest", "itertools.pairwise"].contains n && vs[0]? == some (rawInt _)) = true then _ else _) Q E s
           rw [if_neg (by intro h; rw [hn, Bool.false_and] at h; cases h)]
           exact wpAny_pure hQ))

/-- the list at a, as it stands at each turn (a loop may append to it) -/
noncomputable def Itl (K : PySem.W.Frag) (a : Addr) : It :=
  ⟨fun i H => ∃ xs x, SqL K H a xs ∧ xs[i]? = some x, fun i H x H' => H' = H ∧ ∀ xs, SqL K H a xs → xs[i]? = some x, fun i H => ∃ xs, SqL K H a xs ∧ xs.length ≤ i⟩
noncomputable def Itt (K : PySem.W.Frag) (a : Addr) : It :=
  ⟨fun i H => ∃ xs x, SqT K H a xs ∧ xs[i]? = some x, fun i H x H' => H' = H ∧ ∀ xs, SqT K H a xs → xs[i]? = some x, fun i H => ∃ xs, SqT K H a xs ∧ xs.length ≤ i⟩
/-- lo, lo + 1, .. (n of them) -/
noncomputable def Itr (lo : Int) (n : Nat) : It := ⟨fun i _ => i < n, fun i H x H' => H' = H ∧ x = .int (lo + i), fun i _ => n ≤ i⟩
theorem turn_list {P : Program} {w : World} {K : PySem.W.Frag} {tg : Expr} (a it : Addr) : Turn P w K tg (Itl K a) [it] it (fun i h => h.IsListIter it a i) where
  mem := by simp
  obj := fun i h st b hb => by
    have e : b = it := by simpa using hb
    subst e
    obtain ⟨o, e, c, d⟩ := st
    exact ⟨o, e, fun v z => by rw [d] at z; cases z⟩
  keep := fun i h h' st k => st.at fun o e => k it (by simp) o e
  item := by
    intro X hP hw hK hc i pins s σ H E I hf st hg
    subst hP hw hK
    obtain ⟨xs, x, hq, hx⟩ := hg
    obtain ⟨its, rv, p, hz⟩ := I.list hq
    obtain ⟨u, hu, ru⟩ := rv.get hx
    obtain ⟨f0, f1, f2, f3, f4, f5⟩ := hf it (by simp)
    refine wpAny_pyNext_list_item st p.isList (x := u) (by simpa using hu) fun h' st' sb => ?_
    have I1 : Inv X pins σ H { s with heap := h' } := I.turned (t' := s.toks) (fun b o hb e => (sb.2 b hb).trans e) f0 f1 f3 f4 f5
    obtain ⟨o, e, c, d⟩ := id st'
    exact ⟨u, rfl, go_of (s := { s with heap := h' }) e c d (by decide) ⟨x, H, I1, ru, ⟨rfl, fun ys hy => by rw [I.list_inj hy hq]; exact hx⟩, st', fun b hb => (hf b hb).1⟩⟩
  done := by
    intro X hP hw hK hc i pins s σ H E I hf st hg
    subst hP hw hK
    obtain ⟨xs, hq, hx⟩ := hg
    obtain ⟨its, rv, p, hz⟩ := I.list hq
    obtain ⟨f0, f1, f2, f3, f4, f5⟩ := hf it (by simp)
    have hl := rv.length
    exact wpAny_pyNext_list_end (I.ok.hd hc) st p.isList (by simp; omega) fun h' eb => ⟨rfl, I.turned (t' := s.toks) (fun b o hb e => eb b o hb e) f0 f1 f3 f4 f5⟩
  self := fun _ _ _ _ _ st h => wpAny_pyIter_listiter st h
theorem turn_tuple {P : Program} {w : World} {K : PySem.W.Frag} {tg : Expr} (a it : Addr) : Turn P w K tg (Itt K a) [it] it (fun i h => h.IsTupleIter it a i) where
  mem := by simp
  obj := fun i h st b hb => by
    have e : b = it := by simpa using hb
    subst e
    obtain ⟨o, e, c, d⟩ := st
    exact ⟨o, e, fun v z => by rw [d] at z; cases z⟩
  keep := fun i h h' st k => st.at fun o e => k it (by simp) o e
  item := by
    intro X hP hw hK hc i pins s σ H E I hf st hg
    subst hP hw hK
    obtain ⟨xs, x, hq, hx⟩ := hg
    obtain ⟨its, rv, p, hz⟩ := I.tuple hq
    obtain ⟨u, hu, ru⟩ := rv.get hx
    obtain ⟨f0, f1, f2, f3, f4, f5⟩ := hf it (by simp)
    refine wpAny_pyNext_tuple_item st (show s.heap.IsTuple a its.toArray from p) (x := u) (by simpa using hu) fun h' st' sb => ?_
    have I1 : Inv X pins σ H { s with heap := h' } := I.turned (t' := s.toks) (fun b o hb e => (sb.2 b hb).trans e) f0 f1 f3 f4 f5
    obtain ⟨o, e, c, d⟩ := id st'
    exact ⟨u, rfl, go_of (s := { s with heap := h' }) e c d (by decide) ⟨x, H, I1, ru, ⟨rfl, fun ys hy => by rw [I.tuple_inj hy hq]; exact hx⟩, st', fun b hb => (hf b hb).1⟩⟩
  done := by
    intro X hP hw hK hc i pins s σ H E I hf st hg
    subst hP hw hK
    obtain ⟨xs, hq, hx⟩ := hg
    obtain ⟨its, rv, p, hz⟩ := I.tuple hq
    obtain ⟨f0, f1, f2, f3, f4, f5⟩ := hf it (by simp)
    have hl := rv.length
    exact wpAny_pyNext_tuple_end (I.ok.hd hc) st (show s.heap.IsTuple a its.toArray from p) (by simp; omega) fun h' eb => ⟨rfl, I.turned (t' := s.toks) (fun b o hb e => eb b o hb e) f0 f1 f3 f4 f5⟩
  self := fun _ _ _ _ _ st h => wpAny_pyIter_tupleiter st h
theorem turn_range {P : Program} {w : World} {K : PySem.W.Frag} {tg : Expr} (it : Addr) (lo : Int) (n : Nat) : Turn P w K tg (Itr lo n) [it] it (fun i h => IsRangeIter h it (lo + (i : Nat) * 1) ((n : Int) - (i : Nat)) 1) where
  mem := by simp
  obj := fun i h st b hb => by
    have e : b = it := by simpa using hb
    subst e
    exact ⟨_, st, fun v z => by
      have z' : Data.fields _ = Data.cell v := z
      cases z'⟩
  keep := fun i h h' st k => k it (by simp) _ st
  item := by
    intro X hP hw hK hc i pins s σ H E I hf st hg
    subst hP hw hK
    obtain ⟨f0, f1, f2, f3, f4, f5⟩ := hf it (by simp)
    have W := Walks.range (prog := X.prog) (w := X.w) (I.ok.hd hc) it lo 1 n
    refine W.item i s _ _ hg st fun v h' tk hv st' kk => ?_
    obtain ⟨t, rfl⟩ := hv
    have I1 : Inv X pins σ H { s with heap := h', toks := tk } := I.turned (fun b o hb e => kk b o (by simpa using hb) e) f0 f1 f3 f4 f5
    refine ⟨_, rfl, go_of (s := { s with heap := h', toks := tk }) (n := "range_iterator") st' rfl rfl (by decide) ⟨.int (lo + i), H, I1, ⟨t, ?_⟩, ⟨rfl, rfl⟩, st', fun b hb => (hf b hb).1⟩⟩
    rw [Int.mul_one]
  done := by
    intro X hP hw hK hc i pins s σ H E I hf st hg
    subst hP hw hK
    obtain ⟨f0, f1, f2, f3, f4, f5⟩ := hf it (by simp)
    exact wpAny_pyNext_range_end (I.ok.hd hc) st (by have : n ≤ i := hg; omega) fun h' eb => ⟨rfl, I.turned (t' := s.toks) (fun b o hb e => eb b o hb e) f0 f1 f3 f4 f5⟩
  self := fun _ _ _ _ _ st h => wpAny_pyIter_rangeiter st h
end L2

namespace L2
open PySem PySem.Spec PyProof.Rows
section
variable {X : Cx} {tg : Expr}
noncomputable def iList (K : PySem.W.Frag) (tl : TE) : TI := fun σ H R => tl σ H fun x H1 => ∃ a, x = .ref a ∧ (∃ xs, SqL K H1 a xs) ∧ R (Itl K a) H1
noncomputable def iTup (K : PySem.W.Frag) (tl : TE) : TI := fun σ H R => tl σ H fun x H1 => ∃ a, x = .ref a ∧ (∃ xs, SqT K H1 a xs) ∧ R (Itt K a) H1
/-- a range object just made, walked -/
theorem range_it {pins : List (Addr × Obj)} {σ : St} {H : Hp} {s : Shared} {R : It → Hp → Prop} {E : Value → Shared → Prop} {lo hi : Int} {t u v : Tok} {tk : Nat} (I : Inv X pins σ H s) (h1 : -(2 ^ 62) ≤ lo) (h2 : lo < 2 ^ 62) (h3 : -(2 ^ 62) ≤ hi) (h4 : hi < 2 ^ 62)
    (q : R (Itr lo (hi - lo).toNat) H) : wpAny (model X.prog X.w) X.A (pyIter (.ref s.heap.objs.size)) (PIE X pins σ tg R) E { s with heap := s.heap.push { cls := .type "range", data := .fields #[.int lo t, .int hi u, .int 1 v] }, toks := tk } := by
  refine wpAny_pyIter_range (IsRange.new ..) (small_one h1 h2 h3 h4) ?_
  have I1 : Inv X pins σ H { s with heap := s.heap.push { cls := .type "range", data := .fields #[.int lo t, .int hi u, .int 1 v] }, toks := tk } := I.kept fun b o e => Heap.get?_push_of_some _ e
  refine ⟨(s.heap.push { cls := .type "range", data := .fields #[.int lo t, .int hi u, .int 1 v] }).objs.size, [(s.heap.push { cls := .type "range", data := .fields #[.int lo t, .int hi u, .int 1 v] }).objs.size], _, _, H, rfl,
    I1.kept (t' := tk) fun b o e => Heap.get?_push_of_some _ e, turn_range _ lo (hi - lo).toNat, ?_, fun b hb => ?_, q⟩
  · have e1 : lo + ((0 : Nat) : Int) * 1 = lo := by simp
    have e2 : (((hi - lo).toNat : Nat) : Int) - ((0 : Nat) : Int) = Builtin.Range.rangeSize lo hi 1 := by rw [rangeSize_one]; split <;> omega
    show IsRangeIter _ _ (lo + ((0 : Nat) : Int) * 1) ((((hi - lo).toNat : Nat) : Int) - ((0 : Nat) : Int)) 1
    rw [e1, e2]
    exact Heap.get?_push_size _ rfl
  · have e : b = (s.heap.push { cls := .type "range", data := .fields #[.int lo t, .int hi u, .int 1 v] }).objs.size := by simpa using hb
    subst e
    exact I1.fpOk (Nat.le_refl _) (I1.hok.fresh (Nat.le_refl _))
noncomputable def iRng1 (ta : TA) : TI := fun σ H R => ta σ H fun vs H1 => ∃ j : Int, vs = [.int j] ∧ -(2 ^ 62) ≤ j ∧ j < 2 ^ 62 ∧ R (Itr 0 j.toNat) H1
noncomputable def iRng2 (ta : TA) : TI := fun σ H R => ta σ H fun vs H1 => ∃ i j : Int, vs = [.int i, .int j] ∧ (-(2 ^ 62) ≤ i ∧ i < 2 ^ 62 ∧ -(2 ^ 62) ≤ j ∧ j < 2 ^ 62) ∧ R (Itr i (j - i).toNat) H1

/-! ### for -/
/-- W: the invariant by the turn and a measure; N: what the body is to reach -/
noncomputable def tFor (wi : TI) (g : TG) (tb : TS) : TS := fun D σ H => wi σ H fun J H1 => ∃ W : Nat → Nat → St → Hp → Prop, (∃ m, W 0 m σ H1) ∧ ∀ i m σ H, W i m σ H →
  (J.stop i H ∧ D.nx σ H) ∨ (J.go i H ∧ ∃ N : St → Hp → Prop, (∀ σ' H', N σ' H' → ∃ m', m' < m ∧ W (i + 1) m' σ' H') ∧ ∀ x H', J.yld i H x H' → g x σ H' fun σ2 H2 => tb { D with nx := N, ct := N, bk := D.nx } σ2 H2)
/-- the records at fp as they stand -/
noncomputable def pinsAt (fp : List Addr) (h : Heap) : List (Addr × Obj) := fp.filterMap fun b => (h.get? b).map fun o => (b, o)
theorem mem_pinsAt {fp : List Addr} {h : Heap} {b : Addr} {o : Obj} (hb : b ∈ fp) (e : h.get? b = some o) : (b, o) ∈ pinsAt fp h := List.mem_filterMap.mpr ⟨b, hb, by rw [e]; rfl⟩
theorem of_pinsAt {fp : List Addr} {h : Heap} {p : Addr × Obj} (hp : p ∈ pinsAt fp h) : p.1 ∈ fp ∧ h.get? p.1 = some p.2 := by
  obtain ⟨b, hb, e⟩ := List.mem_filterMap.mp hp
  cases q : h.get? b with
  | none => rw [q] at e; cases e
  | some o =>
    rw [q] at e
    have e' : (b, o) = p := Option.some.inj e
    subst e'
    exact ⟨hb, q⟩
theorem Inv.pinned {pins : List (Addr × Obj)} {σ : St} {H : Hp} {s : Shared} {fp : List Addr} (I : Inv X pins σ H s) (hf : ∀ b ∈ fp, FpOk X pins H b) (ho : ∀ b ∈ fp, ∃ o, s.heap.get? b = some o ∧ ∀ v, o.data ≠ .cell v) : Inv X (pins ++ pinsAt fp s.heap) σ H s :=
  I.pins_of fun p hp => (List.mem_append.mp hp).elim (fun z => I.pin p (List.mem_append_right _ z)) fun z => by
    obtain ⟨hb, e⟩ := of_pinsAt z
    obtain ⟨f0, f1, f2, _⟩ := hf p.1 hb
    obtain ⟨o, e', d⟩ := ho p.1 hb
    rw [e] at e'; cases e'
    exact ⟨e, f0, f1, f2, d⟩
theorem Inv.unpinned {pins pl : List (Addr × Obj)} {σ : St} {H : Hp} {s : Shared} (I : Inv X (pins ++ pl) σ H s) : Inv X pins σ H s := I.pins_of fun p hp => I.pin p (List.mem_append_right _ (List.mem_append_left _ hp))
theorem ps_for {iter : Expr} {body : List Stmt} {wi : TI} {g : TG} {tb : TS} {pos : Pos} (hp : PassesOwn (model X.prog X.w) X.A X.env X.xe) (hc : X.calm = true) (hi : PI X tg iter wi) (hg : PG X tg g) (hb : PSs X body tb)
    (hs : ∀ x, foldedSetIterable iter X.env x = pure x := by intro _; rfl) : PS X (.For tg iter body [] pos) (tFor wi g tb) := by
  intro pins s σ H D I h
  refine wpAny_For (thn (hi pins s σ H _ I h) fun v s1 h1 => thn h1 fun itv s2 h2 => ?_) hs
  obtain ⟨it, fp, tn, J, H2, e, I2, T, st2, f2, W, ⟨m0, w0⟩, turn⟩ := h2
  subst e
  -- what stays true of the iterator's objects through the loop
  have stat : ∀ {H' : Hp}, (∀ b ∈ fp, H' b = none) → ∀ b ∈ fp, FpOk X pins H' b := fun hn b hb => ⟨hn b hb, (f2 b hb).2⟩
  refine codeAny_forLoop_any (fun n s' => ∃ i σ' H', Inv X pins σ' H' s' ∧ tn i s'.heap ∧ (∀ b ∈ fp, H' b = none) ∧ W i n σ' H') ?_ m0 ⟨0, σ, H2, I2, st2, fun b hb => (f2 b hb).1, w0⟩
  rintro n s3 ⟨i, σ3, H3, I3, st3, fr3, w3⟩
  rcases turn i n σ3 H3 w3 with ⟨stop, qn⟩ | ⟨go, N, hN, step⟩
  · refine wpAny_passesOwn hp (thn (T.done X rfl rfl rfl hc i pins s3 σ3 H3 X.xe I3 (stat fr3) st3 stop) fun r s4 ⟨hr, I4⟩ => ?_)
    subst hr
    exact wpAny_execs_nil ⟨σ3, H3, I4, qn⟩
  · refine wpAny_passesOwn hp (thn (T.item X rfl rfl rfl hc i pins s3 σ3 H3 X.xe I3 (stat fr3) st3 go) fun r s4 ⟨u, hr, h4⟩ => ?_)
    subst hr
    refine wpAny_passesOwn hp (thn h4 fun _ s5 ⟨x, H5, I5, r5, y5, st5, fr5⟩ => ?_)
    have I5' := I5.pinned (stat fr5) (T.obj _ _ st5)
    refine wpAny_passesOwn hp (thn (hg _ s5 σ3 H5 x u _ I5' r5 (step x H5 y5)) fun _ s6 ⟨σ6, H6, I6, q6⟩ => ?_)
    refine wpAny_passesOwn hp (thn (hb _ s6 σ6 H6 _ I6 q6) fun f s7 q7 => ?_)
    have again : ∀ {σ7 : St} {H7 : Hp}, Inv X (pins ++ pinsAt fp s5.heap) σ7 H7 s7 → N σ7 H7 → ∃ m, m < n ∧ ∃ i σ' H', Inv X pins σ' H' s7 ∧ tn i s7.heap ∧ (∀ b ∈ fp, H' b = none) ∧ W i m σ' H' := fun {σ7 H7} I7 n7 => by
      obtain ⟨m', hm, w7⟩ := hN σ7 H7 n7
      refine ⟨m', hm, i + 1, σ7, H7, I7.unpinned, T.keep _ _ _ st5 fun b hb o e => (I7.pin (b, o) (List.mem_append_right _ (List.mem_append_right _ (mem_pinsAt hb e)))).1, fun b hb => ?_, w7⟩
      obtain ⟨o, e, d⟩ := T.obj _ _ st5 b hb
      exact (I7.pin (b, o) (List.mem_append_right _ (List.mem_append_right _ (mem_pinsAt hb e)))).2.1
    cases f with
    | next => obtain ⟨σ7, H7, I7, n7⟩ := q7; exact again I7 n7
    | cont => obtain ⟨σ7, H7, I7, n7⟩ := q7; exact again I7 n7
    | brk => obtain ⟨σ7, H7, I7, q7⟩ := q7; exact ⟨σ7, H7, I7.unpinned, q7⟩
    | ret v => obtain ⟨x7, σ7, H7, I7, r7, q7⟩ := q7; exact ⟨x7, σ7, H7, I7.unpinned, r7, q7⟩
end

/-! ### the forms one uses -/
/-- over a list that the body leaves as it is -/
theorem for_list {K : PySem.W.Frag} {a : Addr} {xs : List V} {g : TG} {tb : TS} {D : Ends} {σ : St} {H : Hp} (Pv : Nat → St → Hp → Prop) (h0 : Pv 0 σ H) (hl : ∀ i σ H, i ≤ xs.length → Pv i σ H → SqL K H a xs)
    (hs : ∀ i x σ H, xs[i]? = some x → Pv i σ H → g x σ H fun σ2 H2 => tb { D with nx := Pv (i + 1), ct := Pv (i + 1), bk := D.nx } σ2 H2) (hd : ∀ σ H, Pv xs.length σ H → D.nx σ H) :
    ∃ W : Nat → Nat → St → Hp → Prop, (∃ m, W 0 m σ H) ∧ ∀ i m σ H, W i m σ H →
      ((Itl K a).stop i H ∧ D.nx σ H) ∨ ((Itl K a).go i H ∧ ∃ N : St → Hp → Prop, (∀ σ' H', N σ' H' → ∃ m', m' < m ∧ W (i + 1) m' σ' H') ∧ ∀ x H', (Itl K a).yld i H x H' → g x σ H' fun σ2 H2 => tb { D with nx := N, ct := N, bk := D.nx } σ2 H2) := by
  refine ⟨fun i m σ H => m = xs.length - i ∧ i ≤ xs.length ∧ Pv i σ H, ⟨xs.length, by simp, Nat.zero_le _, h0⟩, ?_⟩
  rintro i m σ H ⟨rfl, hi, p⟩
  have q := hl i σ H hi p
  by_cases hlt : i < xs.length
  · refine .inr ⟨⟨xs, xs[i], q, by simp [hlt]⟩, Pv (i + 1), fun σ' H' p' => ⟨xs.length - (i + 1), by omega, rfl, hlt, p'⟩, fun x H' y => ?_⟩
    obtain ⟨e, y⟩ := y
    subst e
    exact hs i x σ _ (y xs q) p
  · have e : i = xs.length := by omega
    subst e
    exact .inl ⟨⟨xs, q, Nat.le_refl _⟩, hd σ H p⟩
theorem for_range {lo : Int} {n : Nat} {g : TG} {tb : TS} {D : Ends} {σ : St} {H : Hp} (Pv : Nat → St → Hp → Prop) (h0 : Pv 0 σ H)
    (hs : ∀ i σ H, i < n → Pv i σ H → g (.int (lo + i)) σ H fun σ2 H2 => tb { D with nx := Pv (i + 1), ct := Pv (i + 1), bk := D.nx } σ2 H2) (hd : ∀ σ H, Pv n σ H → D.nx σ H) :
    ∃ W : Nat → Nat → St → Hp → Prop, (∃ m, W 0 m σ H) ∧ ∀ i m σ H, W i m σ H →
      ((Itr lo n).stop i H ∧ D.nx σ H) ∨ ((Itr lo n).go i H ∧ ∃ N : St → Hp → Prop, (∀ σ' H', N σ' H' → ∃ m', m' < m ∧ W (i + 1) m' σ' H') ∧ ∀ x H', (Itr lo n).yld i H x H' → g x σ H' fun σ2 H2 => tb { D with nx := N, ct := N, bk := D.nx } σ2 H2) := by
  refine ⟨fun i m σ H => m = n - i ∧ i ≤ n ∧ Pv i σ H, ⟨n, by simp, Nat.zero_le _, h0⟩, ?_⟩
  rintro i m σ H ⟨rfl, hi, p⟩
  by_cases hlt : i < n
  · refine .inr ⟨hlt, Pv (i + 1), fun σ' H' p' => ⟨n - (i + 1), by omega, rfl, hlt, p'⟩, fun x H' y => ?_⟩
    obtain ⟨e, y⟩ := y
    subst e y
    exact hs i σ _ hlt p
  · have e : i = n := by omega
    subst e
    exact .inl ⟨Nat.le_refl _, hd σ H p⟩
end L2

namespace L2
open PySem PySem.Spec PyProof.Rows

noncomputable abbrev R2 := V → V → Hp → VK → Prop
/-- a two-place operation on values: f is binaryOp op, inplaceOp op or compareOp op -/
noncomputable def OpR (X : Cx) (f : Value → Value → Sem Value) (r : R2) : Prop :=
  ∀ (pins : List (Addr × Obj)) (s : Shared) (σ : St) (H : Hp) (x y : V) (v u : Value) (Q : VK), Inv X pins σ H s → RelV x v → RelV y u → r x y H Q →
    wpAny (model X.prog X.w) X.A (f v u) (EP X pins σ Q) X.xe s
/-- a one-place operation -/
noncomputable def UnR (X : Cx) (f : Value → Sem Value) (r : V → Hp → VK → Prop) : Prop :=
  ∀ (pins : List (Addr × Obj)) (s : Shared) (σ : St) (H : Hp) (x : V) (v : Value) (Q : VK), Inv X pins σ H s → RelV x v → r x H Q →
    wpAny (model X.prog X.w) X.A (f v) (EP X pins σ Q) X.xe s
/-- a call of a value that is known (a builtin, a type) with values -/
noncomputable def CallR (X : Cx) (f : Value) (r : List V → Hp → VK → Prop) : Prop :=
  ∀ (pins : List (Addr × Obj)) (s : Shared) (σ : St) (H : Hp) (xs : List V) (us : List Value) (Q : VK), Inv X pins σ H s → Vals xs us → r xs H Q →
    wpAny (model X.prog X.w) X.A (call f us) (EP X pins σ Q) X.xe s
/-- a value's truth -/
noncomputable def TruR (X : Cx) (r : V → Hp → (Bool → Hp → Prop) → Prop) : Prop :=
  ∀ (pins : List (Addr × Obj)) (s : Shared) (σ : St) (H : Hp) (x : V) (v : Value) (Q : Bool → Hp → Prop), Inv X pins σ H s → RelV x v → r x H Q →
    wpAny (model X.prog X.w) X.A (truthy v) (TP X pins σ Q) X.xe s

noncomputable def tOp (r : R2) (ta tb : TE) : TE := fun σ H Q => ta σ H fun x H1 => tb σ H1 fun y H2 => r x y H2 Q
noncomputable def tUn (r : V → Hp → VK → Prop) (ta : TE) : TE := fun σ H Q => ta σ H fun x H1 => r x H1 Q
/-- ints in, under C, and a value out -/
noncomputable def rI (C : Int → Int → Prop) (g : Int → Int → V) : R2 := fun x y H Q => ∃ i j, x = .int i ∧ y = .int j ∧ C i j ∧ Q (g i j) H
noncomputable def rI0 (g : Int → Int → V) : R2 := fun x y H Q => ∃ i j, x = .int i ∧ y = .int j ∧ Q (g i j) H
noncomputable def rU (g : Int → V) : V → Hp → VK → Prop := fun x H Q => ∃ i, x = .int i ∧ Q (g i) H

section
variable {X : Cx} {a b c : Expr} {ta tb tc : TE} {pos : Pos}

theorem binT (ha : PE X a ta) (hb : PE X b tb) {pins : List (Addr × Obj)} {s : Shared} {σ : St} {H : Hp} {R : V → V → Hp → Prop} (I : Inv X pins σ H s)
    (h : ta σ H fun x H1 => tb σ H1 fun y H2 => R x y H2) {Q : Value → Shared → Prop} {f : Value → Value → Sem Value}
    (hf : ∀ v u s2 x y H2, Inv X pins σ H2 s2 → RelV x v → RelV y u → R x y H2 → wpAny (model X.prog X.w) X.A (f v u) Q X.xe s2) :
    wpAny (model X.prog X.w) X.A (eval a X.env) (fun v s₁ => wpAny (model X.prog X.w) X.A (eval b X.env) (fun u s₂ => wpAny (model X.prog X.w) X.A (f v u) Q X.xe s₂) X.xe s₁) X.xe s := by
  refine thn (ha pins s σ H _ I h) fun v s1 ⟨x, H1, I1, r1, q1⟩ => ?_
  refine thn (hb pins s1 σ H1 _ I1 q1) fun u s2 ⟨y, H2, I2, r2, q2⟩ => ?_
  exact hf v u s2 x y H2 I2 r1 r2 q2

theorem pe_op {op : Operator} {r : R2} (ho : OpR X (binaryOp op) r) (ha : PE X a ta) (hb : PE X b tb) : PE X (.BinOp a op b pos) (tOp r ta tb) := by
  intro pins s σ H Q I h
  exact wpAny_BinOp (binT ha hb I h fun v u s2 x y H2 I2 rx ry q => ho pins s2 σ H2 x y v u Q I2 rx ry q)
theorem pe_un {op : UnaryOp} {r : V → Hp → VK → Prop} (ho : UnR X (unaryOp op) r) (ha : PE X a ta) : PE X (.UnaryOp op a pos) (tUn r ta) := by
  intro pins s σ H Q I h
  exact UnaryOp_ (thn (ha pins s σ H _ I h) fun v s1 ⟨x, H1, I1, r1, q1⟩ => ho pins s1 σ H1 x v Q I1 r1 q1)

/-! ### ints -/
theorem opI {f : Value → Value → Sem Value} {C : Int → Int → Prop} {g : Int → Int → Int}
    (rule : ∀ (i j : Int) (t u : Tok) (s : Shared) (Q : Value → Shared → Prop) (E : Value → Shared → Prop), C i j → Q (.int (g i j) s.toks) { s with toks := s.toks + 1 } → wpAny (model X.prog X.w) X.A (f (.int i t) (.int j u)) Q E s) :
    OpR X f (rI C fun i j => .int (g i j)) := by
  intro pins s σ H x y v u Q I rx ry h
  obtain ⟨i, j, rfl, rfl, hc, q⟩ := h
  obtain ⟨t, rfl⟩ := rx
  obtain ⟨t', rfl⟩ := ry
  exact rule i j t t' s _ _ hc ⟨.int (g i j), H, I.tok _, ⟨_, rfl⟩, q⟩
theorem opI0 {f : Value → Value → Sem Value} {g : Int → Int → Int}
    (rule : ∀ (i j : Int) (t u : Tok) (s : Shared) (Q : Value → Shared → Prop) (E : Value → Shared → Prop), Q (.int (g i j) s.toks) { s with toks := s.toks + 1 } → wpAny (model X.prog X.w) X.A (f (.int i t) (.int j u)) Q E s) :
    OpR X f (rI0 fun i j => .int (g i j)) := by
  intro pins s σ H x y v u Q I rx ry h
  obtain ⟨i, j, rfl, rfl, q⟩ := h
  obtain ⟨t, rfl⟩ := rx
  obtain ⟨t', rfl⟩ := ry
  exact rule i j t t' s _ _ ⟨.int (g i j), H, I.tok _, ⟨_, rfl⟩, q⟩
theorem opB0 {f : Value → Value → Sem Value} {g : Int → Int → Bool}
    (rule : ∀ (i j : Int) (t u : Tok) (s : Shared) (Q : Value → Shared → Prop) (E : Value → Shared → Prop), Q (.bool (g i j)) s → wpAny (model X.prog X.w) X.A (f (.int i t) (.int j u)) Q E s) :
    OpR X f (rI0 fun i j => .bl (g i j)) := by
  intro pins s σ H x y v u Q I rx ry h
  obtain ⟨i, j, rfl, rfl, q⟩ := h
  obtain ⟨t, rfl⟩ := rx
  obtain ⟨t', rfl⟩ := ry
  exact rule i j t t' s _ _ ⟨.bl (g i j), H, I, rfl, q⟩

noncomputable def CDiv (i j : Int) : Prop := 0 < j ∧ j < 1073741824
noncomputable def CDivN (i j : Int) : Prop := j ≠ 0 ∧ j.natAbs < 1073741824
noncomputable def CPow (i j : Int) : Prop := 0 ≤ j ∧ j ≤ 1000000 ∧ i.natAbs < 2 ^ 64
noncomputable def CMul (i j : Int) : Prop := (-(2 ^ 64) < i ∧ i < 2 ^ 64) ∨ (-(2 ^ 64) < j ∧ j < 2 ^ 64)
theorem CMul.ok {i j : Int} (h : CMul i j) : IntMulOk i j := by
  rcases h with ⟨h1, h2⟩ | ⟨h1, h2⟩
  · exact .of_left (intBits_le_64 h1 h2)
  · exact .of_right (intBits_le_64 h1 h2)

theorem op_add : OpR X (binaryOp .Add) (rI0 fun i j => .int (i + j)) := opI0 fun _ _ _ _ _ _ _ q => add_int q
theorem op_sub : OpR X (binaryOp .Sub) (rI0 fun i j => .int (i - j)) := opI0 fun _ _ _ _ _ _ _ q => sub_int q
theorem op_mul : OpR X (binaryOp .Mult) (rI CMul fun i j => .int (i * j)) := opI fun _ _ _ _ _ _ _ hc q => mul_int q hc.ok
/-- // by a positive divisor -/
theorem op_fdiv : OpR X (binaryOp .FloorDiv) (rI CDiv fun i j => .int (i / j)) := opI fun i j _ _ _ _ _ hc q => by
  have h1 : (0 : Int) < j := hc.1
  have h2 : j < 1073741824 := hc.2
  exact floordiv_int (by omega) (by rw [Int.fdiv_eq_ediv_of_nonneg i (by omega)]; exact q) (.inl (PyProof.noPylong_small (by omega)))
/-- % by a positive divisor of any size -/
theorem op_mod : OpR X (binaryOp .Mod) (rI (fun _ j => 0 < j) fun i j => .int (i % j)) := opI fun i j _ _ _ _ _ hc q => by
  have h1 : (0 : Int) < j := hc
  exact mod_int' (by omega) (by rw [Int.fmod_eq_emod_of_nonneg i (by omega)]; exact q)
theorem op_pow : OpR X (binaryOp .Pow) (rI CPow fun i j => .int (i ^ j.toNat)) := opI fun _ _ _ _ _ _ _ hc q => pow_int_small hc.1 hc.2.1 hc.2.2 q


theorem unI {f : Value → Sem Value} {g : Int → Int}
    (rule : ∀ (i : Int) (t : Tok) (s : Shared) (Q : Value → Shared → Prop) (E : Value → Shared → Prop), Q (.int (g i) s.toks) { s with toks := s.toks + 1 } → wpAny (model X.prog X.w) X.A (f (.int i t)) Q E s) :
    UnR X f (rU fun i => .int (g i)) := by
  intro pins s σ H x v Q I rx h
  obtain ⟨i, rfl, q⟩ := h
  obtain ⟨t, rfl⟩ := rx
  exact rule i t s _ _ ⟨.int (g i), H, I.tok _, ⟨_, rfl⟩, q⟩
theorem un_neg : UnR X (unaryOp .USub) (rU fun i => .int (-i)) := unI fun _ _ _ _ _ q => neg_int q

/-! ### bools among ints: n += (a < b) -/
end

/-! ### comparisons -/
/-- the scalars that == tells apart as data does -/
noncomputable def scal : V → V → Bool
  | .non, .non => true | .non, .int _ => true | .int _, .non => true | .non, .bl _ => true | .bl _, .non => true | .non, .str _ => true | .str _, .non => true
  | .int _, .int _ => true | .bl _, .bl _ => true | .str _, .str _ => true | .byt _, .byt _ => true
  | .int _, .str _ => true | .str _, .int _ => true | .bl _, .str _ => true | .str _, .bl _ => true
  | _, _ => false
noncomputable def rEq : R2 := fun x y H Q => scal x y = true ∧ Q (.bl (decide (x = y))) H
noncomputable def rNe : R2 := fun x y H Q => scal x y = true ∧ Q (.bl (!decide (x = y))) H

theorem dec_int {i j : Int} : decide (V.int i = V.int j) = (i == j) := by
  rw [Bool.eq_iff_iff]
  simp
theorem dec_bl {i j : Bool} : decide (V.bl i = V.bl j) = (i == j) := by
  rw [Bool.eq_iff_iff]
  simp
theorem dec_str {i j : Str} : decide (V.str i = V.str j) = (i == j) := by
  rw [Bool.eq_iff_iff]
  simp
theorem dec_byt {i j : Array UInt8} : decide (V.byt i = V.byt j) = (i.toList == j.toList) := by
  rw [Bool.eq_iff_iff]
  cases i
  cases j
  simp

section
variable {X : Cx} {a b c : Expr} {ta tb tc : TE} {pos : Pos}
theorem fin_bl {pins : List (Addr × Obj)} {σ : St} {H : Hp} {s : Shared} {Q : VK} {k k' : Bool} (I : Inv X pins σ H s) (q : Q (.bl k) H) (e : k = k') : EP X pins σ Q (.bool k') s := by
  subst e
  exact ⟨.bl k, H, I, rfl, q⟩
theorem op_eq : OpR X (compareOp .Eq) rEq := by
  intro pins s σ H x y v u Q I rx ry h
  obtain ⟨hs, q⟩ := h
  cases x with
  | non =>
    cases rx
    cases y with
    | non => cases ry; exact PySem.EqNone.eq_none_none (fin_bl I q (by simp))
    | bl j => cases ry; exact PySem.EqNone.eq_none_bool (fin_bl I q (by simp))
    | int j => obtain ⟨t', rfl⟩ := ry; exact PySem.EqNone.eq_none_int (fin_bl I q (by simp))
    | str j => obtain ⟨t', rfl⟩ := ry; exact PySem.EqNone.eq_none_str (fin_bl I q (by simp))
    | _ => exact absurd (show false = true from hs) Bool.false_ne_true
  | bl i =>
    cases rx
    cases y with
    | non => cases ry; exact PySem.EqNone.eq_bool_none (fin_bl I q (by simp))
    | bl j => cases ry; exact eq_bool (fin_bl I q dec_bl)
    | str j => obtain ⟨t', rfl⟩ := ry; exact PySem.EqMixed.eq_bool_str (fin_bl I q (by simp))
    | _ => exact absurd (show false = true from hs) Bool.false_ne_true
  | int i =>
    obtain ⟨t, rfl⟩ := rx
    cases y with
    | non => cases ry; exact PySem.EqNone.eq_int_none (fin_bl I q (by simp))
    | int j => obtain ⟨t', rfl⟩ := ry; exact eq_int (fin_bl I q dec_int)
    | str j => obtain ⟨t', rfl⟩ := ry; exact PySem.EqMixed.eq_int_str (fin_bl I q (by simp))
    | _ => exact absurd (show false = true from hs) Bool.false_ne_true
  | str i =>
    obtain ⟨t, rfl⟩ := rx
    cases y with
    | non => cases ry; exact PySem.EqNone.eq_str_none (fin_bl I q (by simp))
    | bl j => cases ry; exact PySem.EqMixed.eq_str_bool (fin_bl I q (by simp))
    | int j => obtain ⟨t', rfl⟩ := ry; exact PySem.EqMixed.eq_str_int (fin_bl I q (by simp))
    | str j => obtain ⟨t', rfl⟩ := ry; exact eq_str (fin_bl I q dec_str)
    | _ => exact absurd (show false = true from hs) Bool.false_ne_true
  | byt i =>
    obtain ⟨t, rfl⟩ := rx
    cases y with
    | byt j => obtain ⟨t', rfl⟩ := ry; exact PySem.W.eq_bytes (fin_bl I q dec_byt)
    | _ => exact absurd (show false = true from hs) Bool.false_ne_true
  | _ => cases y <;> exact absurd (show false = true from hs) Bool.false_ne_true
theorem op_ne : OpR X (compareOp .NotEq) rNe := by
  intro pins s σ H x y v u Q I rx ry h
  obtain ⟨hs, q⟩ := h
  cases x with
  | non =>
    cases rx
    cases y with
    | non => cases ry; exact PySem.EqNone.ne_none_none (fin_bl I q (by simp))
    | bl j => cases ry; exact PySem.EqNone.ne_none_bool (fin_bl I q (by simp))
    | int j => obtain ⟨t', rfl⟩ := ry; exact PySem.EqNone.ne_none_int (fin_bl I q (by simp))
    | str j => obtain ⟨t', rfl⟩ := ry; exact PySem.EqNone.ne_none_str (fin_bl I q (by simp))
    | _ => exact absurd (show false = true from hs) Bool.false_ne_true
  | bl i =>
    cases rx
    cases y with
    | non => cases ry; exact PySem.EqNone.ne_bool_none (fin_bl I q (by simp))
    | bl j => cases ry; exact ne_bool (fin_bl I q (congrArg not dec_bl))
    | str j => obtain ⟨t', rfl⟩ := ry; exact PySem.EqMixed.ne_bool_str (fin_bl I q (by simp))
    | _ => exact absurd (show false = true from hs) Bool.false_ne_true
  | int i =>
    obtain ⟨t, rfl⟩ := rx
    cases y with
    | non => cases ry; exact PySem.EqNone.ne_int_none (fin_bl I q (by simp))
    | int j => obtain ⟨t', rfl⟩ := ry; exact ne_int (fin_bl I q (congrArg not dec_int))
    | str j => obtain ⟨t', rfl⟩ := ry; exact PySem.EqMixed.ne_int_str (fin_bl I q (by simp))
    | _ => exact absurd (show false = true from hs) Bool.false_ne_true
  | str i =>
    obtain ⟨t, rfl⟩ := rx
    cases y with
    | non => cases ry; exact PySem.EqNone.ne_str_none (fin_bl I q (by simp))
    | bl j => cases ry; exact PySem.EqMixed.ne_str_bool (fin_bl I q (by simp))
    | int j => obtain ⟨t', rfl⟩ := ry; exact PySem.EqMixed.ne_str_int (fin_bl I q (by simp))
    | str j => obtain ⟨t', rfl⟩ := ry; exact ne_str (fin_bl I q (congrArg not dec_str))
    | _ => exact absurd (show false = true from hs) Bool.false_ne_true
  | byt i =>
    obtain ⟨t, rfl⟩ := rx
    cases y with
    | byt j => obtain ⟨t', rfl⟩ := ry; exact PySem.W.ne_bytes (fin_bl I q (congrArg not dec_byt))
    | _ => exact absurd (show false = true from hs) Bool.false_ne_true
  | _ => cases y <;> exact absurd (show false = true from hs) Bool.false_ne_true

theorem op_lt : OpR X (compareOp .Lt) (rI0 fun i j => .bl (decide (i < j))) := opB0 fun _ _ _ _ _ _ _ q => lt_int q
theorem op_gt : OpR X (compareOp .Gt) (rI0 fun i j => .bl (decide (j < i))) := opB0 fun _ _ _ _ _ _ _ q => gt_int q
theorem op_ge : OpR X (compareOp .GtE) (rI0 fun i j => .bl (decide (j ≤ i))) := opB0 fun _ _ _ _ _ _ _ q => ge_int q

/-- is None, is not None: the right side a value none -/
theorem op_isN : OpR X (compareOp .Is) (fun x y H Q => y = .non ∧ Q (.bl (decide (x = .non))) H) := by
  intro pins s σ H x y v u Q I rx ry h
  obtain ⟨rfl, q⟩ := h
  cases ry
  refine is_none_gen (fin_bl I q ?_)
  cases x <;> first
    | (cases rx; rfl)
    | (obtain ⟨t, rfl⟩ := rx; rfl)

/-- is, is not of two objects that are tracked lists or instances -/
noncomputable def isObj : HO → Bool
  | .lst _ => true
  | .ins _ _ _ => true
  | _ => false

/-- two rules for one operation: by cases -/
theorem OpR.or {f : Value → Value → Sem Value} {r r' : R2} (h : OpR X f r) (h' : OpR X f r') : OpR X f (fun x y H Q => r x y H Q ∨ r' x y H Q) := by
  intro pins s σ H x y v u Q I rx ry q
  rcases q with q | q
  · exact h pins s σ H x y v u Q I rx ry q
  · exact h' pins s σ H x y v u Q I rx ry q

theorem nomark (b : Expr) {op : CmpOp} (h : op ≠ .In := by decide) (h2 : op ≠ .NotIn := by decide) : behindInMarks op b = false := by
  have e1 : (op == CmpOp.In) = false := by cases op <;> first | rfl | exact absurd rfl h
  have e2 : (op == CmpOp.NotIn) = false := by cases op <;> first | rfl | exact absurd rfl h2
  cases b <;> simp [behindInMarks, e1, e2]
/-- a comparison as a value; hm: nomark b, or (for in, not in) by with_unfolding_all rfl -/
theorem pe_cmpR {op : CmpOp} {r : R2} (ho : OpR X (compareOp op) r) (ha : PE X a ta) (hb : PE X b tb) (hm : behindInMarks op b = false) : PE X (.Compare a [op] [b] pos) (tOp r ta tb) := by
  intro pins s σ H Q I h
  exact wpAny_Compare1 (binT ha hb I h fun v u s2 x y H2 I2 rx ry q => ho pins s2 σ H2 x y v u Q I2 rx ry q) hm
/-- a reading of a value as a test -/
noncomputable def tTest (t : TE) : TT := fun σ H Q => t σ H fun x H' => ∃ k, x = .bl k ∧ Q k H'
/-- a op1 b op2 c -/
noncomputable def tChain (r r' : R2) (ta tb tc : TE) : TE := fun σ H Q => ta σ H fun x H1 => tb σ H1 fun y H2 => r x y H2 fun z H3 => ∃ k, z = .bl k ∧
  (if k = true then tc σ H3 fun w' H4 => r' y w' H4 Q else Q (.bl false) H3)

/-! ### truth -/
/-- a value's truth by the abstract heap -/
noncomputable def TruV (K : PySem.W.Frag) (x : V) (H : Hp) (k : Bool) : Prop :=
  match x with
  | .non => k = false
  | .bl b => k = b
  | .int i => k = (i != 0)
  | .str y => y.length ≤ sizeLine ∧ k = ((y.length : Int) != 0)
  | .byt y => y.size ≤ sizeLine ∧ k = ((y.size : Int) != 0)
  | .ref p => (∃ xs, SqL K H p xs ∧ k = !xs.isEmpty) ∨ (∃ xs, SqT K H p xs ∧ k = !xs.isEmpty) ∨ ∃ kvs, H p = some (.dK kvs) ∧ k = !kvs.isEmpty
  | _ => False
theorem isEmpty_kv {κ : Type} {kvs : List (κ × V)} {vs : List (κ × Value)} (r : KV kvs vs) : (!vs.isEmpty) = !kvs.isEmpty := by
  cases r <;> rfl
theorem isEmpty_of {xs : List V} {its : List Value} (r : Vals xs its) : (!its.toArray.isEmpty) = !xs.isEmpty := by
  cases r <;> simp
theorem line63 : (sizeLine : Nat) < 2 ^ 63 := by rw [sizeLine_eq]; decide
theorem tru_ok : TruR X (fun x H Q => ∃ k, TruV X.K x H k ∧ Q k H) := by
  intro pins s σ H x v Q I rx h
  obtain ⟨k, e, q⟩ := h
  have hl := line63
  have hs : sizeLine = 16777216 := sizeLine_eq
  cases x with
  | non =>
    cases rx
    have e' : k = false := e
    subst e'
    exact truthy_none ⟨H, I, q⟩
  | bl b =>
    cases rx
    have e' : k = b := e
    subst e'
    exact wpAny_truthy_bool ⟨H, I, q⟩
  | int i =>
    obtain ⟨t, rfl⟩ := rx
    have e' : k = (i != 0) := e
    subst e'
    exact PySem.P.truthy_int ⟨H, I, q⟩
  | str y =>
    obtain ⟨t, rfl⟩ := rx
    obtain ⟨hy, e'⟩ : y.length ≤ sizeLine ∧ k = ((y.length : Int) != 0) := e
    subst e'
    exact PySem.P.truthy_str (by omega) ⟨H, I.tok _, q⟩
  | byt y =>
    obtain ⟨t, rfl⟩ := rx
    obtain ⟨hy, e'⟩ : y.size ≤ sizeLine ∧ k = ((y.size : Int) != 0) := e
    subst e'
    exact PySem.W.truthy_bytes (by omega) ⟨H, I.tok _, q⟩
  | ref p =>
    cases rx
    have e' : (∃ xs, SqL X.K H p xs ∧ k = !xs.isEmpty) ∨ (∃ xs, SqT X.K H p xs ∧ k = !xs.isEmpty) ∨ ∃ kvs, H p = some (.dK kvs) ∧ k = !kvs.isEmpty := e
    rcases e' with ⟨xs, hx, e'⟩ | ⟨xs, hx, e'⟩ | ⟨kvs, hx, e'⟩
    · subst e'
      obtain ⟨its, r, pl, hz⟩ := I.list hx
      have hlen := r.length
      exact wpAny_truthy_list pl.isList (by simp only [List.size_toArray]; omega) ⟨H, I.tok _, by rw [isEmpty_of r]; exact q⟩
    · subst e'
      obtain ⟨its, r, pl, hz⟩ := I.tuple hx
      have hlen := r.length
      exact truthy_tuple pl (by simp only [List.size_toArray]; omega) ⟨H, I.tok _, by rw [isEmpty_of r]; exact q⟩
    · subst e'
      obtain ⟨hz, hS, vs, r, m⟩ : kvs.length ≤ sizeLine ∧ (p == sysModules) = false ∧ ∃ vs, KV kvs vs ∧ s.heap.DictOf (mixKind X.prog X.w) p vs := I.hok p _ hx
      have hlen : kvs.length = vs.length := Paired.length r
      exact wpAny_truthy_dict hS m (by omega) ⟨H, I.tok _, by rw [isEmpty_kv r]; exact q⟩
  | _ => exact (show False from e).elim

/-! ### strs and bytes -/

noncomputable def PlainIxT (b : Expr) : Prop := ∀ o i, subscripted b false o i = operate [o, i] (getItem o i)

/-! ### scalar builtins, by CallR -/
theorem vals1 {x : V} {us : List Value} (r : Vals [x] us) : ∃ u, us = [u] ∧ RelV x u := by
  cases r with
  | cons r1 r2 => cases r2; exact ⟨_, rfl, r1⟩
theorem vals2 {x y : V} {us : List Value} (r : Vals [x, y] us) : ∃ u w', us = [u, w'] ∧ RelV x u ∧ RelV y w' := by
  cases r with
  | cons r1 r2 =>
    cases r2 with
    | cons r3 r4 => cases r4; exact ⟨_, _, rfl, r1, r3⟩
theorem call_abs : CallR X (.builtin "abs") (fun xs H Q => ∃ i, xs = [.int i] ∧ Q (.int (if i < 0 then -i else i)) H) := by
  intro pins s σ H xs us Q I r h
  obtain ⟨i, rfl, q⟩ := h
  obtain ⟨u, rfl, t, rfl⟩ := vals1 r
  exact call_abs_int fun u tk => ⟨.int (if i < 0 then -i else i), H, I.tok _, ⟨_, rfl⟩, q⟩
theorem call_int1 : CallR X (.type "int") (fun xs H Q => (∃ i, xs = [.int i] ∧ Q (.int i) H) ∨ ∃ k, xs = [.bl k] ∧ Q (.int (if k then 1 else 0)) H) := by
  intro pins s σ H xs us Q I r h
  rcases h with ⟨i, rfl, q⟩ | ⟨k, rfl, q⟩
  · obtain ⟨u, rfl, t, rfl⟩ := vals1 r
    exact call_int_int ⟨.int i, H, I, ⟨_, rfl⟩, q⟩
  · obtain ⟨u, rfl, r1⟩ := vals1 r
    cases r1
    exact call_int_bool ⟨.int (if k then 1 else 0), H, I.tok _, ⟨_, rfl⟩, q⟩
/-- len of a str, a bytes, a list, a tuple -/
noncomputable def LenV (K : PySem.W.Frag) (x : V) (H : Hp) (n : Nat) : Prop :=
  match x with
  | .str y => y.length ≤ sizeLine ∧ n = y.length
  | .byt y => y.size ≤ sizeLine ∧ n = y.size
  | .ref p => (∃ xs, SqL K H p xs ∧ n = xs.length) ∨ ∃ xs, SqT K H p xs ∧ n = xs.length
  | _ => False
end
end L2

namespace L2
open PySem PySem.Spec PyProof.Rows

/-! ### an instance, its attributes a map -/
structure ObjM (h : Heap) (x dx C : Addr) (mA : Str → Option Value) : Prop where
  obj : h.get? x = some (PySem.W.instObj C dx)
  ns : h.Ns1 dx mA
  ne : dx ≠ x

theorem lookIn_ns {h : Heap} {dx : Addr} {mA : Str → Option Value} (n : h.Ns1 dx mA) : ∃ od, h.get? dx = some od ∧ ∀ name, PySem.W.lookIn name od = some (mA name) := by
  obtain ⟨o, es, ep, ho, hd, hk, _, hm⟩ := n
  refine ⟨o, ho, fun name => ?_⟩
  have e := hm name
  unfold nsFind findBy at e
  rw [← Array.find?_toList] at e
  unfold PySem.W.lookIn
  rw [hd]
  dsimp only
  split
  · rename_i y q
    rw [q] at e
    exact congrArg some e
  · rename_i q
    rw [q] at e
    have a : es.toList.any (·.refKey) = false := by
      rw [List.any_eq_false]
      intro y hy
      obtain ⟨z, t, hkey⟩ := hk y (Array.mem_toList_iff.mp hy)
      simp [DictEntry.refKey, hkey]
    have a' : ¬ es.toList.any (·.refKey) = true := by rw [a]; exact Bool.false_ne_true
    rw [if_neg a']
    exact congrArg some e

theorem ObjM.look {h : Heap} {x dx C : Addr} {mA : Str → Option Value} (I : ObjM h x dx C mA) : ∃ od, PySem.W.InstAt h x (PySem.W.instObj C dx) C (some od) ∧ ∀ name, PySem.W.lookIn name od = some (mA name) :=
  let ⟨od, ho, hl⟩ := lookIn_ns I.ns
  ⟨od, ⟨I.obj, rfl, rfl, ho⟩, hl⟩

section
variable {prog : Program} {w : World} {A : Around} {E : Value → Shared → Prop} {s : Shared} {K : PySem.W.Frag} {x dx C f : Addr} {mA : Str → Option Value} {name : Str} {v : Value}





end

/-! ### the attributes as a list of pairs -/
noncomputable def putF (f : Str) (v : V) : List (Str × V) → List (Str × V)
  | [] => [(f, v)]
  | (g, x) :: r => if g = f then (g, v) :: r else (g, x) :: putF f v r


section
variable {P : Program} {w : World} {H H' : Hp} {h h' : Heap} {a C dx : Addr} {fs fs' : List (Str × V)}
theorem ins_get (hok : HOk P w H h) (e : H a = some (.ins C dx fs)) : ∃ mA, ObjM h a dx C mA ∧ (∀ f, RelO (fs.lookup f) (mA f)) ∧ PySem.Within mA (fs.map (·.1)) ∧ fs.length ≤ 1000 ∧ H dx = some (.own a) := by
  obtain ⟨d, z, ne, ob, mA, n, r, q⟩ := (show ObjOk P w H h a (.ins C dx fs) from hok a _ e)
  exact ⟨mA, ⟨ob, n, ne⟩, r, q, z, d⟩
end

/-! ### what of the text a class must have -/
structure Cls (K : PySem.W.Frag) (C : Addr) : Prop where
  pg : PySem.W.plainGet K C Str.empty = true
  hd : PySem.W.hasDictIn K C = true
  po : PySem.W.plainOver K C = true
  sa : PySem.W.findIn K (.ref C) "__setattr__" = some (some (.builtin "object.__setattr__"))
theorem Cls.get {K : PySem.W.Frag} {C : Addr} (c : Cls K C) (f : Str) : PySem.W.plainGet K C f = true := c.pg
/-- no class of it has the name -/
noncomputable def NoAttr (K : PySem.W.Frag) (C : Addr) (f : Str) : Prop := PySem.W.findIn K (.ref C) f = some none
/-- a constant of the class -/
structure Con (K : PySem.W.Frag) (C : Addr) (f : Str) (v : V) (u : Value) : Prop where
  at_ : PySem.W.findIn K (.ref C) f = some (some u)
  rel : RelV v u
  get : PySem.W.specialIn K u "__get__" = some none
  cp : PySem.W.copiedNames.contains f = false
/-- a method: a plain def of the class or of one above it -/
structure Meth (K : PySem.W.Frag) (C : Addr) (m : Str) (f : Addr) : Prop where
  at_ : PySem.W.findIn K (.ref C) m = some (some (.ref f))
  fn : PySem.W.isFn K (.ref f) = true
  kp : PySem.W.keepIn K (.ref f) = true

section
variable {X : Cx} {pins : List (Addr × Obj)} {σ : St} {H : Hp} {s : Shared} {a C dx : Addr} {fs : List (Str × V)} {f : Str} {v : V} {A : Around} {E : Value → Shared → Prop}






end

/-! ### readings and rules -/
/-- e.f, an attribute of the instance -/
noncomputable def tFld (K : PySem.W.Frag) (ta : TE) (f : Str) : TE := fun σ H Q => ta σ H fun x H1 => ∃ a C dx fs v, x = .ref a ∧ H1 a = some (.ins C dx fs) ∧ Cls K C ∧ NoAttr K C f ∧ fs.lookup f = some v ∧ Q v H1
/-- e.f, a constant of the class -/
noncomputable def tCon (K : PySem.W.Frag) (ta : TE) (f : Str) : TE := fun σ H Q => ta σ H fun x H1 => ∃ a C dx fs v u, x = .ref a ∧ H1 a = some (.ins C dx fs) ∧ Cls K C ∧ Con K C f v u ∧ fs.lookup f = none ∧ Q v H1
/-- e.f = value -/
noncomputable def sFld (K : PySem.W.Frag) (ta tv : TE) (f : Str) : TS := fun D σ H => tv σ H fun y H1 => ta σ H1 fun x H2 => ∃ a C dx fs, x = .ref a ∧ H2 a = some (.ins C dx fs) ∧ Cls K C ∧ NoAttr K C f ∧ fs.length < 1000 ∧
  D.nx σ (upd H2 a (.ins C dx (putF f y fs)))
/-- an augmented operator on two values -/
noncomputable def InOp (X : Cx) (op : Operator) (rd : V → V → Hp → VK → Prop) : Prop :=
  ∀ (pins : List (Addr × Obj)) (s : Shared) (σ : St) (H : Hp) (x y : V) (u v : Value) (Q : VK), Inv X pins σ H s → RelV x u → RelV y v → rd x y H Q → wpAny (model X.prog X.w) X.A (inplaceOp op u v) (EP X pins σ Q) X.xe s
/-- e.f op= value -/
noncomputable def sFldAug (K : PySem.W.Frag) (ta tv : TE) (rd : V → V → Hp → VK → Prop) (f : Str) : TS := fun D σ H => ta σ H fun x H1 => ∃ a C dx fs v, x = .ref a ∧ H1 a = some (.ins C dx fs) ∧ Cls K C ∧ NoAttr K C f ∧ fs.lookup f = some v ∧
  tv σ H1 fun y H2 => rd v y H2 fun z H3 => ∃ dx' fs', H3 a = some (.ins C dx' fs') ∧ fs'.length < 1000 ∧ D.nx σ (upd H3 a (.ins C dx' (putF f z fs')))

section
variable {X : Cx} {o e value : Expr} {f : Str} {pos pos' tpos : Pos} {ta tv : TE}
noncomputable def rAdd : V → V → Hp → VK → Prop := fun x y H Q => ∃ i j, x = .int i ∧ y = .int j ∧ Q (.int (i + j)) H
noncomputable def rSub : V → V → Hp → VK → Prop := fun x y H Q => ∃ i j, x = .int i ∧ y = .int j ∧ Q (.int (i - j)) H

end

/-! ### isinstance -/
section
variable {X : Cx} {pins : List (Addr × Obj)} {σ : St} {H : Hp} {s : Shared} {A : Around} {E : Value → Shared → Prop} {Q : Value → Shared → Prop} {c : Value} {b : Bool}
/-- the type of a value, as the fragment's deciders take it; for an instance its class -/
inductive TyOf (K : PySem.W.Frag) (H : Hp) : V → Value → Prop where
  | non : TyOf K H .non (.type "NoneType")
  | bl (x : Bool) : TyOf K H (.bl x) (.type "bool")
  | int (i : Int) : TyOf K H (.int i) (.type "int")
  | str (x : Str) : TyOf K H (.str x) (.type "str")
  | flt (x : UInt64) : TyOf K H (.flt x) (.type "float")
  | lst {a : Addr} {xs : List V} (e : H a = some (.lst xs)) : TyOf K H (.ref a) (.type "list")
  | frz {a : Addr} {o : Obj} {xs : List V} (e : H a = some (.frz o (.lst xs))) : TyOf K H (.ref a) (.type "list")
  | tup {a : Addr} {xs : List V} (e : H a = some (.tup xs)) : TyOf K H (.ref a) (.type "tuple")
  | dK {a : Addr} {kvs : List (Key × V)} (e : H a = some (.dK kvs)) : TyOf K H (.ref a) (.type "dict")
  | dT {a : Addr} {kvs : List (List Key × V)} (e : H a = some (.dT kvs)) : TyOf K H (.ref a) (.type "dict")
  | ins {a C dx : Addr} {fs : List (Str × V)} (e : H a = some (.ins C dx fs)) (cl : Cls K C) (ha : PySem.W.findIn K (.ref C) "__class__" = some (some (.builtin "object.__class__")))
      (hn : PySem.W.specialIn K (.builtin "object.__class__") "__get__" = some (some (.builtin "getset_descriptor.__get__"))) (htk : PySem.W.takesIn K (.builtin "object.__class__") = some true)
      (hm : PySem.W.mroIn K C (.type "object") = some true) : TyOf K H (.ref a) (.ref C)
/-- isinstance(x, c) for one class c, a built-in or an own one: kitOne's answer -/
theorem isinst_ok {x : V} {u t : Value} (I : Inv X pins σ H s) (rx : RelV x u) (ty : TyOf X.K H x t) (e : PySem.W.kitOne X.K t c = some b) (h : ∀ tk, Q (.bool b) { s with toks := tk }) :
    wpAny (model X.prog X.w) A (call (.builtin "isinstance") [u, c]) Q E s := by
  cases ty with
  | non => cases (show u = Value.none from rx); exact PySem.W.kia_one PySem.W.kitx_none I.kIn True.intro e (fun z => nomatch z) h
  | bl y => cases (show u = Value.bool y from rx); exact PySem.W.kia_one PySem.W.kitx_bool I.kIn True.intro e (fun z => nomatch z) h
  | int i => obtain ⟨t, q⟩ := (show ∃ t, u = Value.int i t from rx); cases q; exact PySem.W.kia_one PySem.W.kitx_int I.kIn True.intro e (fun z => nomatch z) h
  | str y => obtain ⟨t, q⟩ := (show ∃ t, u = Value.str y t from rx); cases q; exact PySem.W.kia_one PySem.W.kitx_str I.kIn True.intro e (fun z => nomatch z) h
  | flt y => obtain ⟨t, q⟩ := (show ∃ t, u = Value.float y t from rx); cases q; exact PySem.W.kia_one PySem.W.kitx_float I.kIn True.intro e (fun z => nomatch z) h
  | @lst a xs ea =>
    cases (show u = Value.ref a from rx)
    obtain ⟨_, _, n, _, h1⟩ := (show ObjOk X.prog X.w H s.heap a (.lst xs) from I.hok a _ ea)
    exact PySem.W.kia_one PySem.W.kitx_list I.kIn ⟨_, h1, rfl⟩ e (fun z => nomatch z) h
  | @frz a ob xs ea =>
    cases (show u = Value.ref a from rx)
    obtain ⟨_, _, _, n, _, h1⟩ := (show ObjOk X.prog X.w H s.heap a (.frz ob (.lst xs)) from I.hok a _ ea)
    exact PySem.W.kia_one PySem.W.kitx_list I.kIn ⟨_, h1, rfl⟩ e (fun z => nomatch z) h
  | @tup a xs ea =>
    cases (show u = Value.ref a from rx)
    obtain ⟨_, _, _, p⟩ := (show ObjOk X.prog X.w H s.heap a (.tup xs) from I.hok a _ ea)
    obtain ⟨o, h1, h2, _⟩ := p
    exact PySem.W.kia_one PySem.W.kitx_tuple I.kIn ⟨o, h1, h2⟩ e (fun z => nomatch z) h
  | @dK a kvs ea =>
    cases (show u = Value.ref a from rx)
    obtain ⟨_, _, vs, _, p⟩ := (show ObjOk X.prog X.w H s.heap a (.dK kvs) from I.hok a _ ea)
    obtain ⟨o, es, ep, h1, h2, _⟩ := p
    exact PySem.W.kia_one PySem.W.kitx_dict I.kIn ⟨o, h1, h2.1⟩ e (fun z => nomatch z) h
  | @dT a kvs ea =>
    cases (show u = Value.ref a from rx)
    obtain ⟨_, _, xs, _, o, es, ep, h1, h2, _⟩ := (show ObjOk X.prog X.w H s.heap a (.dT kvs) from I.hok a _ ea)
    exact PySem.W.kia_one PySem.W.kitx_dict I.kIn ⟨o, h1, h2.1⟩ e (fun z => nomatch z) h
  | @ins a C dx fs ea cl ha hn htk hm =>
    cases (show u = Value.ref a from rx)
    obtain ⟨mA, O, _⟩ := ins_get I.hok ea
    obtain ⟨od, J, _⟩ := O.look
    exact PySem.W.kia_one (PySem.W.kitx_own (cl.get _) cl.hd ha hn htk hm) I.kIn J e (fun z => nomatch z) h
end
end L2

namespace L2
open PySem PySem.Spec PyProof.Rows

/-! ### room -/
structure Room (k : Nat) (A : Around) : Prop where
  hd : A.handled = none
  dp : A.depth + 3 * k + 5 < recursionLimit
  un : A.units + 16 * k + 200 < cLine
theorem Room.mono {j k : Nat} {A : Around} (r : Room k A) (h : j ≤ k) : Room j A := ⟨r.hd, by have := r.dp; omega, by have := r.un; omega⟩
theorem Room.deeper {k : Nat} {A : Around} (r : Room (k + 1) A) (env : Env) : Room k (A.deeper env) :=
  ⟨r.hd, by have := r.dp; show A.depth + 1 + 3 * k + 5 < _; omega, by have := r.un; show A.units + 3 + 16 * k + 200 < _; omega⟩
theorem Room.depth {k : Nat} {A : Around} (r : Room k A) : A.depth < recursionLimit := by have := r.dp; omega

/-! ### argument lists and displays -/
noncomputable def tNil : TA := fun _ H Q => Q [] H
noncomputable def tCons (ta : TE) (tr : TA) : TA := fun σ H Q => ta σ H fun x H1 => tr σ H1 fun xs H2 => Q (x :: xs) H2
section
variable {X : Cx} {e : Expr} {es : List Expr} {te : TE} {t : TA} {pos : Pos}
theorem pa_nil : PA X [] tNil := fun _ _ _ _ H Q I h => Calls.spliced_nil ⟨[], H, I, .nil, h⟩
theorem pa_cons (ha : PE X e te) (hr : PA X es t) (hs : starEach (e :: es) X.env = (false, eval e X.env) :: starEach es X.env := by rfl) : PA X (e :: es) (tCons te t) := by
  intro pos pins s σ H Q I h
  rw [hs]
  show wpAny _ _ (spliced ((false, eval e X.env) :: backTo pos (starEach es X.env))) _ _ s
  refine Calls.spliced_cons (thn (ha pins s σ H _ I h) fun u s1 ⟨x, H1, I1, r1, q1⟩ => ?_)
  exact thn (hr pos pins s1 σ H1 _ I1 q1) fun us s2 ⟨xs, H2, I2, r2, q2⟩ => ⟨x :: xs, H2, I2, .cons r1 r2, q2⟩

/-- a tuple, a list of written items -/
noncomputable def tTup (t : TA) : TE := fun σ H Q => t σ H fun xs H1 => xs.length ≤ sizeLine ∧ ∀ p, H1 p = none → Q (.ref p) (upd H1 p (.tup xs))
noncomputable def tLst (t : TA) : TE := fun σ H Q => t σ H fun xs H1 => xs.length ≤ sizeLine ∧ ∀ p, H1 p = none → Q (.ref p) (upd H1 p (.lst xs))
theorem pe_tup {x1} (h : PA X es t) : PE X (.Tuple es x1 pos) (tTup t) := by
  intro pins s σ H Q I hq
  refine wpAny_Tuple_spliced (thn (h pos pins s σ H _ I hq) fun us s1 ⟨xs, H1, I1, r, z, q⟩ => ⟨by rw [← r.length]; exact z, ?_⟩)
  have hf : H1 s1.heap.objs.size = none := I1.hok.fresh (Nat.le_refl _)
  refine ⟨.ref s1.heap.objs.size, upd H1 s1.heap.objs.size (.tup xs), I1.laid (t' := s1.toks) (fun b u e => Heap.get?_push_of_some _ e) (Nat.le_refl _) ?_, rfl, q _ hf⟩
  exact ⟨z, us, r, ⟨_, Heap.get?_push_size _ rfl, rfl, _, rfl⟩⟩
theorem pe_lst (h : PA X es t) : PE X (.List es pos) (tLst t) := by
  intro pins s σ H Q I hq
  refine wpAny_List_spliced (thn (h pos pins s σ H _ I hq) fun us s1 ⟨xs, H1, I1, r, z, q⟩ => ⟨by rw [← r.length]; exact z, ?_⟩)
  have hf : H1 s1.heap.objs.size = none := I1.hok.fresh (Nat.le_refl _)
  refine ⟨.ref s1.heap.objs.size, upd H1 s1.heap.objs.size (.lst xs), I1.laid (t' := s1.toks) (fun b u e => Heap.get?_push_of_some _ e) (Nat.le_refl _) ?_, rfl, q _ hf⟩
  exact ⟨z, us, 0, r, Heap.get?_push_size _ rfl⟩
end

/-! ### what a def promises -/
/-- a def's promise: the bound arguments in the parameters' order, the heap, the wanted end, the wanted exception -/
noncomputable abbrev Sp := List V → Hp → VK → XK → Prop
/-- how an exception lies behind a call (file 08 gives it): the callers' frames, abstract heap and state ahead of the call, the wish, the exception, the state -/
noncomputable abbrev CXT := List Env → Hp → Shared → XK → Value → Shared → Prop

/-- the state at a call -/
structure Env0 (P : Program) (w : World) (K : PySem.W.Frag) (mg : Str → Option Value) (base : Heap) (A : Around) (outer : List Env) (s : Shared) (H : Hp) : Prop where
  frames : A.frames = some outer
  mod : Mod K mg base
  bs : ∀ b o, base.get? b = some o → s.heap.get? b = some o ∧ H b = none
  bsz : base.objs.size ≤ s.heap.objs.size
  funs : s.heap.FunFrames base outer
  frf : ∀ b ∈ frs outer, H b = none
  hok : HOk P w H s.heap
  bare : AllBare s.gens
/-- a call's end -/
noncomputable def CE (outer : List Env) (P : Program) (w : World) (H : Hp) (s : Shared) (Q : VK) (u : Value) (s' : Shared) : Prop :=
  ∃ v H', s'.os = s.os ∧ AllBare s'.gens ∧ Un (frs outer) [] H H' s.heap s'.heap ∧ HOk P w H' s'.heap ∧ RelV v u ∧ Q v H'
noncomputable def CR (CX : CXT) (outer : List Env) (P : Program) (w : World) (H : Hp) (s : Shared) (Q : VK) (E : XK) (r : Result) (s' : Shared) : Prop :=
  match r with
  | .ok (.ret u) => CE outer P w H s Q u s'
  | .ok _ => False
  | .error e => CX outer H s E e s'
structure FnOk (P : Program) (w : World) (K : PySem.W.Frag) (mg : Str → Option Value) (base : Heap) (CX : CXT) (k : Nat) (f : Addr) (fd : FuncData) (ps : List Str) (sp : Sp) : Prop where
  len : ∀ vs H Q E, sp vs H Q E → vs.length = ps.length
  run : ∀ (A : Around) (outer : List Env) (s : Shared) (H : Hp) (args : Args) (us : List Value) (vs : List V) (Q : VK) (E : XK), Room k A → Env0 P w K mg base A outer s H → BindsTo s fd args (ps.zip us) → Vals vs us → sp vs H Q E →
    codeAny (model P w) A (.call (.ref f) args) (CR CX outer P w H s Q E) s


section
variable {X : Cx} {pins : List (Addr × Obj)} {σ : St} {H : Hp} {s s' : Shared}
/-- from a body: what a callee wants -/
theorem Inv.env0 (I : Inv X pins σ H s) : Env0 X.prog X.w X.K X.mg X.base X.A X.stack s H :=
  ⟨I.ok.frames, I.ok.mod, I.bs, Nat.le_trans I.ok.bsz I.sz, I.stack, I.stkFree, I.hok, I.bare⟩
/-- behind a call -/
theorem Inv.after {Q : VK} {u : Value} (I : Inv X pins σ H s) (h : CE X.stack X.prog X.w H s Q u s') : EP X pins σ Q u s' := by
  obtain ⟨v, H', os, bare, un, hok, r, q⟩ := h
  obtain ⟨hh, g, d, t, os'⟩ := s'
  obtain rfl : os' = s.os := os
  exact ⟨v, H', I.call (h' := hh) (g' := g) (d' := d) (t' := t) (ch := []) un hok bare (fun b z => absurd z (by simp)), r, q⟩
end

/-! ### calls -/
/-- f(..): the written arguments, then the defaults dvs; E: what is wanted of an exception -/
noncomputable def tCall (sp : Sp) (dvs : List V) (E : XK) (t : TA) : TE := fun σ H Q => t σ H fun vs H1 => sp (vs ++ dvs) H1 Q E
/-- o.m(..) of an instance of the class at C -/
noncomputable def tMeth (C : Addr) (m : Str) (sp : Sp) (dvs : List V) (E : XK) (ta : TE) (t : TA) : TE := fun σ H Q => ta σ H fun x H1 => ∃ a dx fs, x = .ref a ∧ H1 a = some (.ins C dx fs) ∧ fs.lookup m = none ∧
  t σ H1 fun vs H2 => sp (x :: (vs ++ dvs)) H2 Q E
/-- C(..): a new instance and its dict, then __init__ -/
noncomputable def tMake (C : Addr) (sp : Sp) (dvs : List V) (E : XK) (t : TA) : TE := fun σ H Q => t σ H fun vs H1 => ∀ x dx, H1 x = none → H1 dx = none → dx ≠ x →
  sp (.ref x :: (vs ++ dvs)) (upd (upd H1 dx (.own x)) x (.ins C dx [])) (fun v H2 => v = .non ∧ Q (.ref x) H2) E

/-- how the parameters are bound: us the positional arguments, kw the keywords' values by name, ds the defaults that fill up -/
noncomputable def Binds (K : PySem.W.Frag) (fd : FuncData) (ps : List Str) (ds : List Value) : Prop :=
  ∀ (s : Shared) (us : List Value), K.In s.heap → (us ++ ds).length = ps.length → BindsTo s fd ⟨us, []⟩ (ps.zip (us ++ ds))
/-- every parameter is given -/
theorem Binds.all {K : PySem.W.Frag} {fd : FuncData} {ps : List Str} (h : ∀ us : List Value, us.length = ps.length → bindArgs fd ⟨us, []⟩ = pure (ps.zip us)) : Binds K fd ps [] := fun s us _ hl => by
  rw [List.append_nil] at hl ⊢
  exact .of_eq (h us hl)

/-- an exception of a callee reaches what this body wants of exceptions -/
noncomputable def Passes (CX : CXT) (X : Cx) (E : XK) : Prop := ∀ (pins : List (Addr × Obj)) (σ : St) (H : Hp) (s : Shared) (e : Value) (s' : Shared), Inv X pins σ H s → CX X.stack H s E e s' → X.xe e s'

section
variable {X : Cx} {CX : CXT} {k : Nat} {f C : Addr} {fd : FuncData} {ps : List Str} {sp : Sp} {dvs : List V} {ds : List Value} {E : XK} {x m : Str} {p pos apos : Pos} {e o : Expr} {es : List Expr} {ta : TE} {t : TA}

/-- the callee runs -/
theorem run_fn {pins : List (Addr × Obj)} {σ : St} {H : Hp} {s : Shared} {Q : VK} {us : List Value} {vs : List V} (F : FnOk X.prog X.w X.K X.mg X.base CX k f fd ps sp) (hr : Room k X.A) (hb : Binds X.K fd ps ds) (hd : Vals dvs ds) (hx : Passes CX X E)
    (I : Inv X pins σ H s) (r : Vals vs us) (h : sp (vs ++ dvs) H Q E) : wpAny (model X.prog X.w) X.A (call (.ref f) us) (EP X pins σ Q) X.xe s := by
  have r2 : Vals (vs ++ dvs) (us ++ ds) := r.append hd
  have hl : (us ++ ds).length = ps.length := by rw [← r2.length]; exact F.len _ _ _ _ h
  refine wpAny_call (codeAny_mono (F.run X.A X.stack s H ⟨us, []⟩ (us ++ ds) (vs ++ dvs) Q E hr I.env0 (hb s us I.kIn hl) r2 h) fun r s' hq => ?_)
  cases r with
  | error e => exact hx pins σ H s e s' I hq
  | ok fl =>
    cases fl with
    | ret u => exact I.after hq
    | next => exact False.elim hq
    | brk => exact False.elim hq
    | cont => exact False.elim hq

theorem pe_call (F : FnOk X.prog X.w X.K X.mg X.base CX k f fd ps sp) (hr : Room k X.A) (hg : Gl X x) (hm : X.mg x = some (.ref f)) (hk : PySem.W.keepIn X.K (.ref f) = true) (hb : Binds X.K fd ps ds) (hd : Vals dvs ds) (hx : Passes CX X E)
    (ha : PA X (e :: es) t) (hdb : (x == ("__debug__" : Str)) = false := by decide) (he : starEach (e :: es) X.env = (false, eval e X.env) :: starEach es X.env := by rfl) (hpl : (backTo pos (starEach es X.env)).any (·.1) = false := by rfl) :
    PE X (.Call (.Name x p) (e :: es) [] pos) (tCall sp dvs E t) := by
  intro pins s σ H Q I h
  refine wpAny_Call_Name_kw (ld_glob I hg hm ?_ hdb)
  refine PySem.W.callWith_K (h₀ := X.base) I.ok.mod.kin hk (thn (ha pos pins s σ H _ I h) fun us s1 ⟨vs, H1, I1, r, q⟩ => ⟨I1.kIn, ?_⟩) he hpl
  exact run_fn F hr hb hd hx I1 r q


/-- what a class must have to be made -/
structure Mk (K : PySem.W.Frag) (C f : Addr) : Prop where
  makes : PySem.W.makesIn K C = true
  init : PySem.W.findIn K (.ref C) "__init__" = some (some (.ref f))
  fn : PySem.W.isFn K (.ref f) = true
  kp : PySem.W.keepIn K (.ref C) = true

end

/-! ### keywords -/
/-- the values of the keywords, from the left -/
noncomputable def PK (X : Cx) (kws : List Keyword) (t : TA) : Prop :=
  ∀ (pos : Pos) (pins : List (Addr × Obj)) (s : Shared) (σ : St) (H : Hp) (Q : List V → Hp → Prop), Inv X pins σ H s → t σ H Q → wpAny (model X.prog X.w) X.A (evalAll ((backToKw pos (keywordEach kws X.env)).map (·.2))) (AP X pins σ Q) X.xe s
section
variable {X : Cx} {CX : CXT} {k : Nat} {f C : Addr} {fd : FuncData} {ps ks : List Str} {sp : Sp} {E : XK} {x m : Str} {p pos apos kpos : Pos} {e o : Expr} {es : List Expr} {kws : List Keyword} {te ta : TE} {t tk : TA} {nm : Option Str}
theorem pk_nil : PK X [] tNil := fun _ _ _ _ H Q I h => wpAny_evalAll_nil ⟨[], H, I, .nil, h⟩
theorem pk_cons (ha : PE X e te) (hr : PK X kws t) : PK X (⟨nm, e, kpos⟩ :: kws) (tCons te t) := by
  intro pos pins s σ H Q I h
  show wpAny _ _ (evalAll ((do let v ← eval e X.env; standAt pos; pure v) :: (backToKw pos (keywordEach kws X.env)).map (·.2))) _ _ s
  refine wpAny_evalAll_cons (wpAny_bind (thn (ha pins s σ H _ I h) fun u s1 ⟨x, H1, I1, r1, q1⟩ => wpAny_bind (wpAny_standAt (wpAny_pure ?_))))
  exact thn (hr pos pins s1 σ H1 _ I1 q1) fun us s2 ⟨xs, H2, I2, r2, q2⟩ => ⟨x :: xs, H2, I2, .cons r1 r2, q2⟩

/-- how a call with keywords binds: g puts the positional values us and the keywords' values ws (names ks) in the parameters' order, defaults among them -/
structure KBinds (K : PySem.W.Frag) (fd : FuncData) (ps ks : List Str) (g : List Value → List Value → List Value) (gV : List V → List V → List V) : Prop where
  to : ∀ (s : Shared) (us ws : List Value), K.In s.heap → (g us ws).length = ps.length → BindsTo s fd ⟨us, ks.zip ws⟩ (ps.zip (g us ws))
  rel : ∀ {vs : List V} {us : List Value} {zs : List V} {ws : List Value}, Vals vs us → Vals zs ws → Vals (gV vs zs) (g us ws)
noncomputable def tCallK (sp : Sp) (gV : List V → List V → List V) (E : XK) (t tk : TA) : TE := fun σ H Q => t σ H fun vs H1 => tk σ H1 fun zs H2 => sp (gV vs zs) H2 Q E
variable {g : List Value → List Value → List Value} {gV : List V → List V → List V}
end

/-! ### a def's body keeps its promise -/
/-- names: the parameters first -/
structure FnScope (N P : List Str) (sc : Scope) : Prop where
  kind : sc.kind = .function
  co : sc.isCoroutine = false
  gen : sc.isGenerator = false
  nd : N.Nodup
  pre : N.take P.length = P
  par : ∀ x ∈ P, sc.names.lookup x = some .local ∨ sc.names.lookup x = some .cell
  nofree : ∀ y ∈ sc.names, y.2 ≠ .free

theorem bindL_out {kindOf : Str → Option NameKind} {x : Str} : ∀ {binds : List (Str × Value)} {m : Str → Option Value}, (∀ v, (x, v) ∉ binds) → bindL kindOf binds m x = m x
  | [], _, _ => rfl
  | (n, v) :: r, m, h => by
    unfold bindL
    rw [bindL_out fun w hw => h w (List.mem_cons_of_mem _ hw)]
    split
    · have : x ≠ n := by rintro rfl; exact h v List.mem_cons_self
      simp [this]
    · rfl
theorem bindC_out {kindOf : Str → Option NameKind} {x : Str} : ∀ {binds : List (Str × Value)} {m : Str → Option Value}, (∀ v, (x, v) ∉ binds) → bindC kindOf binds m x = m x
  | [], _, _ => rfl
  | (n, v) :: r, m, h => by
    unfold bindC
    rw [bindC_out fun w hw => h w (List.mem_cons_of_mem _ hw)]
    split
    · rfl
    · have : x ≠ n := by rintro rfl; exact h v List.mem_cons_self
      simp [this]
theorem bindL_get {kindOf : Str → Option NameKind} {x : Str} {v : Value} : ∀ {P : List Str} {vs : List Value} {i : Nat} {m : Str → Option Value}, P.Nodup → P[i]? = some x → vs[i]? = some v → kindOf x = some .local →
    bindL kindOf (P.zip vs) m x = some v
  | [], _, _, _, _, h, _, _ => by simp at h
  | _ :: _, [], _, _, _, _, h, _ => by simp at h
  | p :: P, w :: vs, 0, m, nd, h1, h2, hk => by
    simp at h1 h2; subst h1; subst h2
    show bindL kindOf ((p, w) :: P.zip vs) m p = _
    unfold bindL
    rw [bindL_out fun v hv => (List.nodup_cons.mp nd).1 (List.of_mem_zip hv).1, if_pos hk]
    simp
  | p :: P, w :: vs, i + 1, m, nd, h1, h2, hk => by
    show bindL kindOf ((p, w) :: P.zip vs) m x = _
    unfold bindL
    exact bindL_get (i := i) (List.nodup_cons.mp nd).2 (by simpa using h1) (by simpa using h2) hk
theorem bindC_get {kindOf : Str → Option NameKind} {x : Str} {v : Value} : ∀ {P : List Str} {vs : List Value} {i : Nat} {m : Str → Option Value}, P.Nodup → P[i]? = some x → vs[i]? = some v → kindOf x ≠ some .local →
    bindC kindOf (P.zip vs) m x = some v
  | [], _, _, _, _, h, _, _ => by simp at h
  | _ :: _, [], _, _, _, _, h, _ => by simp at h
  | p :: P, w :: vs, 0, m, nd, h1, h2, hk => by
    simp at h1 h2; subst h1; subst h2
    show bindC kindOf ((p, w) :: P.zip vs) m p = _
    unfold bindC
    rw [bindC_out fun v hv => (List.nodup_cons.mp nd).1 (List.of_mem_zip hv).1, if_neg hk]
    simp
  | p :: P, w :: vs, i + 1, m, nd, h1, h2, hk => by
    show bindC kindOf ((p, w) :: P.zip vs) m x = _
    unfold bindC
    exact bindC_get (i := i) (List.nodup_cons.mp nd).2 (by simpa using h1) (by simpa using h2) hk

/-- the names' values at the entry -/
noncomputable def start (N : List Str) (vs : List V) : St := vs.map some ++ List.replicate (N.length - vs.length) none

/-- the context of a def's body, at its entry; an exception leaves the frame, then lies as CX says -/
noncomputable def cxOf (CX : CXT) (P : Program) (w : World) (K : PySem.W.Frag) (mg : Str → Option Value) (base : Heap) (N : List Str) (qual : Str) (scope : Scope) (f : Addr) (cd : Value) (A : Around) (outer : List Env) (s : Shared) (H : Hp) (E : XK) : Cx where
  prog := P
  w := w
  K := K
  mg := mg
  base := base
  A := A.deeper (envOfC qual scope s.heap.objs.size f cd)
  N := N
  s₀ := s
  H₀ := H
  env := envOfC qual scope s.heap.objs.size f cd
  outer := outer
  stack := envOfC qual scope s.heap.objs.size f cd :: outer
  ex := []
  calm := true
  fn := fun _ => true
  pn := []
  xe := fun e s' => wpAny (model P w) (A.deeper (envOfC qual scope s.heap.objs.size f cd)) (leaving (envOfC qual scope s.heap.objs.size f cd) e) (fun _ s'' => CX outer H s E e s'') (fun e' s'' => CX outer H s E e' s'') s'

theorem cell_has {sc : Scope} {n : Nat} {x : Str} (h : sc.names.lookup x = some .cell) : ∃ c, (cellsFrom n sc.names []).lookup x = some c := by
  have q := PySem.W.cellsFrom_some sc.names n [] (.inl h)
  exact Option.isSome_iff_exists.mp q

theorem inv_start {CX : CXT} {P : Program} {w : World} {K : PySem.W.Frag} {mg : Str → Option Value} {base : Heap} {N ps : List Str} {qual : Str} {scope : Scope} {f : Addr} {cd : Value} {A : Around} {outer : List Env} {s s1 : Shared} {H : Hp} {E : XK} {us : List Value} {vs : List V}
    (S : FnScope N ps scope) (hd : A.handled = none) (e0 : Env0 P w K mg base A outer s H) (hl : vs.length = ps.length) (r : Vals vs us)
    (x : InCallC s s.heap.objs.size (bindL (envOfC qual scope s.heap.objs.size f cd).kindOf (ps.zip us) fun _ => none) (cellsFrom (s.heap.objs.size + 1) scope.names []) (bindC (envOfC qual scope s.heap.objs.size f cd).kindOf (ps.zip us) fun _ => none) s1) :
    Inv (cxOf CX P w K mg base N qual scope f cd A outer s H E) [] (start N vs) H s1 := by
  have hpl : ps.length ≤ N.length := by have := congrArg List.length S.pre; rw [List.length_take] at this; omega
  obtain ⟨h1, tk, rfl, hk⟩ := x.done
  have noA : ∀ b : Addr, b ∉ (cxOf CX P w K mg base N qual scope f cd A outer s H E).ex := fun b z => absurd (show b ∈ ([] : List Addr) from z) (by simp)
  refine ⟨⟨e0.mod, S.kind, rfl, rfl, Nat.le_refl _, fun y z c h1 h2 => ?_, fun y hy => ?_, fun y c _ h => ?_, fun _ => hd, Around.frames_deeper e0.frames, .inr ⟨rfl, rfl⟩, fun b z => absurd z (noA b), e0.bs, e0.bsz, fun b _ _ => noA b, fun b z => absurd z (noA b), e0.funs, e0.frf⟩,
    rfl, e0.bare, Un.kept hk, ⟨_, x.toInCall.ns, fun i y v h1 h2 h3 => ?_⟩, fun y c h => ⟨_, x.cell y c h⟩, e0.hok.fresh (Nat.le_refl _), fun y c h => ?_, fun p hp => absurd (show p ∈ ([] : List (Addr × Obj)) from hp) (by simp), e0.hok.kept hk, ?_⟩
  · exact name_of_addr x.apart (PySem.mem_of_lookup h1) (PySem.mem_of_lookup h2)
  · have hy : scope.names.lookup y = some .cell ∨ scope.names.lookup y = some .free := hy
    rcases hy with hy | hy
    · exact cell_has hy
    · exact absurd rfl (S.nofree _ (PySem.mem_of_lookup hy))
  · exact Nat.le_of_lt (x.above y c (PySem.mem_of_lookup h))
  · have hi : i < vs.length := by
      unfold start at h2
      by_cases hi : i < vs.length
      · exact hi
      · rw [List.getElem?_append_right (by simpa using hi)] at h2
        rw [List.getElem?_replicate] at h2
        split at h2 <;> cases h2
    have ha : vs[i]? = some v := by
      unfold start at h2
      rw [List.getElem?_append_left (by simpa using hi), List.getElem?_map] at h2
      cases e : vs[i]? with
      | none => rw [e] at h2; cases h2
      | some a => rw [e] at h2; cases h2; rfl
    obtain ⟨u, hu, rv⟩ := r.get ha
    have hp : ps[i]? = some y := by
      rw [← S.pre, List.getElem?_take_of_lt (by omega)]; exact h1
    have ndP : ps.Nodup := by rw [← S.pre]; exact S.nd.sublist (List.take_sublist _ _)
    refine ⟨u, rv, ?_⟩
    rcases S.par y (List.mem_of_getElem? hp) with k | k
    · exact .inl ⟨k, bindL_get ndP hp hu k⟩
    · obtain ⟨c, e⟩ := cell_has (n := s.heap.objs.size + 1) k
      refine .inr ⟨.inl k, c, e, ?_⟩
      have q := x.cell y c e
      rw [bindC_get ndP hp hu (by show scope.names.lookup y ≠ _; rw [k]; decide)] at q
      exact q
  · exact e0.hok.fresh (Nat.le_of_lt (x.above y c (PySem.mem_of_lookup h)))
  · unfold start
    show _ = N.length
    rw [List.length_append, List.length_map, List.length_replicate]
    omega

/-- THE RULE: a def (or a method) of the text, by its body. The body's reading t is chosen for each entry; it is run at the parameters' values -/
theorem fn_of {CX : CXT} {P : Program} {w : World} {K : PySem.W.Frag} {mg : Str → Option Value} {base : Heap} {k : Nat} {f : Addr} {name qual : Str} {params : Arguments} {body : List Stmt} {scope : Scope} {dV kV doc pm cdv ct oc : Value} {an od : Option Addr}
    {osl : Array (Option Value)} {N ps : List Str} {sp : Sp} (lk : K.lookup f = some ⟨oc, od, .func (PySem.W.fnOf name qual params body scope dV kV doc pm an cdv ct), osl⟩) (hcd : PySem.W.codeIn K cdv qual = true) (S : FnScope N ps scope)
    (len : ∀ vs H Q E, sp vs H Q E → vs.length = ps.length)
    (hbody : ∀ (A : Around) (outer : List Env) (s : Shared) (H : Hp) (vs : List V) (Q : VK) (E : XK), Room k (A.deeper (envOfC qual scope s.heap.objs.size f cdv)) → sp vs H Q E →
      ∃ t, PSs (cxOf CX P w K mg base N qual scope f cdv A outer s H E) body t ∧ t { nx := fun _ H' => Q .non H', rt := Q } (start N vs) H) :
    FnOk P w K mg base CX (k + 1) f (PySem.W.fnOf name qual params body scope dV kV doc pm an cdv ct) ps sp := by
  refine ⟨len, fun A outer s H args us vs Q E hr e0 hb r hsp => ?_⟩
  have hl := len _ _ _ _ hsp
  have KX : K.In s.heap := e0.mod.kin.keeps fun b o e => (e0.bs b o e).1
  have lim : s.heap.NoLimit := e0.mod.nolimit.keeps fun b o e => (e0.bs b o e).1
  have hkind : ∀ y ∈ ps.zip us, scope.names.lookup y.1 = some .local ∨ (scope.names.lookup y.1 = some .cell ∧ ((cellsFrom (s.heap.objs.size + 1) scope.names []).lookup y.1).isSome = true) := fun ⟨n, v⟩ hy => by
    rcases S.par n (List.of_mem_zip hy).1 with q | q
    · exact .inl q
    · exact .inr ⟨q, PySem.W.cellsFrom_some _ _ _ (.inl q)⟩
  refine codeAny_call_function hr.depth (KX _ _ lk) rfl S.co S.gen rfl (PySem.W.codeRec_of KX hcd) (hb _ _ _ _ ?_)
  refine wpAny_newFunctionEnv_cells S.kind hkind fun env he s1 x => ?_
  subst he
  refine ⟨lim.keeps x.toInCall.keep, codeAny_func ?_⟩
  obtain ⟨t, ht, hq⟩ := hbody A outer s H vs Q E (hr.deeper _) hsp
  have I : Inv (cxOf CX P w K mg base N qual scope f cdv A outer s H E) [] (start N vs) H s1 := inv_start S hr.hd e0 hl r x
  refine wpAny_mono (ht [] s1 (start N vs) H _ I hq) (fun fl s' hs => ?_) fun e s' hs => hs
  have fin : ∀ {σ' : St} {H' : Hp} {v : V} {u : Value}, Inv (cxOf CX P w K mg base N qual scope f cdv A outer s H E) [] σ' H' s' → RelV v u → Q v H' → CE outer P w H s Q u s' :=
    fun {σ' H' v u} J rv q => ⟨v, H', J.os, J.bare, J.base, J.hok, rv, q⟩
  cases fl with
  | ret u =>
    obtain ⟨v, σ', H', J, rv, q⟩ := hs
    exact fin J rv q
  | next =>
    obtain ⟨σ', H', J, q⟩ := hs
    exact fin (v := V.non) (u := Value.none) J rfl q
  | brk =>
    obtain ⟨_, _, _, q⟩ := hs
    exact False.elim q
  | cont =>
    obtain ⟨_, _, _, q⟩ := hs
    exact False.elim q
end L2

namespace L2
open PySem PySem.Spec PyProof.Rows
section
variable {X : Cx} {x : Str} {p pos : Pos} {e : Expr} {es : List Expr} {t : TA} {id T : String} {r : List V → Hp → VK → Prop}

noncomputable def tCB (r : List V → Hp → VK → Prop) (t : TA) : TE := fun σ H Q => t σ H fun vs H1 => r vs H1 Q
/-- f(e, ..), f a built-in function -/
theorem pe_callB (hc : CallR X (.builtin id) r) (hg : Gl X x) (hm : X.mg x = none) (hv : bootBuiltins x = some (.builtin id)) (ha : PA X (e :: es) t) (hn : x ≠ "__name__" := by decide) (hdb : (x == ("__debug__" : Str)) = false := by decide)
    (he : starEach (e :: es) X.env = (false, eval e X.env) :: starEach es X.env := by rfl) (hpl : (backTo pos (starEach es X.env)).any (·.1) = false := by rfl) : PE X (.Call (.Name x p) (e :: es) [] pos) (tCB r t) := by
  intro pins s σ H Q I h
  refine wpAny_Call_Name_kw (ld_blt I hg hm hv ?_ hn hdb)
  exact PyProof.Rows.callWith_builtin1 (thn (ha pos pins s σ H _ I h) fun us s1 ⟨vs, H1, I1, r1, q1⟩ => hc pins s1 σ H1 vs us Q I1 r1 q1) he hpl
/-- T(e, ..), T a built-in type -/
theorem pe_callTy (hc : CallR X (.type T) r) (hg : Gl X x) (hm : X.mg x = none) (hv : bootBuiltins x = some (.type T)) (ha : PA X (e :: es) t) (hn : x ≠ "__name__" := by decide) (hdb : (x == ("__debug__" : Str)) = false := by decide)
    (he : starEach (e :: es) X.env = (false, eval e X.env) :: starEach es X.env := by rfl) (hpl : (backTo pos (starEach es X.env)).any (·.1) = false := by rfl) : PE X (.Call (.Name x p) (e :: es) [] pos) (tCB r t) := by
  intro pins s σ H Q I h
  refine wpAny_Call_Name_kw (ld_blt I hg hm hv ?_ hn hdb)
  exact PyProof.Rows.callWith_type1 (thn (ha pos pins s σ H _ I h) fun us s1 ⟨vs, H1, I1, r1, q1⟩ => hc pins s1 σ H1 vs us Q I1 r1 q1) he hpl
end
end L2

namespace HT
open PySem PyProof.Rows

/-- t < u of tuples of ints -/
noncomputable def lexLt : List Int → List Int → Bool
  | [], [] => false
  | [], _ :: _ => true
  | _ :: _, [] => false
  | x :: xs, y :: ys => if x = y then lexLt xs ys else decide (x < y)
theorem lexLt_cons (x y : Int) (xs ys : List Int) : lexLt (x :: xs) (y :: ys) = if x = y then lexLt xs ys else decide (x < y) := rfl


section
open PySem.SeqAt
open PySem.AutoSeq1 (wpAny_loadPart')
open PySem.MeetsSeq PySem.MeetsSeq2 PySem.MeetsSeq3

end

section
variable {prog : Program} {w : World} {A : Around} {E : Value → Shared → Prop} {s : Shared}



/-! ### t[a:b], not the whole -/
/-- a slice's bound as a place among n (d where it is left out) -/
noncomputable def sIx (n d : Nat) : Option Int → Nat
  | none => d
  | some v => if v < 0 then (v + (n : Int)).toNat else min v.toNat n
theorem sIx_none (n d : Nat) : sIx n d none = d := rfl
theorem sIx_nat (n d k : Nat) : sIx n d (some (k : Int)) = min k n := by
  show (if (k : Int) < 0 then ((k : Int) + (n : Int)).toNat else min (k : Int).toNat n) = min k n
  rw [if_neg (by omega), Int.toNat_natCast]

end
end HT

namespace L2
open PySem PySem.Spec PyProof.Rows

/-! ### the parts of a slice -/
noncomputable abbrev TO := St → Hp → (Option Int → Hp → Prop) → Prop
/-- a slice's part (left out, or an int) -/
noncomputable def PO (X : Cx) (e : Option Expr) (t : TO) : Prop :=
  ∀ (pins : List (Addr × Obj)) (s : Shared) (σ : St) (H : Hp) (Q : Option Int → Hp → Prop), Inv X pins σ H s → t σ H Q →
    wpAny (model X.prog X.w) X.A (evalPart e X.env) (fun u s' => ∃ o H', Inv X pins σ H' s' ∧ IsPart u o ∧ Q o H') X.xe s
noncomputable def tNoPart : TO := fun _ H Q => Q none H
noncomputable def tPart (t : TE) : TO := fun σ H Q => t σ H fun x H1 => ∃ i, x = .int i ∧ Q (some i) H1

theorem intsAre_of {ns : List Int} : ∀ {us : List Value}, Vals (ns.map V.int) us → IntsAre us ns := by
  induction ns with
  | nil => intro us r; rw [List.map_nil] at r; cases r; exact .nil
  | cons n ns ih =>
    intro us r
    rw [List.map_cons] at r
    cases r with
    | cons r1 r2 =>
      obtain ⟨t, e⟩ := r1
      subst e
      exact .cons n t (ih r2)

section
variable {X : Cx} {e : Expr} {te : TE} {lo hi : Option Expr} {tl th : TO} {pos p2 : Pos}

theorem po_none : PO X none tNoPart := by
  intro pins s σ H Q I h
  rw [evalPart_none]
  exact wpAny_pure ⟨none, H, I, .none, h⟩

/-- what a slice of a value is, by values: the slice object stands at sl -/
noncomputable def SlR (X : Cx) (r : V → Option Int → Option Int → Hp → VK → Prop) : Prop :=
  ∀ (pins : List (Addr × Obj)) (s : Shared) (σ : St) (H : Hp) (x : V) (v vl vu : Value) (lo hi : Option Int) (sl : Addr) (Q : VK), Inv X pins σ H s → RelV x v → s.heap.IsSliceOf sl vl vu .none → IsPart vl lo → IsPart vu hi → r x lo hi H Q →
    ∃ T id, typeLookup (.type T) "__getitem__" = pure (some (.builtin id)) ∧ s.TypeIs v T ∧ wpAny (model X.prog X.w) X.A (getItem v (.ref sl)) (EP X pins σ Q) X.xe s
noncomputable def tSl (r : V → Option Int → Option Int → Hp → VK → Prop) (te : TE) (tl th : TO) : TE := fun σ H Q => te σ H fun x H1 => tl σ H1 fun l H2 => th σ H2 fun u H3 => r x l u H3 Q
/-- a[lo:hi], any a -/
theorem pe_slice {r : V → Option Int → Option Int → Hp → VK → Prop} (hr : SlR X r) (he : PE X e te) (hl : PO X lo tl) (hu : PO X hi th) : PE X (.Subscript e (.Slice lo hi none p2) pos) (tSl r te tl th) := by
  intro pins s σ H Q I h
  refine Subscript_ (thn (he pins s σ H _ I h) fun v s1 ⟨x, H1, I1, r1, q1⟩ => ?_)
  refine wpAny_Slice (thn (hl pins s1 σ H1 _ I1 q1) fun vl s2 ⟨l, H2, I2, pl, q2⟩ => thn (hu pins s2 σ H2 _ I2 q2) fun vu s3 ⟨u, H3, I3, pu, q3⟩ => ?_)
  rw [evalPart_none]
  refine wpAny_pure ?_
  have I4 : Inv X pins σ H3 { s3 with heap := s3.heap.push { cls := .type "slice", data := .fields #[vl, vu, .none] } } := I3.kept (t' := s3.toks) fun b ob q => Heap.get?_push_of_some _ q
  obtain ⟨T, id, hT, ht, hg⟩ := hr pins { s3 with heap := s3.heap.push { cls := .type "slice", data := .fields #[vl, vu, .none] } } σ H3 x v vl vu l u s3.heap.objs.size Q I4 r1 (Heap.IsSliceOf.new ..) pl pu q3
  show wpAny (model X.prog X.w) X.A (subscriptTail e (.Slice lo hi none p2) v (.ref s3.heap.objs.size)) (EP X pins σ Q) X.xe { s3 with heap := s3.heap.push { cls := .type "slice", data := .fields #[vl, vu, .none] } }
  exact tail_any (ops := [.ref s3.heap.objs.size, v]) ht hT hg (by with_unfolding_all rfl)

/-- the items of xs[lo:hi] -/
noncomputable def cutV (xs : List V) (lo hi : Option Int) : List V := (xs.drop (HT.sIx xs.length 0 lo)).take (HT.sIx xs.length xs.length hi - HT.sIx xs.length 0 lo)
theorem cutV_length (xs : List V) (lo hi : Option Int) : (cutV xs lo hi).length ≤ xs.length := by
  unfold cutV
  rw [List.length_take, List.length_drop]
  omega
/-- t[lo:hi], not the whole of it (the whole would be t itself) -/
noncomputable def rSlT (K : PySem.W.Frag) : V → Option Int → Option Int → Hp → VK → Prop := fun x lo hi H Q => ∃ a xs, x = .ref a ∧ SqT K H a xs ∧
  ¬ (HT.sIx xs.length 0 lo = 0 ∧ HT.sIx xs.length xs.length hi = xs.length) ∧ ∀ p, H p = none → Q (.ref p) (upd H p (.tup (cutV xs lo hi)))

/-! ### t < u, t + u -/
noncomputable def rLtT (K : PySem.W.Frag) : R2 := fun x y H Q => ∃ a b ns ms, x = .ref a ∧ y = .ref b ∧ SqT K H a (ns.map V.int) ∧ SqT K H b (ms.map V.int) ∧ Q (.bl (HT.lexLt ns ms)) H
/-- t + u, t not empty: u empty gives t itself -/
noncomputable def rCatT (K : PySem.W.Frag) : R2 := fun x y H Q => ∃ a b xs ys, x = .ref a ∧ y = .ref b ∧ SqT K H a xs ∧ SqT K H b ys ∧ xs ≠ [] ∧ xs.length + ys.length ≤ sizeLine ∧
  (ys = [] → Q (.ref a) H) ∧ (ys ≠ [] → ∀ p, H p = none → Q (.ref p) (upd H p (.tup (xs ++ ys))))
end
end L2

namespace L2
open PySem PySem.Spec PyProof.Rows

/-! ### places -/
/-- the place that an index of any sign means -/
noncomputable def ixN (n : Nat) (i : Int) : Option Nat := if 0 ≤ i then (if i < n then some i.toNat else none) else if -(n : Int) ≤ i then some (i + n).toNat else none
noncomputable def atI {α : Type} (xs : List α) (i : Int) : Option α := (ixN xs.length i).bind fun j => xs[j]?
theorem ixN_seq {n : Nat} {i : Int} {j : Nat} (h : ixN n i = some j) : seqIndex? i n = some j ∧ j < n ∧ -(n : Int) ≤ i ∧ i < n := by
  unfold ixN at h
  by_cases h0 : 0 ≤ i
  · rw [if_pos h0] at h
    by_cases h1 : i < n
    · rw [if_pos h1] at h
      have e : i.toNat = j := Option.some.inj h
      exact ⟨by rw [seqIndex_of h0 h1, e], by omega, by omega, h1⟩
    · rw [if_neg h1] at h; cases h
  · rw [if_neg h0] at h
    by_cases h1 : -(n : Int) ≤ i
    · rw [if_pos h1] at h
      have e : (i + n).toNat = j := Option.some.inj h
      exact ⟨by rw [seqIndex_neg (by omega) h1, e], by omega, h1, by omega⟩
    · rw [if_neg h1] at h; cases h
theorem atI_get {α : Type} {xs : List α} {i : Int} {v : α} (h : atI xs i = some v) : ∃ j, seqIndex? i xs.length = some j ∧ xs[j]? = some v ∧ j < xs.length ∧ -(xs.length : Int) ≤ i ∧ i < xs.length := by
  unfold atI at h
  cases e : ixN xs.length i with
  | none => rw [e] at h; cases h
  | some j =>
    rw [e] at h
    obtain ⟨h1, h2, h3, h4⟩ := ixN_seq e
    exact ⟨j, h1, h, h2, h3, h4⟩
theorem atI_nat {α : Type} {xs : List α} {j : Nat} {v : α} (h : xs[j]? = some v) : atI xs (j : Int) = some v := by
  have hj : j < xs.length := (List.getElem?_eq_some_iff.mp h).1
  have e : ixN xs.length (j : Int) = some j := by
    unfold ixN
    rw [if_pos (by omega), if_pos (by omega)]; simp
  unfold atI; rw [e]; exact h

/-! ### what may be subscripted -/
/-- what stands as an index of a plain subscript -/
noncomputable def PlainIx (b : Expr) : Prop := ∀ o i, subscripted b false o i = operate [o, i] (getItem o i)
/-- a subscript by values -/
noncomputable def IxR (X : Cx) (r : R2) : Prop :=
  ∀ (value slice : Expr) (pins : List (Addr × Obj)) (s : Shared) (σ : St) (H : Hp) (x y : V) (v u : Value) (Q : VK), Inv X pins σ H s → RelV x v → RelV y u → r x y H Q →
    subscripted slice false v u = operate [v, u] (getItem v u) → wpAny (model X.prog X.w) X.A (subscriptTail value slice v u) (EP X pins σ Q) X.xe s
/-- a call of a builtin's method by values: the receiver, the arguments -/
noncomputable def MtR (X : Cx) (id : String) (r : V → List V → Hp → VK → Prop) : Prop :=
  ∀ (pins : List (Addr × Obj)) (s : Shared) (σ : St) (H : Hp) (x : V) (xs : List V) (v : Value) (us : List Value) (Q : VK), Inv X pins σ H s → RelV x v → Vals xs us → r x xs H Q →
    wpAny (model X.prog X.w) X.A (call (.builtin id) (v :: us)) (EP X pins σ Q) X.xe s
section
variable {X : Cx} {a b : Expr} {ta tb : TE} {pos : Pos}
theorem IxR.or {r r' : R2} (h : IxR X r) (h' : IxR X r') : IxR X (fun x y H Q => r x y H Q ∨ r' x y H Q) := by
  intro value slice pins s σ H x y v u Q I rx ry q hs
  rcases q with q | q
  · exact h value slice pins s σ H x y v u Q I rx ry q hs
  · exact h' value slice pins s σ H x y v u Q I rx ry q hs
/-- a[b] -/
theorem pe_ix {r : R2} (hr : IxR X r) (ha : PE X a ta) (hb : PE X b tb) (hs : PlainIx b) : PE X (.Subscript a b pos) (tOp r ta tb) := by
  intro pins s σ H Q I h
  exact Subscript_ (binT ha hb I h fun v u s2 x y H2 I2 rx ry q => hr a b pins s2 σ H2 x y v u Q I2 rx ry q (hs _ _))

noncomputable def rIxL (K : PySem.W.Frag) : R2 := fun x y H Q => ∃ p xs i v, x = .ref p ∧ y = .int i ∧ SqL K H p xs ∧ atI xs i = some v ∧ Q v H
noncomputable def rIxT (K : PySem.W.Frag) : R2 := fun x y H Q => ∃ p xs i v, x = .ref p ∧ y = .int i ∧ SqT K H p xs ∧ atI xs i = some v ∧ Q v H
noncomputable def rIxS : R2 := fun x y H Q => ∃ z i c, x = .str z ∧ y = .int i ∧ z.length ≤ sizeLine ∧ atI z.cps.toList i = some c ∧ Q (.str ⟨#[c]⟩) H
theorem ix_list : IxR X (rIxL X.K) := by
  intro value slice pins s σ H x y v u Q I rx ry h hs
  obtain ⟨p, xs, i, z, rfl, rfl, hq, he, q⟩ := h
  cases rx
  obtain ⟨t, rfl⟩ := ry
  obtain ⟨its, r, pl, hz⟩ := I.list hq
  obtain ⟨j, h1, h2, h3, h4, h5⟩ := atI_get he
  obtain ⟨w, ew, rw'⟩ := r.get h2
  have hl := r.length
  have hn := line63
  have fin : EP X pins σ Q w s := ⟨z, H, I, rw', q⟩
  by_cases h0 : 0 ≤ i
  · have hj : i.toNat = j := by
      rw [seqIndex_of h0 h5] at h1
      exact Option.some.inj h1
    exact item_listR pl.isList h0 (by omega) (by rw [hj]; simpa using ew) fin hs
  · have hj : (i + (its.toArray.size : Int)).toNat = j := by
      rw [seqIndex_neg (by omega) h4] at h1
      rw [List.size_toArray, ← hl]
      exact Option.some.inj h1
    exact subscriptTail_builtinR (x := w) pl.isList.typeIs slot_list_getitem.lookup
      (wpAny_getItem_list_neg (Q := fun r s' => r = w ∧ EP X pins σ Q r s') pl.isList (by omega) (by rw [List.size_toArray] <;> omega) (by omega) (by rw [hj]; simpa using ew) ⟨rfl, fin⟩) hs
theorem ix_tup : IxR X (rIxT X.K) := by
  intro value slice pins s σ H x y v u Q I rx ry h hs
  obtain ⟨p, xs, i, z, rfl, rfl, hq, he, q⟩ := h
  cases rx
  obtain ⟨t, rfl⟩ := ry
  obtain ⟨its, r, pl, hz⟩ := I.tuple hq
  obtain ⟨j, h1, h2, h3, h4, h5⟩ := atI_get he
  obtain ⟨w, ew, rw'⟩ := r.get h2
  have hl := r.length
  have hn := line63
  have fin : EP X pins σ Q w s := ⟨z, H, I, rw', q⟩
  exact subscriptTail_builtinR (x := w) pl.typeIs slot_tuple_getitem.lookup
    (getItem_tuple (j := j) (Q := fun r s' => r = w ∧ EP X pins σ Q r s') pl (by omega) (by omega) (by rw [List.size_toArray, ← hl]; exact h1) (by simpa using ew) ⟨rfl, fin⟩) hs
/-- list, tuple or str -/
noncomputable def rIx (K : PySem.W.Frag) : R2 := fun x y H Q => rIxL K x y H Q ∨ rIxT K x y H Q ∨ rIxS x y H Q

/-! ### xs[i] = v, any sign -/
noncomputable def rSetL : V → V → V → Hp → (Hp → Prop) → Prop := fun o i v H Q => ∃ p xs k j, o = .ref p ∧ i = .int k ∧ H p = some (.lst xs) ∧ ixN xs.length k = some j ∧ Q (upd H p (.lst (xs.set j v)))

/-! ### slices -/
theorem slice_bounds (lo hi : Option Int) (n : Nat) : (sliceBounds lo hi none n).1 = ((HT.sIx n 0 lo : Nat) : Int) ∧ (sliceBounds lo hi none n).2.1 = ((HT.sIx n n hi : Nat) : Int) ∧ (sliceBounds lo hi none n).2.2 = 1 := by
  refine ⟨?_, ?_, rfl⟩
  · cases lo with
    | none => simp [sliceBounds, HT.sIx]
    | some i =>
      simp only [sliceBounds, HT.sIx, Option.getD_none, show (1 : Int) > 0 by decide, if_true]
      by_cases h : i < 0
      · simp only [h, if_true] <;> omega
      · simp only [h, if_false] <;> omega
  · cases hi with
    | none => simp [sliceBounds, HT.sIx]
    | some i =>
      simp only [sliceBounds, HT.sIx, Option.getD_none, show (1 : Int) > 0 by decide, if_true]
      by_cases h : i < 0
      · simp only [h, if_true] <;> omega
      · simp only [h, if_false] <;> omega
theorem slicePick_cut (its : List Value) (lo hi : Option Int) : slicePick its.toArray lo hi none = ((its.drop (HT.sIx its.length 0 lo)).take (HT.sIx its.length its.length hi - HT.sIx its.length 0 lo)).toArray := by
  obtain ⟨h1, h2, h3⟩ := slice_bounds lo hi its.toArray.size
  unfold slicePick
  rw [h1, h2, h3]
  simp only [sliceRange_one, pick_run, List.size_toArray] <;> rfl
/-- xs[lo:hi] of a list: a new list -/
noncomputable def rSlL (K : PySem.W.Frag) : V → Option Int → Option Int → Hp → VK → Prop := fun x lo hi H Q => ∃ a xs, x = .ref a ∧ SqL K H a xs ∧ ∀ p, H p = none → Q (.ref p) (upd H p (.lst (cutV xs lo hi)))
theorem sl_list : SlR X (rSlL X.K) := by
  intro pins s σ H x v vl vu lo hi sl Q I rx hs pl pu h
  obtain ⟨a, xs, rfl, hx, q⟩ := h
  cases rx
  obtain ⟨its, r, ht, hz⟩ := I.list hx
  have hlen := r.length
  refine ⟨"list", _, slot_list_getitem.lookup, ht.isList.typeIs, ?_⟩
  refine wpAny_getItem_list_slice ht.isList hs pl pu .none (by simp) ?_ (by rw [List.size_toArray] <;> omega)
  rw [slicePick_cut, ← hlen]
  refine ⟨.ref s.heap.objs.size, _, I.laid (t' := s.toks) (o := .lst (cutV xs lo hi)) (fun b ob q => Heap.get?_push_of_some _ q) (Nat.le_refl _) ?_, rfl, q _ (I.hok.fresh (Nat.le_refl _))⟩
  exact ⟨Nat.le_trans (cutV_length xs lo hi) hz, _, 0, (r.drop (HT.sIx xs.length 0 lo)).take (HT.sIx xs.length xs.length hi - HT.sIx xs.length 0 lo), Heap.get?_push_size _ rfl⟩

/-! ### in, not in: flat items -/
noncomputable def flatV : V → Bool
  | .non => true
  | .bl _ => true
  | .int _ => true
  | .str _ => true
  | _ => false
/-- == of flat values -/
noncomputable def eqV : V → V → Bool
  | .non, .non => true
  | .bl a, .bl b => a == b
  | .bl a, .int b => (if a then 1 else 0) == b
  | .int a, .bl b => a == (if b then 1 else 0)
  | .int a, .int b => a == b
  | .str a, .str b => a == b
  | _, _ => false
theorem eqAt_V {A : Around} {s : Shared} {y x : V} {u v : Value} (ry : RelV y u) (rx : RelV x v) (fy : flatV y = true) (fx : flatV x = true) : SeqAt.EqAt A s u v (eqV y x) := by
  cases y with
  | non =>
    cases ry
    cases x with
    | non => cases rx; exact SeqAt.EqAt.same _
    | bl b => cases rx; exact SeqAt.EqAt.none_bool b
    | int b => obtain ⟨t, rfl⟩ := rx; exact SeqAt.EqAt.none_int b t
    | str b => obtain ⟨t, rfl⟩ := rx; exact SeqAt.EqAt.none_str b t
    | _ => exact absurd (show false = true from fx) Bool.false_ne_true
  | bl a =>
    cases ry
    cases x with
    | non => cases rx; exact SeqAt.EqAt.bool_none a
    | bl b => cases rx; exact SeqAt.EqAt.bool_bool a b
    | int b => obtain ⟨t, rfl⟩ := rx; exact SeqAt.EqAt.bool_int a b t
    | str b => obtain ⟨t, rfl⟩ := rx; exact SeqAt.EqAt.bool_str a b t
    | _ => exact absurd (show false = true from fx) Bool.false_ne_true
  | int a =>
    obtain ⟨t', rfl⟩ := ry
    cases x with
    | non => cases rx; exact SeqAt.EqAt.int_none a t'
    | bl b => cases rx; exact SeqAt.EqAt.int_bool a t' b
    | int b => obtain ⟨t, rfl⟩ := rx; exact SeqAt.EqAt.int_int a t' b t
    | str b => obtain ⟨t, rfl⟩ := rx; exact SeqAt.EqAt.int_str a t' b t
    | _ => exact absurd (show false = true from fx) Bool.false_ne_true
  | str a =>
    obtain ⟨t', rfl⟩ := ry
    cases x with
    | non => cases rx; exact SeqAt.EqAt.str_none a t'
    | bl b => cases rx; exact SeqAt.EqAt.str_bool a t' b
    | int b => obtain ⟨t, rfl⟩ := rx; exact SeqAt.EqAt.str_int a t' b t
    | str b => obtain ⟨t, rfl⟩ := rx; exact SeqAt.EqAt.str_str a t' b t
    | _ => exact absurd (show false = true from fx) Bool.false_ne_true
  | _ => exact absurd (show false = true from fy) Bool.false_ne_true
/-- the items' answers, read off the values (a value's own answer does not lean on its token) -/
noncomputable def eqU (x : V) (u : Value) : Bool := match u with
  | .none => eqV .non x
  | .bool b => eqV (.bl b) x
  | .int i _ => eqV (.int i) x
  | .str z _ => eqV (.str z) x
  | _ => false
theorem eqU_of {x y : V} {u : Value} (r : RelV y u) (f : flatV y = true) : eqU x u = eqV y x := by
  cases y with
  | non => cases r; rfl
  | bl b => cases r; rfl
  | int i => obtain ⟨t, rfl⟩ := r; rfl
  | str z => obtain ⟨t, rfl⟩ := r; rfl
  | _ => exact absurd (show false = true from f) Bool.false_ne_true
theorem any_eqU {x : V} : ∀ {xs : List V} {us : List Value}, Vals xs us → xs.all flatV = true → us.any (eqU x) = xs.any fun y => eqV y x
  | _, _, .nil, _ => rfl
  | y :: xs, u :: us, .cons r t, f => by
    rw [List.all_cons, Bool.and_eq_true] at f
    rw [List.any_cons, List.any_cons, eqU_of r f.1, any_eqU t f.2]
theorem mem_eqAt {A : Around} {s : Shared} {x : V} {v : Value} (rx : RelV x v) (fx : flatV x = true) : ∀ {xs : List V} {us : List Value}, Vals xs us → xs.all flatV = true → ∀ u ∈ us, SeqAt.EqAt A s u v (eqU x u)
  | _, _, .nil, _ => fun u hu => by cases hu
  | y :: xs, u :: us, .cons r t, f => fun u' hu => by
    rw [List.all_cons, Bool.and_eq_true] at f
    rcases List.mem_cons.mp hu with rfl | hu
    · rw [eqU_of r f.1]; exact eqAt_V r rx f.1 fx
    · exact mem_eqAt rx fx t f.2 u' hu
noncomputable def inV (x : V) (xs : List V) : Bool := xs.any fun y => eqV y x
/-- x in a list or tuple of flat items -/
noncomputable def rIn (K : PySem.W.Frag) (neg : Bool) : R2 := fun x y H Q => ∃ p xs, y = .ref p ∧ (SqL K H p xs ∨ SqT K H p xs) ∧ flatV x = true ∧ xs.all flatV = true ∧ Q (.bl (if neg then !inV x xs else inV x xs)) H
theorem op_in_seq : OpR X (compareOp .In) (rIn X.K false) := by
  intro pins s σ H x y v u Q I rx ry h
  obtain ⟨p, xs, rfl, hq, fx, fs, q⟩ := h
  cases ry
  rcases hq with hq | hq
  · obtain ⟨its, r, pl, hz⟩ := I.list hq
    refine SeqAt.in_listAt (eqU x) pl.isList (fun w hw => mem_eqAt rx fx r fs w (by simpa using hw)) ⟨.bl _, H, I, rfl, ?_⟩
    rw [show its.toArray.any (eqU x) = its.any (eqU x) by simp, any_eqU r fs]
    exact q
  · obtain ⟨its, r, pl, hz⟩ := I.tuple hq
    refine SeqAt.in_tupleAt (eqU x) pl (fun w hw => mem_eqAt rx fx r fs w (by simpa using hw)) ⟨.bl _, H, I, rfl, ?_⟩
    rw [show its.toArray.any (eqU x) = its.any (eqU x) by simp, any_eqU r fs]
    exact q
theorem op_notIn_seq : OpR X (compareOp .NotIn) (rIn X.K true) := by
  intro pins s σ H x y v u Q I rx ry h
  obtain ⟨p, xs, rfl, hq, fx, fs, q⟩ := h
  cases ry
  rcases hq with hq | hq
  · obtain ⟨its, r, pl, hz⟩ := I.list hq
    refine SeqAt.notIn_listAt (eqU x) pl.isList (fun w hw => mem_eqAt rx fx r fs w (by simpa using hw)) ⟨.bl _, H, I, rfl, ?_⟩
    rw [show its.toArray.any (eqU x) = its.any (eqU x) by simp, any_eqU r fs]
    exact q
  · obtain ⟨its, r, pl, hz⟩ := I.tuple hq
    refine SeqAt.notIn_tupleAt (eqU x) pl (fun w hw => mem_eqAt rx fx r fs w (by simpa using hw)) ⟨.bl _, H, I, rfl, ?_⟩
    rw [show its.toArray.any (eqU x) = its.any (eqU x) by simp, any_eqU r fs]
    exact q

/-! ### len, list(x), tuple(x) of any list or tuple that is read -/
theorem call_len_seq : CallR X (.builtin "len") (fun xs H Q => ∃ p ys, xs = [.ref p] ∧ (SqL X.K H p ys ∨ SqT X.K H p ys) ∧ Q (.int ys.length) H) := by
  intro pins s σ H xs us Q I r h
  obtain ⟨p, ys, rfl, hq, q⟩ := h
  obtain ⟨u, rfl, rx⟩ := vals1 r
  cases rx
  have hn := line63
  rcases hq with hq | hq
  · obtain ⟨its, r', pl, hz⟩ := I.list hq
    have hlen := r'.length
    exact Calls.call_len_list pl.isList (by simp only [List.size_toArray] <;> omega) ⟨.int ys.length, H, I.tok _, ⟨s.toks + 1, by rw [List.size_toArray, hlen]⟩, q⟩
  · obtain ⟨its, r', pl, hz⟩ := I.tuple hq
    have hlen := r'.length
    exact len_tuple pl (by simp only [List.size_toArray] <;> omega) ⟨.int ys.length, H, I.tok _, ⟨s.toks + 1, by rw [List.size_toArray, hlen]⟩, q⟩
theorem call_list_of : CallR X (.type "list") (fun xs H Q => ∃ p ys, xs = [.ref p] ∧ (SqL X.K H p ys ∨ SqT X.K H p ys) ∧ ∀ l, H l = none → Q (.ref l) (upd H l (.lst ys))) := by
  intro pins s σ H xs us Q I r h
  obtain ⟨p, ys, rfl, hq, q⟩ := h
  obtain ⟨u, rfl, rx⟩ := vals1 r
  cases rx
  have fin : ∀ (its : List Value), Vals ys its → ys.length ≤ sizeLine → ∀ (h' : Heap) (c' : Nat), (∀ b o', s.heap.get? b = some o' → h'.get? b = some o') →
      h'.get? s.heap.objs.size = some { cls := .type "list", dict := none, data := .seq its.toArray c', slots := #[] } → EP X pins σ Q (.ref s.heap.objs.size) { s with heap := h' } := fun its r' hz h' c' kp e =>
    ⟨.ref s.heap.objs.size, _, I.laid (t' := s.toks) kp (Nat.le_refl _) (show ObjOk X.prog X.w _ h' _ (.lst ys) from ⟨hz, its, c', r', e⟩), rfl, q _ (I.hok.fresh (Nat.le_refl _))⟩
  rcases hq with hq | hq
  · obtain ⟨its, r', pl, hz⟩ := I.list hq
    have hlen := r'.length
    obtain ⟨o, ho, hc, n, hd⟩ := pl.isList
    exact call_list_seq p (.inl rfl) ho hc hd (fun h' c' kp e => fin its r' hz h' c' kp e) (by simp only [List.size_toArray] <;> omega)
  · obtain ⟨its, r', pl, hz⟩ := I.tuple hq
    have hlen := r'.length
    obtain ⟨o, ho, hc, n, hd⟩ := pl
    exact call_list_seq p (.inr rfl) ho hc hd (fun h' c' kp e => fin its r' hz h' c' kp e) (by simp only [List.size_toArray] <;> omega)

/-! ### the call of a builtin's method: o.m(..) -/
/-- the value is of that builtin type -/
noncomputable def tyV (K : PySem.W.Frag) (T : String) (x : V) (H : Hp) : Prop := match x with
  | .str _ => T = "str"
  | .int _ => T = "int"
  | .ref p => (T = "list" ∧ ∃ xs, SqL K H p xs) ∨ (T = "tuple" ∧ ∃ o, K.lookup p = some o ∧ o.cls = .type "tuple" ∧ o.dict = none) ∨
      (T = "dict" ∧ ((∃ kvs, H p = some (.dK kvs)) ∨ ∃ kvs, H p = some (.dT kvs))) ∨ (T = "set" ∧ ∃ S n, H p = some (.set S n))
  | _ => False
theorem tyV_is {pins : List (Addr × Obj)} {σ : St} {H : Hp} {s : Shared} {T : String} {x : V} {v : Value} (I : Inv X pins σ H s) (r : RelV x v) (ty : tyV X.K T x H) :
    s.TypeIs v T ∧ ∀ a, v = .ref a → ∃ ob, s.heap.get? a = some ob ∧ ob.dict = none := by
  cases x with
  | str z =>
    obtain ⟨t, rfl⟩ := r
    cases (show T = "str" from ty)
    exact ⟨typeIs_str s z t, fun _ e => nomatch e⟩
  | int i =>
    obtain ⟨t, rfl⟩ := r
    cases (show T = "int" from ty)
    exact ⟨typeIs_int s i t, fun _ e => nomatch e⟩
  | ref p =>
    cases r
    rcases ty with ⟨rfl, xs, hq⟩ | ⟨rfl, o, hk, hc, hd⟩ | ⟨rfl, hk⟩ | ⟨rfl, S, n, hk⟩
    · obtain ⟨its, _, pl, _⟩ := I.list hq
      refine ⟨pl.isList.typeIs, fun a e => ?_⟩
      cases e
      obtain ⟨o, n, e, c, hd, _⟩ := pl
      exact ⟨o, e, hd⟩
    · refine ⟨⟨o, I.kIn p o hk, hc⟩, fun a e => ?_⟩
      cases e
      exact ⟨o, I.kIn _ o hk, hd⟩
    · have z : ∃ o, s.heap.get? p = some o ∧ o.ExactDict := by
        rcases hk with ⟨kvs, hk⟩ | ⟨kvs, hk⟩
        · obtain ⟨_, _, _, _, o, _, _, e, ex, _⟩ := I.hok p _ hk
          exact ⟨o, e, ex⟩
        · obtain ⟨_, _, _, _, o, _, _, e, ex, _⟩ := I.hok p _ hk
          exact ⟨o, e, ex⟩
      obtain ⟨o, e, ex⟩ := z
      refine ⟨⟨o, e, ex.1⟩, fun a e2 => ?_⟩
      cases e2
      exact ⟨o, e, ex.2.1⟩
    · obtain ⟨o, _, _, _, e, ex, _⟩ := I.hok p _ hk
      refine ⟨⟨o, e, ex.1⟩, fun a e2 => ?_⟩
      cases e2
      exact ⟨o, e, ex.2.1⟩
  | _ => exact False.elim ty
noncomputable def tBM0 (K : PySem.W.Frag) (T : String) (r : V → List V → Hp → VK → Prop) (to : TE) : TE := fun σ H Q => to σ H fun x H1 => tyV K T x H1 ∧ r x [] H1 Q
noncomputable def tBM (K : PySem.W.Frag) (T : String) (r : V → List V → Hp → VK → Prop) (to : TE) (t : TA) : TE := fun σ H Q => to σ H fun x H1 => tyV K T x H1 ∧ t σ H1 fun xs H2 => r x xs H2 Q
variable {o e : Expr} {es : List Expr} {to : TE} {t : TA} {name : Str} {apos cpos : Pos} {T id : String} {r : V → List V → Hp → VK → Prop}
/- xs.append(e), list.index on a module's tuple .. are MtR facts of 06m -/
end
end L2

namespace L2
open PySem PySem.Spec PyProof.Rows

noncomputable def MtM (X : Cx) (id : String) (r : V → List V → Hp → VK → Prop) : Prop :=
  ∀ (pins : List (Addr × Obj)) (s : Shared) (σ : St) (H : Hp) (x : V) (xs : List V) (v : Value) (us : List Value) (Q : VK), Inv X pins σ H s → RelV x v → Vals xs us → r x xs H Q →
    wpAny (model X.prog X.w) X.A (call (.builtin id) (v :: us)) (EP X pins σ Q) X.xe s

/-! ### lists of values -/
theorem Vals.one : ∀ {x : V} {us : List Value}, Vals [x] us → ∃ u, us = [u] ∧ RelV x u
  | _, _, .cons r .nil => ⟨_, rfl, r⟩
theorem Vals.rep {xs : List V} {us : List Value} (h : Vals xs us) : ∀ k : Nat, Vals (List.replicate k xs).flatten (List.replicate k us).flatten
  | 0 => .nil
  | k + 1 => by
    rw [List.replicate_succ, List.replicate_succ, List.flatten_cons, List.flatten_cons]
    exact Vals.append h (Vals.rep h k)
theorem foldl_rep (its : List Value) : ∀ (k : Nat) (acc : List Value),
    List.foldl (fun x1 x2 => x1 ++ x2) acc.toArray (List.replicate k its.toArray) = (acc ++ (List.replicate k its).flatten).toArray
  | 0, acc => by simp
  | k + 1, acc => by
    have e : acc.toArray ++ its.toArray = (acc ++ its).toArray := by simp
    have e2 : (acc ++ its) ++ (List.replicate k its).flatten = acc ++ (List.replicate (k + 1) its).flatten := by
      rw [List.replicate_succ, List.flatten_cons, List.append_assoc]
    rw [← e2, ← foldl_rep its k (acc ++ its), ← e, List.replicate_succ, List.foldl_cons]

section
variable {X : Cx} {pins : List (Addr × Obj)} {σ : St} {H : Hp} {s : Shared} {l b : Addr} {xs ys zs : List V}

/-! ### the two steps: a tracked list is rewritten, a new list is laid -/
theorem Inv.lset {its its' : List Value} {n : Nat} {f : Array Value → Array Value} {t' : Nat} (I : Inv X pins σ H s) (hH : H l = some (.lst xs))
    (e : s.heap.get? l = some { cls := .type "list", data := .seq its.toArray n }) (hf : f its.toArray = its'.toArray) (hv : Vals ys its') (hz : ys.length ≤ sizeLine) :
    Inv X pins σ (upd H l (.lst ys)) { s with heap := s.heap.update l (Obj.mapSeq f), toks := t' } := by
  have q := PySem.IsL.update e f
  rw [hf] at q
  refine I.write (x := l) (e := l) (by rw [hH]; exact trivial) (.inl rfl) (fun b' u hb hu => (Heap.get?_update_other s.heap (Obj.mapSeq f) (Ne.symm hb)).trans hu) ⟨_, q⟩ ?_
  exact ⟨hz, its', _, hv, q⟩
theorem Inv.lnew {its : List Value} {t' : Nat} (I : Inv X pins σ H s) (hv : Vals ys its) (hz : ys.length ≤ sizeLine) :
    Inv X pins σ (upd H s.heap.objs.size (.lst ys)) { s with heap := s.heap.push { cls := .type "list", data := .seq its.toArray }, toks := t' } :=
  I.laid (fun _ _ q => Heap.get?_push_of_some _ q) (Nat.le_refl _) ⟨hz, its, 0, hv, Heap.get?_push_size _ rfl⟩
theorem Inv.fresh (I : Inv X pins σ H s) : H s.heap.objs.size = none := I.hok.fresh (Nat.le_refl _)
theorem Inv.lstM (I : Inv X pins σ H s) (hH : H l = some (.lst xs)) : xs.length ≤ sizeLine ∧ ∃ (its : List Value) (n : Nat), Vals xs its ∧ xs.length = its.length ∧ s.heap.get? l = some { cls := .type "list", data := .seq its.toArray n } := by
  obtain ⟨z, its, n, r, e⟩ := I.hok l _ hH
  exact ⟨z, its, n, r, r.length, e⟩

theorem notLongL {n : Nat} (h : n ≤ sizeLine) : Builtin.List.listTooLong n = false := by
  unfold Builtin.List.listTooLong
  exact decide_eq_false (by omega)
end

section
variable {X : Cx}

/-! ### methods -/
noncomputable def rAppend : V → List V → Hp → VK → Prop := fun x vs H Q => ∃ l xs y, x = .ref l ∧ vs = [y] ∧ H l = some (.lst xs) ∧ xs.length < sizeLine ∧ Q .non (upd H l (.lst (xs ++ [y])))
theorem mt_append : MtM X "list.append" rAppend := by
  intro pins s σ H x vs v us Q I rx rv h
  obtain ⟨l, xs, y, rfl, rfl, hH, hz, q⟩ := h
  cases rx
  obtain ⟨u, rfl, ru⟩ := rv.one
  obtain ⟨z, its, n, r, hl, e⟩ := I.lstM hH
  refine call_meets F.slot_list_append ⟨_, e, rfl⟩ F.entry_list_append (F.args_list_append_2 _ _) (PySem.list_append l its.toArray n u (by rw [List.size_toArray]; omega)) ⟨e, ?_⟩
  refine ⟨.non, _, I.lset (its' := its ++ [u]) hH e (by simp) (r.append (.cons ru .nil)) ?_, rfl, q⟩
  rw [List.length_append, List.length_singleton]
  omega

noncomputable def rExtend : V → List V → Hp → VK → Prop := fun x vs H Q => ∃ l b xs zs, x = .ref l ∧ vs = [.ref b] ∧ H l = some (.lst xs) ∧ H b = some (.lst zs) ∧ xs.length + zs.length ≤ sizeLine ∧ Q .non (upd H l (.lst (xs ++ zs)))
theorem mt_extend : MtM X "list.extend" rExtend := by
  intro pins s σ H x vs v us Q I rx rv h
  obtain ⟨l, b, xs, zs, rfl, rfl, hH, hB, hz, q⟩ := h
  cases rx
  obtain ⟨u, rfl, ru⟩ := rv.one
  cases ru
  obtain ⟨z, its, n, r, hl, e⟩ := I.lstM hH
  obtain ⟨z2, its2, n2, r2, hl2, e2⟩ := I.lstM hB
  have hsz : its.toArray.size + its2.toArray.size ≤ sizeLine := by rw [List.size_toArray, List.size_toArray]; omega
  have hlong : ¬ (!its.toArray.isEmpty && Builtin.List.listTooLong (its.toArray.size + its2.toArray.size)) = true := by
    rw [notLongL hsz, Bool.and_false]
    exact Bool.false_ne_true
  refine call_meets F.slot_list_extend ⟨_, e, rfl⟩ F.entry_list_extend (F.args_list_extend_2 _ _)
    (AutoSeq1.list_extend_list_list_0 l its.toArray n b its2.toArray n2 hlong (by rw [List.size_toArray]; omega) (by omega)) ⟨e, e2, ?_⟩
  refine ⟨.non, _, I.lset (its' := its ++ its2) hH e (by simp) (r.append r2) ?_, rfl, q⟩
  rw [List.length_append]
  omega

noncomputable def rPop : V → List V → Hp → VK → Prop := fun x vs H Q => ∃ l xs y, x = .ref l ∧ vs = [] ∧ H l = some (.lst xs) ∧ xs[xs.length - 1]? = some y ∧ Q y (upd H l (.lst xs.dropLast))

noncomputable def rPopAt : V → List V → Hp → VK → Prop := fun x vs H Q => ∃ l xs i k y, x = .ref l ∧ vs = [.int i] ∧ H l = some (.lst xs) ∧ -(2 ^ 63) ≤ i ∧ i < 2 ^ 63 ∧ seqIndex? i xs.length = some k ∧ xs[k]? = some y ∧ Q y (upd H l (.lst (xs.eraseIdx k)))

noncomputable def rReverse : V → List V → Hp → VK → Prop := fun x vs H Q => ∃ l xs, x = .ref l ∧ vs = [] ∧ H l = some (.lst xs) ∧ Q .non (upd H l (.lst xs.reverse))

noncomputable def rClear : V → List V → Hp → VK → Prop := fun x vs H Q => ∃ l xs, x = .ref l ∧ vs = [] ∧ H l = some (.lst xs) ∧ Q .non (upd H l (.lst []))

/-! ### list + list, list += list, list * int -/
noncomputable def rCat : R2 := fun x y H Q => ∃ l b xs zs, x = .ref l ∧ y = .ref b ∧ H l = some (.lst xs) ∧ H b = some (.lst zs) ∧ xs.length + zs.length ≤ sizeLine ∧ ∀ p, H p = none → Q (.ref p) (upd H p (.lst (xs ++ zs)))
theorem op_cat : OpR X (binaryOp .Add) rCat := by
  intro pins s σ H x y v u Q I rx ry h
  obtain ⟨l, b, xs, zs, rfl, rfl, hH, hB, hz, q⟩ := h
  cases rx
  cases ry
  obtain ⟨z, its, n, r, hl, e⟩ := I.lstM hH
  obtain ⟨z2, its2, n2, r2, hl2, e2⟩ := I.lstM hB
  refine PySem.P.add_list e e2 ?_ (by rw [List.size_toArray, List.size_toArray]; omega)
  have ea : its.toArray ++ its2.toArray = (its ++ its2).toArray := by simp
  rw [ea]
  exact ⟨.ref _, _, I.lnew (t' := s.toks) (r.append r2) (by rw [List.length_append]; omega), rfl, q _ I.fresh⟩
/-- a list times an int (a negative one is nothing) -/
noncomputable def rRep : R2 := fun x y H Q => ∃ l k xs, x = .ref l ∧ y = .int k ∧ H l = some (.lst xs) ∧ -(2 ^ 63) ≤ k ∧ k < 2 ^ 63 ∧ xs.length * k.toNat ≤ sizeLine ∧
  ∀ p, H p = none → Q (.ref p) (upd H p (.lst (List.replicate k.toNat xs).flatten))
theorem len_rep {α : Type} (xs : List α) (k : Nat) : (List.replicate k xs).flatten.length = k * xs.length := by
  induction k with
  | zero => simp
  | succ k ih => rw [List.replicate_succ, List.flatten_cons, List.length_append, ih, Nat.succ_mul, Nat.add_comm]
theorem op_rep : OpR X (binaryOp .Mult) rRep := by
  intro pins s σ H x y v u Q I rx ry h
  obtain ⟨l, k, xs, rfl, rfl, hH, h1, h2, hz, q⟩ := h
  cases rx
  obtain ⟨t, rfl⟩ := ry
  obtain ⟨z, its, n, r, hl, e⟩ := I.lstM hH
  have hlen : its.toArray.size * k.toNat ≤ sizeLine := by rw [List.size_toArray, ← hl]; exact hz
  have hcap : ¬ its.toArray.size * k.toNat > (2 ^ 63 - 1) / 8 := by
    have : (sizeLine : Nat) ≤ (2 ^ 63 - 1) / 8 := by decide
    omega
  have hfit : ¬ (!Builtin.List.listFitsIndex k) = true := by
    rw [fitsIndex_both h1 h2]
    exact Bool.false_ne_true
  have hlong : ¬ Builtin.List.listTooLong (its.toArray.size * k.toNat) = true := by
    rw [notLongL hlen]
    exact Bool.false_ne_true
  have hnew : List.foldl (fun x1 x2 => x1 ++ x2) #[] (List.replicate (if its.toArray.isEmpty = true then 0 else k.toNat) its.toArray) = (List.replicate k.toNat its).flatten.toArray := by
    have f0 : ∀ m : Nat, List.foldl (fun x1 x2 => x1 ++ x2) #[] (List.replicate m its.toArray) = (List.replicate m its).flatten.toArray := fun m => by
      have := foldl_rep its m []
      rw [List.nil_append] at this
      exact this
    rw [f0]
    cases its with
    | nil => simp
    | cons a r' => rw [if_neg (by simp)]
  refine wpAny_binaryOp_repeat_ref (T := "list") (U := "int") (by decide) ⟨_, e, rfl⟩ (fun s' => typeIs_int s' k t) noFill_list_mul F.fills_int_mul F.slot_int_rmul repeat_list F.slot_int_index.lookup
    (call_meets F.slot_int_rmul (typeIs_int s k t) F.entry_int_rmul (F.args_int_rmul_2 _ _) (int___rmul___int_list k t l its.toArray n)
      ⟨e, rfl, ⟨_, e, rfl⟩, call_meets F.slot_list_mul ⟨_, e, rfl⟩ F.entry_list_mul (F.args_list_mul_2 _ _) (AutoListH.list___mul___list_int_3 l its.toArray n k t hfit hcap hlong) ⟨e, ?_⟩⟩)
  rw [hnew]
  exact ⟨.ref _, _, I.lnew (t' := s.toks) (r.rep k.toNat) (by rw [len_rep, Nat.mul_comm]; exact hz), rfl, q _ I.fresh⟩

/-! ### del xs[i] -/
end

/-! ### xs[a:b] = ys -/
section
variable {prog : Program} {w : World} {A : Around} {E : Value → Shared → Prop} {s : Shared}
set_option maxRecDepth 100000 in
end

section
variable {X : Cx}
end
end L2

namespace Att
open PySem PySem.W PySem.Calls PyProof.Rows

/-! ### the script -/
theorem ints_of_wellAll {P : Params} {h : Heap} : ∀ (ns : List Int) (vs : List Value), WellAll P h vs (ns.map WData.int) → IntsAre vs ns := by
  intro ns
  induction ns with
  | nil =>
    intro vs w
    rw [List.map_nil] at w
    cases w
    exact .nil
  | cons n ns ih =>
    intro vs w
    rw [List.map_cons] at w
    cases w with
    | cons a b =>
      cases a
      exact .cons _ _ (ih _ b)

theorem script_of {l : OpenLaw} {n : Nat} (hn : l.most = some n) {P : Params} {h : Heap} {args : List WData} {vals : List Value}
    (hpre : l.row.toRowW.claim.pre args = true) (hwl : WellAll P h vals args) :
    ∃ a vs ns, vals = [Value.ref a] ∧ args = [WData.list (ns.map WData.int)] ∧ h.get? a = some { cls := .type "list", data := .seq vs.toArray } ∧ IntsAre vs ns ∧ ns.length ≤ n := by
  have hsh : WShape.hasAll [] args [.list .int] = true := (pre_splitW hpre).1
  have hc : l.pre.holds [] { args := args } = true := (pre_splitW hpre).2
  obtain ⟨d, r, rfl, h1, h2⟩ := hasAllW_cons hsh
  obtain rfl := hasAllW_nil h2
  obtain ⟨xs, rfl, h3⟩ := hasW_list h1
  obtain ⟨ns, rfl⟩ := items_int h3
  have hlen : ns.length ≤ n := by
    unfold OpenLaw.pre at hc
    have h4 : (WTm.not (.lt (.lit (.int (n : Int))) (.len (.arg 0)))).holds [] { args := [.list (ns.map .int)] } = true := by
      have h4 := (holds_andW hc).1
      rw [hn] at h4
      exact h4
    have h5 := condW_of h4 (w_not (w_lt w_lit (w_len_list (w_arg rfl))))
    rw [List.length_map] at h5
    refine Nat.le_of_not_lt fun q => ?_
    have q' : (n : Int) < ((ns.length : Nat) : Int) := by omega
    first
      | (rw [decide_eq_true q'] at h5; exact absurd h5 (by decide))
      | (simp at h5; omega)
  cases hwl with
  | cons w1 w2 =>
    cases w2
    cases w1 with
    | list ho hall => exact ⟨_, _, ns, rfl, rfl, ho, ints_of_wellAll ns _ hall, hlen⟩

theorem post_true (l : OpenLaw) (args : List WData) : l.row.toRowW.claim.post args (.bool true) args = true :=
  postW_of (r := l.row.toRowW) (X := (true == true))
    (show WShape.has [] (.bool true) .bool = true by first | rfl | decide | simp [WShape.has, WShape.arms, WShape.armsAll])
    (show (WTm.eq .res (.lit (.bool true))).value [] { args := args, res := some (.bool true), after := args } = some (.bool (true == true)) from w_eq_bool (w_res rfl) w_lit) rfl

/-! ### the attachment: holds_open's last premise (the goal 'hc' behind k_head) from a wpAny of the law's body -/

/-- the same from a codeAny of the CALL (for a layer whose function contracts speak of calls) -/
theorem attach_call {l : OpenLaw} {n : Nat} {q : Program} {loose : List Str} {XP : (Str → Option Value) → Heap → Prop} {YP : World → Heap → Prop} {d : DefRec}
    (hn : l.most = some n) (hdf : d.params.defaults = [])
    (call : ∀ (w : World) (s₀ s₁ : Shared) (mg mb : Str → Option Value) (fa : Addr) (o : Obj) (pm cd doc : Value) (a : Addr) (vs : List Value) (ns : List Int),
      Ground q loose [] XP w s₀ mg mb s₁.heap → YP w s₁.heap →
      s₁.heap.get? fa = some o → o.data = .func (docDef d.name d.params d.body d.scope pm cd doc) → s₁.heap.CodeRec cd d.name → mg d.name = some (.ref fa) →
      s₁.heap.get? a = some { cls := .type "list", data := .seq vs.toArray } → IntsAre vs ns → ns.length ≤ n → s₁.gens = #[] →
      codeAny (model l.prog w) callerA (.call (.ref fa) ⟨[.ref a], []⟩) (fun r s' => r = .ok (.ret (.bool true)) ∧ OldK s₁.heap s'.heap ∧ s'.os = s₁.os ∧ AllBare s'.gens) s₁) :
    WalkO q loose XP YP l.row.toRowW d [] (fun f vs => PySem.call f vs) := by
  intro w s₀ s₁ mg mb G Y fa o pm cd doc dV kV ho hd hcd hD hmg hg args vals as hpre hlay hrd hwl hlo
  obtain rfl : dV = .none := Dflts.none hD hdf
  obtain rfl : kV = .none := Dflts.noKw hD
  obtain ⟨a, vs, ns, rfl, rfl, hobj, hints, hlen⟩ := script_of hn hpre hwl
  refine enter_call (codeAny_mono (call w s₀ s₁ mg mb fa o pm cd doc a vs ns G Y ho (fd_plain hd) hcd hmg hobj hints hlen hg) fun r s' hq => ?_)
  obtain ⟨rfl, h2, h3, h4⟩ := hq
  exact ⟨.inl ⟨.bool true, .bool true, [], rfl, fun _ => rfl, .bool true, post_true l _, fun _ => ⟨List.Pairwise.nil, fun _ hm => (nomatch hm)⟩⟩, h2, h3, h4⟩


/-! ### rules over ANY heap (no ledger) from facts about the written part K: the library's own take a ledger (News) for what they write -/
section
variable {prog : Program} {w : World} {A : Around} {E : Value → Shared → Prop} {s : Shared} {K : Frag}





/-! the whole heap as the ledger: makes every rule that writes through a ledger a rule over any heap -/
noncomputable def noObjs (h : Heap) : Heap := { h with objs := #[] }
noncomputable def ledger (h : Heap) (L d : Addr) : List (Addr × Obj) := (List.range h.objs.size).filterMap fun a => if a = L ∨ a = d then none else (h.get? a).map fun o => (a, o)

end
end Att

namespace L2
open PySem PySem.Spec PyProof.Rows

theorem vals_ints : ∀ {vs : List Value} {ns : List Int}, IntsAre vs ns → Vals (ns.map V.int) vs
  | _, _, .nil => .nil
  | _, _, .cons n t h => .cons ⟨t, rfl⟩ (vals_ints h)

/-- nothing is tracked but the script, known to the object (or it is an object of the module) -/
noncomputable def Only (H : Hp) : Prop := ∀ b, H b = none ∨ ∃ o xs, H b = some (.frz o (.lst xs))

/-- THE HEAD: the law's promise, at the heap behind the top. F, the promise of the law's def, may use that base is part of the heap (so K.In base, base.Ns mainGlobals mg stand in Mod) -/
theorem law_call {P : Program} {w : World} {K : PySem.W.Frag} {mg mb : Str → Option Value} {CX : CXT} {k : Nat} {fa a : Addr} {fd : FuncData} {x : Str} {sp : Sp} {s₁ : Shared} {vs : List Value} {ns : List Int}
    (KX : K.In s₁.heap) (hns : s₁.heap.Ns mainGlobals mg) (hb : s₁.heap.Ns builtinsNs mb) (hbb : ∀ x : Str, x ≠ "__name__" → mb x = bootBuiltins x) (hlim : s₁.heap.NoLimit) (hg : s₁.gens = #[])
    (ha : s₁.heap.get? a = some { cls := .type "list", data := .seq vs.toArray }) (hi : IntsAre vs ns) (hl : ns.length ≤ sizeLine) (hr : Room k callerA)
    (F : ∀ base : Heap, K.In base → base.Ns mainGlobals mg → FnOk P w K mg base CX k fa fd [x] sp) (hbind : ∀ (s : Shared) (u : Value), BindsTo s fd ⟨[u], []⟩ [(x, u)])
    (hsp : ∀ H : Hp, Only H → SqL K H a (ns.map V.int) → sp [.ref a] H (fun v _ => v = .bl true) fun _ _ _ => False)
    (hCX : ∀ H e s', CX [] H s₁ (fun _ _ _ => False) e s' → False) :
    codeAny (model P w) callerA (.call (.ref fa) ⟨[.ref a], []⟩) (fun r s' => r = .ok (.ret (.bool true)) ∧ OldK s₁.heap s'.heap ∧ s'.os = s₁.os ∧ AllBare s'.gens) s₁ := by
  have rv := vals_ints hi
  have lenV := hi.length
  -- from an abstract heap in which nothing but the script may be tracked
  have core : ∀ H : Hp, Only H → SqL K H a (ns.map V.int) → HOk P w H s₁.heap → (∀ b, H b ≠ none → b = a) → (H a ≠ none → K.lookup a = none) →
      codeAny (model P w) callerA (.call (.ref fa) ⟨[.ref a], []⟩) (fun r s' => r = .ok (.ret (.bool true)) ∧ OldK s₁.heap s'.heap ∧ s'.os = s₁.os ∧ AllBare s'.gens) s₁ := by
    intro H hO hS hok hA hK
    have base_of : ∀ {b : Addr} {o : Obj}, s₁.heap.get? b = some o → H b = none → (hidT s₁.heap H).get? b = some o := fun e n => hidT_get e n
    have noA : ∀ {b : Addr} {o : Obj} {es : Array DictEntry} {ep : Nat}, s₁.heap.get? b = some o → o.data = .dict es ep → H b = none := fun {b o es ep} e d => by
      cases q : H b with
      | none => rfl
      | some u =>
        have e' : b = a := hA b (by rw [q]; simp)
        subst e'
        rw [ha] at e; cases e
        have d' : Data.seq vs.toArray _ = Data.dict es ep := d
        cases d'
    have nsK : ∀ {b : Addr} {m : Str → Option Value}, s₁.heap.Ns b m → (hidT s₁.heap H).Ns b m := fun {b m} ⟨o, es, ep, e, d, r⟩ => ⟨o, es, ep, base_of e (noA e d), d, r⟩
    have hKb : K.In (hidT s₁.heap H) := fun b o e => base_of (KX b o e) (by
      cases q : H b with
      | none => rfl
      | some u =>
        have e' : b = a := hA b (by rw [q]; simp)
        subst e'
        rw [hK (by rw [q]; simp)] at e; cases e)
    have hM : Mod K mg (hidT s₁.heap H) := ⟨hKb, nsK hns, ⟨mb, nsK hb, hbb⟩, let ⟨mc, h1, h2⟩ := hlim; ⟨mc, nsK h1, h2⟩⟩
    have e0 : Env0 P w K mg (hidT s₁.heap H) callerA [] s₁ H := ⟨rfl, hM, fun b o e => of_hidT e, Nat.le_of_eq (hidT_size _ _), trivial, fun b hb => absurd (show b ∈ ([] : List Addr) from hb) (by simp), hok, .of_eq hg⟩
    refine codeAny_mono ((F _ hKb (nsK hns)).run callerA [] s₁ H ⟨[.ref a], []⟩ [.ref a] [.ref a] _ _ hr e0 (hbind s₁ (.ref a)) (.cons rfl .nil) (hsp H hO hS)) fun r s' h => ?_
    cases r with
    | error e => exact (hCX H e s' h).elim
    | ok fl =>
      cases fl with
      | next => exact False.elim h
      | brk => exact False.elim h
      | cont => exact False.elim h
      | ret u =>
        obtain ⟨v, H', os, bare, un, hok', r', q⟩ := h
        have q' : v = .bl true := q
        subst q'
        obtain rfl : u = Value.bool true := r'
        refine ⟨rfl, OldK.of_keep fun b o e => ?_, os, bare⟩
        cases q : H b with
        | none => exact un.keep b o e q (by intro z; exact absurd (show b ∈ ([] : List Addr) from z) (by simp)) (by simp)
        | some u =>
          rcases hO b with z | ⟨ob, xs, z⟩
          · rw [q] at z; cases z
          · have z2 := un.frzs b ob _ z
            obtain ⟨e1, _⟩ := hok b _ z
            obtain ⟨e2, _⟩ := hok' b _ z2
            rw [e] at e1; cases e1
            exact e2
  cases hk : K.lookup a with
  | some o =>
    -- the script is one of the module's own objects
    have e := KX a o hk
    rw [ha] at e
    cases e
    refine core (fun _ => none) (fun _ => .inl rfl) (.inr ⟨_, vs.toArray, _, hk, rfl, rfl, rfl, by rw [List.size_toArray, lenV]; exact hl, by simpa using rv⟩) (fun b u z => by have z' : (none : Option HO) = some u := z; cases z') (fun b z => absurd rfl z) fun z => absurd rfl z
  | none =>
    refine core (fun b => if b = a then some (.frz { cls := .type "list", data := .seq vs.toArray } (.lst (ns.map V.int))) else none) (fun b => ?_) (.inl (.inr ⟨{ cls := .type "list", data := .seq vs.toArray }, if_pos rfl⟩)) (fun b u z => ?_) (fun b z => ?_) fun _ => hk
    · by_cases hb : b = a
      · exact .inr ⟨_, _, if_pos hb⟩
      · exact .inl (if_neg hb)
    · by_cases hb : b = a
      · have z' := (if_pos hb).symm.trans z
        cases z'
        subst hb
        exact ⟨ha, by rw [List.length_map]; exact hl, vs, _, rv, ha⟩
      · have z' := (if_neg hb).symm.trans z
        cases z'
    · by_cases hb : b = a
      · exact hb
      · exact absurd (if_neg hb) z
end L2

namespace L2
open PySem PySem.Spec PyProof.Rows

noncomputable abbrev KOf {K : PySem.W.Frag} {h : Heap} (_ : K.In h) : PySem.W.Frag := K

/-- the goal that k_head leaves (case hc), from the law's promise. F gives the function object fd (K's own) once, then the promise over every base -/
theorem walk_of {l : PySem.W.OpenLaw} {n k : Nat} {q : Program} {loose : List Str} {XP : (Str → Option Value) → Heap → Prop} {YP : World → Heap → Prop} {d : DefRec} {K : Params → PySem.W.Frag} {CX : World → CXT} {sp : World → Sp} {x : Str}
    (hn : l.most = some n) (hn2 : n ≤ sizeLine) (hdf : d.params.defaults = []) (hr : Room k callerA)
    (hY : ∀ (w : World) (h : Heap), YP w h → (K w.params).In h)
    (F : ∀ (w : World) (mg : Str → Option Value) (fa : Addr) (h : Heap), (K w.params).In h → h.Ns mainGlobals mg → mg d.name = some (.ref fa) →
      ∃ fd : FuncData, (∀ (s : Shared) (u : Value), BindsTo s fd ⟨[u], []⟩ [(x, u)]) ∧
        ∀ base : Heap, (K w.params).In base → base.Ns mainGlobals mg → FnOk l.prog w (K w.params) mg base (CX w) k fa fd [x] (sp w))
    (hsp : ∀ (w : World) (H : Hp) (a : Addr) (ns : List Int), ns.length ≤ n → Only H → SqL (K w.params) H a (ns.map V.int) → sp w [.ref a] H (fun v _ => v = .bl true) fun _ _ _ => False)
    (hCX : ∀ (w : World) (H : Hp) (s : Shared) (e : Value) (s' : Shared), CX w [] H s (fun _ _ _ => False) e s' → False) :
    PySem.W.WalkO q loose XP YP l.row.toRowW d [] (fun f vs => PySem.call f vs) := by
  refine Att.attach_call hn hdf fun w s₀ s₁ mg mb fa o pm cd doc a vs ns G Y ho hd hcd hmg hobj hints hlen hg => ?_
  have KX := hY w _ Y
  obtain ⟨fd, hb, hF⟩ := F w mg fa _ KX G.T.g hmg
  exact law_call KX G.T.g G.T.b G.T.builtins G.T.nolimit hg hobj hints (Nat.le_trans hlen hn2) hr hF hb (fun H hO hS => hsp w H a ns hlen hO hS) fun H e s' => hCX w H s₁ e s'
end L2


/-! SHORT WORDS over the layer: a def of the text, its body, what a loop and a test want. -/
namespace L2
open PySem PySem.Spec PyProof.Rows

/-! ### the text by places -/
/-- the j-th statement of a class's body -/
noncomputable def inClass (s : Stmt) (j : Nat) : Stmt := match s with
  | .ClassDef _ _ _ body _ _ _ _ _ _ _ => body.getD j (.Pass ⟨0, 0, 0, 0⟩)
  | _ => .Pass ⟨0, 0, 0, 0⟩
noncomputable def defArgs (s : Stmt) : Arguments := match s with
  | .FunctionDef _ a _ _ _ _ _ _ _ _ => a
  | _ => { posonlyargs := [], args := [], vararg := none, kwonlyargs := [], kw_defaults := [], kwarg := none, defaults := [] }
noncomputable def defBody (s : Stmt) : List Stmt := match s with
  | .FunctionDef _ _ b _ _ _ _ _ _ _ => b
  | _ => []
noncomputable def defScope (s : Stmt) : Scope := match s with
  | .FunctionDef _ _ _ _ _ _ sc _ _ _ => sc
  | _ => { kind := .function, names := [], isGenerator := false, isCoroutine := false }

/-! ### no exception leaves a def -/
noncomputable abbrev CX0 : CXT := fun _ _ _ _ _ _ => False
noncomputable abbrev E0 : XK := fun _ _ _ => False

/-! ### a def (or method) of the text as it stands behind the top -/
structure Fun (K : PySem.W.Frag) (x qual : Str) (st : Stmt) (f : Addr) (fd : FuncData) : Prop where
  ex : ∃ (oc : Value) (od : Option Addr) (kV doc pm : Value) (an : Option Addr) (cdv ct : Value) (osl : Array (Option Value)),
    fd = PySem.W.fnOf x qual (defArgs st) (defBody st) (defScope st) .none kV doc pm an cdv ct ∧ K.lookup f = some ⟨oc, od, .func fd, osl⟩ ∧ PySem.W.codeIn K cdv qual = true
  kp : PySem.W.keepIn K (.ref f) = true
section
variable {P : Program} {w : World} {K : PySem.W.Frag} {mg : Str → Option Value} {base : Heap}
/-- how its arguments bind (no defaults): h is «fun _ _ _ _ _ _ us hl => match us, hl with | [_, _], _ => rfl», one _ a parameter -/
theorem Fun.binds {x qual : Str} {st : Stmt} {f : Addr} {fd : FuncData} {ps : List Str} (F : Fun K x qual st f fd)
    (h : ∀ (kV doc pm : Value) (an : Option Addr) (cdv ct : Value) (us : List Value), us.length = ps.length → bindArgs (PySem.W.fnOf x qual (defArgs st) (defBody st) (defScope st) .none kV doc pm an cdv ct) ⟨us, []⟩ = pure (ps.zip us)) : Binds K fd ps [] := by
  obtain ⟨oc, od, kV, doc, pm, an, cdv, ct, osl, rfl, lk, hcd⟩ := F.ex
  exact .all (h kV doc pm an cdv ct)
theorem fun_mk {x qual : Str} {st : Stmt} {f : Addr} {oc : Value} {od an : Option Addr} {osl : Array (Option Value)} {kV doc pm cdv ct : Value} (l : K.lookup f = some ⟨oc, od, .func (PySem.W.fnOf x qual (defArgs st) (defBody st) (defScope st) .none kV doc pm an cdv ct), osl⟩)
    (c : PySem.W.codeIn K cdv qual = true) (k : PySem.W.keepIn K (.ref f) = true) : Fun K x qual st f (PySem.W.fnOf x qual (defArgs st) (defBody st) (defScope st) .none kV doc pm an cdv ct) := ⟨⟨oc, od, kV, doc, pm, an, cdv, ct, osl, rfl, l, c⟩, k⟩
end
theorem small1000 {n : Nat} (h : n ≤ 1000) : n < sizeLine := Nat.lt_of_le_of_lt h (by decide)

/-! ### expressions in short: the name that stands in the i-th slot -/
section
variable {X : Cx}
theorem pv (i : Nat) {x : Str} {pos : Pos} (hN : X.N[i]? = some x := by rfl) (hv : Vis X.env.scope x := by first | exact Or.inl rfl | exact Or.inr (Or.inl rfl) | exact Or.inr (Or.inr rfl)) (hd : (x == ("__debug__" : Str)) = false := by decide)
    (hcd : (x == ("__classdict__" : Str)) = false := by decide) : PE X (.Name x pos) (tVar i) := pe_var hN hv hd hcd
end

/-! ### tests -/
theorem iteF {A B : Prop} (h : B) : if false = true then A else B := by
  rw [if_neg Bool.false_ne_true]
  exact h
theorem iteT {A B : Prop} (h : A) : if true = true then A else B := by
  rw [if_pos rfl]
  exact h

/-! ### heaps -/
/-- all that was tracked is as it was -/
noncomputable def Same (H H' : Hp) : Prop := ∀ b o, H b = some o → H' b = some o
theorem Same.refl (H : Hp) : Same H H := fun _ _ h => h
theorem Same.trans {H H1 H2 : Hp} (a : Same H H1) (b : Same H1 H2) : Same H H2 := fun c o h => b c o (a c o h)
theorem Same.free {H H' : Hp} (e : Same H H') {l : Addr} (h : H' l = Option.none) : H l = Option.none := by
  cases q : H l with
  | none => rfl
  | some o =>
    rw [e l o q] at h
    cases h
theorem Same.seq {K : PySem.W.Frag} {H H' : Hp} {a : Addr} {xs : List V} (e : Same H H') (h : SqL K H a xs) : SqL K H' a xs := by
  rcases h with (h | ⟨o, h⟩) | h
  · exact .inl (.inl (e _ _ h))
  · exact .inl (.inr ⟨o, e _ _ h⟩)
  · exact .inr h

end L2

set_option Elab.async false
set_option linter.all false
set_option maxRecDepth 100000
set_option maxHeartbeats 4000000
/-! comprehensions over the hand layer -/
namespace L2
open PySem PySem.Spec PyProof.Rows

/-! ### the closure of a comprehension's block -/
noncomputable def clFrom (env : Env) : List (Str × NameKind) → List (Str × Addr) → List (Str × Addr)
  | [], acc => acc
  | (n, k) :: r, acc => clFrom env r (if k == .free then (n, (env.cells.lookup n).getD 0) :: acc else acc)
noncomputable abbrev clOf (scope : Scope) (env : Env) : List (Str × Addr) := clFrom env scope.names []

theorem closureFor_cl {scope : Scope} {env : Env} (h : ∀ y ∈ scope.names, y.2 = .free → ∃ c, env.cells.lookup y.1 = some c) : closureFor scope env = pure (clOf scope env) := by
  have all : ∀ (names : List (Str × NameKind)) (acc : List (Str × Addr)), (∀ y ∈ names, y.2 = .free → ∃ c, env.cells.lookup y.1 = some c) →
      (forIn names acc fun (x : Str × NameKind) (cs : List (Str × Addr)) => (match x with
        | (name, kind) => if (kind == .free) = true then do let y ← cellOf env name; pure (ForInStep.yield ((name, y) :: cs)) else pure (ForInStep.yield cs) : Sem (ForInStep (List (Str × Addr))))) = pure (clFrom env names acc) := by
    intro names
    induction names with
    | nil => intro acc _; rfl
    | cons y r ih =>
      intro acc hy
      obtain ⟨n, k⟩ := y
      rw [List.forIn_cons]
      by_cases hk : k = .free
      · subst hk
        obtain ⟨c, hc⟩ := hy (n, .free) List.mem_cons_self rfl
        have e : cellOf env n = pure c := by unfold cellOf; rw [hc]
        show (((cellOf env n >>= fun y => pure (ForInStep.yield ((n, y) :: acc))) : Sem _) >>= _) = _
        rw [e]
        show (forIn r ((n, c) :: acc) _ : Sem _) = _
        rw [ih _ fun z hz => hy z (List.mem_cons_of_mem _ hz)]
        show _ = pure (clFrom env r ((n, (env.cells.lookup n).getD 0) :: acc))
        rw [hc]
        rfl
      · have hb : (k == NameKind.free) = false := by simpa using hk
        show ((if (k == NameKind.free) = true then _ else pure (ForInStep.yield acc) : Sem _) >>= _) = _
        rw [hb]
        show (forIn r acc _ : Sem _) = _
        rw [ih _ fun z hz => hy z (List.mem_cons_of_mem _ hz)]
        show _ = pure (clFrom env r (if (k == NameKind.free) = true then _ else acc))
        rw [hb]
        rfl
  unfold closureFor
  have := all scope.names [] h
  rw [show (pure (clOf scope env) : Sem _) = (pure (clOf scope env) >>= pure) from rfl, ← this]

theorem clFrom_sub {env : Env} : ∀ (names : List (Str × NameKind)) (acc : List (Str × Addr)), (∀ y ∈ names, y.2 = .free → ∃ c, env.cells.lookup y.1 = some c) → (∀ x c, acc.lookup x = some c → env.cells.lookup x = some c) →
    ∀ x c, (clFrom env names acc).lookup x = some c → env.cells.lookup x = some c
  | [], _, _, ha => ha
  | (n, k) :: r, acc, hy, ha => by
    refine clFrom_sub r _ (fun z hz => hy z (List.mem_cons_of_mem _ hz)) fun x c hx => ?_
    by_cases hk : k = .free
    · subst hk
      obtain ⟨d, hd⟩ := hy (n, .free) List.mem_cons_self rfl
      rw [if_pos (by rfl), List.lookup_cons] at hx
      cases e : x == n with
      | true =>
        rw [e, hd] at hx
        have : x = n := by simpa using e
        subst this
        rw [hd]; exact hx
      | false =>
        rw [e] at hx
        exact ha x c hx
    · have hb : ¬ (k == NameKind.free) = true := by simpa using hk
      rw [if_neg hb] at hx
      exact ha x c hx
theorem clFrom_mono {env : Env} : ∀ (names : List (Str × NameKind)) (acc : List (Str × Addr)) (x : Str), (∃ c, acc.lookup x = some c) → ∃ c, (clFrom env names acc).lookup x = some c
  | [], _, _, ha => ha
  | (n, k) :: r, acc, x, ha => by
    refine clFrom_mono r _ x ?_
    split
    · rw [List.lookup_cons]
      split
      · exact ⟨_, rfl⟩
      · exact ha
    · exact ha
theorem clFrom_has {env : Env} : ∀ (names : List (Str × NameKind)) (acc : List (Str × Addr)) (x : Str), (x, NameKind.free) ∈ names → ∃ c, (clFrom env names acc).lookup x = some c
  | [], _, _, h => by cases h
  | (n, k) :: r, acc, y, h => by
    rcases List.mem_cons.mp h with e | h
    · cases e
      refine clFrom_mono r _ _ ?_
      rw [if_pos (by rfl), List.lookup_cons]
      simp
    · exact clFrom_has r _ y h

theorem relabel_look {env : Env} {k : NameKind} (hk : k = .cell ∨ k = .free) : ∀ {names : List (Str × NameKind)} {x : Str}, (∀ y ∈ names, y.2 ≠ .cell) →
    (names.map fun (n, k) => if (k == NameKind.free && env.scope.kind == .function && env.kindOf n == some .cell) then (n, NameKind.cell) else (n, k)).lookup x = some k → (x, NameKind.free) ∈ names
  | [], _, _, h => by simp at h
  | (n, j) :: r, x, hn, h => by
    have ih := @relabel_look env k hk r x fun y hy => hn y (List.mem_cons_of_mem _ hy)
    have hj : j ≠ .cell := hn (n, j) List.mem_cons_self
    rw [List.map_cons] at h
    by_cases hc : (j == NameKind.free && env.scope.kind == .function && env.kindOf n == some .cell) = true
    · have hf : j = .free := by
        rw [Bool.and_eq_true, Bool.and_eq_true] at hc
        simpa using hc.1.1
      subst hf
      dsimp only at h
      rw [if_pos hc, List.lookup_cons] at h
      cases e : x == n with
      | true =>
        have : x = n := by simpa using e
        subst this
        exact List.mem_cons_self
      | false => rw [e] at h; exact List.mem_cons_of_mem _ (ih h)
    · dsimp only at h
      rw [if_neg hc, List.lookup_cons] at h
      cases e : x == n with
      | true =>
        rw [e] at h
        have : x = n := by simpa using e
        subst this
        have hjk : j = k := Option.some.inj h
        subst hjk
        rcases hk with z | z
        · exact absurd z hj
        · subst z; exact List.mem_cons_self
      | false => rw [e] at h; exact List.mem_cons_of_mem _ (ih h)

theorem relabel_free_not_local {scope : Scope} {env : Env} {x : Str} (hf : scope.names.lookup x = some .free) : (relabel scope env).names.lookup x ≠ some .local := by
  have all : ∀ (names : List (Str × NameKind)), names.lookup x = some .free →
      (names.map fun (n, k) => if (k == NameKind.free && env.scope.kind == .function && env.kindOf n == some .cell) then (n, NameKind.cell) else (n, k)).lookup x ≠ some .local := by
    intro names
    induction names with
    | nil => intro h; simp at h
    | cons y r ih =>
      obtain ⟨n, k⟩ := y
      intro h
      rw [List.lookup_cons] at h
      rw [List.map_cons]
      dsimp only
      cases e : x == n with
      | true =>
        rw [e] at h
        have hk : k = .free := Option.some.inj h
        subst hk
        split
        · rw [List.lookup_cons, e]; intro z; cases z
        · rw [List.lookup_cons, e]; intro z; cases z
      | false =>
        rw [e] at h
        split
        · rw [List.lookup_cons, e]; exact ih h
        · rw [List.lookup_cons, e]; exact ih h
  exact all _ hf

/-! ### the block's context -/
noncomputable def blkCx (X : Cx) (scope : Scope) (N' : List Str) (C : Addr) (s : Shared) (H : Hp) (fp : List Addr) (pins : List (Addr × Obj)) : Cx where
  prog := X.prog
  w := X.w
  K := X.K
  mg := X.mg
  base := X.base
  A := X.A
  N := N'
  s₀ := s
  H₀ := H
  env := compEnvC scope (clOf scope X.env) C X.env
  outer := X.stack
  stack := X.stack
  ex := fp
  fn := fun _ => false
  calm := X.calm
  pn := X.pn ++ pins
  xe := fun _ _ => False

/-- the block's slots: none a target, some i the outer slot i -/
noncomputable def blkSt (bl : List (Option Nat)) (σ : St) : St := bl.map fun o => match o with
  | none => none
  | some i => (σ[i]?).join

/-- what is looked at once, over written things -/
noncomputable def compOk (sc scope : Scope) (N N' : List Str) (bl : List (Option Nat)) : Bool :=
  (scope.kind == .function) &&
  (scope.names.all fun x => (x.2 != .local || scope.names.lookup x.1 == some .local) && x.2 != .cell && (x.2 != .free || (sc.names.lookup x.1 == some .cell || sc.names.lookup x.1 == some .free))) &&
  (bl.length == N'.length) &&
  ((List.range bl.length).all fun j => match bl[j]? with
    | some (some i) => match N'[j]? with
      | some x => N[i]? == some x && scope.names.lookup x == some .free && (sc.names.lookup x == some .cell || sc.names.lookup x == some .free)
      | none => false
    | _ => true)

structure CompOk (sc scope : Scope) (N N' : List Str) (bl : List (Option Nat)) : Prop where
  kind : scope.kind = .function
  names : ∀ x ∈ scope.names, x.2 = .local → scope.names.lookup x.1 = some .local
  nocell : ∀ x ∈ scope.names, x.2 ≠ .cell
  frees : ∀ x ∈ scope.names, x.2 = .free → sc.names.lookup x.1 = some .cell ∨ sc.names.lookup x.1 = some .free
  len : bl.length = N'.length
  src : ∀ (j i : Nat) (x : Str), bl[j]? = some (some i) → N'[j]? = some x → N[i]? = some x ∧ scope.names.lookup x = some .free ∧ (sc.names.lookup x = some .cell ∨ sc.names.lookup x = some .free)
theorem CompOk.of {sc scope : Scope} {N N' : List Str} {bl : List (Option Nat)} (h : compOk sc scope N N' bl = true) : CompOk sc scope N N' bl := by
  unfold compOk at h
  simp only [Bool.and_eq_true, List.all_eq_true, Bool.or_eq_true, bne_iff_ne, beq_iff_eq, ne_eq] at h
  obtain ⟨⟨⟨h1, h2⟩, h3⟩, h4⟩ := h
  refine ⟨h1, fun x hx e => ?_, fun x hx => (h2 x hx).1.2, fun x hx e => ?_, h3, fun j i x hb hx => ?_⟩
  · rcases (h2 x hx).1.1 with z | z
    · exact absurd e z
    · exact z
  · rcases (h2 x hx).2 with z | z
    · exact absurd e z
    · exact z
  · have hj : j < bl.length := (List.getElem?_eq_some_iff.mp hb).1
    have q := h4 j (List.mem_range.mpr hj)
    rw [hb] at q
    simp only [hx, Bool.and_eq_true, beq_iff_eq, Bool.or_eq_true] at q
    exact ⟨q.1.1, q.1.2, q.2⟩

section
variable {X : Cx} {pins : List (Addr × Obj)} {σ : St} {H : Hp} {s : Shared} {scope : Scope} {N' : List Str} {bl : List (Option Nat)} {fp : List Addr}
theorem Inv.cellsOf (I : Inv X pins σ H s) (k : CompOk X.env.scope scope X.N N' bl) : ∀ y ∈ scope.names, y.2 = .free → ∃ c, X.env.cells.lookup y.1 = some c := fun y hy e => I.ok.has y.1 (k.frees y hy e)
theorem Inv.clSub (I : Inv X pins σ H s) (k : CompOk X.env.scope scope X.N N' bl) : ∀ x c, (clOf scope X.env).lookup x = some c → X.env.cells.lookup x = some c :=
  clFrom_sub _ _ (I.cellsOf k) fun x c h => by simp at h

/-- the block begins -/
theorem Inv.block {h₁ : Heap} {tk : Nat} {m : Str → Option Value} (I : Inv X pins σ H s) (k : CompOk X.env.scope scope X.N N' bl) (hfp : ∀ b ∈ fp, FpOk X pins H b) (hex : ∀ b ∈ fp, ∃ o, s.heap.get? b = some o)
    (hns : h₁.Ns s.heap.objs.size m) (keep : ∀ b o, s.heap.get? b = some o → h₁.get? b = some o) :
    Inv (blkCx X scope N' s.heap.objs.size s H fp pins) [] (blkSt bl σ) H { s with heap := h₁, toks := tk } := by
  have sub := I.clSub k
  have stkS : ∀ b ∈ frs X.stack, b ∈ X.env.locals :: X.fs := I.stkSub
  have ok : (blkCx X scope N' s.heap.objs.size s H fp pins).Ok := by
    refine ⟨I.ok.mod, by exact k.kind, I.ok.glob, I.ok.blt, Nat.le_refl _, fun x y c h1 h2 => I.ok.inj x y c (sub x c h1) (sub y c h2), fun x hx => ?_, fun x c hx => ?_, I.ok.hd, I.ok.frames, .inl rfl, fun b hb => ⟨?_, fun x c e => ?_⟩, I.bs,
      Nat.le_trans I.ok.bsz I.sz, fun b o e hb => ?_, fun b hb z => ?_, I.stack, I.stkFree⟩
    · have hx' : (relabel scope X.env).names.lookup x = some .cell ∨ (relabel scope X.env).names.lookup x = some .free := hx
      have : (x, NameKind.free) ∈ scope.names := by
        rcases hx' with z | z
        · exact relabel_look (.inl rfl) k.nocell z
        · exact relabel_look (.inr rfl) k.nocell z
      exact clFrom_has _ _ x this
    · exact absurd (show false = true from hx) Bool.false_ne_true
    · obtain ⟨o, e⟩ := hex b hb
      exact Nat.ne_of_lt (Heap.lt_size e)
    · exact (hfp b hb).2.2.2.2.1 x c (sub x c e)
    · rcases (hfp b hb).2.2.2.1 with z | z
      · exact I.ok.noex b o e z
      · exact absurd (Nat.lt_of_lt_of_le (Heap.lt_size e) (Nat.le_trans I.ok.bsz z)) (Nat.lt_irrefl _)
    · rcases List.mem_cons.mp (stkS b z) with e | e
      · exact (hfp b hb).2.1 e
      · exact (hfp b hb).2.2.1 e
  refine ⟨ok, rfl, I.bare, Un.kept keep, ⟨m, hns, fun j x v e1 e2 e3 => ?_⟩, fun x c e => ?_, I.hok.fresh (Nat.le_refl _), fun x c e => I.freeC x c (sub x c e), fun p hp => ?_, I.hok.kept keep, ?_⟩
  · -- a name that the block takes from the frame
    have e1 : N'[j]? = some x := e1
    have e2 : (bl.map fun o => match o with
      | none => none
      | some i => (σ[i]?).join)[j]? = some (some v) := e2
    rw [List.getElem?_map] at e2
    cases hb : bl[j]? with
    | none => rw [hb] at e2; cases e2
    | some o =>
      rw [hb] at e2
      cases o with
      | none => cases e2
      | some i =>
        obtain ⟨hN, hf, hs⟩ := k.src j i x hb e1
        have e4 : (σ[i]?).join = some v := Option.some.inj e2
        have e5 : σ[i]? = some (some v) := by
          cases q : σ[i]? with
          | none => rw [q] at e4; cases e4
          | some z => rw [q] at e4; cases z with
            | none => cases e4
            | some y => cases e4; rfl
        obtain ⟨m', hn', hl'⟩ := I.loc
        obtain ⟨u, r, l⟩ := hl' i x v hN e5 (by rcases hs with z | z; exact .inr (.inl z); exact .inr (.inr z))
        refine ⟨u, r, ?_⟩
        rcases l with ⟨l, _⟩ | ⟨l, c, hc, hcell⟩
        · exfalso
          have l' : X.env.scope.names.lookup x = some .local := l
          rcases hs with z | z
          · rw [l'] at z; cases z
          · rw [l'] at z; cases z
        · obtain ⟨c', hc'⟩ := clFrom_has (env := X.env) scope.names [] x (PySem.mem_of_lookup hf)
          have : c' = c := by
            have := sub x c' hc'
            rw [hc] at this
            exact (Option.some.inj this).symm
          subst this
          obtain ⟨oc, ho, hd⟩ := hcell
          refine .inr ⟨?_, c', hc', oc, keep _ _ ho, hd⟩
          rcases e3 with z | z | z
          · exfalso
            have z' : (relabel scope X.env).names.lookup x = some .local := z
            exact absurd z' (relabel_free_not_local hf)
          · exact .inl z
          · exact .inr z
  · obtain ⟨v, o, ho, hd⟩ := I.cell x c (sub x c e)
    exact ⟨v, o, keep _ _ ho, hd⟩
  · have hp' : p ∈ X.pn ++ pins := by
      have : p ∈ (X.pn ++ pins) ++ [] := hp
      simpa using this
    obtain ⟨e, n, ne, nf, d⟩ := I.pin p hp'
    refine ⟨keep _ _ e, n, Nat.ne_of_lt (Heap.lt_size e), fun z => ?_, d⟩
    rcases List.mem_cons.mp (stkS p.1 z) with q | q
    · exact ne q
    · exact nf q
  · show (bl.map _).length = N'.length
    rw [List.length_map]
    exact k.len

/-- the block is left -/
theorem Inv.unblock {σ' : St} {H' : Hp} {s' : Shared} {C : Addr} {pins' : List (Addr × Obj)} (I : Inv X pins σ H s) (hfp : ∀ b ∈ fp, FpOk X pins H b) (J : Inv (blkCx X scope N' C s H fp pins) pins' σ' H' s') : Inv X pins σ H' s' :=
  I.call' (ch := fp) J.os J.base J.hok J.bare fun b hb => ⟨(hfp b hb).2.2.2.1, (hfp b hb).2.1, (hfp b hb).2.2.2.2.1, (hfp b hb).2.2.2.2.2⟩
end

/-! ### the loop of the block -/
section
variable {prog : Program} {w : World} {A : Around} {R : Result → Shared → Prop} {s : Shared}
theorem compLoop_gen {elt target iter : Expr} {ifs : List Expr} {scope : Scope} {pos : Pos} {it acc : Value} {env : Env} (I : Nat → Shared → Prop)
    (turn : ∀ n s, I n s → wpAny (model prog w) A (pyNext it) (fun r s₁ => match r with
      | none => R (.ok .next) s₁
      | some v => wpAny (model prog w) A (letOwnedTupleGo target it v) (fun _ s₁' => wpAny (model prog w) A (assign target env v) (fun _ s₂ =>
          wpAny (model prog w) A (forIn ifs true fun c r => if r = true then do let ok ← isTrue c env (eval c env); pure (ForInStep.yield ok) else pure (ForInStep.yield r)) (fun ok s₃ =>
            if ok = true then wpAny (model prog w) A (eval elt env) (fun x s₄ =>
              wpAny (model prog w) A (call (.builtin "list.append") [acc, x]) (fun _ s₅ => ∃ m, m < n ∧ I m s₅) (notedBy (model prog w) A env fun e s' => R (.error e) s') s₄) (notedBy (model prog w) A env fun e s' => R (.error e) s') s₃
            else ∃ m, m < n ∧ I m s₃) (notedBy (model prog w) A env fun e s' => R (.error e) s') s₂) (notedBy (model prog w) A env fun e s' => R (.error e) s') s₁') (notedBy (model prog w) A env fun e s' => R (.error e) s') s₁) (notedBy (model prog w) A env fun e s' => R (.error e) s') s)
    (n : Nat) (h : I n s) : codeAny (model prog w) A (.compLoop (.ListComp elt [⟨target, iter, ifs, 0⟩] scope pos) 0 it acc env) R s := by
  refine codeAny_loop rfl I (fun n s hI => ?_) n h
  show wpAny _ A ((compTurn (.ListComp elt [⟨target, iter, ifs, 0⟩] scope pos) 0 it acc env).onRaise (fun x => do noteFrame x env; theTreesLotGoes x)) _ _ s
  refine wpAny_noted ?_
  rw [compTurn_list]
  refine wpAny_bind (wpAny_standAt (wpAny_bind (wpAny_mono (turn n s hI) (fun r s₁ h₁ => ?_) fun _ _ h' => h')))
  cases r with
  | none => exact wpAny_pure h₁
  | some v =>
    refine wpAny_bind (wpAny_mono h₁ (fun _ s₁' h₁' => ?_) fun _ _ h' => h')
    refine wpAny_bind (wpAny_mono h₁' (fun _ s₂ h₂ => wpAny_bind (wpAny_mono h₂ (fun ok s₃ h₃ => ?_) fun _ _ h' => h')) fun _ _ h' => h')
    cases ok with
    | false => exact wpAny_pure ⟨rfl, h₃⟩
    | true =>
      exact wpAny_bind (wpAny_bind (wpAny_mono h₃ (fun x s₄ h₄ => wpAny_bind (wpAny_mono h₄ (fun _ s₅ h₅ => wpAny_pure (wpAny_pure ⟨rfl, h₅⟩)) fun _ _ h' => h')) fun _ _ h' => h'))
end

/-- the tests of a clause -/
noncomputable def PIfs (X : Cx) (ifs : List Expr) (t : TT) : Prop :=
  ∀ (pins : List (Addr × Obj)) (s : Shared) (σ : St) (H : Hp) (Q : Bool → Hp → Prop), Inv X pins σ H s → t σ H Q →
    wpAny (model X.prog X.w) X.A (forIn ifs true fun c r => if r = true then do let ok ← isTrue c X.env (eval c X.env); pure (ForInStep.yield ok) else pure (ForInStep.yield r)) (TP X pins σ Q) X.xe s
noncomputable def tTrue : TT := fun _ H Q => Q true H
theorem pif_nil {X : Cx} : PIfs X [] tTrue := fun _ _ _ H _ I h => wpAny_tests_nil ⟨H, I, h⟩
theorem pif_one {X : Cx} {c : Expr} {t : TT} (h : PT X c t) : PIfs X [c] t := fun pins s σ H Q I q => wpAny_tests_one (h pins s σ H Q I q)

/-- a target leaves the other slots as they are -/
noncomputable def KeepG (g : TG) (σ0 : St) : Prop := ∀ (x : V) (H : Hp) (R : St → Hp → Prop), g x σ0 H R → g x σ0 H fun σ2 H2 => R σ2 H2 ∧ (∀ (j : Nat) v, σ0[j]? = some (some v) → σ2[j]? = some (some v)) ∧ σ2.length = σ0.length

/-- the reading of a comprehension: D the new list, W the invariant by the turn and a measure -/
noncomputable def CompB (bl : List (Option Nat)) (g : TG) (tc : TT) (te : TE) (σ : St) (Q : VK) (J : It) (H1 : Hp) : Prop := ∀ D, H1 D = none → ∃ W : Nat → Nat → Hp → Prop, (∃ m, W 0 m (upd H1 D (.lst []))) ∧ ∀ i m H2, W i m H2 →
  (J.stop i H2 ∧ Q (.ref D) H2) ∨ (J.go i H2 ∧ ∀ x H3, J.yld i H2 x H3 → KeepG g (blkSt bl σ) ∧ g x (blkSt bl σ) H3 fun σ2 H4 => tc σ2 H4 fun b H5 =>
    if b = true then te σ2 H5 fun v H6 => ∃ xs, H6 D = some (.lst xs) ∧ xs.length < sizeLine ∧ ∃ m', m' < m ∧ W (i + 1) m' (upd H6 D (.lst (xs ++ [v]))) else ∃ m', m' < m ∧ W (i + 1) m' H5)
noncomputable def tComp (bl : List (Option Nat)) (wi : TI) (g : TG) (tc : TT) (te : TE) : TE := fun σ H Q => wi σ H fun J H1 => CompB bl g tc te σ Q J H1

section
variable {X : Cx} {pins : List (Addr × Obj)} {σ : St} {H : Hp} {s : Shared} {scope : Scope} {N' : List Str} {bl : List (Option Nat)} {elt tg iter : Expr} {ifs : List Expr} {pos pos' : Pos} {wi : TI} {g : TG} {tc : TT} {te : TE}
theorem comp_core {use : Option (Value → Sem Unit)} {Qr : VK} {Qv : Value → Shared → Prop} (hc : X.calm = true) (k : CompOk X.env.scope scope X.N N' bl) (hi : PI X tg iter wi)
    (hg : ∀ C s H fp pins, PG (blkCx X scope N' C s H fp pins) tg g) (hf : ∀ C s H fp pins, PIfs (blkCx X scope N' C s H fp pins) ifs tc) (he : ∀ C s H fp pins, PE (blkCx X scope N' C s H fp pins) elt te)
    (hs : ∀ x, foldedSetIterable iter X.env x = pure x) (I : Inv X pins σ H s) (h : tComp bl wi g tc te σ H Qr)
    (fin : ∀ (D C : Addr) (H6 : Hp) (s6 : Shared) (m : Str → Option Value), Inv X pins σ H6 s6 → s6.heap.Ns C m → FpOk X pins H6 C → Qr (.ref D) H6 → compPost (model X.prog X.w) X.A X.xe use Qv (.ref D) C (.ok .next) s6) :
    wpAny (model X.prog X.w) X.A (comprehension (.ListComp elt [⟨tg, iter, ifs, 0⟩] scope pos) scope X.env pos' (newList []) false (eval iter X.env) use) Qv X.xe s := by
  refine wpAny_comprehension_free rfl hs (closureFor_cl (I.cellsOf k)) k.kind k.names (thn (hi pins s σ H _ I h) fun v s1 h1 => thn h1 fun itv s2 h2 => ?_)
  obtain ⟨it, fp, tn, J, H2, e, I2, T, st2, f2, rd⟩ := h2
  subst e
  have nocell := k.nocell
  refine wpAny_newObj_type (wpAny_newFunctionEnv nocell (by intro y hy; simp at hy) (fun h₁ hns₁ hsb₁ => ?_) k.kind)
  dsimp only at hns₁ hsb₁ ⊢
  have I3 := I2.lnew (ys := []) (its := []) (t' := s2.toks) .nil (Nat.zero_le _)
  obtain ⟨W, ⟨m0, w0⟩, turn⟩ := rd s2.heap.objs.size I2.fresh
  have hD : H2 s2.heap.objs.size = none := I2.fresh
  have hlt : ∀ b ∈ fp, b < s2.heap.objs.size := fun b hb => by
    obtain ⟨o, e, _⟩ := T.obj _ _ st2 b hb
    exact Heap.lt_size e
  have f3 : ∀ b ∈ fp, FpOk X pins (upd H2 s2.heap.objs.size (.lst [])) b := fun b hb => by
    refine ⟨?_, (f2 b hb).2⟩
    rw [upd_ne (Nat.ne_of_lt (hlt b hb))]
    exact (f2 b hb).1
  generalize hs3 : ({ s2 with heap := s2.heap.push { cls := .type "list", data := .seq ([] : List Value).toArray }, toks := s2.toks } : Shared) = s3 at I3
  have hh3 : s3.heap = s2.heap.push { cls := .type "list", data := .seq ([] : List Value).toArray } := by rw [← hs3]
  have k23 : ∀ b o, s2.heap.get? b = some o → s3.heap.get? b = some o := fun b o e => by rw [hh3]; exact Heap.get?_push_of_some _ e
  have keep : ∀ b o, s3.heap.get? b = some o → h₁.get? b = some o := fun b o e => by
    refine hsb₁.extBut b o ?_ ?_
    · have := Heap.lt_size e
      rw [hh3] at this
      exact Nat.ne_of_lt this
    · rw [hh3] at e
      exact Heap.get?_push_of_some _ e
  have hns : ∃ mm, h₁.Ns s3.heap.objs.size mm := ⟨_, by rw [hh3]; exact hns₁⟩
  obtain ⟨mm, hns⟩ := hns
  have hex : ∀ b ∈ fp, ∃ o, s3.heap.get? b = some o := fun b hb => by
    obtain ⟨o, e, _⟩ := T.obj _ _ st2 b hb
    exact ⟨o, k23 b o e⟩
  have st4 : tn 0 h₁ := T.keep _ _ _ st2 fun b hb o e => keep b o (k23 b o e)
  have loop : ∀ s4 : Shared, (∃ tk, s4 = { s3 with heap := h₁, toks := tk }) →
      codeAny (model X.prog X.w) X.A (.compLoop (.ListComp elt [⟨tg, iter, ifs, 0⟩] scope pos) 0 (.ref it) (.ref s2.heap.objs.size) (compEnvC scope (clOf scope X.env) s3.heap.objs.size X.env))
        (compPost (model X.prog X.w) X.A X.xe use Qv (.ref s2.heap.objs.size) s3.heap.objs.size) s4 := by
    rintro s4 ⟨tk, rfl⟩
    have I4 := I3.block (tk := tk) k f3 hex hns keep
    refine compLoop_gen (fun n s' => ∃ i σ' H', Inv (blkCx X scope N' s3.heap.objs.size s3 (upd H2 s2.heap.objs.size (.lst [])) fp pins) [] σ' H' s' ∧ (∀ (j : Nat) v, (blkSt bl σ)[j]? = some (some v) → σ'[j]? = some (some v)) ∧ tn i s'.heap ∧ (∀ b ∈ fp, H' b = none) ∧ W i n H')
      ?_ m0 ⟨0, blkSt bl σ, _, I4, fun _ _ e => e, st4, fun b hb => (f3 b hb).1, w0⟩
    rintro n s5 ⟨i, σ5, H5, I5, wk5, st5, fr5, w5⟩
    have ln : ∀ {σ' : St} {H' : Hp} {s' : Shared} {pins' : List (Addr × Obj)}, Inv (blkCx X scope N' s3.heap.objs.size s3 (upd H2 s2.heap.objs.size (.lst [])) fp pins) pins' σ' H' s' → (blkSt bl σ).length = σ'.length := fun {σ' H' s' pins'} J => by
      rw [J.len]
      show (bl.map _).length = N'.length
      rw [List.length_map]
      exact k.len
    have I5w := I5.weak (σ' := blkSt bl σ) (ln I5) wk5
    have stat : ∀ {H' : Hp}, (∀ b ∈ fp, H' b = none) → ∀ b ∈ fp, FpOk (blkCx X scope N' s3.heap.objs.size s3 (upd H2 s2.heap.objs.size (.lst [])) fp pins) [] H' b := fun {H'} hn b hb => by
      have F := I4.ok
      refine ⟨hn b hb, (F.exf b hb).1, F.exfs b hb, .inl hb, (fun x c e => (F.exf b hb).2 x c e), fun p hp => ?_⟩
      have hp' : p ∈ (X.pn ++ pins) ++ [] := hp
      rw [List.append_nil] at hp'
      exact (f2 b hb).2.2.2.2.2 p hp'
    rcases turn i n H5 w5 with ⟨stop, q⟩ | ⟨go, step⟩
    · refine thn (T.done (blkCx X scope N' s3.heap.objs.size s3 (upd H2 s2.heap.objs.size (.lst [])) fp pins) rfl rfl rfl hc i [] s5 _ H5 _ I5w (stat fr5) st5 stop) fun r s6 ⟨hr, I6⟩ => ?_
      subst hr
      obtain ⟨m6, n6, _⟩ := I6.loc
      exact fin _ s3.heap.objs.size H5 s6 m6 (Inv.unblock I3 f3 I6) n6 (I3.fpOk (Nat.le_refl _) I6.free) q
    · refine thn (T.item (blkCx X scope N' s3.heap.objs.size s3 (upd H2 s2.heap.objs.size (.lst [])) fp pins) rfl rfl rfl hc i [] s5 _ H5 _ I5w (stat fr5) st5 go) fun r s6 ⟨u, hr, h6⟩ => ?_
      subst hr
      refine thn h6 fun _ s7 ⟨x, H7, I7, r7, y7, st7, fr7⟩ => ?_
      have I7' := I7.pinned (stat fr7) (T.obj _ _ st7)
      obtain ⟨kg, sx⟩ := step x H7 y7
      have again : ∀ {σ' : St} {H' : Hp} {s' : Shared} {m' : Nat}, Inv (blkCx X scope N' s3.heap.objs.size s3 (upd H2 s2.heap.objs.size (.lst [])) fp pins) ([] ++ pinsAt fp s7.heap) σ' H' s' → (∀ (j : Nat) v, (blkSt bl σ)[j]? = some (some v) → σ'[j]? = some (some v)) → m' < n → W (i + 1) m' H' →
          ∃ m, m < n ∧ ∃ i σ' H', Inv (blkCx X scope N' s3.heap.objs.size s3 (upd H2 s2.heap.objs.size (.lst [])) fp pins) [] σ' H' s' ∧ (∀ (j : Nat) v, (blkSt bl σ)[j]? = some (some v) → σ'[j]? = some (some v)) ∧ tn i s'.heap ∧ (∀ b ∈ fp, H' b = none) ∧ W i m H' := fun {σ' H' s' m'} J wk hm w => by
        refine ⟨m', hm, i + 1, σ', H', J.unpinned, wk, T.keep _ _ _ st7 fun b hb o e => (J.pin (b, o) (List.mem_append_right _ (List.mem_append_right _ (mem_pinsAt hb e)))).1, fun b hb => ?_, w⟩
        obtain ⟨o, e, d⟩ := T.obj _ _ st7 b hb
        exact (J.pin (b, o) (List.mem_append_right _ (List.mem_append_right _ (mem_pinsAt hb e)))).2.1
      refine wpAny_mono (hg _ _ _ _ _ _ s7 _ H7 x u _ I7' r7 (kg x H7 _ sx)) (fun _ s8 ⟨σ8, H8, I8, q8, wk8, ln8⟩ => ?_) fun _ _ f => f.elim
      refine wpAny_mono (hf _ _ _ _ _ _ s8 σ8 H8 _ I8 q8) (fun b s9 ⟨H9, I9, q9⟩ => ?_) fun _ _ f => f.elim
      cases b with
      | true =>
        rw [if_pos rfl] at q9
        rw [if_pos rfl]
        refine wpAny_mono (he _ _ _ _ _ _ s9 σ8 H9 _ I9 q9) (fun y s10 ⟨v, H10, I10, r10, xs, hx, hz, m', hm, w10⟩ => ?_) fun _ _ f => f.elim
        refine wpAny_mono (mt_append (X := blkCx X scope N' s3.heap.objs.size s3 (upd H2 s2.heap.objs.size (.lst [])) fp pins) _ s10 σ8 H10 (.ref s2.heap.objs.size) [v] (.ref s2.heap.objs.size) [y] (fun _ H11 => H11 = upd H10 s2.heap.objs.size (.lst (xs ++ [v]))) I10 rfl (.cons r10 .nil)
          ⟨s2.heap.objs.size, xs, v, rfl, rfl, hx, hz, rfl⟩) (fun _ s11 ⟨_, H11, I11, _, e11⟩ => ?_) fun _ _ f => f.elim
        subst e11
        exact again I11 wk8 hm w10
      | false =>
        rw [if_neg Bool.false_ne_true] at q9
        rw [if_neg Bool.false_ne_true]
        obtain ⟨m', hm, w9⟩ := q9
        exact again I9 wk8 hm w9
  have hC : (s2.heap.push { cls := .type "list", data := .seq ([] : List Value).toArray }).objs.size = s3.heap.objs.size := by rw [hh3]
  have L := loop { s3 with heap := h₁, toks := s2.toks + ([] : List (Str × Value)).length } ⟨_, rfl⟩
  subst hs3
  exact codeAny_compStart_list L (T.self _ 0 _ _ _ st4 L)

/-- a comprehension of one clause -/
theorem pe_comp (bl : List (Option Nat)) (N' : List Str) (hc : X.calm = true) (k : compOk X.env.scope scope X.N N' bl = true) (hi : PI X tg iter wi) (hg : ∀ C s H fp pins, PG (blkCx X scope N' C s H fp pins) tg g)
    (hf : ∀ C s H fp pins, PIfs (blkCx X scope N' C s H fp pins) ifs tc) (he : ∀ C s H fp pins, PE (blkCx X scope N' C s H fp pins) elt te)
    (hs : ∀ x, foldedSetIterable iter X.env x = pure x := by intro _; rfl) : PE X (.ListComp elt [⟨tg, iter, ifs, 0⟩] scope pos) (tComp bl wi g tc te) := by
  intro pins s σ H Q I h
  rw [eval_ListComp]
  refine comp_core (use := none) hc (CompOk.of k) hi hg hf he hs I h fun D C H6 s6 m I6 n6 f6 q6 => ?_
  exact ⟨m, n6, fun h' hs' => ⟨.ref D, H6, I6.turned (t' := s6.toks) (fun b o hb e => (hs'.2 b hb).trans e) f6.1 f6.2.1 f6.2.2.2.1 f6.2.2.2.2.1 f6.2.2.2.2.2, rfl, q6⟩⟩

/-- name = a comprehension on the same row -/
theorem ps_setC {i : Nat} {y : Str} {py spos : Pos} (bl : List (Option Nat)) (N' : List Str) (hN : X.N.Nodup) (hi' : X.N[i]? = some y) (hy : X.env.kindOf y = some .local) (hc : X.calm = true) (k : compOk X.env.scope scope X.N N' bl = true) (hi : PI X tg iter wi)
    (hg : ∀ C s H fp pins, PG (blkCx X scope N' C s H fp pins) tg g) (hf : ∀ C s H fp pins, PIfs (blkCx X scope N' C s H fp pins) ifs tc) (he : ∀ C s H fp pins, PE (blkCx X scope N' C s H fp pins) elt te)
    (hsw : swapsWith (.ListComp elt [⟨tg, iter, ifs, 0⟩] scope pos) (some (.Name y py)) spos.line X.env = pure true := by rfl) (hs : ∀ x, foldedSetIterable iter X.env x = pure x := by intro _; rfl) :
    PS X (.Assign [.Name y py] (.ListComp elt [⟨tg, iter, ifs, 0⟩] scope pos) spos) (tAsg (tComp bl wi g tc te) (gName i)) := by
  intro pins s σ H D I h
  rw [exec_Assign_Name_used _ _ _ _ hsw]
  refine wpAny_bind (wpAny_standAt (wpAny_bind ?_))
  show wpAny _ X.A (do let _ ← comprehension (.ListComp elt [⟨tg, iter, ifs, 0⟩] scope pos) scope X.env _ (newList []) false (eval iter X.env) (some (assign (.Name y py) X.env))) _ _ s
  refine wpAny_bind (wpAny_mono (comp_core (use := some (assign (.Name y py) X.env)) (Qv := fun _ s' => SP X pins D .next s') hc (CompOk.of k) hi hg hf he hs I h fun Da C H6 s6 m I6 n6 f6 q6 => ?_) (fun _ s' hq => wpAny_pure (wpAny_pure hq)) fun _ _ e => e)
  show wpAny _ X.A (assign (.Name y py) X.env (.ref Da)) _ _ s6
  refine wpAny_assign_Name (store_ok2 I6 hN hi' (.inl hy) (v := .ref Da) rfl (fun s7 I7 ⟨a, sb, ha⟩ => ?_) (.inr hy))
  have hCa : C ≠ a := by
    rcases ha with z | z
    · rw [z]; exact f6.2.1
    · intro e; exact f6.2.2.2.2.1 y a z e.symm
  exact ⟨m, n6.sameBut sb hCa, fun h' hs' => ⟨_, H6, I7.turned (t' := s7.toks) (fun b o hb e => (hs'.2 b hb).trans e) f6.1 f6.2.1 f6.2.2.2.1 f6.2.2.2.2.1 f6.2.2.2.2.2, q6⟩⟩
end

/-! ### targets keep the other slots -/
theorem keepName {j : Nat} {σ0 : St} (h : σ0[j]? = some none) : KeepG (gName j) σ0 := fun x H R r => by
  refine ⟨r, fun i v e => ?_, by simp⟩
  have hne : j ≠ i := by
    intro z; subst z; rw [h] at e; cases e
  rw [List.getElem?_set_ne hne]
  exact e

/-! ### what a source yields, over a heap that grows -/
structure JP (J : It) (H : Hp) (n : Nat) (P : Nat → V → Hp → Prop) : Prop where
  go : ∀ i H', i < n → Same H H' → J.go i H'
  yld : ∀ i H' x H'', i < n → Same H H' → J.yld i H' x H'' → Same H' H'' ∧ P i x H''
  stop : ∀ H', Same H H' → J.stop n H'
theorem jp_list {K : PySem.W.Frag} {H : Hp} {a : Addr} {xs : List V} (h : SqL K H a xs) : JP (Itl K a) H xs.length (fun i x _ => xs[i]? = some x) where
  go := fun i H' hi s => ⟨xs, xs[i], s.seq h, by simp [hi]⟩
  yld := fun i H' x H'' hi s y => ⟨by rw [y.1]; exact Same.refl _, y.2 xs (s.seq h)⟩
  stop := fun H' s => ⟨xs, s.seq h, Nat.le_refl _⟩

theorem Same.put {H H' : Hp} {D : Addr} {o : HO} (s : Same H H') (h : H D = none) : Same H (upd H' D o) := fun b u e => by
  rw [upd_ne (ne_of_none e h)]
  exact s b u e
theorem Same.new {H : Hp} {D : Addr} {o : HO} (h : H D = none) : Same H (upd H D o) := (Same.refl H).put h

theorem range_filter_succ {f : Nat → V} {p : Nat → Bool} (i : Nat) : ((List.range (i + 1)).filter p).map f = ((List.range i).filter p).map f ++ (if p i = true then [f i] else []) := by
  rw [List.range_succ, List.filter_append, List.map_append]
  cases h : p i <;> simp [h]
theorem range_filter_len {f : Nat → V} {p : Nat → Bool} (i : Nat) : (((List.range i).filter p).map f).length ≤ i := by
  rw [List.length_map]
  exact Nat.le_trans (List.length_filter_le _ _) (by simp)

/-- a comprehension by its items -/
theorem comp_by {J : It} {H1 : Hp} {n : Nat} {P : Nat → V → Hp → Prop} {bl : List (Option Nat)} {σ : St} {g : TG} {tc : TT} {te : TE} {Q : VK} (f : Nat → V) (p : Nat → Bool) (jp : JP J H1 n P) (hn : n < sizeLine) (kg : KeepG g (blkSt bl σ))
    (step : ∀ i x H' (R : VK) (Z : Hp → Prop), i < n → Same H1 H' → P i x H' → (p i = true → ∀ H6, Same H' H6 → R (f i) H6) → (p i = false → ∀ H6, Same H' H6 → Z H6) →
      g x (blkSt bl σ) H' fun σ2 H4 => tc σ2 H4 fun b H5 => if b = true then te σ2 H5 R else Z H5)
    (fin : ∀ D H', H1 D = none → Same H1 H' → H' D = some (.lst (((List.range n).filter p).map f)) → Q (.ref D) H') :
    CompB bl g tc te σ Q J H1 := by
  intro D hD
  refine ⟨fun i m H2 => m = n - i ∧ i ≤ n ∧ Same H1 H2 ∧ H2 D = some (.lst (((List.range i).filter p).map f)), ⟨n, rfl, Nat.zero_le _, Same.new hD, upd_same⟩, ?_⟩
  rintro i m H2 ⟨rfl, hi, sm, hx⟩
  by_cases hlt : i < n
  · refine .inr ⟨jp.go i H2 hlt sm, fun x H3 y => ⟨kg, ?_⟩⟩
    obtain ⟨s3, p3⟩ := jp.yld i H2 x H3 hlt sm y
    have hx3 := s3 D _ hx
    refine step i x H3 _ _ hlt (sm.trans s3) p3 (fun hp H6 s6 => ?_) (fun hp H6 s6 => ?_)
    · refine ⟨_, s6 D _ hx3, Nat.lt_of_le_of_lt (range_filter_len i) (by omega), n - (i + 1), by omega, rfl, hlt, ((sm.trans s3).trans s6).put hD, ?_⟩
      rw [upd_same, range_filter_succ, hp, if_pos rfl]
    · refine ⟨n - (i + 1), by omega, rfl, hlt, (sm.trans s3).trans s6, ?_⟩
      rw [s6 D _ hx3, range_filter_succ, hp, if_neg Bool.false_ne_true, List.append_nil]
  · have e : i = n := by omega
    subst e
    exact .inl ⟨jp.stop H2 sm, fin D H2 hD sm hx⟩
end L2

set_option Elab.async false
set_option linter.all false
set_option maxRecDepth 100000
set_option maxHeartbeats 4000000
namespace L2
open PySem PySem.Spec PyProof.Rows

/-! ### built-in calls: all, set, len of a set, isinstance -/
section
variable {X : Cx}
theorem vals_bl : ∀ {bs : List Bool} {us : List Value}, Vals (bs.map V.bl) us → us = bs.map Value.bool
  | [], _, .nil => rfl
  | b :: bs, _, .cons r t => by
    rw [List.map_cons, ← vals_bl t]
    cases r
    rfl



/-- isinstance(x, T), T a built-in class -/
theorem call_isi : CallR X (.builtin "isinstance") (fun xs H Q => ∃ x n t b, xs = [x, .ty n] ∧ TyOf X.K H x t ∧ PySem.W.kitOne X.K t (.type n) = some b ∧ Q (.bl b) H) := by
  intro pins s σ H xs us Q I r h
  obtain ⟨x, n, t, b, rfl, ty, e, q⟩ := h
  obtain ⟨u, v, rfl, rx, ry⟩ := vals2 r
  cases ry
  exact isinst_ok I rx ty e fun tk => ⟨.bl b, H, I.tok _, rfl, q⟩

/-! ### == and != of lists -/
inductive EqV (K : PySem.W.Frag) (H : Hp) : Nat → V → V → Bool → Prop where
  | flat {n : Nat} {x y : V} (fx : flatV x = true) (fy : flatV y = true) : EqV K H n x y (eqV x y)
  | same {n : Nat} (a : Addr) : EqV K H n (.ref a) (.ref a) true
  | lists {n : Nat} {a b : Addr} {xs ys : List V} {e : Nat → Bool} (ha : SqL K H a xs) (hb : SqL K H b ys) (hne : a ≠ b) (hl : xs.length = ys.length) (he : ∀ (j : Nat) x y, xs[j]? = some x → ys[j]? = some y → EqV K H n x y (e j)) :
      EqV K H (n + 1) (.ref a) (.ref b) ((List.range xs.length).all e)
  | lengths {n : Nat} {a b : Addr} {xs ys : List V} (ha : SqL K H a xs) (hb : SqL K H b ys) (hne : a ≠ b) (hl : xs.length ≠ ys.length) : EqV K H (n + 1) (.ref a) (.ref b) false

theorem EqV.at {pins : List (Addr × Obj)} {σ : St} {H : Hp} {s : Shared} (I : Inv X pins σ H s) {n : Nat} {x y : V} {b : Bool} (h : EqV X.K H n x y b) : ∀ {A : Around} {u v : Value}, A.units + n < cLine → RelV x u → RelV y v → SeqAt.EqAt A s u v b := by
  induction h with
  | flat fx fy => intro A u v _ rx ry; exact eqAt_V rx ry fx fy
  | same a => intro A u v _ rx ry; cases rx; cases ry; exact SeqAt.EqAt.same _
  | @lists n a b xs ys e ha hb hne hl he ih =>
    intro A u v hu rx ry
    cases rx; cases ry
    obtain ⟨i1, r1, p1, _⟩ := I.list ha
    obtain ⟨i2, r2, p2, _⟩ := I.list hb
    have l1 := r1.length
    have l2 := r2.length
    have q : (List.range xs.length).all e = (List.range i1.toArray.size).all e := by rw [List.size_toArray, l1]
    rw [q]
    refine SeqAt.EqAt.of_refs hne (SeqAt.RcAt.lists p1.isList p2.isList (by rw [List.size_toArray, List.size_toArray, ← l1, ← l2, hl]) (by omega) fun j h1 h2 => ?_)
    have hj1 : j < xs.length := by rw [l1]; simpa using h1
    have hj2 : j < ys.length := by rw [l2]; simpa using h2
    obtain ⟨u1, e1, q1⟩ := r1.get (List.getElem?_eq_getElem hj1)
    obtain ⟨u2, e2, q2⟩ := r2.get (List.getElem?_eq_getElem hj2)
    have g1 : i1.toArray[j] = u1 := by
      have : i1[j]? = some (i1.toArray[j]) := by simp
      rw [this] at e1; exact Option.some.inj e1
    have g2 : i2.toArray[j] = u2 := by
      have : i2[j]? = some (i2.toArray[j]) := by simp
      rw [this] at e2; exact Option.some.inj e2
    rw [g1, g2]
    exact ih j _ _ (List.getElem?_eq_getElem hj1) (List.getElem?_eq_getElem hj2) (by show A.units + 1 + n < cLine; omega) q1 q2
  | @lengths n a b xs ys ha hb hne hl =>
    intro A u v hu rx ry
    cases rx; cases ry
    obtain ⟨i1, r1, p1, _⟩ := I.list ha
    obtain ⟨i2, r2, p2, _⟩ := I.list hb
    have l1 := r1.length
    have l2 := r2.length
    exact SeqAt.EqAt.of_refs hne (SeqAt.RcAt.lists_lengths p1.isList p2.isList (by rw [List.size_toArray, List.size_toArray, ← l1, ← l2]; simpa using hl) (by omega))

/-- == of two lists, item by item -/
noncomputable def rEqL (K : PySem.W.Frag) (neg : Bool) : R2 := fun x y H Q => ∃ a b xs ys, x = .ref a ∧ y = .ref b ∧ SqL K H a xs ∧ SqL K H b ys ∧
  ((xs.length = ys.length ∧ ∃ e : Nat → Bool, (∀ (j : Nat) x y, xs[j]? = some x → ys[j]? = some y → EqV K H 3 x y (e j)) ∧ Q (.bl (if neg then !(List.range xs.length).all e else (List.range xs.length).all e)) H) ∨ (xs.length ≠ ys.length ∧ Q (.bl neg) H))
theorem op_eqL (hu : X.A.units + 8 < cLine) : OpR X (compareOp .Eq) (rEqL X.K false) := by
  intro pins s σ H x y v u Q I rx ry h
  obtain ⟨a, b, xs, ys, rfl, rfl, ha, hb, h⟩ := h
  cases rx; cases ry
  obtain ⟨i1, r1, p1, _⟩ := I.list ha
  obtain ⟨i2, r2, p2, _⟩ := I.list hb
  have l1 := r1.length
  have l2 := r2.length
  rcases h with ⟨hl, e, he, q⟩ | ⟨hl, q⟩
  · refine SeqAt.eq_listAt (e := e) p1.isList p2.isList (by rw [List.size_toArray, List.size_toArray, ← l1, ← l2, hl]) (by omega) (fun j h1 h2 => ?_) ⟨.bl _, H, I, rfl, ?_⟩
    · have hj1 : j < xs.length := by rw [l1]; simpa using h1
      have hj2 : j < ys.length := by rw [l2]; simpa using h2
      obtain ⟨u1, e1, q1⟩ := r1.get (List.getElem?_eq_getElem hj1)
      obtain ⟨u2, e2, q2⟩ := r2.get (List.getElem?_eq_getElem hj2)
      have g1 : i1.toArray[j] = u1 := by
        have : i1[j]? = some (i1.toArray[j]) := by simp
        rw [this] at e1; exact Option.some.inj e1
      have g2 : i2.toArray[j] = u2 := by
        have : i2[j]? = some (i2.toArray[j]) := by simp
        rw [this] at e2; exact Option.some.inj e2
      rw [g1, g2]
      exact (he j _ _ (List.getElem?_eq_getElem hj1) (List.getElem?_eq_getElem hj2)).at I (by show X.A.units + 1 + 3 < cLine; omega) q1 q2
    · rw [List.size_toArray, ← l1]
      exact q
  · exact SeqAt.eq_list_lengthsAt p1.isList p2.isList (by rw [List.size_toArray, List.size_toArray, ← l1, ← l2]; simpa using hl) (by omega) ⟨.bl _, H, I, rfl, q⟩
theorem op_neL (hu : X.A.units + 8 < cLine) : OpR X (compareOp .NotEq) (rEqL X.K true) := by
  intro pins s σ H x y v u Q I rx ry h
  obtain ⟨a, b, xs, ys, rfl, rfl, ha, hb, h⟩ := h
  cases rx; cases ry
  obtain ⟨i1, r1, p1, _⟩ := I.list ha
  obtain ⟨i2, r2, p2, _⟩ := I.list hb
  have l1 := r1.length
  have l2 := r2.length
  rcases h with ⟨hl, e, he, q⟩ | ⟨hl, q⟩
  · refine SeqAt.RcNeAt.lists (e := e) p1.isList p2.isList (by rw [List.size_toArray, List.size_toArray, ← l1, ← l2, hl]) (by omega) (fun j h1 h2 => ?_) X.prog X.w X.xe _ ⟨.bl _, H, I, rfl, ?_⟩
    · have hj1 : j < xs.length := by rw [l1]; simpa using h1
      have hj2 : j < ys.length := by rw [l2]; simpa using h2
      obtain ⟨u1, e1, q1⟩ := r1.get (List.getElem?_eq_getElem hj1)
      obtain ⟨u2, e2, q2⟩ := r2.get (List.getElem?_eq_getElem hj2)
      have g1 : i1.toArray[j] = u1 := by
        have : i1[j]? = some (i1.toArray[j]) := by simp
        rw [this] at e1; exact Option.some.inj e1
      have g2 : i2.toArray[j] = u2 := by
        have : i2[j]? = some (i2.toArray[j]) := by simp
        rw [this] at e2; exact Option.some.inj e2
      rw [g1, g2]
      exact (he j _ _ (List.getElem?_eq_getElem hj1) (List.getElem?_eq_getElem hj2)).at I (by show X.A.units + 1 + 3 < cLine; omega) q1 q2
    · rw [List.size_toArray, ← l1]
      exact q
  · exact SeqAt.RcNeAt.lists_lengths p1.isList p2.isList (by rw [List.size_toArray, List.size_toArray, ← l1, ← l2]; simpa using hl) (by omega) X.prog X.w X.xe _ ⟨.bl _, H, I, rfl, q⟩
end

/-- two lists of ints -/
theorem eqInts {K : PySem.W.Frag} {H : Hp} {neg : Bool} {Q : VK} {a b : Addr} {ns ms : List Int} (ha : SqL K H a (ns.map V.int)) (hb : SqL K H b (ms.map V.int)) (q : Q (.bl (if neg then !decide (ns = ms) else decide (ns = ms))) H) :
    rEqL K neg (.ref a) (.ref b) H Q := by
  refine ⟨a, b, _, _, rfl, rfl, ha, hb, ?_⟩
  by_cases hl : ns.length = ms.length
  · refine .inl ⟨by simp [hl], fun j => ns[j]? == ms[j]?, fun j x y hx hy => ?_, ?_⟩
    · rw [List.getElem?_map] at hx hy
      cases e1 : ns[j]? with
      | none => rw [e1] at hx; cases hx
      | some n =>
        cases e2 : ms[j]? with
        | none => rw [e2] at hy; cases hy
        | some m =>
          rw [e1] at hx
          rw [e2] at hy
          cases hx; cases hy
          have : (some n == some m) = eqV (.int n) (.int m) := by
            show (n == m) = (n == m)
            rfl
          show EqV K H 3 (V.int n) (V.int m) (ns[j]? == ms[j]?)
          rw [e1, e2, this]
          exact .flat rfl rfl
    · have : (List.range (ns.map V.int).length).all (fun j => ns[j]? == ms[j]?) = decide (ns = ms) := by
        rw [Bool.eq_iff_iff]
        simp only [List.all_eq_true, List.mem_range, List.length_map, beq_iff_eq, decide_eq_true_eq]
        constructor
        · intro h
          apply List.ext_getElem? 
          intro i
          by_cases hi : i < ns.length
          · exact h i hi
          · rw [List.getElem?_eq_none (by omega), List.getElem?_eq_none (by omega)]
        · intro h i _
          rw [h]
      rw [this]
      exact q
  · refine .inr ⟨by simpa using hl, ?_⟩
    have : decide (ns = ms) = false := by
      simp only [decide_eq_false_iff_not]
      intro e
      exact hl (by rw [e])
    rw [this] at q
    cases neg
    · exact q
    · exact q

/-! ### how many unlike ones -/
theorem dd_le : ∀ (ns acc : List Int), (ns.foldl step_dedup acc).length ≤ acc.length + ns.length
  | [], acc => by simp
  | n :: r, acc => by
    rw [List.foldl_cons]
    have := dd_le r (step_dedup acc n)
    have h2 := step_length acc n
    split at h2 <;> simp only [List.length_cons] <;> omega
end L2

set_option linter.all false
namespace PG
/-- the gcd of a list, from the left -/
noncomputable def gcdL (ns : List Int) : Nat := ns.foldl (fun g n => Nat.gcd g n.toNat) 0
theorem gcd_fold (ns : List Int) : ∀ g, ns.foldl (fun g n => Nat.gcd g n.toNat) g = Nat.gcd g (gcdL ns) := by
  induction ns with
  | nil => intro g; simp [gcdL]
  | cons n r ih =>
    intro g
    unfold gcdL
    rw [List.foldl_cons, List.foldl_cons, ih, ih (Nat.gcd 0 n.toNat), Nat.gcd_zero_left, Nat.gcd_assoc]
theorem gcdL_cons (n : Int) (ns : List Int) : gcdL (n :: ns) = Nat.gcd n.toNat (gcdL ns) := by
  show (n :: ns).foldl _ 0 = _
  rw [List.foldl_cons, gcd_fold, Nat.gcd_zero_left]
end PG

set_option Elab.async false
set_option linter.all false
set_option maxRecDepth 100000
set_option maxHeartbeats 4000000
namespace PG
open PySem L2 PyProof.Rows

/-- a def that keeps its promise -/
structure G (P : Program) (w : World) (K : PySem.W.Frag) (mg : Str → Option Value) (base : Heap) (CX : CXT) (x : Str) (ps : List Str) (k : Nat) (sp : Sp) : Prop where
  ex : ∃ f fd, mg x = some (.ref f) ∧ PySem.W.keepIn K (.ref f) = true ∧ Binds K fd ps [] ∧ FnOk P w K mg base CX k f fd ps sp
theorem pe_g {X : Cx} {CX : CXT} {x : Str} {ps : List Str} {k : Nat} {sp : Sp} {E : XK} {e : Expr} {es : List Expr} {t : TA} {p pos : Pos} (g : G X.prog X.w X.K X.mg X.base CX x ps k sp) (hr : Room k X.A) (hx : Passes CX X E) (ha : PA X (e :: es) t) (hg : Gl X x := by rfl)
    (hdb : (x == ("__debug__" : Str)) = false := by decide) (he : starEach (e :: es) X.env = (false, eval e X.env) :: starEach es X.env := by rfl) (hpl : (backTo pos (starEach es X.env)).any (·.1) = false := by rfl) :
    PE X (.Call (.Name x p) (e :: es) [] pos) (tCall sp [] E t) := by
  obtain ⟨f, fd, hm, hk, hb, F⟩ := g.ex
  exact pe_call F hr hg hm hk hb .nil hx ha hdb he hpl

theorem ifF {c : Bool} {A B : Prop} (hc : c = false) (h : B) : if c = true then A else B := by
  rw [hc, if_neg Bool.false_ne_true]
  exact h
theorem ifT {c : Bool} {A B : Prop} (hc : c = true) (h : A) : if c = true then A else B := by
  rw [hc, if_pos rfl]
  exact h
theorem ifB {c : Bool} {A B : Prop} (h1 : c = true → A) (h2 : c = false → B) : if c = true then A else B := by
  cases c with
  | true => exact ifT rfl (h1 rfl)
  | false => exact ifF rfl (h2 rfl)

theorem tT {j : Nat} {x : V} {te : TE} {R : VK} {Z : Hp → Prop} {σ : L2.St} {H : Hp} (h : te (σ.set j (some x)) H R) : gName j x σ H fun σ2 H4 => tTrue σ2 H4 fun b H5 => if b = true then te σ2 H5 R else Z H5 := by
  show if true = true then te (σ.set j (some x)) H R else Z H
  rw [if_pos rfl]
  exact h
theorem rangeT {α : Type} (n : Nat) (f : Nat → α) : ((List.range n).filter fun _ => true).map f = (List.range n).map f := by rw [List.filter_eq_self.mpr (by simp)]
theorem _root_.L2.Room.u8 {k : Nat} {A : Around} (r : Room k A) : A.units + 8 < cLine := by have := r.un; omega
theorem int_at {ns : List Int} {i : Nat} {x : V} (hx : (ns.map V.int)[i]? = some x) : ∃ n, ns[i]? = some n ∧ x = V.int n := by
  rw [List.getElem?_map] at hx
  cases e : ns[i]? with
  | none => rw [e] at hx; cases hx
  | some n => rw [e] at hx; cases hx; exact ⟨n, rfl, rfl⟩

theorem mapAt (F : Int → Int) (cs : List Int) : ((List.range (cs.map V.int).length).filter fun _ => true).map (fun i => V.int (F (cs.getD i 0))) = (cs.map F).map V.int := by
  rw [rangeT, List.length_map]
  apply List.ext_getElem
  · simp
  · intro i h1 h2
    have hi : i < cs.length := by simpa using h1
    simp [List.getD_eq_getElem?_getD, hi]
theorem getD_at {cs : List Int} {i : Nat} {c : Int} (h : cs[i]? = some c) : cs.getD i 0 = c := by rw [List.getD_eq_getElem?_getD, h]; rfl

/-- coins -/
structure Coins (ns : List Int) : Prop where
  ne : 1 ≤ ns.length
  le : ns.length ≤ 40
  rng : ∀ n ∈ ns, 1 ≤ n ∧ n ≤ 1000
  nd : ns.Nodup


noncomputable def isNumV : V → Bool
  | .int _ => true
  | _ => false
/-- a thing whose kind is known -/
noncomputable def Kn (H : Hp) : V → Prop
  | .non => True
  | .bl _ => True
  | .int _ => True
  | .str _ => True
  | .ref a => (∃ xs, H a = some (.lst xs)) ∨ (∃ xs, H a = some (.tup xs)) ∨ ∃ kvs, H a = some (.dK kvs)
  | _ => False
noncomputable def isCoinV : V → Bool
  | .int i => decide (1 ≤ i) && decide (i ≤ 1000)
  | _ => false

/-! ### promises of the program's defs -/
/-! ### promises of the law's helpers -/
theorem flat_ints (cs : List Int) : (cs.map V.int).all flatV = true := by
  rw [List.all_map, List.all_eq_true]
  intro x _
  rfl

/-- the built-in names that are not hidden -/
structure Blt (mg : Str → Option Value) : Prop where
  len : mg "len" = none
  isi : mg "isinstance" = none
  int : mg "int" = none
  bool : mg "bool" = none
  all : mg "all" = none
  any : mg "any" = none
  set : mg "set" = none
  range : mg "range" = none
  list : mg "list" = none
  abs : mg "abs" = none
  min : mg "min" = none
  max : mg "max" = none
  sum : mg "sum" = none
  sorted : mg "sorted" = none
  zip : mg "zip" = none
  enumerate : mg "enumerate" = none
  tuple : mg "tuple" = none
  str : mg "str" = none
  dict : mg "dict" = none
  ValueError : mg "ValueError" = none
  reversed : mg "reversed" = none
end PG

set_option Elab.async false
set_option linter.all false
set_option maxRecDepth 100000
set_option maxHeartbeats 4000000
namespace L2
open PySem PySem.Spec PyProof.Rows
section
variable {X : Cx}
theorem Inv.bigH {pins : List (Addr × Obj)} {σ : St} {H : Hp} {s : Shared} (I : Inv X pins σ H s) : sysModules < s.heap.objs.size := by
  have h : mainGlobals < s.heap.objs.size := (I.mod.glob.keeps I.bk).lt
  exact Nat.lt_trans (by decide) h
/-- {} -/
noncomputable def tDNewK : TE := fun _ H Q => ∀ p, H p = none → Q (.ref p) (upd H p (.dK []))
theorem pe_dnewK {pos : Pos} : PE X (.Dict [] [] pos) tDNewK := fun pins s σ H Q I h => by
  refine wpAny_Dict_empty ⟨.ref s.heap.objs.size, _, I.laid (a := s.heap.objs.size) (o := .dK []) (t' := s.toks) (fun _ _ q => Heap.get?_push_of_some _ q) (Nat.le_refl _) ?_, rfl, h _ I.fresh⟩
  exact ⟨Nat.zero_le _, beq_eq_false_iff_ne.mpr (Ne.symm (Nat.ne_of_lt I.bigH)), [], .nil, Heap.DictOf.new s.heap⟩

theorem handled_in1 {A : Around} (h : A.handled = none) : A.in1.handled = none := by rw [show A.in1.handled = A.handled by simp]; exact h
theorem call_maxL (hc : X.calm = true) : CallR X (.builtin "max") (fun xs H Q => ∃ (p : Addr) (ns : List Int), xs = [.ref p] ∧ SqL X.K H p (ns.map V.int) ∧ 0 < ns.length ∧ ∀ m, m ∈ ns → (∀ n ∈ ns, n ≤ m) → Q (.int m) H) := by
  intro pins s σ H xs us Q I r h
  obtain ⟨p, ns, rfl, hq, hne, q⟩ := h
  obtain ⟨u, rfl, rx⟩ := vals1 r
  cases rx
  obtain ⟨its, r', pl, hz⟩ := I.list hq
  have hi := intsAre_of r'
  have hlen : its.length = ns.length := by rw [← r'.length, List.length_map]
  have hl := pl.isList
  have hlt : p < s.heap.objs.size := by
    obtain ⟨o, ho, _⟩ := hl
    exact Heap.lt_size ho
  refine call_max_walk (wpAny_pyIter_list hl ?_)
  refine ⟨s.heap.objs.size, _, _, _, _, _, fun i j => decide (ns.getD i 0 > ns.getD j 0), rfl, Walks.list (prog := X.prog) (w := X.w) (handled_in1 (I.ok.hd hc)) s.heap.objs.size p (Nat.ne_of_lt hlt) its.toArray, ⟨⟨_, Heap.get?_push_size _ rfl, rfl, rfl⟩, hl.push _⟩, ?_, by rw [List.size_toArray]; omega, ?_, fun v h' tk hP hk => ?_⟩
  · intro b hb
    rw [Heap.size_push]
    rcases List.mem_cons.mp hb with z | z
    · rw [z]; exact Nat.lt_succ_self _
    · have : b = p := by simpa using z
      rw [this]; exact Nat.lt_succ_of_lt hlt
  · intro i j vi vj s' Q' E' h1 h2 hQ'
    obtain ⟨t1, e1⟩ := IntsAre.int_at hi i vi (by simpa using h1)
    obtain ⟨t2, e2⟩ := IntsAre.int_at hi j vj (by simpa using h2)
    subst e1 e2
    exact gt_int hQ'
  · obtain ⟨a1, a2⟩ := argBest_gt (fun i => ns.getD i 0) (its.toArray.size - 1)
    have hsz : its.toArray.size = ns.length := by rw [List.size_toArray, hlen]
    have hb : argBest (fun i j => decide (ns.getD i 0 > ns.getD j 0)) (its.toArray.size - 1) < ns.length := by omega
    generalize hbb : argBest (fun i j => decide (ns.getD i 0 > ns.getD j 0)) (its.toArray.size - 1) = b at *
    obtain ⟨t, e⟩ := IntsAre.int_at hi b v (by simpa using hP)
    subst e
    refine ⟨.int (ns.getD b 0), H, I.kept (t' := tk) fun c o ec => hk c o (by simp only [List.mem_singleton]; exact Nat.ne_of_lt (Heap.lt_size ec)) (Heap.get?_push_of_some _ ec), ⟨_, rfl⟩, q _ ?_ fun n hn => ?_⟩
    · rw [List.getD_eq_getElem?_getD, List.getElem?_eq_getElem hb]
      exact List.getElem_mem hb
    · obtain ⟨i, hi', rfl⟩ := List.mem_iff_getElem.mp hn
      have := a2 i (by omega)
      rw [List.getD_eq_getElem?_getD, List.getD_eq_getElem?_getD, List.getElem?_eq_getElem hi'] at this
      rw [List.getD_eq_getElem?_getD]
      exact this
/-- range(i, j) as a value, and its list -/
theorem call_rangeV : CallR X (.type "range") (fun xs H Q => ∃ i j : Int, xs = [.int i, .int j] ∧ ∀ p, H p = none → Q (.ref p) (upd H p (.rng i j))) := by
  intro pins s σ H xs us Q I r h
  obtain ⟨i, j, rfl, q⟩ := h
  obtain ⟨u, v, rfl, ⟨t1, rfl⟩, ⟨t2, rfl⟩⟩ := vals2 r
  refine call_range_2 ⟨.ref s.heap.objs.size, _, I.laid (o := .rng i j) (fun b o e => Heap.get?_push_of_some _ e) (Nat.le_refl _) ?_, rfl, q _ I.fresh⟩
  exact ⟨_, _, _, Heap.get?_push_size _ rfl⟩
theorem call_list_rng (hc : X.calm = true) : CallR X (.type "list") (fun xs H Q => ∃ (p : Addr) (i j : Int), xs = [.ref p] ∧ H p = some (.rng i j) ∧ -1000000 ≤ i ∧ i ≤ j ∧ j ≤ 1000000 ∧
    ∀ l, H l = none → Q (.ref l) (upd H l (.lst ((List.range (j - i).toNat).map fun (k : Nat) => V.int (i + (k : Int)))))) := by
  intro pins s σ H xs us Q I r h
  obtain ⟨p, i, j, rfl, hp, b1, b2, b3, q⟩ := h
  obtain ⟨u, rfl, rx⟩ := vals1 r
  cases rx
  obtain ⟨t1, t2, t3, ho⟩ := (show ObjOk X.prog X.w H s.heap p (.rng i j) from I.hok p _ hp)
  have hs : Builtin.Range.rangeSize i j 1 = ((j - i).toNat : Nat) := by rw [rangeSize_one]; split <;> omega
  refine call_list_range (I.ok.hd hc) ho (small_one (by omega) (by omega) (by omega) (by omega)) hs (by omega) fun h' tk acc' c' hk hS hI => ?_
  have hz : ((List.range (j - i).toNat).map fun (k : Nat) => V.int (i + (k : Int))).length ≤ sizeLine := by
    rw [List.length_map, List.length_range, sizeLine_eq]; omega
  have hv : Vals ((List.range (j - i).toNat).map fun (k : Nat) => V.int (i + (k : Int))) acc'.toList := by
    obtain ⟨hsz, hit⟩ := hI
    have all : ∀ (n : Nat) (us : List Value), us.length = n → (∀ (k : Nat) v, us[k]? = some v → ∃ t, v = .int (i + k * 1) t) → Vals ((List.range n).map fun (k : Nat) => V.int (i + (k : Int))) us := by
      intro n
      induction n with
      | zero =>
        intro us hl _
        cases us with
        | nil => exact .nil
        | cons _ _ => cases hl
      | succ n ih =>
        intro us hl hu
        have e1 : us = us.take n ++ [us[n]'(by omega)] := by
          have := List.take_append_drop n us
          rw [List.drop_eq_getElem_cons (by omega), List.drop_of_length_le (by omega)] at this
          exact this.symm
        rw [e1, List.range_succ, List.map_append]
        refine Vals.append (ih _ (by simp; omega) fun k v hk => ?_) (.cons ?_ .nil)
        · rw [List.getElem?_take] at hk
          split at hk
          · exact hu k v hk
          · cases hk
        · obtain ⟨t, e⟩ := hu n _ (List.getElem?_eq_getElem (by omega))
          refine ⟨t, ?_⟩
          rw [e, Int.mul_one]
    exact all _ _ (by simpa using hsz) fun k v hk => hit k v (by simpa using hk)
  refine ⟨.ref s.heap.objs.size, _, I.laid (o := .lst _) (t' := tk) hk (Nat.le_refl _) ⟨hz, acc'.toList, c', hv, ?_⟩, rfl, q _ I.fresh⟩
  simpa using hS
end
end L2

set_option Elab.async false
set_option linter.all false
set_option maxRecDepth 100000
set_option maxHeartbeats 4000000
/-! readings that compute -/
namespace L2
open PySem PySem.Spec PyProof.Rows
section
variable {X : Cx} {a b c e : Expr} {es : List Expr} {ta tb tc te : TE} {pos : Pos}
theorem PE.imp {t t' : TE} (h : PE X e t) (hi : ∀ σ H Q, t' σ H Q → t σ H Q) : PE X e t' := fun pins s σ H Q I q => h pins s σ H Q I (hi σ H Q q)
theorem OpR.imp {f : Value → Value → Sem Value} {r r' : R2} (h : OpR X f r) (hi : ∀ x y H Q, r' x y H Q → r x y H Q) : OpR X f r' := fun pins s σ H x y v u Q I rx ry q => h pins s σ H x y v u Q I rx ry (hi x y H Q q)
theorem CallR.imp {f : Value} {r r' : List V → Hp → VK → Prop} (h : CallR X f r) (hi : ∀ xs H Q, r' xs H Q → r xs H Q) : CallR X f r' := fun pins s σ H xs us Q I rx q => h pins s σ H xs us Q I rx (hi xs H Q q)
theorem IxR.imp {r r' : R2} (h : IxR X r) (hi : ∀ x y H Q, r' x y H Q → r x y H Q) : IxR X r' := fun va sl pins s σ H x y v u Q I rx ry q => h va sl pins s σ H x y v u Q I rx ry (hi x y H Q q)

/-! ### arguments without a star -/
noncomputable def notStar : Expr → Bool
  | .Starred _ _ => false
  | _ => true
theorem se {e : Expr} {es : List Expr} {env : Env} (h : notStar e = true) : starEach (e :: es) env = (false, eval e env) :: starEach es env := by
  cases e <;> first | (cases h; done) | (rw [starEach]; intro _ _ z; cases z) | rw [starEach]
theorem seAny {env : Env} {pos : Pos} : ∀ {es : List Expr}, es.all notStar = true → (backTo pos (starEach es env)).any (·.1) = false
  | [], _ => by rw [starEach]; rfl
  | e :: es, h => by
    rw [List.all_cons, Bool.and_eq_true] at h
    rw [se h.1]
    have ih := seAny (env := env) (pos := pos) (es := es) h.2
    unfold backTo at ih ⊢
    rw [List.map_cons, List.any_cons, ih]
    rfl
theorem seNone {env : Env} {pos : Pos} : ∀ {es : List Expr}, es.all notStar = true → (backTo pos (starEach es env)).all (fun x => !x.1) = true
  | [], _ => by rw [starEach]; rfl
  | e :: es, h => by
    rw [List.all_cons, Bool.and_eq_true] at h
    rw [se h.1]
    have ih := seNone (env := env) (pos := pos) (es := es) h.2
    unfold backTo at ih ⊢
    rw [List.map_cons, List.all_cons, ih]
    rfl
theorem seHd {e : Expr} {es : List Expr} (h : (e :: es).all notStar = true) : notStar e = true ∧ es.all notStar = true := by
  rw [List.all_cons, Bool.and_eq_true] at h
  exact h
theorem ua_cons {t : TA} (ha : PE X e te) (hr : PA X es t) (hn : notStar e = true := by rfl) : PA X (e :: es) (tCons te t) := pa_cons ha hr (se hn)
theorem ue_callB {x : Str} {id : String} {r : List V → Hp → VK → Prop} {t : TA} {p : Pos} (hc : CallR X (.builtin id) r) (hg : Gl X x) (hm : X.mg x = none) (hv : bootBuiltins x = some (.builtin id)) (ha : PA X (e :: es) t) (hn : x ≠ "__name__" := by decide) (hdb : (x == ("__debug__" : Str)) = false := by decide)
    (hs : (e :: es).all notStar = true := by rfl) : PE X (.Call (.Name x p) (e :: es) [] pos) (tCB r t) := pe_callB hc hg hm hv ha hn hdb (se (seHd hs).1) (seAny (seHd hs).2)
theorem ue_callTy {x : Str} {T : String} {r : List V → Hp → VK → Prop} {t : TA} {p : Pos} (hc : CallR X (.type T) r) (hg : Gl X x) (hm : X.mg x = none) (hv : bootBuiltins x = some (.type T)) (ha : PA X (e :: es) t) (hn : x ≠ "__name__" := by decide) (hdb : (x == ("__debug__" : Str)) = false := by decide)
    (hs : (e :: es).all notStar = true := by rfl) : PE X (.Call (.Name x p) (e :: es) [] pos) (tCB r t) := pe_callTy hc hg hm hv ha hn hdb (se (seHd hs).1) (seAny (seHd hs).2)
theorem ue_g {CX : CXT} {x : Str} {ps : List Str} {k : Nat} {sp : Sp} {E : XK} {t : TA} {p : Pos} (g : PG.G X.prog X.w X.K X.mg X.base CX x ps k sp) (hr : Room k X.A) (hx : Passes CX X E) (ha : PA X (e :: es) t) (hg : Gl X x := by rfl)
    (hdb : (x == ("__debug__" : Str)) = false := by decide) (hs : (e :: es).all notStar = true := by rfl) : PE X (.Call (.Name x p) (e :: es) [] pos) (tCall sp [] E t) := PG.pe_g g hr hx ha hg hdb (se (seHd hs).1) (seAny (seHd hs).2)
/-- the i-th name -/
noncomputable def uVar (i : Nat) : TE := fun σ H Q => match σ[i]? with
  | some (some v) => Q v H
  | _ => False
theorem uVar_of {i : Nat} {σ : St} {H : Hp} {Q : VK} (h : uVar i σ H Q) : tVar i σ H Q := by
  unfold uVar at h
  split at h
  · rename_i v e
    exact ⟨v, e, h⟩
  · exact h.elim
theorem uv (i : Nat) {x : Str} {pos : Pos} (hN : X.N[i]? = some x := by rfl) (hv : Vis X.env.scope x := by first | exact Or.inl rfl | exact Or.inr (Or.inl rfl) | exact Or.inr (Or.inr rfl)) (hd : (x == ("__debug__" : Str)) = false := by decide) (hcd : (x == ("__classdict__" : Str)) = false := by decide) : PE X (.Name x pos) (uVar i) :=
  (pv i hN hv hd hcd).imp fun _ _ _ h => uVar_of h

/-! ### operations -/
noncomputable def uAdd : R2 := fun x y H Q => match x, y with
  | .int i, .int j => Q (.int (i + j)) H
  | .ref l, .ref b => ∃ xs zs, H l = some (.lst xs) ∧ H b = some (.lst zs) ∧ xs.length + zs.length ≤ sizeLine ∧ ∀ p, H p = none → Q (.ref p) (upd H p (.lst (xs ++ zs)))
  | _, _ => False
theorem uo_add : OpR X (binaryOp .Add) uAdd := (op_add.or op_cat).imp fun x y H Q h => by
  cases x <;> cases y <;> first
    | exact .inl ⟨_, _, rfl, rfl, h⟩
    | (obtain ⟨xs, zs, h1, h2, h3, h4⟩ := h; exact .inr ⟨_, _, xs, zs, rfl, rfl, h1, h2, h3, h4⟩)
    | exact False.elim h
noncomputable def uSub : R2 := fun x y H Q => match x, y with
  | .int i, .int j => Q (.int (i - j)) H
  | _, _ => False
theorem uo_sub : OpR X (binaryOp .Sub) uSub := op_sub.imp fun x y H Q h => by
  cases x <;> cases y <;> first | exact ⟨_, _, rfl, rfl, h⟩ | exact False.elim h
noncomputable def uMul : R2 := fun x y H Q => match x, y with
  | .int i, .int j => CMul i j ∧ Q (.int (i * j)) H
  | .ref l, .int k => ∃ xs, H l = some (.lst xs) ∧ (-(2 ^ 63) ≤ k ∧ k < 2 ^ 63) ∧ xs.length * k.toNat ≤ sizeLine ∧ ∀ p, H p = none → Q (.ref p) (upd H p (.lst (List.replicate k.toNat xs).flatten))
  | _, _ => False
theorem uo_mul : OpR X (binaryOp .Mult) uMul := (op_mul.or op_rep).imp fun x y H Q h => by
  cases x <;> cases y <;> first
    | exact .inl ⟨_, _, rfl, rfl, h.1, h.2⟩
    | (obtain ⟨xs, h1, ⟨h2, h3⟩, h4, h5⟩ := h; exact .inr ⟨_, _, xs, rfl, rfl, h1, h2, h3, h4, h5⟩)
    | exact False.elim h
noncomputable def uMod : R2 := fun x y H Q => match x, y with
  | .int i, .int j => 0 < j ∧ Q (.int (i % j)) H
  | _, _ => False
theorem uo_mod : OpR X (binaryOp .Mod) uMod := op_mod.imp fun x y H Q h => by
  cases x <;> cases y <;> first | exact ⟨_, _, rfl, rfl, h.1, h.2⟩ | exact False.elim h
noncomputable def uDiv : R2 := fun x y H Q => match x, y with
  | .int i, .int j => CDiv i j ∧ Q (.int (i / j)) H
  | _, _ => False
theorem uo_fdiv : OpR X (binaryOp .FloorDiv) uDiv := op_fdiv.imp fun x y H Q h => by
  cases x <;> cases y <;> first | exact ⟨_, _, rfl, rfl, h.1, h.2⟩ | exact False.elim h
noncomputable def uPow : R2 := fun x y H Q => match x, y with
  | .int i, .int j => CPow i j ∧ Q (.int (i ^ j.toNat)) H
  | _, _ => False
theorem uo_pow : OpR X (binaryOp .Pow) uPow := op_pow.imp fun x y H Q h => by
  cases x <;> cases y <;> first | exact ⟨_, _, rfl, rfl, h.1, h.2⟩ | exact False.elim h
noncomputable def uNeg : V → Hp → VK → Prop := fun x H Q => match x with
  | .int i => Q (.int (-i)) H
  | _ => False
theorem uu_neg : UnR X (unaryOp .USub) uNeg := fun pins s σ H x v Q I rx h => by
  cases x <;> first | exact un_neg pins s σ H _ v Q I rx ⟨_, rfl, h⟩ | exact False.elim h

/-! ### comparisons -/
noncomputable def uCmp (p : Int → Int → Bool) : R2 := fun x y H Q => match x, y with
  | .int i, .int j => Q (.bl (p i j)) H
  | _, _ => False
theorem uo_lt : OpR X (compareOp .Lt) (uCmp fun i j => decide (i < j)) := op_lt.imp fun x y H Q h => by
  cases x <;> cases y <;> first | exact ⟨_, _, rfl, rfl, h⟩ | exact False.elim h
theorem uo_gt : OpR X (compareOp .Gt) (uCmp fun i j => decide (j < i)) := op_gt.imp fun x y H Q h => by
  cases x <;> cases y <;> first | exact ⟨_, _, rfl, rfl, h⟩ | exact False.elim h
theorem uo_ge : OpR X (compareOp .GtE) (uCmp fun i j => decide (j ≤ i)) := op_ge.imp fun x y H Q h => by
  cases x <;> cases y <;> first | exact ⟨_, _, rfl, rfl, h⟩ | exact False.elim h
/-- ==, !=: ints, truths, lists -/
noncomputable def uEq (K : PySem.W.Frag) : R2 := fun x y H Q => match x, y with
  | .int i, .int j => Q (.bl (decide (i = j))) H
  | .bl i, .bl j => Q (.bl (decide (i = j))) H
  | .str i, .str j => Q (.bl (decide (i = j))) H
  | .non, .int _ => Q (.bl false) H
  | .int _, .non => Q (.bl false) H
  | .non, .non => Q (.bl true) H
  | .ref a, .ref b => rEqL K false (.ref a) (.ref b) H Q
  | _, _ => False
noncomputable def uNe (K : PySem.W.Frag) : R2 := fun x y H Q => match x, y with
  | .int i, .int j => Q (.bl (!decide (i = j))) H
  | .bl i, .bl j => Q (.bl (!decide (i = j))) H
  | .str i, .str j => Q (.bl (!decide (i = j))) H
  | .ref a, .ref b => rEqL K true (.ref a) (.ref b) H Q
  | _, _ => False
theorem uo_eq_0 (hu : X.A.units + 8 < cLine) : OpR X (compareOp .Eq) (uEq X.K) := (op_eq.or (op_eqL hu)).imp fun x y H Q h => by
  cases x <;> cases y <;> first
    | exact False.elim h
    | exact .inr h
    | (refine .inl ⟨rfl, ?_⟩; have h' := h; simp only [uEq] at h'; simp only [V.int.injEq, V.bl.injEq, V.str.injEq]; exact h')
    | (refine .inl ⟨rfl, ?_⟩; have h' := h; simp only [uEq] at h'; simpa using h')
theorem uo_ne_0 (hu : X.A.units + 8 < cLine) : OpR X (compareOp .NotEq) (uNe X.K) := (op_ne.or (op_neL hu)).imp fun x y H Q h => by
  cases x <;> cases y <;> first
    | exact False.elim h
    | exact .inr h
    | (refine .inl ⟨rfl, ?_⟩; have h' := h; simp only [uNe] at h'; simp only [V.int.injEq, V.bl.injEq, V.str.injEq]; exact h')
/-- in, not in a list or a tuple of plain things -/
noncomputable def uIn (K : PySem.W.Frag) : R2 := fun x y H Q => match y with
  | .ref p => ∃ xs, (SqL K H p xs ∨ SqT K H p xs) ∧ (flatV x = true ∧ xs.all flatV = true) ∧ Q (.bl (inV x xs)) H
  | _ => False
noncomputable def uNotIn (K : PySem.W.Frag) : R2 := fun x y H Q => match y with
  | .ref p => ∃ xs, (SqL K H p xs ∨ SqT K H p xs) ∧ (flatV x = true ∧ xs.all flatV = true) ∧ Q (.bl (!inV x xs)) H
  | _ => False
theorem uo_in_0 : OpR X (compareOp .In) (uIn X.K) := op_in_seq.imp fun x y H Q h => by
  cases y <;> first
    | exact False.elim h
    | (obtain ⟨xs, h1, ⟨h2, h3⟩, h4⟩ := h; exact ⟨_, xs, rfl, h1, h2, h3, h4⟩)
theorem uo_notIn_0 : OpR X (compareOp .NotIn) (uNotIn X.K) := op_notIn_seq.imp fun x y H Q h => by
  cases y <;> first
    | exact False.elim h
    | (obtain ⟨xs, h1, ⟨h2, h3⟩, h4⟩ := h; exact ⟨_, xs, rfl, h1, h2, h3, h4⟩)
/-- is, is not: None, True, False -/
noncomputable def uIs : R2 := fun x y H Q => match y with
  | .non => Q (.bl (decide (x = .non))) H
  | .bl k => match x with
    | .bl j => Q (.bl (j == k)) H
    | .non => Q (.bl false) H
    | _ => False
  | _ => False
noncomputable def uIsNot : R2 := fun x y H Q => match y with
  | .non => Q (.bl (!decide (x = .non))) H
  | .bl k => match x with
    | .bl j => Q (.bl (!(j == k))) H
    | .non => Q (.bl true) H
    | _ => False
  | _ => False
theorem op_isB : OpR X (compareOp .Is) (fun x y H Q => ∃ a b, x = .bl a ∧ y = .bl b ∧ Q (.bl (a == b)) H) := by
  intro pins s σ H x y v u Q I rx ry h
  obtain ⟨a, b, rfl, rfl, q⟩ := h
  cases rx; cases ry
  have e : compareOp .Is (.bool a) (.bool b) = pure (.bool (a == b)) := by cases a <;> cases b <;> rfl
  rw [e]
  exact wpAny_pure ⟨.bl _, H, I, rfl, q⟩
theorem op_isNB : OpR X (compareOp .Is) (fun x y H Q => ∃ b, x = .non ∧ y = .bl b ∧ Q (.bl false) H) := by
  intro pins s σ H x y v u Q I rx ry h
  obtain ⟨b, rfl, rfl, q⟩ := h
  cases rx; cases ry
  have e : compareOp .Is .none (.bool b) = pure (.bool false) := by cases b <;> rfl
  rw [e]
  exact wpAny_pure ⟨.bl _, H, I, rfl, q⟩
theorem uo_is : OpR X (compareOp .Is) uIs := (op_isN.or (op_isB.or op_isNB)).imp fun x y H Q h => by
  cases y with
  | non => exact .inl ⟨rfl, h⟩
  | bl k => cases x with
    | bl j => exact .inr (.inl ⟨_, _, rfl, rfl, h⟩)
    | non => exact .inr (.inr ⟨_, rfl, rfl, h⟩)
    | _ => exact False.elim h
  | _ => exact False.elim h

/-! ### tests -/
noncomputable def uB (Q : Bool → Hp → Prop) : VK := fun x H => match x with
  | .bl k => Q k H
  | _ => False
theorem uB_of {Q : Bool → Hp → Prop} {x : V} {H : Hp} (h : uB Q x H) : ∃ k, x = .bl k ∧ Q k H := by
  cases x <;> first | exact ⟨_, rfl, h⟩ | exact False.elim h
noncomputable def uTest (t : TE) : TT := fun σ H Q => t σ H (uB Q)
theorem ut_cmp {op : CmpOp} {r : R2} (ho : OpR X (compareOp op) r) (ha : PE X a ta) (hb : PE X b tb) (hm : behindInMarks op b = false) : PT X (.Compare a [op] [b] pos) (uTest (tOp r ta tb)) := by
  intro pins s σ H Q I h
  refine wpAny_isTrue_Compare1 (thn (ha pins s σ H _ I h) fun v s1 ⟨x, H1, I1, r1, q1⟩ => thn (hb pins s1 σ H1 _ I1 q1) fun u s2 ⟨y, H2, I2, r2, q2⟩ =>
    thn (ho pins s2 σ H2 x y v u _ I2 r1 r2 q2) fun c s3 ⟨z, H3, I3, r3, q3⟩ => ?_) hm
  obtain ⟨k, e, q⟩ := uB_of q3
  subst e
  cases r3
  exact wpAny_truthy_bool ⟨H3, I3, q⟩
/-- a value's truth -/
noncomputable def uTru (K : PySem.W.Frag) (Q : Bool → Hp → Prop) : VK := fun x H => match x with
  | .bl k => Q k H
  | .non => Q false H
  | .int i => Q (decide (i ≠ 0)) H
  | .ref p => ∃ xs, (SqL K H p xs ∨ SqT K H p xs) ∧ Q (!xs.isEmpty) H
  | _ => False
noncomputable def uTruth (K : PySem.W.Frag) (t : TE) : TT := fun σ H Q => t σ H (uTru K Q)
theorem ut_val_0 (ha : PE X a ta) (he : ∀ whole, isTrue a X.env whole = (do let v ← whole; standAt a.pos; holding [v] (truthy v)) := by intro _; rfl) : PT X a (uTruth X.K ta) := by
  intro pins s σ H Q I h
  refine isTrue_plain (thn (ha pins s σ H _ I h) fun v s1 ⟨x, H1, I1, r1, q1⟩ => tru_ok pins s1 σ H1 x v Q I1 r1 ?_) (he _)
  cases x with
  | bl k => exact ⟨k, rfl, q1⟩
  | non => exact ⟨false, rfl, q1⟩
  | int i =>
    refine ⟨i != 0, rfl, ?_⟩
    have e : (i != 0) = decide (i ≠ 0) := by
      by_cases h : i = 0
      · subst h; rfl
      · simp [h]
    rw [e]; exact q1
  | ref p =>
    obtain ⟨xs, h1 | h1, q⟩ := q1
    · exact ⟨_, .inl ⟨xs, h1, rfl⟩, q⟩
    · exact ⟨_, .inr (.inl ⟨xs, h1, rfl⟩), q⟩
  | _ => exact False.elim q1
/-- and, or, not as values of truths -/
noncomputable def uAndV (ta tb : TE) : TE := fun σ H Q => ta σ H fun x H1 => match x with
  | .bl c => if c = true then tb σ H1 Q else Q (.bl false) H1
  | _ => False
noncomputable def uOrV (ta tb : TE) : TE := fun σ H Q => ta σ H fun x H1 => match x with
  | .bl c => if c = true then Q (.bl true) H1 else tb σ H1 Q
  | _ => False
noncomputable def uNotV (ta : TE) : TE := fun σ H Q => ta σ H fun x H1 => match x with
  | .bl c => Q (.bl (!c)) H1
  | _ => False
variable {rest : List Expr}
theorem ue_and (ha : PE X a ta) (hb : PE X (.BoolOp .And (b :: rest) pos) tb) : PE X (.BoolOp .And (a :: b :: rest) pos) (uAndV ta tb) := by
  intro pins s σ H Q I h
  refine BoolOp_and (thn (ha pins s σ H _ I h) fun v s1 ⟨x, H1, I1, r1, q1⟩ => ?_)
  cases x with
  | bl c =>
    cases r1
    refine wpAny_truthy_bool ?_
    cases c with
    | true => exact hb pins s1 σ H1 Q I1 q1
    | false => exact ⟨.bl false, H1, I1, rfl, q1⟩
  | _ => exact False.elim q1
theorem ue_not (ha : PE X a ta) : PE X (.UnaryOp .Not a pos) (uNotV ta) := by
  intro pins s σ H Q I h
  refine UnaryOp_ (thn (ha pins s σ H _ I h) fun v s1 ⟨x, H1, I1, r1, q1⟩ => ?_)
  cases x with
  | bl c =>
    cases r1
    exact not_of (wpAny_truthy_bool ⟨.bl (!c), H1, I1, rfl, q1⟩)
  | _ => exact False.elim q1

/-! ### lists -/
noncomputable def uIx (K : PySem.W.Frag) : R2 := fun x y H Q => match x, y with
  | .ref p, .int i => ∃ xs v, (SqL K H p xs ∨ SqT K H p xs) ∧ atI xs i = some v ∧ Q v H
  | _, _ => False
theorem ux_0 : IxR X (uIx X.K) := (ix_list.or ix_tup).imp fun x y H Q h => by
  cases x <;> cases y <;> first
    | exact False.elim h
    | (obtain ⟨xs, v, h1 | h1, h2, h3⟩ := h
       · exact .inl ⟨_, xs, _, v, rfl, rfl, h1, h2, h3⟩
       · exact .inr ⟨_, xs, _, v, rfl, rfl, h1, h2, h3⟩)
noncomputable def uSet : TSet := fun o i v H Q => match o, i with
  | .ref p, .int k => ∃ xs j, H p = some (.lst xs) ∧ ixN xs.length k = some j ∧ Q (upd H p (.lst (xs.set j v)))
  | _, _ => False
noncomputable def uSl (K : PySem.W.Frag) : V → Option Int → Option Int → Hp → VK → Prop := fun x lo hi H Q => match x with
  | .ref a => ∃ xs, SqL K H a xs ∧ ∀ p, H p = none → Q (.ref p) (upd H p (.lst (cutV xs lo hi)))
  | _ => False
theorem usl_0 : SlR X (uSl X.K) := fun pins s σ H x v vl vu lo hi sl Q I rx h1 h2 h3 h => by
  cases x <;> first
    | exact False.elim h
    | (obtain ⟨xs, e1, q⟩ := h; exact sl_list pins s σ H _ v vl vu lo hi sl Q I rx h1 h2 h3 ⟨_, xs, rfl, e1, q⟩)
noncomputable def uPart (t : TE) : TO := fun σ H Q => t σ H fun x H1 => match x with
  | .int i => Q (some i) H1
  | _ => False
/-- calls of builtins -/
noncomputable def u1 (r : V → Hp → VK → Prop) : List V → Hp → VK → Prop := fun xs H Q => match xs with
  | [x] => r x H Q
  | _ => False
noncomputable def u2 (r : V → V → Hp → VK → Prop) : List V → Hp → VK → Prop := fun xs H Q => match xs with
  | [x, y] => r x y H Q
  | _ => False
theorem u1_of {r : V → Hp → VK → Prop} {xs : List V} {H : Hp} {Q : VK} (h : u1 r xs H Q) : ∃ x, xs = [x] ∧ r x H Q := by
  unfold u1 at h
  split at h
  · exact ⟨_, rfl, h⟩
  · exact h.elim
theorem u2_of {r : V → V → Hp → VK → Prop} {xs : List V} {H : Hp} {Q : VK} (h : u2 r xs H Q) : ∃ x y, xs = [x, y] ∧ r x y H Q := by
  unfold u2 at h
  split at h
  · exact ⟨_, _, rfl, h⟩
  · exact h.elim
noncomputable def uLen (K : PySem.W.Frag) : List V → Hp → VK → Prop := u1 fun x H Q => match x with
  | .ref p => ∃ xs, (SqL K H p xs ∨ SqT K H p xs) ∧ Q (.int xs.length) H
  | _ => False
theorem uc_len_0 : CallR X (.builtin "len") (uLen X.K) := call_len_seq.imp fun xs H Q h => by
  obtain ⟨x, rfl, h⟩ := u1_of h
  cases x <;> first
    | exact False.elim h
    | (obtain ⟨xs, h1, q⟩ := h; exact ⟨_, xs, rfl, h1, q⟩)
noncomputable def uAbs : List V → Hp → VK → Prop := u1 fun x H Q => match x with
  | .int i => Q (.int (if i < 0 then -i else i)) H
  | _ => False
theorem uc_abs : CallR X (.builtin "abs") uAbs := call_abs.imp fun xs H Q h => by
  obtain ⟨x, rfl, h⟩ := u1_of h
  cases x <;> first
    | exact False.elim h
    | exact ⟨_, rfl, h⟩
noncomputable def uAll (K : PySem.W.Frag) : List V → Hp → VK → Prop := u1 fun x H Q => match x with
  | .ref p => ∃ bs : List Bool, SqL K H p (bs.map V.bl) ∧ Q (.bl (bs.all id)) H
  | _ => False
noncomputable def uIsi (K : PySem.W.Frag) : List V → Hp → VK → Prop := u2 fun x y H Q => match y with
  | .ty n => ∃ t b, TyOf K H x t ∧ PySem.W.kitOne K t (.type n) = some b ∧ Q (.bl b) H
  | _ => False
theorem uc_isi_0 : CallR X (.builtin "isinstance") (uIsi X.K) := call_isi.imp fun xs H Q h => by
  obtain ⟨x, y, rfl, h⟩ := u2_of h
  cases y <;> first
    | exact False.elim h
    | (obtain ⟨t, b, h1, h2, q⟩ := h; exact ⟨x, _, t, b, rfl, h1, h2, q⟩)
noncomputable def uSetC (K : PySem.W.Frag) : List V → Hp → VK → Prop := u1 fun x H Q => match x with
  | .ref p => ∃ ns : List Int, SqL K H p (ns.map V.int) ∧ ns.length ≤ 1000 ∧ ∀ q, H q = none → Q (.ref q) (upd H q (.set (fun k => (ns.foldl step_dedup []).any (· == k)) (ns.foldl step_dedup []).length))
  | _ => False
noncomputable def uLenSet : List V → Hp → VK → Prop := u1 fun x H Q => match x with
  | .ref p => ∃ S n, H p = some (.set S n) ∧ Q (.int n) H
  | _ => False
noncomputable def uList (K : PySem.W.Frag) : List V → Hp → VK → Prop := u1 fun x H Q => match x with
  | .ref p => ∃ ys, (SqL K H p ys ∨ SqT K H p ys) ∧ ∀ l, H l = none → Q (.ref l) (upd H l (.lst ys))
  | _ => False
theorem uc_list_0 : CallR X (.type "list") (uList X.K) := call_list_of.imp fun xs H Q h => by
  obtain ⟨x, rfl, h⟩ := u1_of h
  cases x <;> first
    | exact False.elim h
    | (obtain ⟨ys, h1, q⟩ := h; exact ⟨_, ys, rfl, h1, q⟩)
noncomputable def uMin (K : PySem.W.Frag) : List V → Hp → VK → Prop := u1 fun x H Q => match x with
  | .ref p => ∃ ns : List Int, SqL K H p (ns.map V.int) ∧ 0 < ns.length ∧ ∀ m, m ∈ ns → (∀ n ∈ ns, m ≤ n) → Q (.int m) H
  | _ => False
noncomputable def uMax (K : PySem.W.Frag) : List V → Hp → VK → Prop := u1 fun x H Q => match x with
  | .ref p => ∃ ns : List Int, SqL K H p (ns.map V.int) ∧ 0 < ns.length ∧ ∀ m, m ∈ ns → (∀ n ∈ ns, n ≤ m) → Q (.int m) H
  | _ => False
theorem uc_max_0 (hc : X.calm = true) : CallR X (.builtin "max") (uMax X.K) := (call_maxL hc).imp fun xs H Q h => by
  obtain ⟨x, rfl, h⟩ := u1_of h
  cases x <;> first
    | exact False.elim h
    | (obtain ⟨ns, h1, h2, q⟩ := h; exact ⟨_, ns, rfl, h1, h2, q⟩)
noncomputable def uRangeV : List V → Hp → VK → Prop := u2 fun x y H Q => match x, y with
  | .int i, .int j => ∀ p, H p = none → Q (.ref p) (upd H p (.rng i j))
  | _, _ => False
theorem uc_rangeV : CallR X (.type "range") uRangeV := call_rangeV.imp fun xs H Q h => by
  obtain ⟨x, y, rfl, h⟩ := u2_of h
  cases x <;> cases y <;> first
    | exact False.elim h
    | exact ⟨_, _, rfl, h⟩
noncomputable def uListRng : List V → Hp → VK → Prop := u1 fun x H Q => match x with
  | .ref p => ∃ i j : Int, H p = some (.rng i j) ∧ (-1000000 ≤ i ∧ i ≤ j ∧ j ≤ 1000000) ∧ ∀ l, H l = none → Q (.ref l) (upd H l (.lst ((List.range (j - i).toNat).map fun (k : Nat) => V.int (i + (k : Int)))))
  | _ => False
theorem uc_listRng (hc : X.calm = true) : CallR X (.type "list") uListRng := (call_list_rng hc).imp fun xs H Q h => by
  obtain ⟨x, rfl, h⟩ := u1_of h
  cases x <;> first
    | exact False.elim h
    | (obtain ⟨i, j, h1, ⟨h2, h3, h4⟩, q⟩ := h; exact ⟨_, i, j, rfl, h1, h2, h3, h4, q⟩)
/-! ### methods of lists -/
noncomputable def uAppend : V → List V → Hp → VK → Prop := fun x vs H Q => match x, vs with
  | .ref l, [y] => ∃ xs, H l = some (.lst xs) ∧ xs.length < sizeLine ∧ Q .non (upd H l (.lst (xs ++ [y])))
  | _, _ => False
theorem um_append : MtM X "list.append" uAppend := fun pins s σ H x xs v us Q I rx rs h => by
  unfold uAppend at h
  split at h
  · obtain ⟨ys, h1, h2, q⟩ := h
    exact mt_append pins s σ H _ _ v us Q I rx rs ⟨_, ys, _, rfl, rfl, h1, h2, q⟩
  · exact h.elim
noncomputable def uM0 (f : List V → List V) : V → List V → Hp → VK → Prop := fun x _ H Q => match x with
  | .ref l => ∃ xs, H l = some (.lst xs) ∧ Q .non (upd H l (.lst (f xs)))
  | _ => False
theorem upo_some (h : PE X e te) : PO X (some e) (uPart te) := by
  intro pins s σ H Q I hw
  rw [evalPart_some]
  refine thn (h pins s σ H _ I hw) fun u s1 ⟨x, H1, I1, r1, q1⟩ => ?_
  cases x with
  | int i =>
    obtain ⟨t, rfl⟩ := r1
    exact ⟨some i, H1, I1, .int i t, q1⟩
  | _ => exact False.elim q1
/-! ### sources of loops -/
variable {tg : Expr}
noncomputable def uiRng1 (ta : TA) : TI := fun σ H R => ta σ H fun vs H1 => match vs with
  | [.int j] => (-(2 ^ 62) ≤ j ∧ j < 2 ^ 62) ∧ R (Itr 0 j.toNat) H1
  | _ => False
noncomputable def uiRng2 (ta : TA) : TI := fun σ H R => ta σ H fun vs H1 => match vs with
  | [.int i, .int j] => (-(2 ^ 62) ≤ i ∧ i < 2 ^ 62 ∧ -(2 ^ 62) ≤ j ∧ j < 2 ^ 62) ∧ R (Itr i (j - i).toNat) H1
  | _ => False
theorem ui_range1 {a : Expr} {ta : TA} {p pos : Pos} (hm : X.mg "range" = none) (ha : PA X [a] ta) (hg : Gl X "range" := by rfl) (hn : notStar a = true := by rfl) : PI X tg (.Call (.Name "range" p) [a] [] pos) (uiRng1 ta) := by
  have hs : starEach [a] X.env = [(false, eval a X.env)] := by rw [se hn, starEach]
  intro pins s σ H R I h
  refine Call_ (ld_blt I hg hm boot_range (PyProof.Rows.callWith_type1 (thn (ha pos pins s σ H _ I h) fun us s1 ⟨vs, H1, I1, r1, q1⟩ => ?_) hs rfl))
  dsimp only at q1
  split at q1
  · obtain ⟨⟨q1, q2⟩, q⟩ := q1
    cases r1 with
    | cons r rr =>
      cases rr
      obtain ⟨t, rfl⟩ := r
      exact call_range_1 (range_it I1 (by omega) (by omega) q1 q2 (by simpa using q))
  · exact q1.elim
theorem ui_range2 {a b : Expr} {ta : TA} {p pos : Pos} (hm : X.mg "range" = none) (ha : PA X [a, b] ta) (hg : Gl X "range" := by rfl) (hn : notStar a = true := by rfl) (hn2 : notStar b = true := by rfl) :
    PI X tg (.Call (.Name "range" p) [a, b] [] pos) (uiRng2 ta) := by
  have hs2 : starEach [b] X.env = [(false, eval b X.env)] := by rw [se hn2, starEach]
  have hs : starEach [a, b] X.env = [(false, eval a X.env), (false, eval b X.env)] := by rw [se hn, hs2]
  intro pins s σ H R I h
  refine Call_ (ld_blt I hg hm boot_range (PyProof.Rows.callWith_type1 (thn (ha pos pins s σ H _ I h) fun us s1 ⟨vs, H1, I1, r1, q1⟩ => ?_) (by rw [hs, hs2]) (by rw [hs2]; rfl)))
  dsimp only at q1
  split at q1
  · obtain ⟨⟨q1, q2, q3, q4⟩, q⟩ := q1
    cases r1 with
    | cons r rr =>
      cases rr with
      | cons r' rr =>
        cases rr
        obtain ⟨t, rfl⟩ := r
        obtain ⟨t', rfl⟩ := r'
        exact call_range_2 (range_it I1 q1 q2 q3 q4 q)
  · exact q1.elim
noncomputable def uiSeq (K : PySem.W.Frag) (tl : TE) : TI := fun σ H R => tl σ H fun x H1 => match x with
  | .ref a => (∃ xs, SqL K H1 a xs ∧ R (Itl K a) H1) ∨ ∃ xs, SqT K H1 a xs ∧ R (Itt K a) H1
  | _ => False
theorem ui_seq_0 {l : Expr} {tl : TE} (hl : PE X l tl) : PI X tg l (uiSeq X.K tl) := by
  intro pins s σ H R I h
  refine thn (hl pins s σ H _ I h) fun v s1 ⟨x, H1, I1, r1, q1⟩ => ?_
  cases x with
  | ref a =>
    cases r1
    rcases q1 with ⟨xs, hq, q⟩ | ⟨xs, hq, q⟩
    · obtain ⟨its, rv, p, hz⟩ := I1.list hq
      refine wpAny_pyIter_list p.isList ?_
      refine ⟨s1.heap.objs.size, [s1.heap.objs.size], _, _, H1, rfl, I1.kept (t' := s1.toks) fun b o e => Heap.get?_push_of_some _ e, turn_list a _, ⟨_, Heap.get?_push_size _ rfl, rfl, rfl⟩, fun b hb => ?_, q⟩
      have e : b = s1.heap.objs.size := by simpa using hb
      subst e
      exact I1.fpOk (Nat.le_refl _) (I1.hok.fresh (Nat.le_refl _))
    · obtain ⟨its, rv, p, hz⟩ := I1.tuple hq
      refine wpAny_pyIter_tuple (show s1.heap.IsTuple a its.toArray from p) ?_
      refine ⟨s1.heap.objs.size, [s1.heap.objs.size], _, _, H1, rfl, I1.kept (t' := s1.toks) fun b o e => Heap.get?_push_of_some _ e, turn_tuple a _, ⟨_, Heap.get?_push_size _ rfl, rfl, rfl⟩, fun b hb => ?_, q⟩
      have e : b = s1.heap.objs.size := by simpa using hb
      subst e
      exact I1.fpOk (Nat.le_refl _) (I1.hok.fresh (Nat.le_refl _))
  | _ => exact False.elim q1
/-! ### methods of lists, called -/
noncomputable def uBM0 (K : PySem.W.Frag) (r : V → List V → Hp → VK → Prop) (to : TE) : TE := fun σ H Q => to σ H fun x H1 => match x with
  | .ref p => (∃ xs, SqL K H1 p xs) ∧ r (.ref p) [] H1 Q
  | _ => False
noncomputable def uBM (K : PySem.W.Frag) (r : V → List V → Hp → VK → Prop) (to : TE) (t : TA) : TE := fun σ H Q => to σ H fun x H1 => match x with
  | .ref p => (∃ xs, SqL K H1 p xs) ∧ t σ H1 fun xs H2 => r (.ref p) xs H2 Q
  | _ => False
variable {o : Expr} {to : TE} {t : TA} {name : Str} {apos cpos : Pos} {id : String} {r : V → List V → Hp → VK → Prop}
theorem ue_bm_0 (slot : Slot "list" name id) (hty : typeOf (.builtin id) = pure (.type "method_descriptor")) (hm : MtR X id r) (ho : PE X o to) (ha : PA X (e :: es) t)
    (hbase : attributeBase o name X.env (eval o X.env) = eval o X.env := by rfl)
    (hfew : ((backTo cpos (starEach (e :: es) X.env)).all (fun x => !x.1) && (backToKw cpos (keywordEach [] X.env)).all (fun x => x.1.isSome)
      && decide ((e :: es).length + ([] : List Keyword).length + (if ([] : List Keyword).isEmpty then 0 else 1) < 30)) = true := by rfl)
    (hline : (apos.endLine == cpos.line) = true := by rfl) (hs : starEach (e :: es) X.env = (false, eval e X.env) :: starEach es X.env := by rfl) (hplain : (backTo cpos (starEach es X.env)).any (·.1) = false := by rfl) :
    PE X (.Call (.Attribute o name apos) (e :: es) [] cpos) (uBM X.K r to t) := by
  intro pins s σ H Q I h
  refine wpAny_Call_method_late hbase hfew hline rfl (thn (ho pins s σ H _ I h) fun v s1 ⟨x, H1, I1, r1, q1⟩ => ?_)
  cases x with
  | ref p =>
    obtain ⟨ty, q1⟩ := q1
    obtain ⟨h1, h2⟩ := tyV_is (T := "list") I1 r1 (.inl ⟨rfl, ty⟩)
    refine ⟨"list", id, PySem.F.plainAttrs_list, slot, hty, h1, h2, ?_⟩
    have hA := ha cpos pins s1 σ H1 _ I1 q1
    rw [hs] at hA ⊢
    refine Calls.callWith_builtin (by show (false || (backTo cpos (starEach es X.env)).any (·.1)) = false; rw [hplain] <;> rfl) (Calls.evalArgs_plain ?_)
    exact thn hA fun us s2 ⟨vs, H2, I2, r2, q2⟩ => hm pins s2 σ H2 _ vs v us Q I2 r1 r2 q2
  | _ => exact False.elim q1
/-! ### the written part by its letter -/
theorem uo_eq {K : PySem.W.Frag} (hu : X.A.units + 8 < cLine) (hK : X.K = K := by rfl) : OpR X (compareOp .Eq) (uEq K) := by subst hK; exact uo_eq_0 hu
theorem uo_ne {K : PySem.W.Frag} (hu : X.A.units + 8 < cLine) (hK : X.K = K := by rfl) : OpR X (compareOp .NotEq) (uNe K) := by subst hK; exact uo_ne_0 hu
theorem uo_in {K : PySem.W.Frag} (hK : X.K = K := by rfl) : OpR X (compareOp .In) (uIn K) := by subst hK; exact uo_in_0 
theorem uo_notIn {K : PySem.W.Frag} (hK : X.K = K := by rfl) : OpR X (compareOp .NotIn) (uNotIn K) := by subst hK; exact uo_notIn_0 
theorem ux {K : PySem.W.Frag} (hK : X.K = K := by rfl) : IxR X (uIx K) := by subst hK; exact ux_0 
theorem usl {K : PySem.W.Frag} (hK : X.K = K := by rfl) : SlR X (uSl K) := by subst hK; exact usl_0 
theorem uc_len {K : PySem.W.Frag} (hK : X.K = K := by rfl) : CallR X (.builtin "len") (uLen K) := by subst hK; exact uc_len_0 
theorem uc_isi {K : PySem.W.Frag} (hK : X.K = K := by rfl) : CallR X (.builtin "isinstance") (uIsi K) := by subst hK; exact uc_isi_0 
theorem uc_list {K : PySem.W.Frag} (hK : X.K = K := by rfl) : CallR X (.type "list") (uList K) := by subst hK; exact uc_list_0 
theorem uc_max {K : PySem.W.Frag} (hc : X.calm = true) (hK : X.K = K := by rfl) : CallR X (.builtin "max") (uMax K) := by subst hK; exact uc_max_0 hc
theorem ut_val {K : PySem.W.Frag} (ha : PE X a ta) (hK : X.K = K := by rfl) (he : ∀ whole, isTrue a X.env whole = (do let v ← whole; standAt a.pos; holding [v] (truthy v)) := by intro _; rfl) : PT X a (uTruth K ta) := by subst hK; exact ut_val_0 ha he
theorem ui_seq {K : PySem.W.Frag} {l : Expr} {tl : TE} (hl : PE X l tl) (hK : X.K = K := by rfl) : PI X tg l (uiSeq K tl) := by subst hK; exact ui_seq_0 hl
theorem ue_bm {K : PySem.W.Frag} (slot : Slot "list" name id) (hty : typeOf (.builtin id) = pure (.type "method_descriptor")) (hm : MtR X id r) (ho : PE X o to) (ha : PA X (e :: es) t) (hK : X.K = K := by rfl)
    (hbase : attributeBase o name X.env (eval o X.env) = eval o X.env := by rfl) (hfew : (e :: es).length < 30 := by decide)
    (hline : (apos.endLine == cpos.line) = true := by rfl) (hs : (e :: es).all notStar = true := by rfl) :
    PE X (.Call (.Attribute o name apos) (e :: es) [] cpos) (uBM K r to t) := by
  subst hK
  refine ue_bm_0 slot hty hm ho ha hbase ?_ hline (se (seHd hs).1) (seAny (seHd hs).2)
  rw [seNone hs, keywordEach]
  simpa [backToKw] using hfew
/-! ### cuts: the ways meet -/
noncomputable def eCut (t : TE) : TE := fun σ H Q => ∃ M : VK, t σ H M ∧ ∀ v H', M v H' → Q v H'
theorem pe_cut {t : TE} (h : PE X e t) : PE X e (eCut t) := fun pins s σ H Q I ⟨M, h1, h2⟩ =>
  thn (h pins s σ H M I h1) fun _ _ ⟨v, H', I', r, q⟩ => ⟨v, H', I', r, h2 v H' q⟩
noncomputable def cCut (t : TT) : TT := fun σ H Q => ∃ M : Bool → Hp → Prop, t σ H M ∧ ∀ v H', M v H' → Q v H'
noncomputable def sCut (t u : TS) : TS := fun D σ H => ∃ M : St → Hp → Prop, t { D with nx := M } σ H ∧ ∀ σ' H', M σ' H' → u D σ' H'
theorem pss_cut {st : Stmt} {sts : List Stmt} {t u : TS} (h1 : PS X st t) (h2 : PSs X sts u) : PSs X (st :: sts) (sCut t u) := by
  intro pins s σ H D I ⟨M, q1, q2⟩
  refine wpAny_execs_cons (thn (h1 pins s σ H { D with nx := M } I q1) fun f s1 q => ?_)
  cases f with
  | next =>
    obtain ⟨σ', H', I', q⟩ := q
    exact h2 pins s1 σ' H' D I' (q2 σ' H' q)
  | ret v => exact q
  | brk => exact q
  | cont => exact q
end
/-- while, by a word and a measure -/
theorem while_of {c : TT} {tb : TS} {D : Ends} {σ : St} {H : Hp} (Pv : St → Hp → Prop) (μ : St → Hp → Nat) (h0 : Pv σ H)
    (hs : ∀ σ H, Pv σ H → c σ H fun b H1 => if b = true then ∃ N : St → Hp → Prop, (∀ σ' H', N σ' H' → ∃ m', m' < μ σ H ∧ Pv σ' H' ∧ m' = μ σ' H') ∧ tb { D with nx := N, ct := N, bk := D.nx } σ H1 else D.nx σ H1) : tWhile c tb D σ H := by
  refine ⟨fun m σ H => Pv σ H ∧ m = μ σ H, ⟨_, h0, rfl⟩, ?_⟩
  rintro m σ H ⟨p, rfl⟩
  exact hs σ H p
theorem while_go {Pv : St → Hp → Prop} {μ : St → Hp → Nat} {m : Nat} {tb : TS} {D : Ends} {σ : St} {H1 : Hp} (h : tb { D with nx := fun σ' H' => Pv σ' H' ∧ μ σ' H' < m, ct := fun σ' H' => Pv σ' H' ∧ μ σ' H' < m, bk := D.nx } σ H1) :
    ∃ N : St → Hp → Prop, (∀ σ' H', N σ' H' → ∃ m', m' < m ∧ Pv σ' H' ∧ m' = μ σ' H') ∧ tb { D with nx := N, ct := N, bk := D.nx } σ H1 := ⟨_, fun _ _ h => ⟨_, h.2, h.1, rfl⟩, h⟩
end L2

set_option Elab.async false
set_option linter.all false
set_option maxRecDepth 100000
set_option maxHeartbeats 4000000
/-! the judgements as structures: nothing unfolds while a term is read -/
namespace L2
open PySem PySem.Spec PyProof.Rows
structure QE (X : Cx) (e : Expr) (t : TE) : Prop where
  run : PE X e t
structure QT (X : Cx) (e : Expr) (t : TT) : Prop where
  run : PT X e t
structure QW (X : Cx) (e : Expr) (t : TT) : Prop where
  run : PW X e t
structure QA (X : Cx) (es : List Expr) (t : TA) : Prop where
  run : PA X es t
structure QS (X : Cx) (st : Stmt) (t : TS) : Prop where
  run : PS X st t
structure QSs (X : Cx) (st : List Stmt) (t : TS) : Prop where
  run : PSs X st t
structure QG (X : Cx) (e : Expr) (t : TG) : Prop where
  run : PG X e t
structure QGs (X : Cx) (es : List Expr) (t : TGs) : Prop where
  run : PGs X es t
structure QI (X : Cx) (tg it : Expr) (t : TI) : Prop where
  run : PI X tg it t
structure QF (X : Cx) (es : List Expr) (t : TT) : Prop where
  run : PIfs X es t
structure QO (X : Cx) (e : Option Expr) (t : TO) : Prop where
  run : PO X e t
section
variable {X : Cx} {K : PySem.W.Frag} {a b c e o tg iter : Expr} {es rest : List Expr} {ta tb tc te to : TE} {t : TA} {tA tB' : TT} {pos p apos cpos : Pos}
theorem q_v (i : Nat) {x : Str} (hN : X.N[i]? = some x := by rfl) (hv : Vis X.env.scope x := by first | exact Or.inl rfl | exact Or.inr (Or.inl rfl) | exact Or.inr (Or.inr rfl)) (hd : (x == ("__debug__" : Str)) = false := by decide) (hcd : (x == ("__classdict__" : Str)) = false := by decide) : QE X (.Name x pos) (uVar i) := ⟨uv i hN hv hd hcd⟩
theorem q_glob {x : Str} {v : V} {u : Value} (hg : Gl X x) (hm : X.mg x = some u) (r : RelV v u) (hd : (x == ("__debug__" : Str)) = false := by decide) : QE X (.Name x pos) (tC v) := ⟨pe_glob hg hm r hd⟩
theorem q_bltn {x : Str} {v : V} {u : Value} (hg : Gl X x) (hm : X.mg x = none) (hv : bootBuiltins x = some u) (r : RelV v u) (hn : x ≠ "__name__" := by decide) (hd : (x == ("__debug__" : Str)) = false := by decide) : QE X (.Name x pos) (tC v) := ⟨pe_bltn hg hm hv r hn hd⟩
theorem q_int {i j} : QE X (.Constant (.int i) j pos) (tC (.int i)) := ⟨pe_int⟩
theorem q_bl {b j} : QE X (.Constant (.bool b) j pos) (tC (.bl b)) := ⟨pe_bl⟩
theorem q_non {j} : QE X (.Constant .none j pos) (tC .non) := ⟨pe_non⟩
theorem q_str {x j} : QE X (.Constant (.str x) j pos) (tC (.str x)) := ⟨pe_str⟩
theorem q_op {op : Operator} {r : R2} (ho : OpR X (binaryOp op) r) (ha : QE X a ta) (hb : QE X b tb) : QE X (.BinOp a op b pos) (tOp r ta tb) := ⟨pe_op ho ha.run hb.run⟩
theorem q_un {op : UnaryOp} {r : V → Hp → VK → Prop} (ho : UnR X (unaryOp op) r) (ha : QE X a ta) : QE X (.UnaryOp op a pos) (tUn r ta) := ⟨pe_un ho ha.run⟩
theorem q_not (ha : QE X a ta) : QE X (.UnaryOp .Not a pos) (uNotV ta) := ⟨ue_not ha.run⟩
theorem q_cmp {op : CmpOp} {r : R2} (ho : OpR X (compareOp op) r) (ha : QE X a ta) (hb : QE X b tb) (hm : behindInMarks op b = false) : QE X (.Compare a [op] [b] pos) (tOp r ta tb) := ⟨pe_cmpR ho ha.run hb.run hm⟩
theorem q_and (ha : QE X a ta) (hb : QE X (.BoolOp .And (b :: rest) pos) tb) : QE X (.BoolOp .And (a :: b :: rest) pos) (uAndV ta tb) := ⟨ue_and ha.run hb.run⟩
theorem q_one {op} (h : QE X a ta) : QE X (.BoolOp op [a] pos) ta := ⟨pe_one h.run⟩
theorem q_if (hc : QT X c tA) (ha : QE X a ta) (hb : QE X b tb) : QE X (.IfExp c a b pos) (tIf tA ta tb) := ⟨pe_ifExp hc.run ha.run hb.run⟩
theorem q_none : QO X none tNoPart := ⟨po_none⟩
theorem q_some (h : QE X e te) : QO X (some e) (uPart te) := ⟨upo_some h.run⟩
theorem q_slice {lo hi : Option Expr} {tl th : TO} {p2 : Pos} {r : V → Option Int → Option Int → Hp → VK → Prop} (hr : SlR X r) (he : QE X e te) (hl : QO X lo tl) (hu : QO X hi th) : QE X (.Subscript e (.Slice lo hi none p2) pos) (tSl r te tl th) := ⟨pe_slice hr he.run hl.run hu.run⟩
theorem q_ix {r : R2} (hr : IxR X r) (ha : QE X a ta) (hb : QE X b tb) (hs : PlainIx b) : QE X (.Subscript a b pos) (tOp r ta tb) := ⟨pe_ix hr ha.run hb.run hs⟩
theorem q_nil : QA X [] tNil := ⟨pa_nil⟩
theorem q_cons (ha : QE X e te) (hr : QA X es t) (hn : notStar e = true := by rfl) : QA X (e :: es) (tCons te t) := ⟨ua_cons ha.run hr.run hn⟩
theorem q_lst (h : QA X es t) : QE X (.List es pos) (tLst t) := ⟨pe_lst h.run⟩
theorem q_tup {x1} (h : QA X es t) : QE X (.Tuple es x1 pos) (tTup t) := ⟨pe_tup h.run⟩
theorem q_dnew : QE X (.Dict [] [] pos) tDNewK := ⟨pe_dnewK⟩
theorem q_callB {x : Str} {id : String} {r : List V → Hp → VK → Prop} (hc : CallR X (.builtin id) r) (hg : Gl X x) (hm : X.mg x = none) (hv : bootBuiltins x = some (.builtin id)) (ha : QA X (e :: es) t) (hn : x ≠ "__name__" := by decide) (hdb : (x == ("__debug__" : Str)) = false := by decide)
    (hs : (e :: es).all notStar = true := by rfl) : QE X (.Call (.Name x p) (e :: es) [] pos) (tCB r t) := ⟨ue_callB hc hg hm hv ha.run hn hdb hs⟩
theorem q_callTy {x : Str} {T : String} {r : List V → Hp → VK → Prop} (hc : CallR X (.type T) r) (hg : Gl X x) (hm : X.mg x = none) (hv : bootBuiltins x = some (.type T)) (ha : QA X (e :: es) t) (hn : x ≠ "__name__" := by decide) (hdb : (x == ("__debug__" : Str)) = false := by decide)
    (hs : (e :: es).all notStar = true := by rfl) : QE X (.Call (.Name x p) (e :: es) [] pos) (tCB r t) := ⟨ue_callTy hc hg hm hv ha.run hn hdb hs⟩
theorem q_g {CX : CXT} {x : Str} {ps : List Str} {k : Nat} {sp : Sp} {E : XK} (g : PG.G X.prog X.w X.K X.mg X.base CX x ps k sp) (hr : Room k X.A) (hx : Passes CX X E) (ha : QA X (e :: es) t) (hg : Gl X x := by rfl)
    (hdb : (x == ("__debug__" : Str)) = false := by decide) (hs : (e :: es).all notStar = true := by rfl) : QE X (.Call (.Name x p) (e :: es) [] pos) (tCall sp [] E t) := ⟨ue_g g hr hx ha.run hg hdb hs⟩
theorem q_bm {name : Str} {id : String} {r : V → List V → Hp → VK → Prop} (slot : Slot "list" name id) (hty : typeOf (.builtin id) = pure (.type "method_descriptor")) (hm : MtR X id r) (ho : QE X o to) (ha : QA X (e :: es) t) (hK : X.K = K := by rfl)
    (hbase : attributeBase o name X.env (eval o X.env) = eval o X.env := by rfl) (hfew : (e :: es).length < 30 := by decide)
    (hline : (apos.endLine == cpos.line) = true := by rfl) (hs : (e :: es).all notStar = true := by rfl) : QE X (.Call (.Attribute o name apos) (e :: es) [] cpos) (uBM K r to t) := ⟨ue_bm slot hty hm ho.run ha.run hK hbase hfew hline hs⟩
theorem q_cut {t : TE} (h : QE X e t) : QE X e (eCut t) := ⟨pe_cut h.run⟩
/-! tests -/
theorem q_tcmp {op : CmpOp} {r : R2} (ho : OpR X (compareOp op) r) (ha : QE X a ta) (hb : QE X b tb) (hm : behindInMarks op b = false) : QT X (.Compare a [op] [b] pos) (uTest (tOp r ta tb)) := ⟨ut_cmp ho ha.run hb.run hm⟩
theorem q_tw (h : QW X e tA) : QT X e tA := ⟨PW.pt h.run⟩
theorem q_tand1 (ha : QT X a tA) : QW X (.BoolOp .And [a] pos) tA := ⟨pw_and1 ha.run⟩
theorem q_tor1 (ha : QT X a tA) : QW X (.BoolOp .Or [a] pos) tA := ⟨pw_or1 ha.run⟩
theorem q_tand (ha : QT X a tA) (hb : QW X (.BoolOp .And (b :: rest) pos) tB') : QW X (.BoolOp .And (a :: b :: rest) pos) (tAnd tA tB') := ⟨pw_and ha.run hb.run⟩
theorem q_tor (ha : QT X a tA) (hb : QW X (.BoolOp .Or (b :: rest) pos) tB') : QW X (.BoolOp .Or (a :: b :: rest) pos) (tOr tA tB') := ⟨pw_or ha.run hb.run⟩
theorem q_tnot (ha : QT X a tA) : QT X (.UnaryOp .Not a pos) (tNot tA) := ⟨pt_not ha.run⟩
theorem q_tval (ha : QE X a ta) (hK : X.K = K := by rfl) (he : ∀ whole, isTrue a X.env whole = (do let v ← whole; standAt a.pos; holding [v] (truthy v)) := by intro _; rfl) : QT X a (uTruth K ta) := ⟨ut_val ha.run hK he⟩
/-! sources -/
theorem q_range1 (hm : X.mg "range" = none) (ha : QA X [a] t) (hg : Gl X "range" := by rfl) (hn : notStar a = true := by rfl) : QI X tg (.Call (.Name "range" p) [a] [] pos) (uiRng1 t) := ⟨ui_range1 hm ha.run hg hn⟩
theorem q_range2 (hm : X.mg "range" = none) (ha : QA X [a, b] t) (hg : Gl X "range" := by rfl) (hn : notStar a = true := by rfl) (hn2 : notStar b = true := by rfl) : QI X tg (.Call (.Name "range" p) [a, b] [] pos) (uiRng2 t) := ⟨ui_range2 hm ha.run hg hn hn2⟩
theorem q_seq {l : Expr} {tl : TE} (hl : QE X l tl) (hK : X.K = K := by rfl) : QI X tg l (uiSeq K tl) := ⟨ui_seq hl.run hK⟩
/-! targets -/
theorem q_name {i : Nat} {x : Str} (hN : X.N.Nodup) (hi : X.N[i]? = some x) (hx : Loc X.env.scope x) (hf : X.fn x = true ∨ X.env.scope.names.lookup x = some .local := by first | exact .inl rfl | exact .inr rfl | assumption) : QG X (.Name x pos) (gName i) := ⟨pg_name hN hi hx hf⟩
theorem q_fnil : QF X [] tTrue := ⟨pif_nil⟩
theorem q_fone (h : QT X c tA) : QF X [c] tA := ⟨pif_one h.run⟩
/-! comprehensions -/
theorem q_comp {scope : Scope} {wi : TI} {g : TG} {tc : TT} {elt : Expr} {ifs : List Expr} (bl : List (Option Nat)) (N' : List Str) (hc : X.calm = true) (k : compOk X.env.scope scope X.N N' bl = true) (hi : QI X tg iter wi) (hg : ∀ C s H fp pins, QG (blkCx X scope N' C s H fp pins) tg g)
    (hf : ∀ C s H fp pins, QF (blkCx X scope N' C s H fp pins) ifs tc) (he : ∀ C s H fp pins, QE (blkCx X scope N' C s H fp pins) elt te)
    (hs : ∀ x, foldedSetIterable iter X.env x = pure x := by intro _; rfl) : QE X (.ListComp elt [⟨tg, iter, ifs, 0⟩] scope pos) (tComp bl wi g tc te) :=
  ⟨pe_comp bl N' hc k hi.run (fun C s H fp pins => (hg C s H fp pins).run) (fun C s H fp pins => (hf C s H fp pins).run) (fun C s H fp pins => (he C s H fp pins).run) hs⟩
/-! statements -/
variable {st : Stmt} {sts body els : List Stmt} {t1 t2 : TS}
theorem q_set {i : Nat} {x : Str} {pos' : Pos} (hN : X.N.Nodup) (hi : X.N[i]? = some x) (hx : Loc X.env.scope x) (he : QE X e te) (hs : swapsWith e (some (.Name x pos')) pos.line X.env = pure false := by rfl) (hf : X.fn x = true ∨ X.env.scope.names.lookup x = some .local := by first | exact .inl rfl | exact .inr rfl | assumption) :
    QS X (.Assign [.Name x pos'] e pos) (tAsg te (gName i)) := ⟨ps_set hN hi hx he.run hs hf⟩
theorem q_setC {scope : Scope} {wi : TI} {g : TG} {tc : TT} {elt : Expr} {ifs : List Expr} {i : Nat} {y : Str} {py spos : Pos} (bl : List (Option Nat)) (N' : List Str) (hN : X.N.Nodup) (hi' : X.N[i]? = some y) (hy : X.env.kindOf y = some .local) (hc : X.calm = true) (k : compOk X.env.scope scope X.N N' bl = true) (hi : QI X tg iter wi)
    (hg : ∀ C s H fp pins, QG (blkCx X scope N' C s H fp pins) tg g) (hf : ∀ C s H fp pins, QF (blkCx X scope N' C s H fp pins) ifs tc) (he : ∀ C s H fp pins, QE (blkCx X scope N' C s H fp pins) elt te)
    (hsw : swapsWith (.ListComp elt [⟨tg, iter, ifs, 0⟩] scope pos) (some (.Name y py)) spos.line X.env = pure true := by rfl) (hs : ∀ x, foldedSetIterable iter X.env x = pure x := by intro _; rfl) :
    QS X (.Assign [.Name y py] (.ListComp elt [⟨tg, iter, ifs, 0⟩] scope pos) spos) (tAsg (tComp bl wi g tc te) (gName i)) :=
  ⟨ps_setC bl N' hN hi' hy hc k hi.run (fun C s H fp pins => (hg C s H fp pins).run) (fun C s H fp pins => (hf C s H fp pins).run) (fun C s H fp pins => (he C s H fp pins).run) hsw hs⟩
theorem q_sif (hc : QT X c tA) (ha : QSs X body t1) (hb : QSs X els t2) : QS X (.If c body els pos) (tIfS tA t1 t2) := ⟨ps_if hc.run ha.run hb.run⟩
theorem q_for {wi : TI} {g : TG} (hp : PassesOwn (model X.prog X.w) X.A X.env X.xe) (hc : X.calm = true) (hi : QI X tg iter wi) (hg : QG X tg g) (hb : QSs X body t1)
    (hs : ∀ x, foldedSetIterable iter X.env x = pure x := by intro _; rfl) : QS X (.For tg iter body [] pos) (tFor wi g t1) := ⟨ps_for hp hc hi.run hg.run hb.run hs⟩
theorem q_while (hp : PassesOwn (model X.prog X.w) X.A X.env X.xe) (hc : QT X c tA) (hb : QSs X body t1) : QS X (.While c body [] pos) (tWhile tA t1) := ⟨ps_while hp hc.run hb.run⟩
theorem q_ret (he : QE X e te) : QS X (.Return (some e) pos) (tRet te) := ⟨ps_ret he.run⟩
theorem q_expr (he : QE X e te) (hs : swapsWith e none pos.line X.env = pure false := by rfl) : QS X (.Expr e pos) (tDrop te) := ⟨ps_expr he.run hs⟩
theorem q_never : QS X st tNever := ⟨ps_never⟩
theorem q_snil : QSs X [] tNext := ⟨pss_nil⟩
theorem q_sone (h : QS X st t1) : QSs X [st] t1 := ⟨pss_one h.run⟩
theorem q_scons (h : QS X st t1) (h2 : QSs X sts t2) : QSs X (st :: sts) (tSeq t1 t2) := ⟨pss_cons h.run h2.run⟩
theorem q_scut (h : QS X st t1) (h2 : QSs X sts t2) : QSs X (st :: sts) (sCut t1 t2) := ⟨pss_cut h.run h2.run⟩
end
end L2

set_option Elab.async false
set_option linter.all false
set_option maxRecDepth 100000
set_option maxHeartbeats 4000000
/-! comprehensions whose variable is a cell of the block (a comprehension inside takes it) -/
namespace L2
open PySem PySem.Spec PyProof.Rows
noncomputable def blkC1 (X : Cx) (scope : Scope) (y : Str) (N' : List Str) (C : Addr) (s : Shared) (H : Hp) (fp : List Addr) (pins : List (Addr × Obj)) : Cx where
  prog := X.prog
  w := X.w
  K := X.K
  mg := X.mg
  base := X.base
  A := X.A
  N := N'
  s₀ := s
  H₀ := H
  env := compEnvC scope ((y, C + 1) :: clOf scope X.env) C X.env
  outer := X.stack
  stack := X.stack
  ex := fp
  fn := fun x => x == y
  calm := X.calm
  pn := X.pn ++ pins
  xe := fun _ _ => False
noncomputable def compOk1 (sc scope : Scope) (y : Str) (N N' : List Str) (bl : List (Option Nat)) : Bool :=
  (scope.kind == .function) &&
  (scope.names.all fun x => (x.2 != .local || scope.names.lookup x.1 == some .local) && (x.2 == .cell) == (x.1 == y) && (x.2 != .free || (sc.names.lookup x.1 == some .cell || sc.names.lookup x.1 == some .free))) &&
  (scope.names.filter (fun x => x.2 == .cell) == [(y, .cell)]) &&
  (bl.length == N'.length) &&
  ((List.range bl.length).all fun j => match bl[j]? with
    | some (some i) => match N'[j]? with
      | some x => N[i]? == some x && scope.names.lookup x == some .free && (sc.names.lookup x == some .cell || sc.names.lookup x == some .free)
      | none => false
    | _ => true)
structure CompOk1 (sc scope : Scope) (y : Str) (N N' : List Str) (bl : List (Option Nat)) : Prop where
  kind : scope.kind = .function
  names : ∀ x ∈ scope.names, x.2 = .local → scope.names.lookup x.1 = some .local
  own : ∀ x ∈ scope.names, x.2 = .cell ↔ x.1 = y
  one : scope.names.filter (fun x => x.2 == .cell) = [(y, .cell)]
  frees : ∀ x ∈ scope.names, x.2 = .free → sc.names.lookup x.1 = some .cell ∨ sc.names.lookup x.1 = some .free
  len : bl.length = N'.length
  src : ∀ (j i : Nat) (x : Str), bl[j]? = some (some i) → N'[j]? = some x → N[i]? = some x ∧ scope.names.lookup x = some .free ∧ (sc.names.lookup x = some .cell ∨ sc.names.lookup x = some .free)
theorem cells_one {y : Str} : ∀ (names : List (Str × NameKind)) (a : Addr) (acc : List (Str × Addr)) (h : Heap), (names.filter fun x => x.2 == .cell) = [] → cellsFrom a names acc = acc ∧ pushCells h names = h
  | [], _, _, _, _ => ⟨rfl, rfl⟩
  | (n, k) :: r, a, acc, h, e => by
    rw [List.filter_cons] at e
    cases hk : (k == NameKind.cell) with
    | true => rw [show (((n, k) : Str × NameKind).2 == NameKind.cell) = true from hk] at e; simp at e
    | false =>
      rw [show (((n, k) : Str × NameKind).2 == NameKind.cell) = false from hk] at e
      have ih := cells_one (y := y) r a acc h (by simpa using e)
      unfold cellsFrom pushCells
      rw [if_neg (by rw [hk]; decide), if_neg (by rw [hk]; decide)]
      exact ih
section
variable {X : Cx} {pins : List (Addr × Obj)} {σ : St} {H : Hp} {s : Shared} {scope : Scope} {y : Str} {N' : List Str} {bl : List (Option Nat)} {fp : List Addr}

end
section
variable {X : Cx} {pins : List (Addr × Obj)} {σ : St} {H : Hp} {s : Shared} {scope : Scope} {y : Str} {N' : List Str} {bl : List (Option Nat)} {elt tg iter : Expr} {ifs : List Expr} {pos pos' : Pos} {wi : TI} {g : TG} {tc : TT} {te : TE}


end
end L2

set_option Elab.async false
set_option linter.all false
set_option maxRecDepth 100000
set_option maxHeartbeats 4000000
namespace L2
open PySem PyProof.Rows
section
variable {X : Cx} {tg iter : Expr} {te : TE} {pos : Pos}
end
end L2

set_option linter.all false
namespace PG

/-- s is paid with k of the coins -/
noncomputable def Pay (cs : List Int) (k : Nat) (s : Int) : Prop := ∃ l : List Int, l.length = k ∧ (∀ c ∈ l, c ∈ cs) ∧ l.sum = s
noncomputable def Payable (cs : List Int) (s : Int) : Prop := ∃ k, Pay cs k s
theorem Pay.zero {cs : List Int} : Pay cs 0 0 := ⟨[], rfl, (fun _ h => by cases h), rfl⟩
theorem Pay.one {cs : List Int} {c : Int} (h : c ∈ cs) : Pay cs 1 c := ⟨[c], rfl, fun d hd => by rw [List.mem_singleton.mp hd]; exact h, by simp⟩
theorem Pay.add {cs : List Int} {k l : Nat} {s t : Int} (h : Pay cs k s) (h' : Pay cs l t) : Pay cs (k + l) (s + t) := by
  obtain ⟨a, h1, h2, h3⟩ := h
  obtain ⟨b, g1, g2, g3⟩ := h'
  refine ⟨a ++ b, by simp [h1, g1], fun c hc => ?_, by simp [h3, g3]⟩
  rcases List.mem_append.mp hc with z | z
  · exact h2 c z
  · exact g2 c z
theorem Payable.zero {cs : List Int} : Payable cs 0 := ⟨0, .zero⟩
theorem Payable.one {cs : List Int} {c : Int} (h : c ∈ cs) : Payable cs c := ⟨1, .one h⟩
theorem Payable.add {cs : List Int} {s t : Int} (h : Payable cs s) (h' : Payable cs t) : Payable cs (s + t) := by
  obtain ⟨k, h⟩ := h
  obtain ⟨l, h'⟩ := h'
  exact ⟨_, h.add h'⟩
theorem Payable.mul {cs : List Int} {c : Int} (h : Payable cs c) : ∀ x : Nat, Payable cs ((x : Int) * c)
  | 0 => by simpa using Payable.zero
  | x + 1 => by
    have := (Payable.mul h x).add h
    rw [show ((x + 1 : Nat) : Int) * c = (x : Int) * c + c by rw [Int.natCast_succ, Int.add_mul, Int.one_mul]]
    exact this
theorem Pay.pred {cs : List Int} {k : Nat} {s : Int} (h : Pay cs (k + 1) s) : ∃ c t, c ∈ cs ∧ Pay cs k t ∧ s = t + c := by
  obtain ⟨l, h1, h2, h3⟩ := h
  cases l with
  | nil => cases h1
  | cons c r => exact ⟨c, r.sum, h2 c List.mem_cons_self, ⟨r, by simpa using h1, fun d hd => h2 d (List.mem_cons_of_mem _ hd), rfl⟩, by rw [← h3, List.sum_cons, Int.add_comm]⟩

/-! ### every rest is reached -/
/-- all multiples of d are, up to multiples of m, payable -/
noncomputable def Cl (cs : List Int) (m d : Nat) : Prop := ∀ x : Nat, ∃ s, Payable cs s ∧ s % (m : Int) = ((d * x : Nat) : Int) % (m : Int)
theorem Cl.zero {cs : List Int} {m : Nat} : Cl cs m 0 := fun x => ⟨0, .zero, by simp⟩
theorem Cl.coin {cs : List Int} {m : Nat} {c : Int} (h : c ∈ cs) (hc : 0 ≤ c) : Cl cs m c.toNat := fun x => ⟨(x : Int) * c, (Payable.one h).mul x, by
  have : ((c.toNat * x : Nat) : Int) = (x : Int) * c := by
    rw [Int.natCast_mul, Int.toNat_of_nonneg hc, Int.mul_comm]
  rw [this]⟩
theorem Cl.mod {cs : List Int} {m a b : Nat} (hm : 0 < m) (ha : Cl cs m a) (hb : Cl cs m b) : Cl cs m (a % b) := fun x => by
  obtain ⟨s, hs, es⟩ := ha x
  obtain ⟨t, ht, et⟩ := hb ((m - 1) * (a / b) * x)
  refine ⟨s + t, hs.add ht, ?_⟩
  rw [Int.add_emod, es, et, ← Int.add_emod]
  have e : a * x + b * ((m - 1) * (a / b) * x) = a % b * x + m * (b * (a / b) * x) := by
    obtain ⟨n, rfl⟩ : ∃ n, m = n + 1 := ⟨m - 1, by omega⟩
    have h1 : a = a % b + b * (a / b) := (Nat.mod_add_div a b).symm
    generalize hq : a / b = q at *
    generalize hr : a % b = r at *
    subst h1
    simp only [Nat.add_sub_cancel, Nat.add_mul, Nat.mul_add, Nat.one_mul, Nat.mul_one]
    have : b * (n * q * x) = n * (b * q * x) := by
      rw [← Nat.mul_assoc, ← Nat.mul_assoc, ← Nat.mul_assoc, ← Nat.mul_assoc, Nat.mul_comm b n]
    omega
  rw [← Int.natCast_add, e, Int.natCast_add, Int.natCast_mul m, Int.add_mul_emod_self_left]
theorem Cl.gcd {cs : List Int} {m : Nat} (hm : 0 < m) : ∀ {a b : Nat}, Cl cs m a → Cl cs m b → Cl cs m (Nat.gcd a b) := by
  intro a b
  induction a, b using Nat.gcd.induction with
  | H0 n => intro _ h; rw [Nat.gcd_zero_left]; exact h
  | H1 a b ha ih =>
    intro h1 h2
    rw [Nat.gcd_rec]
    exact ih (Cl.mod hm h2 h1) h1
end PG

set_option linter.all false
namespace PG
/-- sums by rest; none where there is none yet -/
noncomputable abbrev Sums := List (Option Int)
noncomputable def relax (v : Sums) (p : Nat) (c : Int) : Sums :=
  match v[p]? with
  | some (some x) =>
    match v[((x + c) % (v.length : Int)).toNat]? with
    | some (some y) => if x + c < y then v.set ((x + c) % (v.length : Int)).toNat (some (x + c)) else v
    | some none => v.set ((x + c) % (v.length : Int)).toNat (some (x + c))
    | none => v
  | _ => v
noncomputable def run (v : Sums) (ops : List (Nat × Int)) : Sums := ops.foldl (fun v o => relax v o.1 o.2) v
theorem relax_length (v : Sums) (p : Nat) (c : Int) : (relax v p c).length = v.length := by
  unfold relax
  split
  · split
    · split <;> simp
    · simp
    · rfl
  · rfl
theorem run_length : ∀ (ops : List (Nat × Int)) (v : Sums), (run v ops).length = v.length
  | [], _ => rfl
  | o :: r, v => by
    show (run (relax v o.1 o.2) r).length = _
    rw [run_length r, relax_length]
theorem run_append (v : Sums) (a b : List (Nat × Int)) : run v (a ++ b) = run (run v a) b := by unfold run; rw [List.foldl_append]
theorem run_cons (v : Sums) (o : Nat × Int) (b : List (Nat × Int)) : run v (o :: b) = run (relax v o.1 o.2) b := rfl
/-- nowhere greater -/
noncomputable def LeS (v' v : Sums) : Prop := ∀ (r : Nat) (x : Int), v[r]? = some (some x) → ∃ y, v'[r]? = some (some y) ∧ y ≤ x
theorem LeS.refl (v : Sums) : LeS v v := fun r x h => ⟨x, h, Int.le_refl _⟩
theorem LeS.trans {a b c : Sums} (h : LeS a b) (h' : LeS b c) : LeS a c := fun r x hx => by
  obtain ⟨y, hy, l⟩ := h' r x hx
  obtain ⟨z, hz, l'⟩ := h r y hy
  exact ⟨z, hz, by omega⟩
theorem getElem?_lt {α : Type} {l : List α} {i : Nat} {x : α} (h : l[i]? = some x) : i < l.length := (List.getElem?_eq_some_iff.mp h).1
theorem relax_le (v : Sums) (p : Nat) (c : Int) : LeS (relax v p c) v := by
  intro r x hx
  unfold relax
  split
  · rename_i z hz
    split
    · rename_i y hy
      split
      · rename_i hlt
        by_cases hr : ((z + c) % (v.length : Int)).toNat = r
        · subst hr
          rw [hx] at hy
          cases hy
          exact ⟨z + c, by rw [List.getElem?_set_self (getElem?_lt hx)], by omega⟩
        · exact ⟨x, by rw [List.getElem?_set_ne hr]; exact hx, Int.le_refl _⟩
      · exact ⟨x, hx, Int.le_refl _⟩
    · rename_i hy
      by_cases hr : ((z + c) % (v.length : Int)).toNat = r
      · subst hr
        rw [hx] at hy
        cases hy
      · exact ⟨x, by rw [List.getElem?_set_ne hr]; exact hx, Int.le_refl _⟩
    · exact ⟨x, hx, Int.le_refl _⟩
  · exact ⟨x, hx, Int.le_refl _⟩
theorem run_le : ∀ (ops : List (Nat × Int)) (v : Sums), LeS (run v ops) v
  | [], v => LeS.refl v
  | o :: r, v => (run_le r _).trans (relax_le v o.1 o.2)
theorem place_lt {v : Sums} {i : Nat} {o : Option Int} (h : v[i]? = some o) (t : Int) : (t % (v.length : Int)).toNat < v.length := by
  have hl := getElem?_lt h
  have a := Int.emod_lt_of_pos t (show (0 : Int) < v.length by omega)
  have b := Int.emod_nonneg t (show (v.length : Int) ≠ 0 by omega)
  omega
theorem relax_hit {v : Sums} {p : Nat} {c x : Int} (hx : v[p]? = some (some x)) : ∃ y, (relax v p c)[((x + c) % (v.length : Int)).toNat]? = some (some y) ∧ y ≤ x + c := by
  have hp := place_lt hx (x + c)
  unfold relax
  rw [hx]
  dsimp only
  cases e : v[((x + c) % (v.length : Int)).toNat]? with
  | none => exact absurd (List.getElem?_eq_none_iff.mp e) (by omega)
  | some o =>
    cases o with
    | none =>
      dsimp only
      exact ⟨x + c, List.getElem?_set_self hp, Int.le_refl _⟩
    | some y =>
      dsimp only
      split
      · exact ⟨x + c, List.getElem?_set_self hp, Int.le_refl _⟩
      · exact ⟨y, e, by omega⟩
/-- each sum can be paid and has its place as rest -/
noncomputable def Sound (cs : List Int) (v : Sums) : Prop := ∀ (r : Nat) (x : Int), v[r]? = some (some x) → Payable cs x ∧ x % (v.length : Int) = r
theorem relax_sound {cs : List Int} {v : Sums} {c : Int} (h : Sound cs v) (hc : c ∈ cs) (p : Nat) : Sound cs (relax v p c) := by
  intro r x hx
  rw [relax_length]
  unfold relax at hx
  split at hx
  · rename_i z hz
    have hpl := place_lt hz (z + c)
    have key : ∀ {w : Option Int}, (v.set ((z + c) % (v.length : Int)).toNat (some (z + c)))[r]? = some w → w = some x → Payable cs x ∧ x % (v.length : Int) = r := fun {w} hw e => by
      subst e
      by_cases hr : ((z + c) % (v.length : Int)).toNat = r
      · subst hr
        rw [List.getElem?_set_self hpl] at hw
        cases hw
        refine ⟨(h p z hz).1.add (Payable.one hc), ?_⟩
        have b := Int.emod_nonneg (z + c) (show (v.length : Int) ≠ 0 by have := getElem?_lt hz; omega)
        omega
      · rw [List.getElem?_set_ne hr] at hw
        exact h r x hw
    split at hx
    · split at hx
      · exact key hx rfl
      · exact h r x hx
    · exact key hx rfl
    · exact h r x hx
  · exact h r x hx
theorem run_sound {cs : List Int} : ∀ (ops : List (Nat × Int)) {v : Sums}, Sound cs v → (∀ o ∈ ops, o.2 ∈ cs) → Sound cs (run v ops)
  | [], _, h, _ => h
  | o :: r, v, h, hc => run_sound r (relax_sound h (hc o List.mem_cons_self) o.1) fun q hq => hc q (List.mem_cons_of_mem _ hq)
/-- at its place a sum of s or less -/
noncomputable def Has (v : Sums) (s : Int) : Prop := ∃ y, v[(s % (v.length : Int)).toNat]? = some (some y) ∧ y ≤ s
theorem Has.le {v' v : Sums} {s : Int} (h : Has v s) (hl : LeS v' v) (e : v'.length = v.length) : Has v' s := by
  obtain ⟨y, hy, l⟩ := h
  obtain ⟨z, hz, l'⟩ := hl _ _ hy
  exact ⟨z, by rw [e]; exact hz, by omega⟩
theorem emod_add_congr {a b c m : Int} (h : a % m = b % m) : (a + c) % m = (b + c) % m := by rw [Int.add_emod, h, ← Int.add_emod]
theorem has_step {cs : List Int} {v : Sums} {s c : Int} {p : Nat} (hs : Sound cs v) (h : Has v s) (hp : (p : Int) = s % (v.length : Int)) : Has (relax v p c) (s + c) := by
  obtain ⟨y, hy, l⟩ := h
  have e : (s % (v.length : Int)).toNat = p := by omega
  rw [e] at hy
  obtain ⟨z, hz, l'⟩ := relax_hit (c := c) hy
  have hm := (hs p y hy).2
  refine ⟨z, ?_, by omega⟩
  rw [relax_length]
  have : (y + c) % (v.length : Int) = (s + c) % (v.length : Int) := emod_add_congr (by rw [hm, hp])
  rw [← this]
  exact hz
/-- among the ops: one that leads from s to s + c -/
theorem has_run {cs : List Int} {v : Sums} {s c : Int} {ops : List (Nat × Int)} (hs : Sound cs v) (hc : ∀ o ∈ ops, o.2 ∈ cs) (h : Has v s) (ho : ((s % (v.length : Int)).toNat, c) ∈ ops) (hv : 0 < v.length) : Has (run v ops) (s + c) := by
  obtain ⟨a, b, rfl⟩ := List.append_of_mem ho
  rw [run_append, run_cons]
  have h1 : Has (run v a) s := h.le (run_le a v) (run_length a v)
  have s1 : Sound cs (run v a) := run_sound a hs fun o ho => hc o (List.mem_append_left _ ho)
  have h2 : Has (relax (run v a) (s % (v.length : Int)).toNat c) (s + c) := has_step s1 h1 (by
    rw [run_length]
    have := Int.emod_nonneg s (show (v.length : Int) ≠ 0 by omega)
    omega)
  exact h2.le (run_le b _) (run_length b _)
/-- m rounds over all places and coins -/
noncomputable def rounds (v : Sums) (ops : List (Nat × Int)) : Nat → Sums
  | 0 => v
  | n + 1 => run (rounds v ops n) ops
theorem rounds_length (v : Sums) (ops : List (Nat × Int)) : ∀ n, (rounds v ops n).length = v.length
  | 0 => rfl
  | n + 1 => by
    show (run (rounds v ops n) ops).length = _
    rw [run_length, rounds_length v ops n]
theorem rounds_sound {cs : List Int} {v : Sums} {ops : List (Nat × Int)} (h : Sound cs v) (hc : ∀ o ∈ ops, o.2 ∈ cs) : ∀ n, Sound cs (rounds v ops n)
  | 0 => h
  | n + 1 => run_sound ops (rounds_sound h hc n) hc
/-- what a list of least sums is: m places, each the least payable sum of its rest -/
structure Least (cs : List Int) (h : List Int) : Prop where
  pos : 0 < h.length
  pay : ∀ (r : Nat) (x : Int), h[r]? = some x → Payable cs x
  rest : ∀ (r : Nat) (x : Int), h[r]? = some x → x % (h.length : Int) = r
  least : ∀ (r : Nat) (x : Int), h[r]? = some x → ∀ t, Payable cs t → t % (h.length : Int) = r → x ≤ t
/-- what the document asks of a house -/
structure House (h : List Int) : Prop where
  pos : 0 < h.length
  zero : h[0]? = some 0
  above : ∀ (r : Nat) (x : Int), h[r]? = some x → r ≠ 0 → (h.length : Int) < x
  rest : ∀ (r : Nat) (x : Int), h[r]? = some x → x % (h.length : Int) = r
  closed : ∀ (i j k : Nat) (x y z : Int), h[i]? = some x → h[j]? = some y → h[k]? = some z → (k : Int) = ((i : Int) + j) % (h.length : Int) → z ≤ x + y
end PG

set_option linter.all false
namespace PG
/-! ### round the rests by one coin -/
noncomputable def Dl (m c d : Nat) : Prop := ∀ x : Nat, ∃ i : Nat, (i * c) % m = (d * x) % m
theorem Dl.mod {m c a b : Nat} (hm : 0 < m) (ha : Dl m c a) (hb : Dl m c b) : Dl m c (a % b) := fun x => by
  obtain ⟨i, ei⟩ := ha x
  obtain ⟨j, ej⟩ := hb ((m - 1) * (a / b) * x)
  refine ⟨i + j, ?_⟩
  have e : a * x + b * ((m - 1) * (a / b) * x) = a % b * x + m * (b * (a / b) * x) := by
    obtain ⟨n, rfl⟩ : ∃ n, m = n + 1 := ⟨m - 1, by omega⟩
    have h1 : a = a % b + b * (a / b) := (Nat.mod_add_div a b).symm
    generalize hq : a / b = q at *
    generalize hr : a % b = r at *
    subst h1
    simp only [Nat.add_sub_cancel, Nat.add_mul, Nat.mul_add, Nat.one_mul, Nat.mul_one]
    have : b * (n * q * x) = n * (b * q * x) := by
      rw [← Nat.mul_assoc, ← Nat.mul_assoc, ← Nat.mul_assoc, ← Nat.mul_assoc, Nat.mul_comm b n]
    omega
  rw [Nat.add_mul, Nat.add_mod, ei, ej, ← Nat.add_mod, e, Nat.add_mul_mod_self_left]
theorem Dl.gcd {m c : Nat} (hm : 0 < m) : ∀ {a b : Nat}, Dl m c a → Dl m c b → Dl m c (Nat.gcd a b) := by
  intro a b
  induction a, b using Nat.gcd.induction with
  | H0 n => intro _ h; rw [Nat.gcd_zero_left]; exact h
  | H1 a b ha ih =>
    intro h1 h2
    rw [Nat.gcd_rec]
    exact ih (Dl.mod hm h2 h1) h1
theorem ring_place {m c p : Nat} (hm : 0 < m) (hp : p < m) : ∃ i, i < m / Nat.gcd m c ∧ (p % Nat.gcd m c + i * c) % m = p := by
  have hg : 0 < Nat.gcd m c := Nat.gcd_pos_of_pos_left c hm
  have hd : Dl m c (Nat.gcd m c) := Dl.gcd hm (fun x => ⟨0, by simp⟩) (fun x => ⟨x, by rw [Nat.mul_comm]⟩)
  obtain ⟨i, ei⟩ := hd (p / Nat.gcd m c)
  have hL : m = Nat.gcd m c * (m / Nat.gcd m c) := (Nat.mul_div_cancel' (Nat.gcd_dvd_left m c)).symm
  have hcg : c = Nat.gcd m c * (c / Nat.gcd m c) := (Nat.mul_div_cancel' (Nat.gcd_dvd_right m c)).symm
  have hLp : 0 < m / Nat.gcd m c := Nat.div_pos (Nat.le_of_dvd hm (Nat.gcd_dvd_left m c)) hg
  refine ⟨i % (m / Nat.gcd m c), Nat.mod_lt _ hLp, ?_⟩
  have e1 : (i % (m / Nat.gcd m c)) * c % m = (i * c) % m := by
    generalize hLL : m / Nat.gcd m c = L at *
    generalize hqq : c / Nat.gcd m c = q at *
    generalize hgg : Nat.gcd m c = g at *
    have : i * c = i % L * c + m * (q * (i / L)) := by
      have h1 : i = i % L + L * (i / L) := (Nat.mod_add_div i L).symm
      have h2 : L * (i / L) * c = m * (q * (i / L)) := by
        rw [hL, hcg]
        simp only [Nat.mul_assoc, Nat.mul_comm, Nat.mul_left_comm]
      calc i * c = (i % L + L * (i / L)) * c := by rw [← h1]
        _ = i % L * c + L * (i / L) * c := by rw [Nat.add_mul]
        _ = _ := by rw [h2]
    rw [this, Nat.add_mul_mod_self_left]
  rw [Nat.add_mod, e1, ei, ← Nat.add_mod, Nat.mod_add_div, Nat.mod_eq_of_lt hp]
/-- L times round is a multiple of m -/
theorem ring_round {m c : Nat} : (m / Nat.gcd m c * c) % m = 0 := by
  have hcg : c = Nat.gcd m c * (c / Nat.gcd m c) := (Nat.mul_div_cancel' (Nat.gcd_dvd_right m c)).symm
  have h : m / Nat.gcd m c * c = m * (c / Nat.gcd m c) := by
    have hL : m / Nat.gcd m c * Nat.gcd m c = m := Nat.div_mul_cancel (Nat.gcd_dvd_left m c)
    generalize c / Nat.gcd m c = q at *
    generalize hg : Nat.gcd m c = g at *
    calc m / g * c = m / g * (g * q) := by rw [← hcg]
      _ = m / g * g * q := by rw [Nat.mul_assoc]
      _ = m * q := by rw [hL]
  rw [h, Nat.mul_mod_right]
noncomputable def ringRow (m c st n : Nat) : List (Nat × Int) := (List.range n).map fun j => ((st + j * c) % m, (c : Int))
noncomputable def ringOps (m c g : Nat) : List (Nat × Int) := (List.range g).flatMap fun st => ringRow m c st (2 * (m / g))
theorem ringRow_succ (m c st n : Nat) : ringRow m c st (n + 1) = ringRow m c st n ++ [((st + n * c) % m, (c : Int))] := by
  unfold ringRow
  rw [List.range_succ, List.map_append]
  rfl
theorem mem_ringRow {m c st n : Nat} {o : Nat × Int} (h : o ∈ ringRow m c st n) : o.2 = (c : Int) := by
  obtain ⟨j, _, rfl⟩ := List.mem_map.mp h
  rfl
theorem ring_has {cs : List Int} {m c : Nat} (hm : 0 < m) (hc : (c : Int) ∈ cs) {v : Sums} (hv : v.length = m) (hs : Sound cs v) {s : Int} (h : Has v s) {st i : Nat} (hi : (((st + i * c) % m : Nat) : Int) = s % (m : Int)) :
    ∀ (n k : Nat), (k = 0 ∨ i + k ≤ n) → Has (run v (ringRow m c st n)) (s + (k : Int) * c)
  | 0, k, hk => by
    have : k = 0 := by omega
    subst this
    simpa [ringRow, run] using h
  | n + 1, k, hk => by
    have ih := ring_has hm hc hv hs h hi n
    rw [ringRow_succ, run_append]
    have hl : (run v (ringRow m c st n)).length = m := by rw [run_length, hv]
    have mono : ∀ {t : Int}, Has (run v (ringRow m c st n)) t → Has (run (run v (ringRow m c st n)) [((st + n * c) % m, (c : Int))]) t := fun h => h.le (run_le _ _) (run_length _ _)
    by_cases hk2 : k = 0 ∨ i + k ≤ n
    · exact mono (ih k hk2)
    · obtain ⟨j, rfl⟩ : ∃ j, k = j + 1 := ⟨k - 1, by omega⟩
      have e : i + j = n := by omega
      have h1 := ih j (.inr (by omega))
      have hs1 : Sound cs (run v (ringRow m c st n)) := run_sound _ hs fun o ho => by rw [mem_ringRow ho]; exact hc
      have h2 : Has (relax (run v (ringRow m c st n)) ((st + n * c) % m) (c : Int)) (s + (j : Int) * c + c) := has_step hs1 h1 (by
        rw [hl, ← e, Nat.add_mul, ← Nat.add_assoc]
        rw [Int.add_emod, ← hi, Int.natCast_emod, Int.natCast_emod, Int.natCast_add (st + i * c) (j * c), Int.natCast_mul j c]
        exact Int.add_emod _ _ _)
      have e3 : s + ((j + 1 : Nat) : Int) * c = s + (j : Int) * c + c := by rw [Int.natCast_succ, Int.add_mul, Int.one_mul, Int.add_assoc]
      rw [e3]
      exact h2
theorem ringOps_split {m c g st : Nat} (h : st < g) : ∃ a b, ringOps m c g = a ++ ringRow m c st (2 * (m / g)) ++ b := by
  obtain ⟨a, b, e⟩ := List.append_of_mem (List.mem_range.mpr h)
  refine ⟨a.flatMap fun st => ringRow m c st (2 * (m / g)), b.flatMap fun st => ringRow m c st (2 * (m / g)), ?_⟩
  unfold ringOps
  rw [e, List.flatMap_append, List.flatMap_cons, List.append_assoc]
theorem mem_ringOps {m c g : Nat} {o : Nat × Int} (h : o ∈ ringOps m c g) : o.2 = (c : Int) := by
  obtain ⟨st, _, h⟩ := List.mem_flatMap.mp h
  exact mem_ringRow h
theorem ringOps_has {cs : List Int} {m c : Nat} (hm : 0 < m) (hc : (c : Int) ∈ cs) {v : Sums} (hv : v.length = m) (hs : Sound cs v) {s : Int} (h : Has v s) : ∀ k : Nat, Has (run v (ringOps m c (Nat.gcd m c))) (s + (k : Int) * c) := by
  intro k
  have hlen : (run v (ringOps m c (Nat.gcd m c))).length = m := by rw [run_length, hv]
  induction k using Nat.strongRecOn with
  | ind k ih =>
    by_cases hk : k < m / Nat.gcd m c
    · have hmI : (m : Int) ≠ 0 := by omega
      have p0 := Int.emod_nonneg s hmI
      have p1 := Int.emod_lt_of_pos s (show (0 : Int) < m by omega)
      obtain ⟨i, hi, e⟩ := ring_place (m := m) (c := c) (p := (s % (m : Int)).toNat) hm (by omega)
      have hg : 0 < Nat.gcd m c := Nat.gcd_pos_of_pos_left c hm
      obtain ⟨a, b, eo⟩ := ringOps_split (m := m) (c := c) (g := Nat.gcd m c) (st := (s % (m : Int)).toNat % Nat.gcd m c) (Nat.mod_lt _ hg)
      have hops : ∀ o ∈ a, o.2 ∈ cs := fun o ho => by
        rw [mem_ringOps (m := m) (c := c) (g := Nat.gcd m c) (by rw [eo]; exact List.mem_append_left _ (List.mem_append_left _ ho))]
        exact hc
      rw [eo, run_append, run_append]
      have h1 : Has (run v a) s := h.le (run_le a v) (run_length a v)
      have s1 : Sound cs (run v a) := run_sound a hs hops
      have h2 := ring_has hm hc (v := run v a) (by rw [run_length, hv]) s1 h1 (st := (s % (m : Int)).toNat % Nat.gcd m c) (i := i) (by rw [e]; omega) (2 * (m / Nat.gcd m c)) k (.inr (by omega))
      exact h2.le (run_le _ _) (run_length _ _)
    · have hg : 0 < Nat.gcd m c := Nat.gcd_pos_of_pos_left c hm
      have hLp : 0 < m / Nat.gcd m c := Nat.div_pos (Nat.le_of_dvd hm (Nat.gcd_dvd_left m c)) hg
      obtain ⟨y, hy, l⟩ := ih (k - m / Nat.gcd m c) (by omega)
      have hr := ring_round (m := m) (c := c)
      generalize hL : m / Nat.gcd m c = L at *
      obtain ⟨j, rfl⟩ : ∃ j, k = j + L := ⟨k - L, by omega⟩
      rw [Nat.add_sub_cancel] at hy l
      have hz : 0 ≤ (L : Int) * c := Int.mul_nonneg (by omega) (by omega)
      have e2 : s + ((j + L : Nat) : Int) * c = s + (j : Int) * c + (L : Int) * c := by rw [Int.natCast_add, Int.add_mul, Int.add_assoc]
      refine ⟨y, ?_, by omega⟩
      rw [hlen] at hy ⊢
      have e3 : ((L : Int) * c) % (m : Int) = 0 := by
        rw [← Int.natCast_mul, ← Int.natCast_emod, hr]
        rfl
      have e4 : (s + ((j + L : Nat) : Int) * c) % (m : Int) = (s + (j : Int) * c) % (m : Int) := by
        rw [e2, Int.add_emod (s + (j : Int) * c), e3, Int.add_zero, Int.emod_emod_of_dvd _ (Int.dvd_refl _)]
      rw [e4]
      exact hy
/-- a paying with one more kind of coin -/
theorem Payable.split {P : List Int} {c s : Int} (h : Payable (P ++ [c]) s) : ∃ (k : Nat) (t : Int), Payable P t ∧ s = t + (k : Int) * c := by
  obtain ⟨n, l, h1, h2, rfl⟩ := h
  clear h1 n
  induction l with
  | nil => exact ⟨0, 0, .zero, by simp⟩
  | cons d r ih =>
    obtain ⟨k, t, ht, e⟩ := ih fun x hx => h2 x (List.mem_cons_of_mem _ hx)
    rcases List.mem_append.mp (h2 d List.mem_cons_self) with z | z
    · exact ⟨k, t + d, ht.add (.one z), by rw [List.sum_cons, e]; omega⟩
    · have : d = c := by simpa using z
      subst this
      exact ⟨k + 1, t, ht, by rw [List.sum_cons, e, Int.natCast_succ, Int.add_mul, Int.one_mul]; omega⟩
/-- the sums with one coin more -/
noncomputable def withCoin (v : Sums) (c : Int) : Sums := run v (ringOps v.length c.toNat (Nat.gcd v.length c.toNat))
theorem withCoin_length (v : Sums) (c : Int) : (withCoin v c).length = v.length := run_length _ _
noncomputable def AllHas (P : List Int) (v : Sums) : Prop := ∀ s, Payable P s → Has v s
theorem withCoin_ok {cs P : List Int} {v : Sums} {c : Int} (hv : 0 < v.length) (hc : c ∈ cs) (hc1 : 1 ≤ c) (hs : Sound cs v) (h : AllHas P v) : Sound cs (withCoin v c) ∧ AllHas (P ++ [c]) (withCoin v c) := by
  have hcn : ((c.toNat : Nat) : Int) = c := by omega
  refine ⟨run_sound _ hs fun o ho => by rw [mem_ringOps ho, hcn]; exact hc, fun s hp => ?_⟩
  obtain ⟨k, t, ht, rfl⟩ := hp.split
  have := ringOps_has (cs := cs) (m := v.length) (c := c.toNat) hv (by rw [hcn]; exact hc) rfl hs (h t ht) k
  rw [hcn] at this
  exact this
noncomputable def houseOf (m : Nat) (cs : List Int) : Sums := cs.foldl withCoin (some 0 :: List.replicate (m - 1) none)
theorem start_get {m : Nat} {r : Nat} {x : Int} (h : (some 0 :: List.replicate (m - 1) none : Sums)[r]? = some (some x)) : r = 0 ∧ x = 0 := by
  cases r with
  | zero =>
    rw [List.getElem?_cons_zero] at h
    cases h
    exact ⟨rfl, rfl⟩
  | succ r =>
    rw [List.getElem?_cons_succ, List.getElem?_replicate] at h
    split at h <;> cases h
theorem start_ok {m : Nat} {cs : List Int} (hm : 0 < m) : Sound cs (some 0 :: List.replicate (m - 1) none) ∧ AllHas [] (some 0 :: List.replicate (m - 1) none) ∧ (some 0 :: List.replicate (m - 1) none : Sums).length = m := by
  refine ⟨fun r x h => ?_, fun s hp => ?_, by simp; omega⟩
  · obtain ⟨rfl, rfl⟩ := start_get h
    exact ⟨.zero, by simp⟩
  · obtain ⟨n, l, _, h2, rfl⟩ := hp
    cases l with
    | nil => exact ⟨0, by simp, Int.le_refl _⟩
    | cons d r => exact absurd (h2 d List.mem_cons_self) (by simp)
end PG

set_option Elab.async false
set_option linter.all false
set_option maxRecDepth 100000
set_option maxHeartbeats 4000000
namespace PG
open PySem L2 PyProof.Rows
theorem map_int_inj {ns ms : List Int} (h : ns.map V.int = ms.map V.int) : ns = ms := by
  induction ns generalizing ms with
  | nil => cases ms with
    | nil => rfl
    | cons _ _ => cases h
  | cons n r ih => cases ms with
    | nil => cases h
    | cons m s =>
      rw [List.map_cons, List.map_cons] at h
      injection h with h1 h2
      injection h1 with h1
      rw [h1, ih h2]
/-- an item of a list of ints, at an int's place -/
theorem atInt {ns : List Int} {k : Int} (h0 : 0 ≤ k) (h1 : k < ns.length) : atI (ns.map V.int) k = some (.int (ns.getD k.toNat 0)) := by
  have hlt : k.toNat < ns.length := by omega
  have := atI_nat (xs := ns.map V.int) (j := k.toNat) (v := .int (ns.getD k.toNat 0)) (by simp [hlt, List.getD_eq_getElem?_getD])
  rw [Int.toNat_of_nonneg h0] at this
  exact this
theorem getD_some {ns : List Int} {i : Nat} (h : i < ns.length) : ns[i]? = some (ns.getD i 0) := by
  rw [List.getD_eq_getElem?_getD, List.getElem?_eq_getElem h]
  rfl
/-! ### a house, as it is looked at -/
noncomputable def RestsP (ns : List Int) : Prop := ns[0]? = some 0 ∧ ∀ (r : Nat) (x : Int), ns[r]? = some x → r ≠ 0 → (ns.length : Int) < x ∧ x % (ns.length : Int) = r
noncomputable def okPair (ns : List Int) (i j : Nat) : Prop := ns.getD ((i + j) % ns.length) 0 ≤ ns.getD i 0 + ns.getD j 0
noncomputable def ClosedP (ns : List Int) : Prop := ∀ i j : Nat, i < ns.length → j < ns.length → okPair ns i j
noncomputable def DueP (xs : List V) : Prop := ∃ ns : List Int, xs = ns.map V.int ∧ House ns
/-! ### promises -/
end PG
namespace PG
open PySem L2 PyProof.Rows
noncomputable def toV : Option Int → V
  | none => .non
  | some x => .int x
theorem atI_lt {α : Type} {xs : List α} {k : Int} (h0 : 0 ≤ k) (h1 : k < xs.length) : ∃ v, atI xs k = some v ∧ v ∈ xs ∧ xs[k.toNat]? = some v := by
  have hlt : k.toNat < xs.length := by omega
  refine ⟨xs[k.toNat], ?_, List.getElem_mem hlt, List.getElem?_eq_getElem hlt⟩
  have := atI_nat (xs := xs) (j := k.toNat) (List.getElem?_eq_getElem hlt)
  rw [Int.toNat_of_nonneg h0] at this
  exact this
theorem atI_of {α : Type} {xs : List α} {k : Int} {v : α} (h0 : 0 ≤ k) (h : xs[k.toNat]? = some v) : atI xs k = some v := by
  have := atI_nat (xs := xs) (j := k.toNat) h
  rw [Int.toNat_of_nonneg h0] at this
  exact this
noncomputable def rowOps (m : Nat) (c : Int) (n : Nat) : List (Nat × Int) := (List.range n).map fun r => (r, c)
noncomputable def allOps (m : Nat) (cs : List Int) : List (Nat × Int) := cs.flatMap fun c => rowOps m c m
/-! ### promises of the law's helpers -/
end PG

set_option Elab.async false
set_option linter.all false
set_option maxRecDepth 100000
set_option maxHeartbeats 4000000
namespace PG
open PySem L2 PyProof.Rows
theorem inV_ints {n : Int} {cs : List Int} : inV (.int n) (cs.map V.int) = decide (n ∈ cs) := by
  unfold inV
  rw [List.any_map, Bool.eq_iff_iff, List.any_eq_true, decide_eq_true_eq]
  constructor
  · rintro ⟨x, hx, e⟩
    have e' : (x == n) = true := e
    have : x = n := by simpa using e'
    rw [← this]; exact hx
  · intro h
    exact ⟨n, h, by show (n == n) = true; simp⟩
noncomputable abbrev LI (K : PySem.W.Frag) (H : Hp) (a : Addr) (ns : List Int) : Prop := SqL K H a (ns.map V.int)
/-! ### promises -/
noncomputable def sNum : Sp := fun vs H Q _ => match vs with
  | [x] => Kn H x ∧ Q (.bl (isNumV x)) H
  | _ => False
noncomputable def sCell (K : PySem.W.Frag) : Sp := fun vs H Q _ => match vs with
  | [.ref a, .int k] => ∃ ns, LI K H a ns ∧ 0 ≤ k ∧ Q (.int (ns.getD k.toNat 0)) H
  | _ => False
noncomputable def mixed (ns : List Int) (k : Int) : Int := (ns.getD k.toNat 0 + 7 * k + 3) * 48271 % 2147483629
noncomputable def sMixed (K : PySem.W.Frag) : Sp := fun vs H Q _ => match vs with
  | [.ref a, .int k] => ∃ ns, LI K H a ns ∧ 0 ≤ k ∧ Q (.int (mixed ns k)) H
  | _ => False
noncomputable def sGcd : Sp := fun vs H Q _ => match vs with
  | [.int a, .int b] => 0 ≤ a ∧ 0 ≤ b ∧ Q (.int (Nat.gcd a.toNat b.toNat)) H
  | _ => False
noncomputable def sGcdL (K : PySem.W.Frag) : Sp := fun vs H Q _ => match vs with
  | [.ref a] => ∃ ns, LI K H a ns ∧ (∀ n ∈ ns, 0 ≤ n) ∧ Q (.int (gcdL ns)) H
  | _ => False
noncomputable def sRests (K : PySem.W.Frag) : Sp := fun vs H Q _ => match vs with
  | [.ref a] => ∃ ns, LI K H a ns ∧ (0 < ns.length ∧ ns.length ≤ 2000) ∧ ∀ b, (b = true ↔ RestsP ns) → Q (.bl b) H
  | _ => False
noncomputable def sClosed (K : PySem.W.Frag) : Sp := fun vs H Q _ => match vs with
  | [.ref a] => ∃ ns, LI K H a ns ∧ (0 < ns.length ∧ ns.length ≤ 2000) ∧ ∀ b, (b = true ↔ ClosedP ns) → Q (.bl b) H
  | _ => False
noncomputable def sIsHouse (K : PySem.W.Frag) : Sp := fun vs H Q _ => match vs with
  | [.ref a] => ∃ xs, SqL K H a xs ∧ (∀ x ∈ xs, Kn H x) ∧ xs.length ≤ 2000 ∧ ∀ b H', (b = true ↔ xs.length ≤ 1000 ∧ DueP xs) → Same H H' → Q (.bl b) H'
  | _ => False
noncomputable def sDue (K : PySem.W.Frag) : Sp := fun vs H Q _ => match vs with
  | [.ref a] => ∃ xs, SqL K H a xs ∧ (∀ x ∈ xs, Kn H x) ∧ xs.length ≤ 2000 ∧ ∀ b, (b = true ↔ DueP xs) → Q (.bl b) H
  | _ => False
/-- the law's own house -/
noncomputable def sLHouse (K : PySem.W.Frag) : Sp := fun vs H Q _ => match vs with
  | [.ref a] => ∃ cs, LI K H a cs ∧ (1 ≤ cs.length ∧ (∀ c ∈ cs, 1 ≤ c ∧ c ≤ 1000) ∧ gcdL cs = 1) ∧
    ∀ (p : Addr) (h : List Int) (H' : Hp), Same H H' → H p = none → H' p = some (.lst (h.map V.int)) → Least cs h → (h.length : Int) ∈ cs → (∀ c ∈ cs, (h.length : Int) ≤ c) → Q (.ref p) H'
  | _ => False
/-- coins that are drawn, sharing nothing -/
noncomputable def sDrawn (K : PySem.W.Frag) (n far : Nat) : Sp := fun vs H Q _ => match vs with
  | [.ref a] => ∃ ns, LI K H a ns ∧ ns.length ≤ 63 ∧
    ∀ (p : Addr) (cs : List Int) (H' : Hp), Same H H' → H p = none → H' p = some (.lst (cs.map V.int)) → 1 ≤ cs.length → cs.length ≤ n → (∀ c ∈ cs, 1 ≤ c ∧ c ≤ (far : Int)) → cs.Nodup → gcdL cs = 1 → Q (.ref p) H'
  | _ => False
noncomputable def sFree (K : PySem.W.Frag) : Sp := fun vs H Q _ => match vs with
  | [.ref a] => ∃ ns, LI K H a ns ∧ ns.length ≤ 63 ∧
    ∀ (p : Addr) (ms : List Int) (H' : Hp), Same H H' → H p = none → H' p = some (.lst (ms.map V.int)) → 1 ≤ ms.length → ms.length ≤ 12 → Q (.ref p) H'
  | _ => False
noncomputable def sOdd : Sp := fun vs H Q _ => match vs with
  | [.int _] => ∀ x H', Same H H' → Kn H' x → isNumV x = false → Q x H'
  | _ => False
noncomputable def sChanged (K : PySem.W.Frag) : Sp := fun vs H Q _ => match vs with
  | [.ref a, .int k] => ∃ ns : List Int, H a = some (.lst (ns.map V.int)) ∧ (1 ≤ ns.length ∧ ns.length ≤ 400) ∧ 0 ≤ k ∧
    ∀ (p : Addr) (xs : List V) (H' : Hp), Same H H' → H p = none → H' p = some (.lst xs) → (∀ x ∈ xs, Kn H' x) → xs.length ≤ 2 * ns.length + 1 → Q (.ref p) H'
  | _ => False
noncomputable def sTold (K : PySem.W.Frag) : Sp := fun vs H Q _ => match vs with
  | [.ref a] => ∃ xs, SqL K H a xs ∧ (∀ x ∈ xs, Kn H x) ∧ xs.length ≤ 1000 ∧ ∀ H', Same H H' → Q (.bl true) H'
  | _ => False
noncomputable def sLaw (K : PySem.W.Frag) : Sp := fun vs H Q _ => match vs with
  | [.ref a] => ∃ ns, LI K H a ns ∧ ns.length ≤ 63 ∧ ∀ H', Q (.bl true) H'
  | _ => False
end PG

set_option Elab.async false
set_option linter.all false
set_option maxRecDepth 100000
set_option maxHeartbeats 4000000
namespace PySem
/-- what an exception keeps while it flies: its dict, its context -/
noncomputable def KeepE (e : Addr) (od : Option Addr) (c : Value) (h : Heap) : Prop := ∃ o vs, h.get? e = some o ∧ o.dict = od ∧ o.data = .fields vs ∧ vs[2]? = some c
noncomputable def MildF (f : Obj → Obj) : Prop := ∀ o vs, o.data = .fields vs → (f o).dict = o.dict ∧ ∃ ws : Array Value, (f o).data = .fields ws ∧ ws[2]? = vs[2]?
/-- a text that changes neither -/
noncomputable def Mild {α : Type} : Sem α → Prop
  | .pure _ => True
  | .raise _ => True
  | .unsupported _ => True
  | .finish _ => True
  | .rule _ k => Mild (k ())
  | .at _ k => Mild (k ())
  | .load _ _ k => ∀ o, Mild (k o)
  | .update _ _ f k => MildF f ∧ Mild (k ())
  | .alloc _ k => ∀ a, Mild (k a)
  | .loadIfAlive _ k => ∀ o, Mild (k o)
  | .point _ k => Mild (k ())
  | .fresh k => ∀ t, Mild (k t)
  | .ask k => ∀ x, Mild (k x)
  | .handled _ k => ∀ x, Mild (k x)
  | .stack k => ∀ x, Mild (k x)
  | .thread k => ∀ x, Mild (k x)
  | _ => False
theorem Mild.bind {α β : Type} {f : α → Sem β} (hf : ∀ a, Mild (f a)) : ∀ {m : Sem α}, Mild m → Mild (m.bind f) := by
  intro m
  induction m with
  | pure a => intro _; exact hf a
  | raise _ => intro _; trivial
  | unsupported _ => intro _; trivial
  | finish _ => intro _; trivial
  | rule _ k ih => intro h; exact ih () h
  | «at» _ k ih => intro h; exact ih () h
  | load _ _ k ih => intro h o; exact ih o (h o)
  | update _ _ f k ih => intro h; exact ⟨h.1, ih () h.2⟩
  | alloc _ k ih => intro h o; exact ih o (h o)
  | loadIfAlive _ k ih => intro h o; exact ih o (h o)
  | point _ k ih => intro h; exact ih () h
  | fresh k ih => intro h o; exact ih o (h o)
  | ask k ih => intro h o; exact ih o (h o)
  | handled _ k ih => intro h o; exact ih o (h o)
  | stack k ih => intro h o; exact ih o (h o)
  | thread k ih => intro h o; exact ih o (h o)
  | _ => intro h; exact h.elim
theorem KeepE.upd {e a : Addr} {od : Option Addr} {c : Value} {h : Heap} {f : Obj → Obj} (k : KeepE e od c h) (hf : MildF f) : KeepE e od c (h.update a f) := by
  obtain ⟨o, vs, h1, h2, h3, h4⟩ := k
  by_cases q : a = e
  · subst q
    obtain ⟨f1, ws, f2, f3⟩ := hf o vs h3
    exact ⟨f o, ws, Heap.get?_update_self f h1 (Obj.isFreed_of_fields f2), f1.trans h2, f2, f3.trans h4⟩
  · exact ⟨o, vs, (Heap.get?_update_other h f q).trans h1, h2, h3, h4⟩
theorem Mild.wp {α : Type} {M : Model} {Γ : Ctx} {e : Addr} {od : Option Addr} {c : Value} {Q : α → Pos → Shared → Prop} {E : Value → Pos → Shared → Prop} : ∀ {t : Sem α}, Mild t → ∀ (p : Pos) (s : Shared), KeepE e od c s.heap → Sem.wp M Γ t Q E p s →
    Sem.wp M Γ t (fun a p s => Q a p s ∧ KeepE e od c s.heap) (fun a p s => E a p s ∧ KeepE e od c s.heap) p s := by
  intro t
  induction t with
  | pure a => intro _ p s k w; exact ⟨w, k⟩
  | raise _ => intro _ p s k w; exact ⟨w, k⟩
  | unsupported _ => intro _ p s k w; exact w
  | finish _ => intro _ p s k w; exact w
  | rule _ k ih => intro h p s kk w; exact ih () h p s kk w
  | «at» q k ih => intro h p s kk w; exact ih () h q s kk w
  | load _ _ k ih => intro h p s kk ⟨o, h1, w⟩; exact ⟨o, h1, ih o (h o) p s kk w⟩
  | update a _ f k ih => intro h p s kk ⟨h1, w⟩; exact ⟨h1, ih () h.2 p _ (kk.upd h.1) w⟩
  | alloc o k ih =>
    intro h p s kk w
    refine ih _ (h _) p _ ?_ w
    obtain ⟨o', vs, h1, h2⟩ := kk
    exact ⟨o', vs, Heap.get?_push_of_some _ h1, h2⟩
  | loadIfAlive a k ih => intro h p s kk w; exact ih _ (h _) p s kk w
  | point _ k ih => intro h p s kk w; exact ih () h p s kk w
  | fresh k ih => intro h p s kk w; exact ih _ (h _) p { s with toks := s.toks + 1 } kk w
  | ask k ih => intro h p s kk w; exact ih _ (h _) p s kk w
  | handled _ k ih => intro h p s kk w; exact ih _ (h _) p s kk w
  | stack k ih => intro h p s kk w; exact ih _ (h _) p s kk w
  | thread k ih => intro h p s kk w; exact ih _ (h _) p s kk w
  | _ => intro h; exact h.elim
theorem Mild.any {α : Type} {M : Model} {A : Around} {e : Addr} {od : Option Addr} {c : Value} {Q : α → Shared → Prop} {E : Value → Shared → Prop} {t : Sem α} {s : Shared} (h : Mild t) (k : KeepE e od c s.heap) (w : wpAny M A t Q E s) :
    wpAny M A t (fun a s => Q a s ∧ KeepE e od c s.heap) (fun a s => E a s ∧ KeepE e od c s.heap) s := fun Γ p hΓ => h.wp p s k (w Γ p hΓ)
/-! ### the texts at a frame's edge -/
theorem mild_bind {α β : Type} {m : Sem α} {f : α → Sem β} (h : Mild m) (hf : ∀ a, Mild (f a)) : Mild (m >>= f) := Mild.bind hf h
theorem mild_pure {α : Type} {a : α} : Mild (pure a : Sem α) := trivial
theorem mild_uns {α : Type} {x : String} : Mild (unsupported x : Sem α) := trivial
theorem mild_fieldsOf {v : Value} : Mild (fieldsOf v) := by
  unfold fieldsOf
  split
  · refine mild_bind (fun o => trivial) fun o => ?_
    split
    · exact mild_pure
    · exact mild_uns
  · exact mild_uns
theorem mild_field {v : Value} {i : Nat} : Mild (field v i) := by
  unfold field
  refine mild_bind mild_fieldsOf fun vs => ?_
  split
  · exact mild_pure
  · exact mild_uns
theorem mildF_set {i : Nat} {x : Value} (h : i ≠ 2) : MildF (Obj.mapFields (·.setIfInBounds i x)) := fun o vs hd => by
  refine ⟨?_, _, Obj.data_mapFields hd _, ?_⟩
  · obtain ⟨c, d, dt, sl⟩ := o
    cases hd
    rfl
  · rw [Array.getElem?_setIfInBounds_ne h]
theorem mild_setField {v : Value} {i : Nat} {x : Value} (h : i ≠ 2) : Mild (setField v i x) := by
  unfold setField
  split
  · unfold updateField
    refine mild_bind (fun o => trivial) fun o => ?_
    split
    · split
      · exact ⟨mildF_set h, trivial⟩
      · exact mild_uns
    · exact mild_uns
  · exact mild_uns
theorem mild_setFlight {v : Value} {f : Option Addr} : Mild (setFlight v f) := by
  unfold setFlight
  refine mild_bind mild_field fun tb => ?_
  split
  · exact mild_setField (by decide)
  · exact mild_pure
theorem mild_stack : Mild stack := fun _ => trivial
theorem mild_newTb {vs : List Value} : Mild (newFields "traceback" vs) := by
  have last : Mild (newObjAsIs (.type "traceback") (.fields vs.toArray)) := fun a => trivial
  show Mild (if vs.toArray.size > sizeLine + 2 then unsupported "record:memory" else newObjAsIs (.type "traceback") (.fields vs.toArray))
  split
  · exact mild_uns
  · exact last
theorem mild_newEntry {a b c d e : Value} {l : List Value} : Mild (EntryCells.newEntry a b c d e l) := mild_newTb
theorem mild_entryPlaceOf {f : Addr} {b : Bool} : Mild (entryPlaceOf f b) := by
  unfold entryPlaceOf
  refine mild_bind mild_stack fun acts => ?_
  split
  · exact mild_pure
  · exact mild_pure
theorem mild_keptBack {env : Env} {i : Bool} : ∀ l, Mild (keptBack env i l)
  | [] => by
    show Mild (if (env.scope.isGenerator || env.scope.isCoroutine) = true then (pure Value.none : Sem Value) else (do return if (← underTheClaimsCaller) then Value.notImplemented else Value.none))
    by_cases q : (env.scope.isGenerator || env.scope.isCoroutine) = true
    · rw [if_pos q]; exact mild_pure
    · rw [if_neg q]; exact mild_bind (mild_bind mild_stack fun _ => mild_pure) fun _ => by split <;> exact mild_pure
  | _ :: _ => mild_pure
theorem mild_behindIsImport {env : Env} {l : List Env} : Mild (behindIsImport env l) := by
  unfold behindIsImport
  split
  · exact mild_pure
  · split
    · exact mild_pure
    · exact mild_bind mild_field fun _ => mild_pure
theorem mild_readyFrames : ∀ l, Mild (readyFrames l)
  | [] => mild_pure
  | env :: outer => by
    unfold readyFrames
    split
    · refine mild_bind (fun o => trivial) fun o => ?_
      split
      · exact mild_pure
      · refine mild_bind mild_behindIsImport fun _ => mild_bind (mild_keptBack _) fun _ => mild_bind ⟨fun o vs hd => ⟨rfl, vs, hd, rfl⟩, trivial⟩ fun _ => mild_readyFrames outer
    · exact mild_uns
theorem mild_frameOf {env : Env} : Mild (frameOf env) := by
  unfold frameOf
  refine mild_bind (mild_bind mild_stack fun _ => mild_pure) fun l => mild_bind ?_ fun r => ?_
  · unfold frameObject
    split
    · exact mild_pure
    · exact mild_bind (mild_readyFrames _) fun _ => mild_pure
  · split
    · exact mild_pure
    · exact mild_uns
theorem mild_noteFrame {v : Value} {env : Env} : Mild (noteFrame v env) := by
  unfold noteFrame
  split
  · refine mild_bind mild_field fun head => ?_
    have rest : ∀ f b, Mild (do setField v 1 (← EntryCells.newEntry head (← frameOf env) .none (rawInt f) .none (← entryPlaceOf f b))) := fun f b =>
      mild_bind mild_frameOf fun _ => mild_bind mild_entryPlaceOf fun _ => mild_bind mild_newEntry fun _ => mild_setField (by decide)
    split
    · refine mild_bind mild_field fun x => ?_
      split
      · exact mild_pure
      · exact mild_bind (mild_setField (by decide)) fun _ => rest _ _
    · exact rest _ _
  · exact mild_uns
theorem mild_leaving {v : Value} {env : Env} : Mild (leaving env v) := mild_bind mild_noteFrame fun _ => mild_setFlight
end PySem

set_option Elab.async false
set_option linter.all false
set_option maxRecDepth 100000
set_option maxHeartbeats 4000000
/-! exceptions of the program's own classes over the hand layer -/
namespace L2
open PySem PySem.Spec PyProof.Rows
/-- an exception in flight behind a call: B, what stays -/
noncomputable def CX1 (P : Program) (w : World) : CXT := fun outer H s E e s' => ∃ (ea C : Addr) (H' : Hp) (B : Heap) (a0 : Value) (od : Option Addr),
  e = .ref ea ∧ s'.os = s.os ∧ AllBare s'.gens ∧ Heap.FlyingW B outer ea (.ref C) a0 s'.heap ∧ HOk P w H' B ∧ Un (frs outer) [] H H' s.heap s'.heap ∧
  (∀ b o, s.heap.get? b = some o → H b = none → b ∉ frs outer → B.get? b = some o) ∧ (∀ b o, s.heap.get? b = some o → b ∉ frs outer → ∃ o', B.get? b = some o') ∧ KeepE ea od .none s'.heap ∧ E (.ref C) od H'
theorem pass1E {P : Program} {w : World} {X : Cx} : Passes (CX1 P w) X E0 := fun _ _ _ _ _ _ _ ⟨_, _, _, _, _, _, _, _, _, _, _, _, _, _, _, h⟩ => h.elim
theorem hok_hide {P : Program} {w : World} {H : Hp} {h : Heap} {as : List Addr} (x : HOk P w H h) (hn : ∀ b ∈ as, H b = none) : HOk P w H (PySem.W.hideAll h as) := fun a o e => by
  refine (x a o e).stay (fun b u hb q => PySem.W.hideAll_get _ q fun hm => ?_) (fun _ q => q) fun _ _ q => q
  have := hn b hm
  rcases hb with z | z
  · rw [z, e] at this; cases this
  · rw [z] at this; cases this
/-- what is wanted where an exception of an own class is made here -/
noncomputable def Raises (X : Cx) (E : XK) : Prop := ∀ (pins : List (Addr × Obj)) (σ : St) (H : Hp) (s : Shared) (h' : Heap) (e C : Addr) (vs : List Value), Inv X pins σ H s → Heap.MadeExcOf s.heap h' e (.ref C) vs → E (.ref C) none H → X.xe (.ref e) { s with heap := h' }
section
variable {P : Program} {w : World} {K : PySem.W.Frag} {mg : Str → Option Value} {base : Heap} {N : List Str} {qual : Str} {scope : Scope} {f : Addr} {cd : Value} {A : Around} {outer : List Env} {s : Shared} {H : Hp} {E : XK}
theorem frs_cons {qual : Str} {scope : Scope} {L f : Addr} {cd : Value} {outer : List Env} {b : Addr} (h : b ∈ frs (envOfC qual scope L f cd :: outer)) : b = L ∨ b ∈ frs outer := by
  have : frs (envOfC qual scope L f cd :: outer) = L :: frs outer := rfl
  rw [this] at h
  exact List.mem_cons.mp h
/-- an exception of a callee leaves this def too -/
theorem pass1 : Passes (CX1 P w) (cxOf (CX1 P w) P w K mg base N qual scope f cd A outer s H E) E := by
  intro pins σ H1 s1 e s' I hx
  obtain ⟨ea, C, H', B, a0, od, rfl, os, bare, fl, hok, un, hB, thB, hk, hE⟩ := hx
  have b0 : Un (frs outer) [] H H1 s.heap s1.heap := I.base
  have ff := fl.2.2.1
  have nx : ∀ {b : Addr}, b ∉ ([] : List Addr) := fun {b} z => by cases z
  refine wpAny_mono (Mild.any mild_leaving hk (wpAny_leaves_onW (Q := fun _ s2 => ∃ h', Heap.FlyingW B outer ea (.ref C) a0 h' ∧ s'.heap.UpToSlots h' ∧ s2 = { s' with heap := h' }) (L := s.heap.objs.size) (E := fun _ _ => False) I.ok.frames rfl fl fun h' fl' up => ⟨h', fl', up, rfl⟩)) (fun _ s2 hz => ?_) fun _ _ z => z.1.elim
  obtain ⟨⟨h', fl', up, rfl⟩, hk'⟩ := hz
  have out : ∀ b o, s.heap.get? b = some o → b ∉ frs outer → b ∉ frs (envOfC qual scope s.heap.objs.size f cd :: outer) := fun b o e hb z => by
    rcases frs_cons z with q | q
    · exact absurd (Heap.lt_size e) (by rw [q]; exact Nat.lt_irrefl _)
    · exact hb q
  have inn : ∀ b, b ∈ frs outer → b ∈ frs (envOfC qual scope s.heap.objs.size f cd :: outer) := fun b hb => List.mem_cons_of_mem _ hb
  have hB' : ∀ b o, s.heap.get? b = some o → H b = none → b ∉ frs outer → B.get? b = some o := fun b o e n hb => hB b o (b0.keep b o e n hb nx) (b0.free b o e n nx) (out b o e hb)
  have thB' : ∀ b o, s.heap.get? b = some o → b ∉ frs outer → ∃ o', B.get? b = some o' := fun b o e hb => by
    obtain ⟨o1, e1⟩ := b0.there b o e nx
    exact thB b o1 e1 (out b o e hb)
  refine ⟨ea, C, H', B, a0, od, rfl, os.trans I.os, bare, fl', hok, ⟨fun b o e n hb _ => fl'.1 b o (hB' b o e n hb), fun b o e n hb _ => ?_, fun b o e n _ => ?_, fun b o e _ => ?_, fun b xs e => un.tups b xs (b0.tups b xs e), fun b o u e => un.frzs b o u (b0.frzs b o u e), fun b ps e => ?_⟩, hB', thB', hk', hE⟩
  · obtain ⟨sl, e1⟩ := b0.slot b o e n hb nx
    obtain ⟨sl2, e2⟩ := un.slot b _ e1 (b0.free b o e n nx) (inn b hb) nx
    obtain ⟨_, o3, e3, hd⟩ := ff.mem (inn b hb)
    rw [e2] at e3
    cases e3
    obtain ⟨sl3, e4⟩ := up b _ e2 hd
    exact ⟨sl3, e4⟩
  · by_cases hb : b ∈ frs outer
    · obtain ⟨sl, e1⟩ := b0.slot b o e n hb nx
      exact un.free b _ e1 (b0.free b o e n nx) nx
    · exact un.free b o (b0.keep b o e n hb nx) (b0.free b o e n nx) nx
  · by_cases hb : b ∈ frs outer
    · obtain ⟨_, o3, e3, hd⟩ := ff.mem (inn b hb)
      obtain ⟨sl3, e4⟩ := up b _ e3 hd
      exact ⟨_, e4⟩
    · obtain ⟨o1, e1⟩ := thB' b o e hb
      exact ⟨o1, fl'.1 b o1 e1⟩
  · obtain ⟨m1, e1⟩ := b0.tbls b ps e
    obtain ⟨m2, e2⟩ := un.tbls b _ e1
    exact ⟨m1 ++ m2, by rw [e2, Array.append_assoc]⟩
theorem raises1 : Raises (cxOf (CX1 P w) P w K mg base N qual scope f cd A outer s H E) E := by
  intro pins σ H1 s1 h' ea C vs I hx hE
  have b0 : Un (frs outer) [] H H1 s.heap s1.heap := I.base
  have nx : ∀ {b : Addr}, b ∉ ([] : List Addr) := fun {b} z => by cases z
  have hst : ∀ b ∈ frs (envOfC qual scope s.heap.objs.size f cd :: outer), H1 b = none := I.stkFree
  have ffr : s1.heap.FunFrames (PySem.W.hideAll s1.heap (frs (envOfC qual scope s.heap.objs.size f cd :: outer))) (envOfC qual scope s.heap.objs.size f cd :: outer) :=
    PySem.W.funFrames_hide I.stack fun env he a ha => List.mem_filterMap.mpr ⟨env, he, ha⟩
  have hk : KeepE ea none .none h' := by
    obtain ⟨t, e1, _⟩ := hx.there
    exact ⟨_, _, e1, rfl, rfl, rfl⟩
  refine wpAny_mono (Mild.any (s := { s1 with heap := h' }) mild_leaving hk (wpAny_leaves_madeW (Q := fun _ s2 => ∃ h'' t, Heap.FlyingW (PySem.W.hideAll s1.heap (frs (envOfC qual scope s.heap.objs.size f cd :: outer))) outer ea (.ref C) (.ref t) h'' ∧ h'.UpToSlots h'' ∧ s2 = { s1 with heap := h'' }) (E := fun _ _ => False) (L := s.heap.objs.size) (base := PySem.W.hideAll s1.heap (frs (envOfC qual scope s.heap.objs.size f cd :: outer))) (h := s1.heap) I.ok.frames rfl (fun b o q => PySem.W.of_hideAll _ q) ffr hx fun h'' t fl' _ _ up => ⟨h'', t, fl', up, rfl⟩)) (fun _ s2 hz => ?_) fun _ _ z => z.1.elim
  obtain ⟨⟨h'', t, fl', up, rfl⟩, hk'⟩ := hz
  have out : ∀ b o, s.heap.get? b = some o → b ∉ frs outer → b ∉ frs (envOfC qual scope s.heap.objs.size f cd :: outer) := fun b o e hb z => by
    rcases frs_cons z with q | q
    · exact absurd (Heap.lt_size e) (by rw [q]; exact Nat.lt_irrefl _)
    · exact hb q
  have inn : ∀ b, b ∈ frs outer → b ∈ frs (envOfC qual scope s.heap.objs.size f cd :: outer) := fun b hb => List.mem_cons_of_mem _ hb
  have hB' : ∀ b o, s.heap.get? b = some o → H b = none → b ∉ frs outer → (PySem.W.hideAll s1.heap (frs (envOfC qual scope s.heap.objs.size f cd :: outer))).get? b = some o := fun b o e n hb => PySem.W.hideAll_get _ (b0.keep b o e n hb nx) (out b o e hb)
  have thB' : ∀ b o, s.heap.get? b = some o → b ∉ frs outer → ∃ o', (PySem.W.hideAll s1.heap (frs (envOfC qual scope s.heap.objs.size f cd :: outer))).get? b = some o' := fun b o e hb => by
    obtain ⟨o1, e1⟩ := b0.there b o e nx
    exact ⟨o1, PySem.W.hideAll_get _ e1 (out b o e hb)⟩
  have fs : ∀ b o, b ∈ frs outer → s1.heap.get? b = some o → ∃ sl, h''.get? b = some { o with slots := sl } := fun b o hb e1 => by
    obtain ⟨_, o3, e3, hd⟩ := ffr.mem (inn b hb)
    rw [e1] at e3
    cases e3
    exact up b _ (hx.keeps b o e1) hd
  refine ⟨ea, C, H1, _, .ref t, none, rfl, I.os, I.bare, fl', hok_hide I.hok hst, ⟨fun b o e n hb _ => fl'.1 b o (hB' b o e n hb), fun b o e n hb _ => ?_, fun b o e n _ => b0.free b o e n nx, fun b o e _ => ?_, b0.tups, b0.frzs, b0.tbls⟩, hB', thB', hk', hE⟩
  · obtain ⟨sl, e1⟩ := b0.slot b o e n hb nx
    obtain ⟨sl2, e2⟩ := fs b _ hb e1
    exact ⟨sl2, e2⟩
  · by_cases hb : b ∈ frs outer
    · obtain ⟨_, o3, e3, hd⟩ := ffr.mem (inn b hb)
      obtain ⟨sl3, e4⟩ := fs b _ hb e3
      exact ⟨_, e4⟩
    · obtain ⟨o1, e1⟩ := thB' b o e hb
      exact ⟨o1, fl'.1 b o1 e1⟩
end
/-! ### the class, by the written part -/
noncomputable def ExcC (K : PySem.W.Frag) (C : Addr) : Prop := PySem.W.excIn K C [.type "ValueError", .type "Exception", .type "BaseException", .type "object"] "ValueError.__new__" = true
theorem excObj {K : PySem.W.Frag} {h : Heap} {C : Addr} {bmB : List Value} {newId : String} (X : K.In h) (q : PySem.W.excIn K C bmB newId = true) :
    ∃ bm N nm qn bs hd sn sub ab col dd k0 k1 k2 k3 k5 mN, h.get? C = some (excClassObj nm qn C N bs bm hd sn sub ab col dd k0 k1 k2 k3 k5 newId) ∧ h.Ns N mN ∧ mN "__init__" = none ∧ OwnTail h bmB bm := by
  unfold PySem.W.excIn at q
  split at q
  · rename_i dd cd sl ho
    split at q
    · rename_i C' bm k0 k1 k2 k3 n k5 hm hs
      simp only [Bool.and_eq_true, beq_iff_eq, Bool.not_eq_true'] at q
      obtain ⟨⟨⟨⟨⟨rfl, rfl⟩, hdel⟩, ht⟩, hok⟩, hni⟩ := q
      obtain ⟨nm, bs, mro, ns, qn, hd, sn, sub, ab, col, del⟩ := cd
      dsimp only at hm hdel hok hni
      subst hm hdel
      have hsl : sl = #[k0, k1, k2, k3, some (.builtin n), k5] := by
        obtain ⟨l⟩ := sl
        simp only at hs
        rw [hs]
      subst hsl
      exact ⟨bm, ns, nm, qn, bs, hd, sn, sub, ab, col, dd, k0, k1, k2, k3, k5, _, X _ _ ho, .of_isNs (PySem.W.isNs_of_in X hok), PySem.W.nsMap_none_of_in X hok hni, PySem.W.tail_of_in X ht⟩
    · cases q
  · cases q
section
variable {X : Cx} {E : XK} {x : Str} {C : Addr} {e : Expr} {es : List Expr} {ta : TA} {np cpos pos : Pos}
/-- raise C(..) -/
noncomputable def tRaise (C : Addr) (E : XK) (ta : TA) : TS := fun D σ H => ta σ H fun vs H1 => vs.length ≤ sizeLine ∧ E (.ref C) none H1
theorem ps_raise (hr : Raises X E) (hc : X.calm = true) (hm : X.mg x = some (.ref C)) (q : ExcC X.K C) (ha : PA X (e :: es) ta) (hg : Gl X x := by rfl) (hdb : (x == ("__debug__" : Str)) = false := by decide)
    (he : starEach (e :: es) X.env = (false, eval e X.env) :: starEach es X.env := by rfl) (hpl : (backTo cpos (starEach es X.env)).any (·.1) = false := by rfl) :
    PS X (.Raise (some (.Call (.Name x np) (e :: es) [] cpos)) none pos) (tRaise C E ta) := by
  intro pins s σ H D I h
  obtain ⟨bm, N, nm, qn, bs, hd, sn, sub, ab, col, dd, k0, k1, k2, k3, k5, mN, hC, hN, hni, T⟩ := excObj I.ok.mod.kin q
  refine wpAny_Raise_call_subT (C := C) (nm := nm) (q := qn) (N := N) (bs := bs) (bm := bm) (hdct := hd) (sn := sn) (sub := sub) (ab := ab) (col := col) (dd := dd) (k0 := k0) (k1 := k1) (k2 := k2) (k3 := k3) (k5 := k5)
    PySem.F.excBase_ValueError (mN := mN) (T.hasType PySem.F.excBase_ValueError.hasBase) (I.ok.hd hc) (by rw [he]; show (false || (backTo cpos (starEach es X.env)).any (·.1)) = false; rw [hpl]; rfl) hni (ld_glob I hg hm ⟨rfl, ?_⟩ hdb)
  have hA := ha cpos pins s σ H _ I h
  rw [he] at hA ⊢
  refine Calls.evalArgs_plain (thn hA fun us s2 ⟨vs, H2, I2, r2, hz, hE⟩ => ?_)
  exact ⟨rfl, by rw [← r2.length]; exact hz, I2.bk _ _ hC, hN.keeps I2.bk, T.keeps I2.bk, fun h' ea hx => hr pins σ H2 s2 h' ea C _ I2 hx hE⟩
end
end L2

set_option Elab.async false
set_option linter.all false
set_option maxRecDepth 100000
set_option maxHeartbeats 4000000
namespace L2
open PySem PySem.Spec PyProof.Rows
/-! ### within an except suite -/
noncomputable abbrev Cx.marked (X : Cx) (v : Value) : Cx := { X with A := X.A.mark (some v), calm := false }
theorem Cx.Ok.marked {X : Cx} (ok : X.Ok) (v : Value) : (X.marked v).Ok :=
  ⟨ok.mod, ok.kind, ok.glob, ok.blt, ok.above, ok.inj, ok.has, ok.cab, (fun h => by cases h), ok.frames, ok.stk, ok.exf, ok.bs, ok.bsz, ok.noex, ok.exfs, ok.funs, ok.frf⟩
theorem Inv.marked {X : Cx} {pins : List (Addr × Obj)} {σ : St} {H : Hp} {s : Shared} (I : Inv X pins σ H s) (v : Value) : Inv (X.marked v) pins σ H s := ⟨I.ok.marked v, I.os, I.bare, I.base, I.loc, I.cell, I.free, I.freeC, I.pin, I.hok, I.len⟩
theorem Inv.unmarked {X : Cx} {v : Value} {pins : List (Addr × Obj)} {σ : St} {H : Hp} {s : Shared} (ok : X.Ok) (I : Inv (X.marked v) pins σ H s) : Inv X pins σ H s := ⟨ok, I.os, I.bare, I.base, I.loc, I.cell, I.free, I.freeC, I.pin, I.hok, I.len⟩

/-! ### what may raise, at its own names' values -/
noncomputable def WX (CX : CXT) (X : Cx) (pins : List (Addr × Obj)) (σ : St) (E : XK) (e : Value) (s' : Shared) : Prop := ∃ H1 s1, Inv X pins σ H1 s1 ∧ CX X.stack H1 s1 E e s'
noncomputable abbrev TEX := St → Hp → VK → XK → Prop
noncomputable abbrev TSX := Ends → XK → St → Hp → Prop
noncomputable def PEX (CX : CXT) (X : Cx) (e : Expr) (t : TEX) : Prop :=
  ∀ (pins : List (Addr × Obj)) (s : Shared) (σ : St) (H : Hp) (Q : VK) (E : XK), Inv X pins σ H s → t σ H Q E → wpAny (model X.prog X.w) X.A (eval e X.env) (EP X pins σ Q) (WX CX X pins σ E) s
noncomputable def PSX (CX : CXT) (X : Cx) (st : List Stmt) (t : TSX) : Prop :=
  ∀ (pins : List (Addr × Obj)) (s : Shared) (σ : St) (H : Hp) (D : Ends) (E : XK), Inv X pins σ H s → t D E σ H → wpAny (model X.prog X.w) X.A (execs st X.env) (SP X pins D) (WX CX X pins σ E) s
section
variable {CX : CXT} {X : Cx} {k : Nat} {f : Addr} {fd : FuncData} {ps : List Str} {sp : Sp} {x : Str} {p pos pos' : Pos} {e : Expr} {es : List Expr} {ta : TA} {t : TEX}
theorem pex_call (F : FnOk X.prog X.w X.K X.mg X.base CX k f fd ps sp) (hr : Room k X.A) (hg : Gl X x) (hm : X.mg x = some (.ref f)) (hk : PySem.W.keepIn X.K (.ref f) = true) (hb : Binds X.K fd ps [])
    (ha : PA X.nox (e :: es) ta) (hdb : (x == ("__debug__" : Str)) = false := by decide) (he : starEach (e :: es) X.env = (false, eval e X.env) :: starEach es X.env := by rfl) (hpl : (backTo pos (starEach es X.env)).any (·.1) = false := by rfl) :
    PEX CX X (.Call (.Name x p) (e :: es) [] pos) (fun σ H Q E => ta σ H fun vs H1 => sp (vs ++ []) H1 Q E) := by
  intro pins s σ H Q E I h
  refine wpAny_Call_Name_kw (ld_glob I hg hm ?_ hdb)
  refine PySem.W.callWith_K (h₀ := X.base) I.ok.mod.kin hk (wpAny_mono (ha pos pins s σ H _ (I.wish _) h) (fun us s1 hq => ?_) fun _ _ z => z.elim) he hpl
  obtain ⟨vs, H1, I1, r, q⟩ := hq
  have I1 := I1.unwish
  refine ⟨I1.kIn, ?_⟩
  have r2 : Vals (vs ++ []) (us ++ []) := r.append .nil
  have hl : (us ++ []).length = ps.length := by rw [← r2.length]; exact F.len _ _ _ _ q
  refine wpAny_call (codeAny_mono (F.run X.A X.stack s1 H1 ⟨us, []⟩ (us ++ []) (vs ++ []) Q E hr I1.env0 (hb s1 us I1.kIn hl) r2 q) fun r s' hq => ?_)
  cases r with
  | error e => exact ⟨H1, s1, I1, hq⟩
  | ok fl =>
    cases fl with
    | ret u => exact I1.after hq
    | next => exact False.elim hq
    | brk => exact False.elim hq
    | cont => exact False.elim hq
/-- the statement f(..) alone -/
theorem psx_expr (h : PEX CX X e t) (hs : swapsWith e none pos.line X.env = pure false := by rfl) : PSX CX X [.Expr e pos] (fun D E σ H => t σ H (fun _ H1 => D.nx σ H1) E) := by
  intro pins s σ H D E I hw
  refine wpAny_execs_cons (thn (wpAny_Expr_any (thn (h pins s σ H (fun _ H1 => D.nx σ H1) E I hw) fun v s1 ⟨x, H1, I1, r1, q1⟩ => (show SP X pins D .next s1 from ⟨σ, H1, I1, q1⟩)) I.quiet hs) fun f s1 q => ?_)
  cases f with
  | next => exact wpAny_execs_nil q
  | ret v => exact q
  | brk => exact q
  | cont => exact q
end
theorem ObjOk.there {P : Program} {w : World} {H : Hp} {h : Heap} {a : Addr} {o : HO} (x : ObjOk P w H h a o) : ∃ ob, h.get? a = some ob := by
  induction o with
  | lst xs => obtain ⟨_, _, _, _, e⟩ := x; exact ⟨_, e⟩
  | tup xs => obtain ⟨_, _, _, ob, e, _⟩ := x; exact ⟨_, e⟩
  | dK kvs => obtain ⟨_, _, _, _, ob, _, _, e, _⟩ := x; exact ⟨_, e⟩
  | dT kvs => obtain ⟨_, _, _, _, ob, _, _, e, _⟩ := x; exact ⟨_, e⟩
  | set S n => obtain ⟨ob, _, _, _, e, _⟩ := x; exact ⟨_, e⟩
  | ins C dx fs => obtain ⟨_, _, _, e, _⟩ := x; exact ⟨_, e⟩
  | own _ => obtain ⟨ob, e⟩ := x; exact ⟨_, e⟩
  | xd fs => obtain ⟨mA, ⟨ob, _, _, e, _⟩, _⟩ := x; exact ⟨_, e⟩
  | rng lo hi => obtain ⟨_, _, _, e⟩ := x; exact ⟨_, e⟩
  | frz ob u ih => obtain ⟨e, _⟩ := x; exact ⟨_, e⟩
  | tbl ps => exact ⟨_, x⟩
  | met f y => exact ⟨_, x⟩
  | ext φ => exact x.2.1
/-! ### an exception that is held -/
/-- an exception object of the class at C -/
noncomputable def ExcAt (e C : Addr) (h : Heap) : Prop := ∃ o vs, h.get? e = some o ∧ o.cls = .ref C ∧ o.data = .fields vs
noncomputable def excO (e C : Addr) : HO := .ext (ExcAt e C)
section
variable {X : Cx} {pins : List (Addr × Obj)} {σ : St} {H H' : Hp} {s s' : Shared}
/-- what was there and is not tracked comes under the ledger -/
theorem Inv.track {e : Addr} {u : HO} {o : Obj} (I : Inv X pins σ H s) (he : s.heap.get? e = some o) (hn : H e = none) (h0 : X.s₀.heap.get? e = none) (hL : e ≠ X.env.locals) (hC : ∀ x c, X.env.cells.lookup x = some c → c ≠ e) (hp : ∀ p ∈ X.pn ++ pins, p.1 ≠ e)
    (ok : ObjOk X.prog X.w (upd H e u) s.heap e u) : Inv X pins σ (upd H e u) s := by
  have ne : ∀ b, H b ≠ none → b ≠ e := fun b h z => h (by rw [z]; exact hn)
  refine ⟨I.ok, I.os, I.bare, ⟨I.base.keep, I.base.slot, fun b ob q n hx => ?_, I.base.there, fun b xs q => ?_, fun b ob v q => ?_, fun b ps q => ?_⟩, I.loc, I.cell, ?_, fun x c q => ?_, fun p hp' => ?_, fun a ob q => ?_, I.len⟩
  · rw [upd_ne (by rintro rfl; rw [h0] at q; cases q)]
    exact I.base.free b ob q n hx
  · have := I.base.tups b xs q
    rw [upd_ne (ne b (by rw [this]; simp))]
    exact this
  · have := I.base.frzs b ob v q
    rw [upd_ne (ne b (by rw [this]; simp))]
    exact this
  · obtain ⟨m, this⟩ := I.base.tbls b ps q
    refine ⟨m, ?_⟩
    rw [upd_ne (ne b (by rw [this]; simp))]
    exact this
  · rw [upd_ne (Ne.symm hL)]
    exact I.free
  · rw [upd_ne (hC x c q)]
    exact I.freeC x c q
  · obtain ⟨a1, a2, a3⟩ := I.pin p hp'
    refine ⟨a1, ?_, a3⟩
    rw [upd_ne (hp p hp')]
    exact a2
  · by_cases ha : a = e
    · subst ha
      rw [upd_same] at q
      cases q
      exact ok
    · rw [upd_ne ha] at q
      refine (I.hok a ob q).stay (fun _ _ _ z => z) (fun b z => ?_) fun b xs z => ?_
      · rw [upd_ne (ne b (by rw [z]; simp))]; exact z
      · rw [upd_ne (ne b (by rw [z]; simp))]; exact z
/-- behind a raise, within the frame that looks at it -/
theorem Inv.caught {B : Heap} {h' : Heap} (I : Inv X pins σ H s) (hst : X.stack = X.env :: X.outer) (os : s'.os = s.os) (bare : AllBare s'.gens) (hok : HOk X.prog X.w H' B) (un : Un (frs X.stack) [] H H' s.heap s'.heap)
    (hB : ∀ b o, s.heap.get? b = some o → H b = none → b ∉ frs X.stack → B.get? b = some o) (thB : ∀ b o, s.heap.get? b = some o → b ∉ frs X.stack → ∃ o', B.get? b = some o') (ff : s'.heap.FunFrames B X.stack) (st : B.StaysIn h') (up : s'.heap.UpToSlots h') :
    Inv X pins σ H' { s' with heap := h' } := by
  have nx : ∀ {b : Addr}, b ∉ ([] : List Addr) := fun {b} z => by cases z
  have fs : ∀ b o, b ∈ frs X.stack → s'.heap.get? b = some o → ∃ sl, h'.get? b = some { o with slots := sl } := fun b o hb e1 => by
    obtain ⟨_, o3, e3, hd⟩ := ff.mem hb
    rw [e1] at e3
    cases e3
    exact up b _ e1 hd
  refine I.call' (s' := { s' with heap := h' }) (ch := []) os ⟨fun b o e n hb _ => st b o (hB b o e n hb), fun b o e n hb _ => ?_, fun b o e n hx => un.free b o e n hx, fun b o e _ => ?_, un.tups, un.frzs, un.tbls⟩ (hok.kept st) bare (fun b z => by cases z)
  · obtain ⟨sl, e1⟩ := un.slot b o e n hb nx
    obtain ⟨sl2, e2⟩ := fs b _ hb e1
    exact ⟨sl2, e2⟩
  · by_cases hb : b ∈ frs X.stack
    · obtain ⟨_, o3, e3, hd⟩ := ff.mem hb
      obtain ⟨sl3, e4⟩ := fs b _ hb e3
      exact ⟨_, e4⟩
    · obtain ⟨o1, e1⟩ := thB b o e hb
      exact ⟨o1, st b o1 e1⟩
/-- a local name goes -/
theorem unbind_ok {M : Model} {A : Around} {E : Value → Shared → Prop} {i : Nat} {x : Str} {pos : Pos} {Q : Unit → Shared → Prop} (I : Inv X pins σ H s) (hN : X.N.Nodup) (hi : X.N[i]? = some x) (hk : X.env.scope.names.lookup x = some .local)
    (h : ∀ s', Inv X pins (σ.set i none) H s' → Q () s') : wpAny M A (do bindName X.env x .none; unbindBehindTheSuite X.env x pos) Q E s := by
  obtain ⟨m, hn, hl⟩ := id I.loc
  have hcls : (X.env.scope.kind == .class || (X.env.scope.kind == .module && X.env.locals != X.env.globals)) = false := by rw [I.ok.kind]; rfl
  have hiσ : i < σ.length := by rw [I.len]; exact (List.getElem?_eq_some_iff.mp hi).1
  have cne := I.cne
  refine wpAny_nameGoes_keeps hk hn hcls fun h' v hn' hs => ?_
  obtain ⟨oL, _, _, hoL, _⟩ := id hn
  refine h _ ⟨I.ok, I.os, I.bare, ⟨fun b o e n hb hx => ?_, fun b o e n hb hx => ?_, I.base.free, fun b o e hx => ?_, I.base.tups, I.base.frzs, I.base.tbls⟩, ⟨_, hn', fun j y v' e1 e2 e3 => ?_⟩, fun y c e => ?_, I.free, I.freeC, fun p hp => ?_, fun b ob e => ?_, by simpa using I.len⟩
  · exact (hs.2 b (Nat.ne_of_lt (Nat.lt_of_lt_of_le (Heap.lt_size e) I.ok.above))).trans (I.base.keep b o e n hb hx)
  · obtain ⟨sl, e1⟩ := I.base.slot b o e n hb hx
    exact ⟨sl, (hs.2 b (Nat.ne_of_lt (Nat.lt_of_lt_of_le (Heap.lt_size e) I.ok.above))).trans e1⟩
  · obtain ⟨o', e1⟩ := I.base.there b o e hx
    exact ⟨o', (hs.2 b (Nat.ne_of_lt (Nat.lt_of_lt_of_le (Heap.lt_size e) I.ok.above))).trans e1⟩
  · by_cases hj : j = i
    · subst hj
      rw [List.getElem?_set_self hiσ] at e2
      cases e2
    · rw [List.getElem?_set_ne (Ne.symm hj)] at e2
      obtain ⟨u', r', q⟩ := hl j y v' e1 e2 e3
      refine ⟨u', r', ?_⟩
      rcases q with ⟨k, e⟩ | ⟨k, c, e, z⟩
      · refine .inl ⟨k, ?_⟩
        have : y ≠ x := fun e => hj (nodup_ix hN e1 (e ▸ hi))
        simp [this, e]
      · exact .inr ⟨k, c, e, z.sameBut hs (cne y c e)⟩
  · obtain ⟨w', z⟩ := I.cell y c e
    exact ⟨w', z.sameBut hs (cne y c e)⟩
  · obtain ⟨e, n, ne, nf, d⟩ := I.pin p hp
    exact ⟨(hs.2 p.1 ne).trans e, n, ne, nf, d⟩
  · refine (I.hok b ob e).stay (fun c w' hc q => (hs.2 c ?_).trans q) (fun _ q => q) fun _ _ q => q
    rintro rfl
    rcases hc with rfl | hc
    · rw [I.free] at e; cases e
    · rw [I.free] at hc; cases hc
end
/-! ### try: .. except C as n: .. -/
noncomputable def tTry (K : PySem.W.Frag) (C : Addr) (i : Nat) (tx : TSX) (th : TS) : TS := fun D σ H =>
  tx D (fun cls _ H' => ∃ Ce, cls = .ref Ce ∧ PySem.W.exmOne K (.ref Ce) (.ref C) = some true ∧ ∀ ea, H' ea = none →
    th { nx := fun σ' H2 => D.nx (σ'.set i none) H2, rt := D.rt, bk := fun σ' H2 => D.bk (σ'.set i none) H2, ct := fun σ' H2 => D.ct (σ'.set i none) H2 } (σ.set i (some (.ref ea))) (upd H' ea (excO ea Ce))) σ H
end L2

set_option Elab.async false
set_option linter.all false
set_option maxRecDepth 100000
set_option maxHeartbeats 4000000
namespace PySem.W
open PySem PySem.Spec PySem.Calls PyProof.Rows Builtin Builtin.ObjectAttr Builtin.Getset_descriptor
/-- what of the text an error class must have -/
structure ErrC (K : Frag) (C : Addr) : Prop where
  ga : findIn K (.ref C) "__getattribute__" = some (some (.builtin "BaseException.__getattribute__"))
  gt : findIn K (.ref C) "__getattr__" = some none
  cl : findIn K (.ref C) "__class__" = some (some (.builtin "object.__class__"))
  be : mroIn K C (.type "BaseException") = some true
  ob : mroIn K C (.type "object") = some true
  it : clsIn K C ≠ none
section
variable {prog : Program} {w : World} {A : Around} {E : Value → Shared → Prop} {s : Shared} {K : Frag} {x C : Addr} {R : Result → Shared → Prop}
theorem exc_class_get {tp : Value} (X : K.In s.heap) (L0 : Looks (model prog w) s.heap (typeOf (.ref x)) (.ref C)) (hm : mroIn K C (.type "object") = some true)
    (h : R (.ok (.ret (.ref C))) s) : codeAny (model prog w) A (.call (.builtin "getset_descriptor.__get__") ⟨[.builtin "object.__class__", .ref x, tp], []⟩) R s := by
  obtain ⟨hh, g, dr, t, os⟩ := s
  have L1 := looks_mroIn (M := model prog w) X hm
  refine codeAny_call_builtin KF.slot_gs.plain KF.entry_gs (KF.slot_gs.check _ _ _ _ _ _ _ _ KF.type_class (KF.args_gs _ _ _) ?_)
  unfold Builtin.«getset_descriptor.__get__» descrGet
  rw [dga_obj]
  refine wpAny_bind (wpAny_pure ?_)
  unfold descrGetter descrCheckInstance descrNameAndClass isInstance
  simp only [KF.owner_class]
  repeat lk
  refine ⟨Code.quiet_builtin _ (by decide +kernel), codeAny_builtin KF.entry_class ?_⟩
  unfold Builtin.«object.__class__» shownTypeOf
  repeat lk
  exact h
theorem exc_check {M : Model} {nameV : Value} {Q : Unit → Shared → Prop} (X : K.In s.heap) (L0 : Looks M s.heap (typeOf (.ref x)) (.ref C)) (hm : mroIn K C (.type "BaseException") = some true) (hq : Q () s) :
    wpAny M A (checkBuiltinCall "BaseException.__getattribute__" ⟨[.ref x, nameV], []⟩) Q E s := by
  obtain ⟨hh, g, dr, t, os⟩ := s
  have hk : builtinKind "BaseException.__getattribute__" = some .slot := by decide +kernel
  have hsplit : splitId "BaseException.__getattribute__" = some ("BaseException", "__getattribute__") := by decide +kernel
  have L1 := looks_mroIn (M := M) X hm
  have ha := F.args_bexc_ga (.ref x) nameV
  simp only [checkBuiltinCall, hk, hsplit]
  refine wpAny_bind ?_
  unfold isInstance
  repeat (first | lk | wp_step)
  exact hq
theorem exc_entry {tk : Tok} {Q : Fin → Shared → Prop} (X : K.In s.heap) (L0 : Looks (model prog w) s.heap (typeOf (.ref x)) (.ref C)) (c : ErrC K C) (hq : Q (.done (.ret (.ref C))) s) :
    wpAny (model prog w) A (Builtin.«object.__getattribute__» ⟨[.ref x, .str "__class__" tk], []⟩) Q E s := by
  obtain ⟨hh, g, dr, t, os⟩ := s
  have L1 := looks_findIn (M := model prog w) X c.cl
  have hT5 : (⟨hh, g, dr, t, os⟩ : Shared).TypeIs (.builtin "object.__class__") "getset_descriptor" := F.typeOf_object_class
  have f5 := F.typeOf_object_class
  have f6 := F.slot_gs_get.lookup
  have f7 := F.slot_gs_set.lookup
  repeat (any_goals (first | assumption | with_reducible refine L0.at ?_ | with_reducible refine L1.at ?_ | wp_step))
  refine exc_class_get X L0 c.ob ?_
  repeat (any_goals (first | assumption | wp_step))
theorem exc_call {tk : Tok} (X : K.In s.heap) (L0 : Looks (model prog w) s.heap (typeOf (.ref x)) (.ref C)) (c : ErrC K C) (hq : R (.ok (.ret (.ref C))) s) :
    codeAny (model prog w) A (.call (.builtin "BaseException.__getattribute__") ⟨[.ref x, .str "__class__" tk], []⟩) R s :=
  codeAny_call_builtin F.attrBase_ValueError.ga.plain F.entry_bexc_ga (exc_check X L0 c.be (exc_entry X L0 c hq))
theorem exc_attr {Q : Option Value → Shared → Prop} (X : K.In s.heap) (L0 : Looks (model prog w) s.heap (typeOf (.ref x)) (.ref C)) (c : ErrC K C) (hq : Q (some (.ref C)) { s with toks := s.toks + 1 }) :
    wpAny (model prog w) A (getAttr? (.ref x) "__class__") Q E s := by
  obtain ⟨hh, g, dr, t, os⟩ := s
  have L1 := looks_findIn (M := model prog w) X c.ga
  have L2 := looks_findIn (M := model prog w) X c.gt
  have f3 := F.attrBase_ValueError.ga.bind (.ref x)
  have hx2 : (Value.builtin "BaseException.__getattribute__" == Value.builtin "object.__getattribute__") = false := by decide +kernel
  have hx1 : (onTheHeap (Value.ref C) && Value.builtin "BaseException.__getattribute__" == Value.builtin "object.__getattribute__") = false := by rw [hx2]; rfl
  unfold getAttr? getAttrBy? getAttrBy
  repeat (any_goals (first | assumption | with_reducible refine L0.at ?_ | with_reducible refine L1.at ?_ | with_reducible refine L2.at ?_ | wp_step))
  refine exc_call (s := ⟨hh, g, dr, t + 1, os⟩) X L0 c ?_
  repeat (any_goals (first | assumption | wp_step))
theorem kitx_exc (c : ErrC K C) : KitX K (.ref x) (.ref C) (L2.ExcAt x C) where
  ty := fun M h _ p => by
    obtain ⟨o, vs, h1, h2, _⟩ := p
    exact h2 ▸ (Looks.ld h1).andThen .now
  it := fun M h X _ => by
    intro A' Q' E' s' k q
    cases hc : clsIn K C with
    | none => exact absurd hc c.it
    | some cd =>
      unfold clsIn at hc
      split at hc
      · rename_i c' d' cd' sl' ho
        unfold isType loadHead
        exact wpAny_bind (wpAny_loadPart (k _ _ (X _ _ ho)) (wpAny_pure q))
      · cases hc
  ne := fun h tp dd its n sl X htp => by
    refine Bool.eq_false_iff.mpr fun q => ?_
    have e : C = tp := Value.ref.inj (beq_iff_eq.mp q)
    subst e
    cases hc : clsIn K C with
    | none => exact absurd hc c.it
    | some cd =>
      unfold clsIn at hc
      split at hc
      · rename_i c' d' cd' sl' ho
        have z := (X _ _ ho).symm.trans htp
        cases z
      · cases hc
  ca := fun {prog w A E Q s} X p k => by
    obtain ⟨o, vs, h1, h2, _⟩ := p
    exact exc_attr X (h2 ▸ (Looks.ld h1).andThen .now) c k
end
end PySem.W
namespace L2
open PySem PySem.Spec PyProof.Rows
section
variable {X : Cx}
/-- isinstance of a held exception: one class, or a tuple of classes -/
noncomputable def clsV : V → Value
  | .ty n => .type n
  | .ref a => .ref a
  | _ => .none
noncomputable def uIsiE (K : PySem.W.Frag) : List V → Hp → VK → Prop := u2 fun x y H Q => match x with
  | .ref e => ∃ C, H e = some (excO e C) ∧ PySem.W.ErrC K C ∧ match y with
    | .ty n => ∃ b, PySem.W.kitOne K (.ref C) (.type n) = some b ∧ Q (.bl b) H
    | .ref c => (∃ b, PySem.W.kitOne K (.ref C) (.ref c) = some b ∧ Q (.bl b) H) ∨ ∃ ys b, H c = some (.tup ys) ∧ PySem.W.kitAny K (.ref C) (ys.map clsV) = some b ∧ (∀ y ∈ ys, y = .ref (match y with | .ref a => a | _ => 0)) ∧ Q (.bl b) H
    | _ => False
  | _ => False
theorem vals_cls : ∀ {ys : List V} {us : List Value}, Vals ys us → (∀ y ∈ ys, y = .ref (match y with | .ref a => a | _ => 0)) → us = ys.map clsV
  | [], _, .nil, _ => rfl
  | y :: ys, _, .cons r t, h => by
    rw [List.map_cons, ← vals_cls t fun z hz => h z (List.mem_cons_of_mem _ hz)]
    have := h y List.mem_cons_self
    rw [this] at r ⊢
    cases r
    rfl
end
end L2

set_option Elab.async false
set_option linter.all false
set_option maxRecDepth 100000
set_option maxHeartbeats 4000000
namespace L2
open PySem PySem.Spec PyProof.Rows
theorem PS.nox {X : Cx} {st : Stmt} {t : TS} (h : PS X.nox st t) : PS X st t := fun pins s σ H D I hw =>
  wpAny_mono (h pins s σ H D (I.wish _) hw) (fun _ _ q => SP.unwish q) fun _ _ z => z.elim
/-! ### defs that run also within an except suite -/
structure RoomU (k : Nat) (A : Around) : Prop where
  dp : A.depth + 3 * k + 5 < recursionLimit
  un : A.units + 16 * k + 200 < cLine
structure FnOkU (P : Program) (w : World) (K : PySem.W.Frag) (mg : Str → Option Value) (base : Heap) (CX : CXT) (k : Nat) (f : Addr) (fd : FuncData) (ps : List Str) (sp : Sp) : Prop where
  len : ∀ vs H Q E, sp vs H Q E → vs.length = ps.length
  run : ∀ (A : Around) (outer : List Env) (s : Shared) (H : Hp) (args : Args) (us : List Value) (vs : List V) (Q : VK) (E : XK), RoomU k A → Env0 P w K mg base A outer s H → BindsTo s fd args (ps.zip us) → Vals vs us → sp vs H Q E →
    codeAny (model P w) A (.call (.ref f) args) (CR CX outer P w H s Q E) s
noncomputable abbrev cxU (CX : CXT) (P : Program) (w : World) (K : PySem.W.Frag) (mg : Str → Option Value) (base : Heap) (N : List Str) (qual : Str) (scope : Scope) (f : Addr) (cd : Value) (A : Around) (outer : List Env) (s : Shared) (H : Hp) (E : XK) : Cx :=
  { cxOf CX P w K mg base N qual scope f cd A outer s H E with calm := false }
/-! ### by a def's statement -/
section
variable {P : Program} {w : World} {K : PySem.W.Frag} {mg : Str → Option Value} {base : Heap} {x qual : Str} {st : Stmt} {f : Addr} {fd : FuncData} {N ps : List Str} {k : Nat} {sp : Sp}
/-- no exception leaves it -/
theorem Fun.okN (F : Fun K x qual st f fd) (S : FnScope N ps (defScope st)) (len : ∀ vs H Q E, sp vs H Q E → vs.length = ps.length)
    (hbody : ∀ (cdv : Value) (A : Around) (outer : List Env) (s : Shared) (H : Hp) (vs : List V) (Q : VK) (E : XK), Room k (A.deeper (envOfC qual (defScope st) s.heap.objs.size f cdv)) → sp vs H Q E →
      ∃ t, QSs (cxOf (CX1 P w) P w K mg base N qual (defScope st) f cdv A outer s H E).nox (defBody st) t ∧ t { nx := fun _ H' => Q .non H', rt := Q } (start N vs) H) : FnOk P w K mg base (CX1 P w) (k + 1) f fd ps sp := by
  obtain ⟨oc, od, kV, doc, pm, an, cdv, ct, osl, rfl, lk, hcd⟩ := F.ex
  refine fn_of lk hcd S len fun A outer s H vs Q E hr hsp => ?_
  obtain ⟨t, h, q⟩ := hbody cdv A outer s H vs Q E hr hsp
  exact ⟨t, h.run.nox, q⟩
/-- it may raise -/
theorem Fun.okX (F : Fun K x qual st f fd) (S : FnScope N ps (defScope st)) (len : ∀ vs H Q E, sp vs H Q E → vs.length = ps.length)
    (hbody : ∀ (cdv : Value) (A : Around) (outer : List Env) (s : Shared) (H : Hp) (vs : List V) (Q : VK) (E : XK), Room k (A.deeper (envOfC qual (defScope st) s.heap.objs.size f cdv)) → sp vs H Q E →
      ∃ t, QSs (cxOf (CX1 P w) P w K mg base N qual (defScope st) f cdv A outer s H E) (defBody st) t ∧ t { nx := fun _ H' => Q .non H', rt := Q } (start N vs) H) : FnOk P w K mg base (CX1 P w) (k + 1) f fd ps sp := by
  obtain ⟨oc, od, kV, doc, pm, an, cdv, ct, osl, rfl, lk, hcd⟩ := F.ex
  refine fn_of lk hcd S len fun A outer s H vs Q E hr hsp => ?_
  obtain ⟨t, h, q⟩ := hbody cdv A outer s H vs Q E hr hsp
  exact ⟨t, h.run, q⟩
end
structure GU (P : Program) (w : World) (K : PySem.W.Frag) (mg : Str → Option Value) (base : Heap) (CX : CXT) (x : Str) (ps : List Str) (k : Nat) (sp : Sp) : Prop where
  ex : ∃ f fd, mg x = some (.ref f) ∧ PySem.W.keepIn K (.ref f) = true ∧ Binds K fd ps [] ∧ FnOkU P w K mg base CX k f fd ps sp
section
variable {X : Cx} {CX : CXT} {x : Str} {ps : List Str} {k : Nat} {sp : Sp} {e : Expr} {es : List Expr} {t : TA} {p pos : Pos}
end
/-! ### as structures -/
structure QEX (X : Cx) (e : Expr) (t : TEX) : Prop where
  run : PEX (CX1 X.prog X.w) X e t
structure QSX (X : Cx) (st : List Stmt) (t : TSX) : Prop where
  run : PSX (CX1 X.prog X.w) X st t
section
variable {X : Cx} {e : Expr} {es : List Expr} {t : TA} {p pos np cpos hpos : Pos} {x n : Str} {ps : List Str} {k : Nat} {sp : Sp}
theorem q_nox {st : Stmt} {t : TS} (h : QS X.nox st t) : QS X st t := ⟨PS.nox h.run⟩
theorem q_raise {E : XK} {C : Addr} (hr : Raises X E) (hc : X.calm = true) (hm : X.mg x = some (.ref C)) (q : ExcC X.K C) (ha : QA X (e :: es) t) (hg : Gl X x := by rfl) (hdb : (x == ("__debug__" : Str)) = false := by decide)
    (hs : (e :: es).all notStar = true := by rfl) : QS X (.Raise (some (.Call (.Name x np) (e :: es) [] cpos)) none pos) (tRaise C E t) := ⟨ps_raise hr hc hm q ha.run hg hdb (se (seHd hs).1) (seAny (seHd hs).2)⟩
theorem q_xg (g : PG.G X.prog X.w X.K X.mg X.base (CX1 X.prog X.w) x ps k sp) (hr : Room k X.A) (ha : QA X.nox (e :: es) t) (hg : Gl X x := by rfl) (hdb : (x == ("__debug__" : Str)) = false := by decide) (hs : (e :: es).all notStar = true := by rfl) :
    QEX X (.Call (.Name x p) (e :: es) [] pos) (fun σ H Q E => t σ H fun vs H1 => sp (vs ++ []) H1 Q E) := by
  obtain ⟨f, fd, hm, hk, hb, F⟩ := g.ex
  exact ⟨pex_call F hr hg hm hk hb ha.run hdb (se (seHd hs).1) (seAny (seHd hs).2)⟩
theorem q_xexpr {t : TEX} (h : QEX X e t) (hs : swapsWith e none pos.line X.env = pure false := by rfl) : QSX X [.Expr e pos] (fun D E σ H => t σ H (fun _ H1 => D.nx σ H1) E) := ⟨psx_expr h.run hs⟩
end
end L2

set_option Elab.async false
set_option linter.all false
set_option maxRecDepth 100000
set_option maxHeartbeats 4000000
namespace L2
open PySem PySem.Spec PyProof.Rows
section
variable {X : Cx} {pins : List (Addr × Obj)} {σ : St} {H H' : Hp} {s s' : Shared}
end
/-! ### zip(a, b), walked by pairs -/
noncomputable def Itz (K : PySem.W.Frag) (a b : Addr) : It where
  go := fun i H => ∃ xs ys x y, SqL K H a xs ∧ SqL K H b ys ∧ xs[i]? = some x ∧ ys[i]? = some y
  yld := fun i H v H' => ∃ T x y, v = .ref T ∧ H T = none ∧ H' = upd H T (.tup [x, y]) ∧ (∀ xs, SqL K H a xs → xs[i]? = some x) ∧ ∀ ys, SqL K H b ys → ys[i]? = some y
  stop := fun i H => ∃ xs ys, SqL K H a xs ∧ SqL K H b ys ∧ (xs.length ≤ i ∨ ys.length ≤ i)
section
variable {X : Cx} {a b : Expr} {ta : TA} {p pos tpos : Pos} {elts : List Expr} {x1 : Nat} {K : PySem.W.Frag}
noncomputable def uiZip (K : PySem.W.Frag) (ta : TA) : TI := fun σ H R => ta σ H fun vs H1 => match vs with
  | [.ref l1, .ref l2] => ∃ xs ys, SqL K H1 l1 xs ∧ SqL K H1 l2 ys ∧ R (Itz K l1 l2) H1
  | _ => False
end
end L2

set_option Elab.async false
set_option linter.all false
set_option maxRecDepth 100000
set_option maxHeartbeats 4000000
namespace L2
open PySem PySem.Spec PyProof.Rows
noncomputable def numV : V → Int
  | .int i => i
  | .bl b => if b = true then 1 else 0
  | _ => 0
noncomputable def isNumB : V → Bool
  | .int _ => true
  | .bl _ => true
  | _ => false
section
variable {X : Cx}
/-- sum of ints and truths -/
noncomputable def uSum (K : PySem.W.Frag) : List V → Hp → VK → Prop := u1 fun x H Q => match x with
  | .ref p => ∃ xs, SqL K H p xs ∧ xs.all isNumB = true ∧ Q (.int (xs.map numV).sum) H
  | _ => False
end

section
variable {X : Cx}
/-- sorted of few ints -/
noncomputable def uSorted (K : PySem.W.Frag) : List V → Hp → VK → Prop := u1 fun x H Q => match x with
  | .ref p => ∃ ns : List Int, SqL K H p (ns.map V.int) ∧ ns.length < 64 ∧ ∀ (l : Addr) (ms : List Int), H l = none → ms.Perm ns → ms.Pairwise (· ≤ ·) → Q (.ref l) (upd H l (.lst (ms.map V.int)))
  | _ => False
theorem uc_sorted_0 : CallR X (.builtin "sorted") (uSorted X.K) := by
  intro pins s σ H xs us Q I r h
  obtain ⟨x, rfl, h⟩ := u1_of h
  cases x with
  | ref p =>
    obtain ⟨ns, hq, h64, q⟩ := h
    obtain ⟨u, rfl, rx⟩ := vals1 r
    cases rx
    obtain ⟨its, r', pl, hz⟩ := I.list hq
    have hlen := r'.length
    rw [List.length_map] at hlen hz
    refine PyProof.Rows.sorted_ints pl.isList (intsAre_of r') (by omega) fun out ns' a1 a2 a3 => ?_
    obtain ⟨e, he⟩ := PyProof.Rows.sortedAll_at s.heap its out
    refine ⟨.ref (s.heap.objs.size + 1), _, I.laid (t' := s.toks) (fun _ _ => PyProof.Rows.sortedAll_old) (Nat.le_succ _) (show ObjOk X.prog X.w _ _ _ (.lst (ns'.map V.int)) from ⟨by rw [List.length_map, a2.length_eq]; exact hz, out.toList, e, vals_ints a1, by rw [Array.toArray_toList]; exact he⟩), rfl, q _ _ (I.hok.fresh (Nat.le_succ _)) a2 a3⟩
  | _ => exact False.elim h
theorem uc_sorted {K : PySem.W.Frag} (hc : X.calm = true) (hK : X.K = K := by rfl) : CallR X (.builtin "sorted") (uSorted K) := by subst hK; exact uc_sorted_0
end
end L2

set_option Elab.async false
set_option linter.all false
set_option maxRecDepth 100000
set_option maxHeartbeats 4000000
namespace PG
open PySem L2 PyProof.Rows
noncomputable def CoinsV (xs : List V) : Prop := ∃ ns : List Int, xs = ns.map V.int ∧ Coins ns
noncomputable def PayV (n : Nat) (ys : List V) : Prop := ∃ ms : List Int, ys = ms.map V.int ∧ ms.length = n ∧ ∀ m ∈ ms, 0 ≤ m
noncomputable def dot : List Int → List Int → Int
  | n :: ns, m :: ms => n * m + dot ns ms
  | _, _ => 0
theorem dot_append : ∀ (ns ms : List Int) (n m : Int), ns.length = ms.length → dot (ns ++ [n]) (ms ++ [m]) = dot ns ms + n * m
  | [], [], n, m, _ => by simp [dot]
  | [], _ :: _, _, _, h => by cases h
  | _ :: _, [], _, _, h => by cases h
  | a :: ns, b :: ms, n, m, h => by
    show a * b + dot (ns ++ [n]) (ms ++ [m]) = a * b + dot ns ms + n * m
    rw [dot_append ns ms n m (by simpa using h)]
    omega
noncomputable def isPayV : V → Bool
  | .int i => decide (0 ≤ i)
  | _ => false
/-! ### promises that speak of refusals -/
noncomputable def sCoin : Sp := fun vs H Q _ => match vs with
  | [x] => Kn H x ∧ Q (.bl (isCoinV x)) H
  | _ => False
noncomputable def sCheckC (K : PySem.W.Frag) (c : Addr) : Sp := fun vs H Q E => match vs with
  | [.ref a] => ∃ xs, SqL K H a xs ∧ (∀ x ∈ xs, Kn H x) ∧ (CoinsV xs → ∀ H', Same H H' → Q .non H') ∧ (¬ CoinsV xs → ∀ H', Same H H' → E (.ref c) none H')
  | _ => False
noncomputable def sCheckP (K : PySem.W.Frag) (c : Addr) : Sp := fun vs H Q E => match vs with
  | [.ref a, .ref b] => ∃ xs ys, SqL K H a xs ∧ SqL K H b ys ∧ (∀ y ∈ ys, Kn H y) ∧ ys.length ≤ 2000 ∧ (PayV xs.length ys → ∀ H', Same H H' → Q .non H') ∧ (¬ PayV xs.length ys → ∀ H', Same H H' → E (.ref c) none H')
  | _ => False
noncomputable def sSumPaid (K : PySem.W.Frag) (c1 c2 : Addr) : Sp := fun vs H Q E => match vs with
  | [.ref a, .ref b] => ∃ xs ys, SqL K H a xs ∧ SqL K H b ys ∧ (∀ x ∈ xs, Kn H x) ∧ (∀ y ∈ ys, Kn H y) ∧ ys.length ≤ 2000 ∧
    (∀ ns ms : List Int, xs = ns.map V.int → Coins ns → ys = ms.map V.int → ms.length = ns.length → (∀ m ∈ ms, 0 ≤ m) → ∀ H', Same H H' → Q (.int (dot ns ms)) H') ∧
    (¬ CoinsV xs → ∀ H', Same H H' → E (.ref c1) none H') ∧ (CoinsV xs → ¬ PayV xs.length ys → ∀ H', Same H H' → E (.ref c2) none H')
  | _ => False
/-- coins that are drawn, from the script's place on -/
noncomputable def sCoinsL (K : PySem.W.Frag) : Sp := fun vs H Q _ => match vs with
  | [.ref a, .int st, .int far, .int most] => ∃ ns, LI K H a ns ∧ ns.length ≤ 63 ∧ (0 ≤ st ∧ st ≤ 1000) ∧ (1 ≤ far ∧ far ≤ 1000000) ∧ (1 ≤ most ∧ most ≤ 1000) ∧
    ∀ (p : Addr) (cs : List Int) (H' : Hp), Same H H' → H p = none → H' p = some (.lst (cs.map V.int)) → 1 ≤ cs.length → (cs.length : Int) ≤ most → (∀ c ∈ cs, 1 ≤ c ∧ c ≤ far) → cs.Nodup → Q (.ref p) H'
  | _ => False
/-- whether the held exception is this one alone -/
noncomputable def sOnly (K : PySem.W.Frag) (c : Addr) : Sp := fun vs H Q _ => match vs with
  | [.ref e] => H e = some (excO e c) ∧ ∀ H', Same H H' → Q (.bl true) H'
  | _ => False
noncomputable def sTaken (K : PySem.W.Frag) : Sp := fun vs H Q _ => match vs with
  | [.ref a, .int m] => ∃ ns, LI K H a ns ∧ (0 ≤ m ∧ m ≤ 63) ∧ ∀ (p : Addr) (ts : List Int) (H' : Hp), Same H H' → H p = none → H' p = some (.lst (ts.map V.int)) → (ts.length : Int) = m → (∀ t ∈ ts, 0 ≤ t) → Q (.ref p) H'
  | _ => False
noncomputable def sBad (K : PySem.W.Frag) : Sp := fun vs H Q _ => match vs with
  | [.ref a, .int k] => ∃ ts : List Int, H a = some (.lst (ts.map V.int)) ∧ (1 ≤ ts.length ∧ ts.length ≤ 40) ∧ 0 ≤ k ∧
    ∀ (p : Addr) (ys : List V) (H' : Hp), Same H H' → H p = none → H' p = some (.lst ys) → (∀ y ∈ ys, Kn H' y) → ys.length ≤ 100 → ¬ PayV ts.length ys → Q (.ref p) H'
  | _ => False
noncomputable def sRefused (K : PySem.W.Frag) : Sp := fun vs H Q _ => match vs with
  | [.ref a, .ref b] => ∃ xs ys, SqL K H a xs ∧ SqL K H b ys ∧ (∀ x ∈ xs, Kn H x) ∧ (∀ y ∈ ys, Kn H y) ∧ ys.length ≤ 2000 ∧ CoinsV xs ∧ ¬ PayV xs.length ys ∧ ∀ H', Same H H' → Q (.bl true) H'
  | _ => False
noncomputable def sNoCoins (K : PySem.W.Frag) : Sp := fun vs H Q _ => match vs with
  | [.ref a, .ref b] => ∃ xs ys, SqL K H a xs ∧ SqL K H b ys ∧ (∀ x ∈ xs, Kn H x) ∧ (∀ y ∈ ys, Kn H y) ∧ ys.length ≤ 2000 ∧ ¬ CoinsV xs ∧ ∀ H', Same H H' → Q (.bl true) H'
  | _ => False
/-! ### slices, and lists held against each other -/
theorem cutV_drop (xs : List V) (t : Nat) : cutV xs (some (t : Int)) none = xs.drop t := by
  unfold cutV
  rw [HT.sIx_nat, HT.sIx_none]
  rcases Nat.le_total t xs.length with h | h
  · rw [Nat.min_eq_left h, List.take_of_length_le (by rw [List.length_drop]; omega)]
  · rw [Nat.min_eq_right h, List.drop_of_length_le (Nat.le_refl _), List.drop_of_length_le h, List.take_nil]
theorem all_true (n : Nat) : (List.range n).all (fun _ => true) = true := by simp
theorem neSelf {K : PySem.W.Frag} {H : Hp} {Q : VK} {a b : Addr} {xs ys : List V} (ha : SqL K H a xs) (hb : SqL K H b ys) (hl : xs.length = ys.length) (he : ∀ (j : Nat) x y, xs[j]? = some x → ys[j]? = some y → EqV K H 3 x y true) (q : Q (.bl false) H) : rEqL K true (.ref a) (.ref b) H Q := by
  refine ⟨a, b, xs, ys, rfl, rfl, ha, hb, .inl ⟨hl, fun _ => true, he, ?_⟩⟩
  rw [all_true]
  exact q
/-! ### what coins are told -/
theorem filter_one {c : Int} : ∀ {l : List Int}, l.Nodup → l.length ≤ (l.filter fun x => decide (x ≠ c)).length + 1
  | [], _ => by simp
  | x :: r, h => by
    have hr := (List.nodup_cons.mp h)
    by_cases e : x = c
    · subst e
      have : (r.filter fun y => decide (y ≠ x)) = r := List.filter_eq_self.mpr fun y hy => decide_eq_true (fun z => hr.1 (z ▸ hy))
      rw [List.filter_cons, this]
      simp
    · have := filter_one (c := c) hr.2
      rw [List.filter_cons, if_pos (decide_eq_true e)]
      simp only [List.length_cons]
      omega
noncomputable def sCoinList (K : PySem.W.Frag) (c : Addr) : Sp := fun vs H Q E => match vs with
  | [.ref a] => ∃ xs, SqL K H a xs ∧ (∀ x ∈ xs, Kn H x) ∧ (∀ ns : List Int, xs = ns.map V.int → Coins ns → ∀ (p : Addr) (ms : List Int) (H' : Hp), Same H H' → H p = none → H' p = some (.lst (ms.map V.int)) → ms.Perm ns → ms.Pairwise (· ≤ ·) → Q (.ref p) H') ∧ (¬ CoinsV xs → ∀ H', Same H H' → E (.ref c) none H')
  | _ => False
noncomputable def sShareBad (K : PySem.W.Frag) (c : Addr) : Sp := fun vs H _ E => match vs with
  | [.ref a] => ∃ xs, SqL K H a xs ∧ (∀ x ∈ xs, Kn H x) ∧ ¬ CoinsV xs ∧ ∀ H', Same H H' → E (.ref c) none H'
  | _ => False
noncomputable def sAsked (K : PySem.W.Frag) (c : Addr) : Sp := fun vs H _ E => match vs with
  | [.int _, .ref a] => ∃ xs, SqL K H a xs ∧ (∀ x ∈ xs, Kn H x) ∧ xs.length ≤ 2000 ∧ ¬ CoinsV xs ∧ ∀ H', Same H H' → E (.ref c) none H'
  | _ => False
noncomputable def sRefusedC (K : PySem.W.Frag) : Sp := fun vs H Q _ => match vs with
  | [.int _, .ref a] => ∃ xs, SqL K H a xs ∧ (∀ x ∈ xs, Kn H x) ∧ xs.length ≤ 2000 ∧ ¬ CoinsV xs ∧ ∀ H', Same H H' → Q (.bl true) H'
  | _ => False
noncomputable def sBadC (K : PySem.W.Frag) : Sp := fun vs H Q _ => match vs with
  | [.ref a, .int k] => ∃ cs : List Int, H a = some (.lst (cs.map V.int)) ∧ Coins cs ∧ 0 ≤ k ∧
    ∀ (p : Addr) (ys : List V) (H' : Hp), Same H H' → H p = none → H' p = some (.lst ys) → (∀ y ∈ ys, Kn H' y) → ys.length ≤ 100 → ¬ CoinsV ys → Q (.ref p) H'
  | _ => False
noncomputable def sRising (K : PySem.W.Frag) : Sp := fun vs H Q _ => match vs with
  | [.ref f, .ref c] => ∃ ms cs : List Int, H f = some (.lst (ms.map V.int)) ∧ SqL K H c (cs.map V.int) ∧ ms.length ≤ 1000 ∧ ms.length = cs.length ∧ (∀ m ∈ ms, m ∈ cs) ∧ ms.Pairwise (· < ·) ∧ Q (.bl true) H
  | _ => False
theorem eqSelfL {K : PySem.W.Frag} {H : Hp} {Q : VK} {a b : Addr} {xs ys : List V} (ha : SqL K H a xs) (hb : SqL K H b ys) (hl : xs.length = ys.length) (he : ∀ (j : Nat) x y, xs[j]? = some x → ys[j]? = some y → EqV K H 3 x y true) (q : Q (.bl true) H) : rEqL K false (.ref a) (.ref b) H Q := by
  refine ⟨a, b, xs, ys, rfl, rfl, ha, hb, .inl ⟨hl, fun _ => true, he, ?_⟩⟩
  rw [all_true]
  exact q
end PG

set_option Elab.async false
set_option linter.all false
set_option maxRecDepth 100000
set_option maxHeartbeats 4000000
namespace L2
open PySem PySem.Spec PyProof.Rows
/-! ### enumerate(a), walked by pairs -/
noncomputable def Ite (K : PySem.W.Frag) (a : Addr) : It where
  go := fun i H => ∃ xs x, SqL K H a xs ∧ xs[i]? = some x
  yld := fun i H v H' => ∃ T x, v = .ref T ∧ H T = none ∧ H' = upd H T (.tup [.int (i : Int), x]) ∧ ∀ xs, SqL K H a xs → xs[i]? = some x
  stop := fun i H => ∃ xs, SqL K H a xs ∧ xs.length ≤ i
section
variable {X : Cx} {a : Expr} {ta : TA} {p pos tpos : Pos} {elts : List Expr} {x1 : Nat} {K : PySem.W.Frag}
noncomputable def uiEnum (K : PySem.W.Frag) (ta : TA) : TI := fun σ H R => ta σ H fun vs H1 => match vs with
  | [.ref l1] => ∃ xs, SqL K H1 l1 xs ∧ R (Ite K l1) H1
  | _ => False
end
/-! ### list.index of ints -/
section
variable {X : Cx}
noncomputable def uIndex (K : PySem.W.Frag) : V → List V → Hp → VK → Prop := fun x vs H Q => match x, vs with
  | .ref l, [.int k] => ∃ ns : List Int, SqL K H l (ns.map V.int) ∧ k ∈ ns ∧ Q (.int (ns.idxOf k : Nat)) H
  | _, _ => False
noncomputable def isIntK (k : Int) : Value → Bool
  | .int a _ => a == k
  | _ => false
/-! ### sorted(e, reverse=True) -/
noncomputable def uSortedR (K : PySem.W.Frag) : List V → Hp → VK → Prop := u1 fun x H Q => match x with
  | .ref p => ∃ ns : List Int, SqL K H p (ns.map V.int) ∧ ns.length < 64 ∧ ∀ (l : Addr) (ms : List Int), H l = none → ms.Perm ns → ms.Pairwise (· ≥ ·) → Q (.ref l) (upd H l (.lst (ms.map V.int)))
  | _ => False
/-! ### min, max of two; int of a truth -/
noncomputable def uMin2 : List V → Hp → VK → Prop := u2 fun x y H Q => match x, y with
  | .int i, .int j => Q (.int (if j < i then j else i)) H
  | _, _ => False
noncomputable def uMax2 : List V → Hp → VK → Prop := u2 fun x y H Q => match x, y with
  | .int i, .int j => Q (.int (if j > i then j else i)) H
  | _, _ => False
noncomputable def uInt : List V → Hp → VK → Prop := u1 fun x H Q => match x with
  | .int i => Q (.int i) H
  | .bl k => Q (.int (if k then 1 else 0)) H
  | _ => False
theorem uc_int : CallR X (.type "int") uInt := call_int1.imp fun xs H Q h => by
  obtain ⟨x, rfl, h⟩ := u1_of h
  cases x <;> first
    | exact False.elim h
    | exact .inl ⟨_, rfl, h⟩
    | exact .inr ⟨_, rfl, h⟩
/-! ### products of many figures -/
noncomputable def uMulB : R2 := fun x y H Q => match x, y with
  | .int i, .int j => IntMulOk i j ∧ Q (.int (i * j)) H
  | _, _ => False
end
end L2

set_option Elab.async false
set_option linter.all false
set_option maxRecDepth 100000
set_option maxHeartbeats 4000000
namespace PG
open PySem L2 PyProof.Rows
/-! ### lists by places -/
theorem range_get {α : Type} (xs : List α) (d : α) : (List.range xs.length).map (fun i => xs.getD i d) = xs := by
  apply List.ext_getElem
  · simp
  · intro i h1 h2
    have hi : i < xs.length := by simpa using h1
    simp [List.getD_eq_getElem?_getD, hi]
theorem range_filter_map {α β : Type} (xs : List α) (d : α) (p : α → Bool) (f : α → β) : ((List.range xs.length).filter (fun i => p (xs.getD i d))).map (fun i => f (xs.getD i d)) = (xs.filter p).map f := by
  have e := congrArg (fun l => (l.filter p).map f) (range_get xs d)
  rw [← e]
  simp only [List.filter_map, List.map_map]
  rfl
/-! ### fewest numbers -/
noncomputable def IsNext (ks : List Int) (o : Option Int) : Prop := (ks = [] ∧ o = none) ∨ ∃ m, m ∈ ks ∧ (∀ n ∈ ks, m ≤ n) ∧ o = some (m + 1)
noncomputable def before (cs : List Int) (fs : List (Option Int)) (a : Nat) : List (Option Int) := (cs.filter fun c => decide (c ≤ (a : Int))).map fun c => fs.getD ((a : Int) - c).toNat none
noncomputable def known (cs : List Int) (fs : List (Option Int)) (a : Nat) : List Int := (before cs fs a).filterMap id
noncomputable def FewP (cs : List Int) (fs : List (Option Int)) : Prop := fs[0]? = some (some 0) ∧ ∀ a : Nat, 1 ≤ a → a < fs.length → IsNext (known cs fs a) (fs.getD a none)
theorem before_app {cs : List Int} (hc : ∀ c ∈ cs, 1 ≤ c) {fs gs : List (Option Int)} {a : Nat} (ha : a ≤ fs.length) : before cs (fs ++ gs) a = before cs fs a := by
  unfold before
  apply List.map_congr_left
  intro c h
  rw [List.mem_filter] at h
  have h1 := hc c h.1
  have h2 := of_decide_eq_true h.2
  rw [List.getD_eq_getElem?_getD, List.getD_eq_getElem?_getD, List.getElem?_append_left (by omega)]
theorem FewP.snoc {cs : List Int} (hc : ∀ c ∈ cs, 1 ≤ c) {fs : List (Option Int)} {o : Option Int} (h : FewP cs fs) (hn : IsNext (known cs fs fs.length) o) : FewP cs (fs ++ [o]) := by
  have l0 : 0 < fs.length := by
    have := h.1
    rcases Nat.eq_zero_or_pos fs.length with z | z
    · rw [List.eq_nil_of_length_eq_zero z] at this; cases this
    · exact z
  refine ⟨by rw [List.getElem?_append_left l0]; exact h.1, fun a a1 a2 => ?_⟩
  rw [List.length_append, List.length_singleton] at a2
  unfold known
  rw [before_app hc (by omega)]
  by_cases e : a = fs.length
  · subst e
    rw [List.getD_eq_getElem?_getD, List.getElem?_append_right (by omega)]
    have hn' : IsNext ((before cs fs fs.length).filterMap id) o := hn
    simpa using hn'
  · rw [List.getD_eq_getElem?_getD, List.getElem?_append_left (by omega)]
    exact h.2 a a1 (by omega)
theorem FewP.start (cs : List Int) : FewP cs [some 0] := ⟨rfl, fun a a1 a2 => by simp at a2; omega⟩
/-! ### promises without refusals -/
noncomputable def sCheck0 (K : PySem.W.Frag) : Sp := fun vs H Q _ => match vs with
  | [.ref a] => ∃ ns, LI K H a ns ∧ Coins ns ∧ ∀ H', Same H H' → Q .non H'
  | _ => False
noncomputable def sFrom0 : Sp := fun vs H Q _ => match vs with
  | [.int l, .int n] => l ≤ n ∧ Q .non H
  | _ => False
noncomputable def sListed0 : Sp := fun vs H Q _ => match vs with
  | [.int n] => n ≤ 2000 ∧ Q .non H
  | _ => False
noncomputable def sSum0 : Sp := fun vs H Q _ => match vs with
  | [.int n] => Q .non H
  | _ => False
noncomputable def sFewNums (K : PySem.W.Frag) : Sp := fun vs H Q _ => match vs with
  | [.ref a, .int m] => ∃ cs, LI K H a cs ∧ ((∀ c ∈ cs, 1 ≤ c) ∧ cs.length ≤ 1000) ∧ (0 ≤ m ∧ m ≤ 4000) ∧
    ∀ (p : Addr) (fs : List (Option Int)) (H' : Hp), Same H H' → H p = none → H' p = some (.lst (fs.map toV)) → FewP cs fs → (fs.length : Int) = m + 1 → Q (.ref p) H'
  | _ => False
noncomputable def sFewList (K : PySem.W.Frag) : Sp := fun vs H Q _ => match vs with
  | [.ref a, .int m] => ∃ cs, LI K H a cs ∧ Coins cs ∧ (0 ≤ m ∧ m ≤ 2000) ∧
    ∀ (p : Addr) (fs : List (Option Int)) (H' : Hp), Same H H' → H p = none → H' p = some (.lst (fs.map toV)) → FewP cs fs → (fs.length : Int) = m + 1 → Q (.ref p) H'
  | _ => False
noncomputable def sFollow (K : PySem.W.Frag) : Sp := fun vs H Q _ => match vs with
  | [.ref a, .ref b] => ∃ cs fs, LI K H a cs ∧ SqL K H b (fs.map toV) ∧ ((∀ c ∈ cs, 1 ≤ c) ∧ cs.length ≤ 1000) ∧ 0 < fs.length ∧
    ∀ (o : Option Int) (H' : Hp), Same H H' → IsNext (known cs fs fs.length) o → Q (toV o) H'
  | _ => False
noncomputable def mix (a b : Int) : Int := (a + b) * 1103515245 % 4294967291
noncomputable def sMix : Sp := fun vs H Q _ => match vs with
  | [.int a, .int b] => Q (.int (mix a b)) H
  | _ => False
/-- unlike numbers, drawn -/
noncomputable def sSome (K : PySem.W.Frag) : Sp := fun vs H Q _ => match vs with
  | [.ref a, .int st, .int most, .int far] => ∃ ns, LI K H a ns ∧ (0 ≤ st ∧ st ≤ 1000) ∧ (1 ≤ most ∧ most ≤ 100) ∧ (1 ≤ far ∧ far ≤ 1000000) ∧
    ∀ (p : Addr) (cs : List Int) (H' : Hp), Same H H' → H p = none → H' p = some (.lst (cs.map V.int)) → 1 ≤ cs.length → (cs.length : Int) ≤ most → (∀ c ∈ cs, 1 ≤ c ∧ c ≤ far) → cs.Nodup → Q (.ref p) H'
  | _ => False
/-- what a sum asks of a fewest paying -/
noncomputable def FewAns (cs : List Int) (n : Int) (H : Hp) (Q : VK) : Prop :=
  (∀ fs, FewP cs fs → n < fs.length → fs.getD n.toNat none = none → ∀ H', Same H H' → Q .non H') ∧
  (∀ fs k, FewP cs fs → n < fs.length → fs.getD n.toNat none = some k → ∀ (p : Addr) (ps : List Int) (H' : Hp), Same H H' → H p = none → H' p = some (.lst (ps.map V.int)) → ps.length = cs.length → (∀ x ∈ ps, 0 ≤ x) → dot cs ps = n → ps.sum = k → Q (.ref p) H')
noncomputable def sFewPay (K : PySem.W.Frag) : Sp := fun vs H Q _ => match vs with
  | [.ref a, .int n] => ∃ cs, LI K H a cs ∧ ((∀ c ∈ cs, 1 ≤ c) ∧ cs.length ≤ 1000) ∧ (0 ≤ n ∧ n ≤ 4000) ∧ FewAns cs n H Q
  | _ => False
noncomputable def sFewest (K : PySem.W.Frag) : Sp := fun vs H Q _ => match vs with
  | [.ref a, .int n] => ∃ cs, LI K H a cs ∧ Coins cs ∧ n ≤ 2000 ∧ (n < 0 → ∀ H', Same H H' → Q .non H') ∧ (0 ≤ n → FewAns cs n H Q)
  | _ => False
noncomputable def sPlace (K : PySem.W.Frag) : Sp := fun vs H Q _ => match vs with
  | [.ref a, .ref b, .int n] => ∃ cs fs j, LI K H a cs ∧ SqL K H b (fs.map toV) ∧ (∀ c ∈ cs, 1 ≤ c) ∧ FewP cs fs ∧ (1 ≤ n ∧ n < fs.length) ∧ fs.getD n.toNat none = some j ∧
    ∀ (i : Nat) (c : Int) (H' : Hp), Same H H' → cs[i]? = some c → c ≤ n → fs.getD (n - c).toNat none = some (j - 1) → Q (.int i) H'
  | _ => False
theorem dot_set : ∀ (cs ps : List Int) (i : Nat) (c x t : Int), cs[i]? = some c → ps[i]? = some x → dot cs (ps.set i (x + t)) = dot cs ps + c * t
  | [], _, i, _, _, _, h, _ => by simp at h
  | _ :: _, [], i, _, _, _, _, h => by simp at h
  | a :: cs, b :: ps, 0, c, x, t, h1, h2 => by
    simp at h1 h2
    subst h1 h2
    simp only [List.set_cons_zero, dot]
    rw [Int.mul_add]
    omega
  | a :: cs, b :: ps, i + 1, c, x, t, h1, h2 => by
    have ih := dot_set cs ps i c x t (by simpa using h1) (by simpa using h2)
    simp only [List.set_cons_succ, dot]
    rw [ih]
    omega
theorem sum_set : ∀ (ps : List Int) (i : Nat) (x t : Int), ps[i]? = some x → (ps.set i (x + t)).sum = ps.sum + t
  | [], i, _, _, h => by simp at h
  | b :: ps, 0, x, t, h => by
    simp at h
    subst h
    simp only [List.set_cons_zero, List.sum_cons]
    omega
  | b :: ps, i + 1, x, t, h => by
    have ih := sum_set ps i x t (by simpa using h)
    simp only [List.set_cons_succ, List.sum_cons, ih]
    omega
noncomputable def sNums32 (K : PySem.W.Frag) : Sp := fun vs H Q _ => match vs with
  | [.ref a, .int m] => ∃ cs, LI K H a cs ∧ ((∀ c ∈ cs, 1 ≤ c) ∧ cs.length ≤ 1000) ∧ (0 ≤ m ∧ m ≤ 4000) ∧
    ∀ (p : Addr) (fs : List (Option Int)) (H' : Hp), Same H H' → H p = none → H' p = some (.lst (fs.map toV)) → FewP cs fs → (fs.length : Int) = m + 1 → Q (.ref p) H'
  | _ => False
noncomputable def sGood32 (K : PySem.W.Frag) : Sp := fun vs H Q _ => match vs with
  | [x, .ref a, .int n, .ref b] => ∃ (cs : List Int) (fs : List (Option Int)), LI K H a cs ∧ cs.length ≤ 1000 ∧ SqL K H b (fs.map toV) ∧ n < fs.length ∧
    ((n < 0 ∨ fs.getD n.toNat none = none) → x = .non) ∧ (0 ≤ n → ∀ k, fs.getD n.toNat none = some k → ∃ (p : Addr) (ps : List Int), x = .ref p ∧ H p = some (.lst (ps.map V.int)) ∧ ps.length = cs.length ∧ (∀ y ∈ ps, 0 ≤ y) ∧ dot cs ps = n ∧ ps.sum = k) ∧
    (∀ c ∈ cs, 1 ≤ c ∧ c ≤ 1000) ∧ ∀ H', Same H H' → Q (.bl true) H'
  | _ => False
noncomputable def sGood31 (K : PySem.W.Frag) : Sp := fun vs H Q _ => match vs with
  | [.ref f, .ref a, .int m] => ∃ cs fs, H f = some (.lst (fs.map toV)) ∧ LI K H a cs ∧ ((∀ c ∈ cs, 1 ≤ c) ∧ cs.length ≤ 1000) ∧ FewP cs fs ∧ ((fs.length : Int) = m + 1 ∧ m ≤ 4000) ∧
    ∀ H', Same H H' → Q (.bl true) H'
  | _ => False
end PG

set_option Elab.async false
set_option linter.all false
set_option maxRecDepth 100000
set_option maxHeartbeats 4000000
namespace PG
open PySem L2 PyProof.Rows
/-! ### the greatest first -/
noncomputable def gStep (cs : List Int) (s : List Int × Int) (d : Int) : List Int × Int := (s.1.set (cs.idxOf d) (s.2 / d), s.2 % d)
noncomputable def gRun (cs ds : List Int) (s : List Int × Int) : List Int × Int := ds.foldl (gStep cs) s
noncomputable def dsc (cs : List Int) : List Int := cs.mergeSort fun a b => decide (b ≤ a)
noncomputable def gRes (cs : List Int) (n : Int) : List Int × Int := gRun cs (dsc cs) (List.replicate cs.length 0, n)
noncomputable def gAns (cs : List Int) (n : Int) : Option (List Int) := if n < 0 then none else if 0 < (gRes cs n).2 then none else some (gRes cs n).1
/-- what is told: None, or a new list of numbers -/
noncomputable def TOld (H : Hp) (v : V) (H' : Hp) : Option (List Int) → Prop
  | none => v = .non
  | some ps => ∃ p : Addr, v = .ref p ∧ H p = none ∧ H' p = some (.lst (ps.map V.int))
noncomputable def sGreedy (K : PySem.W.Frag) : Sp := fun vs H Q _ => match vs with
  | [.ref a, .int n] => ∃ cs, LI K H a cs ∧ Coins cs ∧ ∀ (v : V) (H' : Hp), Same H H' → TOld H v H' (gAns cs n) → Q v H'
  | _ => False
noncomputable def sGreedyP (K : PySem.W.Frag) : Sp := fun vs H Q _ => match vs with
  | [.ref a, .int n] => ∃ cs, LI K H a cs ∧ Coins cs ∧ 0 ≤ n ∧ ∀ (v : V) (H' : Hp), Same H H' → TOld H v H' (gAns cs n) → Q v H'
  | _ => False
noncomputable def sAmount33 : Sp := fun vs H Q _ => match vs with
  | [.int c] => (0 ≤ c ∧ c < 4294967296) ∧ ∀ n : Int, Q (.int n) H
  | _ => False
noncomputable def sGood33 (K : PySem.W.Frag) : Sp := fun vs H Q _ => match vs with
  | [x, y] => ((x = .non ∧ y = .non) ∨ ∃ (p r : Addr) (ps : List Int), x = .ref p ∧ y = .ref r ∧ H p = some (.lst (ps.map V.int)) ∧ H r = some (.lst (ps.map V.int)) ∧ ps.length ≤ 1000) ∧ ∀ H', Same H H' → Q (.bl true) H'
  | _ => False
end PG

set_option Elab.async false
set_option linter.all false
set_option maxRecDepth 100000
set_option maxHeartbeats 4000000
namespace L2
open PySem PySem.Spec PyProof.Rows
/-! ### xs[::-1] -/
section
variable {X : Cx} {K : PySem.W.Frag} {e : Expr} {te : TE} {pos p2 p3 p4 : Pos} {j : Nat}
noncomputable def tRevU (K : PySem.W.Frag) (te : TE) : TE := fun σ H Q => te σ H fun x H1 => match x with
  | .ref a => ∃ xs, SqL K H1 a xs ∧ ∀ p, H1 p = none → Q (.ref p) (upd H1 p (.lst xs.reverse))
  | _ => False
end
end L2

set_option Elab.async false
set_option linter.all false
namespace PG
/-! ### ways, sum by sum -/
noncomputable def wD (c : Nat) (F : Nat → Int) (n : Nat) : Int := if h : 0 < c ∧ c ≤ n then F n + wD c F (n - c) else F n
termination_by n
decreasing_by omega
theorem wD_ge {c : Nat} {F : Nat → Int} {n : Nat} (h0 : 0 < c) (h : c ≤ n) : wD c F n = F n + wD c F (n - c) := by rw [wD, dif_pos ⟨h0, h⟩]
theorem wD_lt {c : Nat} {F : Nat → Int} {n : Nat} (h : n < c) : wD c F n = F n := by rw [wD, dif_neg (by omega)]
noncomputable def wS (c : Nat) (G : Nat → Int) (n : Nat) : Int := G n - if c ≤ n then G (n - c) else 0
theorem wS_wD {c : Nat} (h0 : 0 < c) (F : Nat → Int) : wS c (wD c F) = F := by
  funext n
  unfold wS
  by_cases h : c ≤ n
  · rw [if_pos h, wD_ge h0 h]; omega
  · rw [if_neg h, wD_lt (by omega)]; omega
theorem wS_inj {c : Nat} (h0 : 0 < c) {G G' : Nat → Int} (h : wS c G = wS c G') : G = G' := by
  have all : ∀ n k, k < n → G k = G' k := by
    intro n
    induction n with
    | zero => intro k hk; omega
    | succ n ih =>
      intro k hk
      have e := congrFun h k
      unfold wS at e
      by_cases hc : c ≤ k
      · rw [if_pos hc, if_pos hc, ih (k - c) (by omega)] at e; omega
      · rw [if_neg hc, if_neg hc] at e; omega
  funext n
  exact all (n + 1) n (by omega)
theorem wS_comm (c d : Nat) (G : Nat → Int) : wS c (wS d G) = wS d (wS c G) := by
  funext n
  unfold wS
  by_cases h1 : c ≤ n <;> by_cases h2 : d ≤ n
  · simp only [h1, h2, if_true]
    by_cases h3 : c + d ≤ n
    · rw [if_pos (show d ≤ n - c by omega), if_pos (show c ≤ n - d by omega), show n - c - d = n - d - c by omega]; omega
    · rw [if_neg (show ¬ d ≤ n - c by omega), if_neg (show ¬ c ≤ n - d by omega)]; omega
  · simp only [h1, h2, if_true, if_false]
    rw [if_neg (show ¬ d ≤ n - c by omega)]; omega
  · simp only [h1, h2, if_true, if_false]
    rw [if_neg (show ¬ c ≤ n - d by omega)]; omega
  · simp only [h1, h2, if_false]
noncomputable def wOne (n : Nat) : Int := if n = 0 then 1 else 0
noncomputable def wW (cs : List Int) : Nat → Int := cs.foldl (fun F c => wD c.toNat F) wOne
/-- the list of ways so far: up to the place done, then as before -/
noncomputable def wPart (c : Nat) (F : Nat → Int) (i : Nat) (n : Nat) : Int := if n < c + i then wD c F n else F n
noncomputable def wList (m : Nat) (F : Nat → Int) : List Int := (List.range m).map F
end PG

set_option Elab.async false
set_option linter.all false
set_option maxRecDepth 100000
set_option maxHeartbeats 4000000
namespace PG
open PySem L2 PyProof.Rows
noncomputable def sWays (K : PySem.W.Frag) : Sp := fun vs H Q _ => match vs with
  | [.ref a, .int m] => ∃ cs, LI K H a cs ∧ Coins cs ∧ (0 ≤ m ∧ m ≤ 2000) ∧
    ∀ (p : Addr) (H' : Hp), Same H H' → H p = none → H' p = some (.lst ((wList (m.toNat + 1) (wW cs)).map V.int)) → Q (.ref p) H'
  | _ => False
noncomputable def sNums21 (K : PySem.W.Frag) : Sp := fun vs H Q _ => match vs with
  | [.ref p, .ref r] => ∃ ps : List Int, H p = some (.lst (ps.map V.int)) ∧ H r = some (.lst (ps.map V.int)) ∧ ∀ H', Same H H' → Q (.bl true) H'
  | _ => False
noncomputable def sMany21 (K : PySem.W.Frag) : Sp := fun vs H Q _ => match vs with
  | [.ref a] => ∃ ns, LI K H a ns ∧ ∀ (p : Addr) (cs : List Int) (H' : Hp), Same H H' → H p = none → H' p = some (.lst (cs.map V.int)) → Coins cs → Q (.ref p) H'
  | _ => False
noncomputable def sPlain21 (K : PySem.W.Frag) : Sp := fun vs H Q _ => match vs with
  | [.int n] => ∀ (p : Addr) (cs : List Int) (H' : Hp), Same H H' → H p = none → H' p = some (.lst (cs.map V.int)) → Coins cs → Q (.ref p) H'
  | _ => False
noncomputable def sOne21 (K : PySem.W.Frag) : Sp := fun vs H Q _ => match vs with
  | [.int c, .int m] => (1 ≤ c ∧ c ≤ 1000) ∧ (0 ≤ m ∧ m ≤ 2000) ∧ ∀ (p : Addr) (H' : Hp), Same H H' → H p = none → H' p = some (.lst ((wList (m.toNat + 1) (wW [c])).map V.int)) → Q (.ref p) H'
  | _ => False
end PG

set_option Elab.async false
set_option linter.all false
set_option maxRecDepth 100000
set_option maxHeartbeats 4000000
namespace L2
open PySem PySem.Spec PyProof.Rows
/-! ### range(a, b, c), c from 1 on -/
noncomputable def stepsN (lo hi c : Int) : Nat := (if lo < hi then (hi - lo - 1) / c + 1 else 0).toNat
noncomputable def Its (lo c : Int) (n : Nat) : It := ⟨fun i _ => i < n, fun i H x H' => H' = H ∧ x = .int (lo + (i : Nat) * c), fun i _ => n ≤ i⟩
theorem turn_range3 {P : Program} {w : World} {K : PySem.W.Frag} {tg : Expr} (it : Addr) (lo c : Int) (n : Nat) : Turn P w K tg (Its lo c n) [it] it (fun i h => IsRangeIter h it (lo + (i : Nat) * c) ((n : Int) - (i : Nat)) c) where
  mem := by simp
  obj := fun i h st b hb => by
    have e : b = it := by simpa using hb
    subst e
    exact ⟨_, st, fun v z => by
      have z' : Data.fields _ = Data.cell v := z
      cases z'⟩
  keep := fun i h h' st k => k it (by simp) _ st
  item := by
    intro X hP hw hK hc i pins s σ H E I hf st hg
    subst hP hw hK
    obtain ⟨f0, f1, f2, f3, f4, f5⟩ := hf it (by simp)
    have W := Walks.range (prog := X.prog) (w := X.w) (I.ok.hd hc) it lo c n
    refine W.item i s _ _ hg st fun v h' tk hv st' kk => ?_
    obtain ⟨t, rfl⟩ := hv
    have I1 : Inv X pins σ H { s with heap := h', toks := tk } := I.turned (fun b o hb e => kk b o (by simpa using hb) e) f0 f1 f3 f4 f5
    exact ⟨_, rfl, go_of (s := { s with heap := h', toks := tk }) (n := "range_iterator") st' rfl rfl (by decide) ⟨.int (lo + (i : Nat) * c), H, I1, ⟨t, rfl⟩, ⟨rfl, rfl⟩, st', fun b hb => (hf b hb).1⟩⟩
  done := by
    intro X hP hw hK hc i pins s σ H E I hf st hg
    subst hP hw hK
    obtain ⟨f0, f1, f2, f3, f4, f5⟩ := hf it (by simp)
    exact wpAny_pyNext_range_end (I.ok.hd hc) st (by have : n ≤ i := hg; omega) fun h' eb => ⟨rfl, I.turned (t' := s.toks) (fun b o hb e => eb b o hb e) f0 f1 f3 f4 f5⟩
  self := fun _ _ _ _ _ st h => wpAny_pyIter_rangeiter st h
theorem small_pos {a b c : Int} (h1 : -1000000000000 ≤ a) (h2 : a ≤ 1000000000000) (h3 : -1000000000000 ≤ b) (h4 : b ≤ 1000000000000) (h5 : 0 < c) (h6 : c ≤ 1000000000) : Builtin.Range.small a b c = true := by
  have q0 : 0 ≤ Builtin.Range.rangeSize a b c ∧ Builtin.Range.rangeSize a b c ≤ 2000000000001 := by
    unfold Builtin.Range.rangeSize
    rw [if_pos h5]
    split
    · have l1 := Int.ediv_nonneg (a := b - a - 1) (b := c) (by omega) (by omega)
      have l2 := Int.ediv_le_self (a := b - a - 1) c (by omega)
      omega
    · omega
  unfold Builtin.Range.small
  have fits : ∀ x : Int, -4000000000000 ≤ x → x ≤ 4000000000000 → Builtin.Range.rangeFitsLong x = true := fun x l u => by
    unfold Builtin.Range.rangeFitsLong
    simp
    omega
  rw [fits a (by omega) (by omega), fits b (by omega) (by omega), fits c (by omega) (by omega), fits _ (by omega) (by omega), if_pos h5, fits (b + (c - 1)) (by omega) (by omega)]
  simp
section
variable {X : Cx} {tg a b c : Expr} {t : TA} {p pos : Pos}
noncomputable def uiRng3 (ta : TA) : TI := fun σ H R => ta σ H fun vs H1 => match vs with
  | [.int i, .int j, .int k] => ((-1000000000000 ≤ i ∧ i ≤ 1000000000000) ∧ (-1000000000000 ≤ j ∧ j ≤ 1000000000000) ∧ (0 < k ∧ k ≤ 1000000000)) ∧ R (Its i k (stepsN i j k)) H1
  | _ => False
theorem ui_range3 {ta : TA} (hm : X.mg "range" = none) (ha : PA X [a, b, c] ta) (hg : Gl X "range") (hn : notStar a = true) (hn2 : notStar b = true) (hn3 : notStar c = true) :
    PI X tg (.Call (.Name "range" p) [a, b, c] [] pos) (uiRng3 ta) := by
  have hs3 : starEach [c] X.env = [(false, eval c X.env)] := by rw [se hn3, starEach]
  have hs2 : starEach [b, c] X.env = [(false, eval b X.env), (false, eval c X.env)] := by rw [se hn2, hs3]
  have hs : starEach [a, b, c] X.env = [(false, eval a X.env), (false, eval b X.env), (false, eval c X.env)] := by rw [se hn, hs2]
  intro pins s σ H R I h
  refine Call_ (ld_blt I hg hm boot_range (PyProof.Rows.callWith_type1 (thn (ha pos pins s σ H _ I h) fun us s1 ⟨vs, H1, I1, r1, q1⟩ => ?_) (by rw [hs, hs2]) (by rw [hs2]; rfl)))
  dsimp only at q1
  split at q1
  · rename_i i j k
    obtain ⟨⟨⟨q1, q2⟩, ⟨q3, q4⟩, q5, q6⟩, q⟩ := q1
    cases r1 with
    | cons r rr =>
      cases rr with
      | cons r' rr =>
        cases rr with
        | cons r'' rr =>
          cases rr
          obtain ⟨t1, rfl⟩ := r
          obtain ⟨t2, rfl⟩ := r'
          obtain ⟨t3, rfl⟩ := r''
          refine call_range_3 (by omega) ?_ (.inl (PyProof.noPylong_small (by omega)))
          refine wpAny_pyIter_range (IsRange.new ..) (small_pos q1 q2 q3 q4 q5 q6) ?_
          have I2 : Inv X pins σ H1 { s1 with heap := s1.heap.push { cls := .type "range", data := .fields #[.int i t1, .int j t2, .int k t3] } } := I1.kept (t' := s1.toks) fun b o e => Heap.get?_push_of_some _ e
          refine ⟨(s1.heap.push { cls := .type "range", data := .fields #[.int i t1, .int j t2, .int k t3] }).objs.size, [(s1.heap.push { cls := .type "range", data := .fields #[.int i t1, .int j t2, .int k t3] }).objs.size], _, _, H1, rfl,
            I2.kept (t' := s1.toks) fun b o e => Heap.get?_push_of_some _ e, turn_range3 _ i k (stepsN i j k), ?_, fun b hb => ?_, q⟩
          · have e1 : i + ((0 : Nat) : Int) * k = i := by simp
            have e2 : ((stepsN i j k : Nat) : Int) - ((0 : Nat) : Int) = Builtin.Range.rangeSize i j k := by
              unfold stepsN Builtin.Range.rangeSize
              rw [if_pos q5]
              split
              · have l1 := Int.ediv_nonneg (a := j - i - 1) (b := k) (by omega) (by omega)
                omega
              · omega
            show IsRangeIter _ _ (i + ((0 : Nat) : Int) * k) (((stepsN i j k : Nat) : Int) - ((0 : Nat) : Int)) k
            rw [e1, e2]
            exact Heap.get?_push_size _ rfl
          · have e : b = (s1.heap.push { cls := .type "range", data := .fields #[.int i t1, .int j t2, .int k t3] }).objs.size := by simpa using hb
            subst e
            exact I2.fpOk (Nat.le_refl _) (I2.hok.fresh (Nat.le_refl _))
  · exact q1.elim
theorem q_range3 (hm : X.mg "range" = none) (ha : QA X [a, b, c] t) (hg : Gl X "range" := by rfl) (hn : notStar a = true := by rfl) (hn2 : notStar b = true := by rfl) (hn3 : notStar c = true := by rfl) : QI X tg (.Call (.Name "range" p) [a, b, c] [] pos) (uiRng3 t) := ⟨ui_range3 hm ha.run hg hn hn2 hn3⟩
end
theorem for_range3 {lo c : Int} {n : Nat} {g : TG} {tb : TS} {D : Ends} {σ : St} {H : Hp} (Pv : Nat → St → Hp → Prop) (h0 : Pv 0 σ H)
    (hs : ∀ i σ H, i < n → Pv i σ H → g (.int (lo + (i : Nat) * c)) σ H fun σ2 H2 => tb { D with nx := Pv (i + 1), ct := Pv (i + 1), bk := D.nx } σ2 H2) (hd : ∀ σ H, Pv n σ H → D.nx σ H) :
    ∃ W : Nat → Nat → St → Hp → Prop, (∃ m, W 0 m σ H) ∧ ∀ i m σ H, W i m σ H →
      ((Its lo c n).stop i H ∧ D.nx σ H) ∨ ((Its lo c n).go i H ∧ ∃ N : St → Hp → Prop, (∀ σ' H', N σ' H' → ∃ m', m' < m ∧ W (i + 1) m' σ' H') ∧ ∀ x H', (Its lo c n).yld i H x H' → g x σ H' fun σ2 H2 => tb { D with nx := N, ct := N, bk := D.nx } σ2 H2) := by
  refine ⟨fun i m σ H => m = n - i ∧ i ≤ n ∧ Pv i σ H, ⟨n, by simp, Nat.zero_le _, h0⟩, ?_⟩
  rintro i m σ H ⟨rfl, hi, p⟩
  by_cases hlt : i < n
  · refine .inr ⟨hlt, Pv (i + 1), fun σ' H' p' => ⟨n - (i + 1), by omega, rfl, hlt, p'⟩, fun x H' y => ?_⟩
    obtain ⟨e, y⟩ := y
    subst e y
    exact hs i σ _ hlt p
  · have e : i = n := by omega
    subst e
    exact .inl ⟨Nat.le_refl _, hd σ H p⟩
/-! ### // by numbers of many figures -/
section
variable {X : Cx}
noncomputable def uDivB : R2 := fun x y H Q => match x, y with
  | .int i, .int j => (0 < j ∧ j.natAbs < 2 ^ 200) ∧ Q (.int (i / j)) H
  | _, _ => False
end
/-! ### comprehensions that make lists -/
end L2

set_option Elab.async false
set_option linter.all false
set_option maxRecDepth 100000
set_option maxHeartbeats 4000000
namespace PG
open PySem L2 PyProof.Rows
/-! ### how great the numbers of a house are -/
theorem House.nonneg {h : List Int} (a : House h) : ∀ x ∈ h, 0 ≤ x := fun x hx => by
  obtain ⟨r, hr, e⟩ := List.mem_iff_getElem.mp hx
  have hr' : h[r]? = some x := by rw [List.getElem?_eq_getElem hr, e]
  by_cases h0 : r = 0
  · subst h0
    rw [a.zero] at hr'
    cases hr'
    omega
  · have := a.above r x hr' h0
    omega
/-! ### needed coins -/
noncomputable def canB (h : List Int) (a : Int) : Bool := decide (h.getD (a % (h.length : Int)).toNat 0 ≤ a)
noncomputable def partedB (h : List Int) (x : Int) : Bool := (h.drop 1).any fun part => decide (0 < x - part) && canB h (x - part)
noncomputable def partsB (h : List Int) (x : Int) : Bool := (List.range (x - 1).toNat).any fun i => canB h (1 + (i : Int)) && canB h (x - (1 + (i : Int)))
noncomputable def need (h : List Int) : List Int := (h.length : Int) :: (h.drop 1).filter fun x => !partedB h x
theorem House.at {h : List Int} (a : House h) (n : Int) : h[(n % (h.length : Int)).toNat]? = some (h.getD (n % (h.length : Int)).toNat 0) := by
  have := a.pos
  have h1 := Int.emod_lt_of_pos n (show (0 : Int) < h.length by omega)
  have h0 := Int.emod_nonneg n (show (h.length : Int) ≠ 0 by omega)
  exact getD_some (by omega)
theorem House.small {h : List Int} (a : House h) {n : Int} (h1 : 1 ≤ n) (h2 : n < h.length) : canB h n = false := by
  unfold canB
  have e := Int.emod_eq_of_lt (a := n) (b := h.length) (by omega) h2
  rw [e]
  have := a.above n.toNat _ (getD_some (by omega)) (by omega)
  exact decide_eq_false (by omega)
theorem House.parts {h : List Int} (a : House h) {r : Nat} {x : Int} (hx : h[r]? = some x) (hr : r ≠ 0) : partsB h x = partedB h x := by
  have hpos := a.pos
  rw [Bool.eq_iff_iff]
  unfold partsB partedB
  rw [List.any_eq_true, List.any_eq_true]
  constructor
  · rintro ⟨i, hi, hc⟩
    have hi' := List.mem_range.mp hi
    rw [Bool.and_eq_true] at hc
    generalize hA : (1 : Int) + (i : Int) = A at hc
    have c1 : h.getD (A % (h.length : Int)).toNat 0 ≤ A := of_decide_eq_true hc.1
    have c2 : h.getD ((x - A) % (h.length : Int)).toNat 0 ≤ x - A := of_decide_eq_true hc.2
    have r1 := a.at A
    have r2 := a.at (x - A)
    have m1 := Int.emod_nonneg A (show (h.length : Int) ≠ 0 by omega)
    have m2 := Int.emod_nonneg (x - A) (show (h.length : Int) ≠ 0 by omega)
    have hrest := a.rest r x hx
    have cl := a.closed _ _ r _ _ x r1 r2 hx (by
      rw [Int.toNat_of_nonneg m1, Int.toNat_of_nonneg m2, ← Int.add_emod, show A + (x - A) = x by omega, hrest])
    have eA : h.getD (A % (h.length : Int)).toNat 0 = A := by omega
    rw [eA] at r1
    have nz : (A % (h.length : Int)).toNat ≠ 0 := by
      intro z
      rw [z, a.zero] at r1
      cases r1
      omega
    refine ⟨A, ?_, ?_⟩
    · rw [List.mem_iff_getElem?]
      refine ⟨(A % (h.length : Int)).toNat - 1, ?_⟩
      rw [List.getElem?_drop, show 1 + ((A % (h.length : Int)).toNat - 1) = (A % (h.length : Int)).toNat by omega]
      exact r1
    · rw [Bool.and_eq_true]
      exact ⟨decide_eq_true (by omega), hc.2⟩
  · rintro ⟨p, hp, hc⟩
    rw [Bool.and_eq_true] at hc
    have hlt : 0 < x - p := of_decide_eq_true hc.1
    obtain ⟨k, hk⟩ := List.mem_iff_getElem?.mp hp
    rw [List.getElem?_drop] at hk
    have hk' := a.above _ _ hk (by omega)
    have hrest := a.rest _ _ hk
    refine ⟨(p - 1).toNat, List.mem_range.mpr (by omega), ?_⟩
    rw [show (1 : Int) + ((p - 1).toNat : Int) = p by omega, Bool.and_eq_true]
    refine ⟨?_, hc.2⟩
    unfold canB
    rw [hrest, Int.toNat_natCast, getD_at hk]
    simp
theorem House.lenparts {h : List Int} (a : House h) : partsB h (h.length : Int) = false := by
  unfold partsB
  rw [List.any_eq_false]
  intro i hi
  have hi' := List.mem_range.mp hi
  rw [a.small (by omega) (by omega)]
  simp
theorem House.need_eq {h : List Int} (a : House h) : ((h.length : Int) :: h.drop 1).filter (fun x => !partsB h x) = need h := by
  unfold need
  rw [List.filter_cons, a.lenparts]
  simp only [Bool.not_false, if_true]
  congr 1
  apply List.filter_congr
  intro x hx
  obtain ⟨k, hk⟩ := List.mem_iff_getElem?.mp hx
  rw [List.getElem?_drop] at hk
  rw [a.parts hk (by omega)]
/-- a pair of a told list and its copy, apart from the list of them -/
noncomputable def Pr (H : Hp) (tl T : Addr) : Prop := T ≠ tl ∧ ∃ (f k : Addr) (zs : List Int), f ≠ tl ∧ k ≠ tl ∧ H T = some (.tup [.ref f, .ref k]) ∧ H f = some (.lst (zs.map V.int)) ∧ H k = some (.lst (zs.map V.int))
/-! ### promises -/
noncomputable def sParted (K : PySem.W.Frag) : Sp := fun vs H Q _ => match vs with
  | [.ref a, .int x] => ∃ h, LI K H a h ∧ House h ∧ ∀ H', Same H H' → Q (.bl (partedB h x)) H'
  | _ => False
noncomputable def sNeeded (K : PySem.W.Frag) : Sp := fun vs H Q _ => match vs with
  | [.ref a] => ∃ h, LI K H a h ∧ House h ∧ h.length < 64 ∧ ∀ (p : Addr) (ms : List Int) (H' : Hp), Same H H' → H p = none → H' p = some (.lst (ms.map V.int)) → ms.Perm (need h) → ms.Pairwise (· ≤ ·) → Q (.ref p) H'
  | _ => False
noncomputable def sCan (K : PySem.W.Frag) : Sp := fun vs H Q _ => match vs with
  | [.ref a, .int x] => ∃ h, LI K H a h ∧ 0 < h.length ∧ Q (.bl (canB h x)) H
  | _ => False
noncomputable def sDue11 (K : PySem.W.Frag) : Sp := fun vs H Q _ => match vs with
  | [.ref a] => ∃ h, LI K H a h ∧ House h ∧ h.length < 64 ∧ (∀ x ∈ h, x ≤ 1000000) ∧ ∀ (p : Addr) (ms : List Int) (H' : Hp), Same H H' → H p = none → H' p = some (.lst (ms.map V.int)) → ms.Perm (need h) → ms.Pairwise (· ≤ ·) → Q (.ref p) H'
  | _ => False
/-- drawn coins, sharing nothing, the first one of 1 to `first` -/
noncomputable def sDrawnH (K : PySem.W.Frag) : Sp := fun vs H Q _ => match vs with
  | [.ref a, .int st, .int first, .int far, .int most] => ∃ ns, LI K H a ns ∧ ns.length ≤ 63 ∧ (0 ≤ st ∧ st ≤ 100) ∧ (1 ≤ first ∧ first ≤ 900) ∧ (1 ≤ far ∧ far ≤ 1000) ∧ (1 ≤ most ∧ most ≤ 100) ∧
    ∀ (p : Addr) (cs : List Int) (H' : Hp), Same H H' → H p = none → H' p = some (.lst (cs.map V.int)) → 1 ≤ cs.length → (∀ c ∈ cs, 1 ≤ c ∧ c ≤ 1000) → (∃ c ∈ cs, c ≤ first) → gcdL cs = 1 → Q (.ref p) H'
  | _ => False
end PG

set_option Elab.async false
set_option linter.all false
set_option maxRecDepth 100000
set_option maxHeartbeats 4000000
namespace PG
open PySem L2 PyProof.Rows
/-! ### lowering a rest -/
noncomputable def lowR (v : Sums) (t : Int) : Sums :=
  match v[(t % (v.length : Int)).toNat]? with
  | some (some y) => if t < y then v.set (t % (v.length : Int)).toNat (some t) else v
  | some none => v.set (t % (v.length : Int)).toNat (some t)
  | none => v
theorem relax_low' {v : Sums} {p : Nat} {c x : Int} (h : v[p]? = some (some x)) : relax v p c = lowR v (x + c) := by
  unfold relax lowR
  rw [h]
  all_goals rfl
theorem lowR_length (v : Sums) (t : Int) : (lowR v t).length = v.length := by
  unfold lowR
  split
  · split <;> simp
  · simp
  · rfl
theorem rest_lt {n : Nat} (h : 0 < n) (t : Int) : (t % (n : Int)).toNat < n := by
  have h1 := Int.emod_lt_of_pos t (show (0 : Int) < n by omega)
  have h0 := Int.emod_nonneg t (show (n : Int) ≠ 0 by omega)
  omega
/-- the numbers are in S, each at its rest -/
noncomputable def InS (S : Int → Prop) (v : Sums) : Prop := ∀ (r : Nat) (x : Int), v[r]? = some (some x) → S x ∧ x % (v.length : Int) = r
theorem InS.set {S : Int → Prop} {v : Sums} {t : Int} (h : InS S v) (ht : S t) (h0 : 0 < v.length) : InS S (v.set (t % (v.length : Int)).toNat (some t)) := fun r x hx => by
  rw [List.length_set]
  rw [List.getElem?_set] at hx
  split at hx
  · rename_i e
    split at hx
    · cases hx
      refine ⟨ht, ?_⟩
      have := Int.emod_nonneg t (show (v.length : Int) ≠ 0 by omega)
      omega
    · cases hx
  · exact h r x hx
theorem InS.low {S : Int → Prop} {v : Sums} {t : Int} (h : InS S v) (ht : S t) (h0 : 0 < v.length) : InS S (lowR v t) := by
  unfold lowR
  split
  · split
    · exact h.set ht h0
    · exact h
  · exact h.set ht h0
  · exact h
theorem InS.relax {S : Int → Prop} {v : Sums} {p : Nat} {c : Int} (h : InS S v) (hc : ∀ x, S x → S (x + c)) (h0 : 0 < v.length) : InS S (relax v p c) := by
  cases e : v[p]? with
  | none => unfold PG.relax; rw [e]; exact h
  | some o => cases o with
    | none => unfold PG.relax; rw [e]; exact h
    | some x =>
      rw [relax_low' e]
      exact h.low (hc x (h p x e).1) h0
theorem low_has {v : Sums} {t : Int} (h0 : 0 < v.length) : Has (lowR v t) t := by
  have hlt := rest_lt h0 t
  unfold Has
  rw [lowR_length]
  unfold lowR
  cases e : v[(t % (v.length : Int)).toNat]? with
  | none => rw [List.getElem?_eq_getElem hlt] at e; cases e
  | some o => cases o with
    | none => exact ⟨t, by simp [hlt], Int.le_refl _⟩
    | some y =>
      dsimp only
      split
      · exact ⟨t, by simp [hlt], Int.le_refl _⟩
      · exact ⟨y, e, by omega⟩
theorem low_le (v : Sums) (t : Int) : LeS (lowR v t) v := fun r x hx => by
  unfold lowR
  have put : ∀ (i : Nat), (i = r → t ≤ x) → ∃ y, (v.set i (some t))[r]? = some (some y) ∧ y ≤ x := fun i hi => by
    rw [List.getElem?_set]
    split
    · rename_i e
      subst e
      have := getElem?_lt hx
      rw [if_pos this]
      exact ⟨t, rfl, hi rfl⟩
    · exact ⟨x, hx, Int.le_refl _⟩
  split
  · rename_i y e
    split
    · refine put _ fun z => ?_
      rw [z, hx] at e
      cases e
      omega
    · exact ⟨x, hx, Int.le_refl _⟩
  · rename_i e
    refine put _ fun z => ?_
    rw [z, hx] at e
    cases e
  · exact ⟨x, hx, Int.le_refl _⟩
theorem Has.low {v : Sums} {t s : Int} (h : Has v s) : Has (lowR v t) s := h.le (low_le v t) (lowR_length v t)
noncomputable def lows (v : Sums) (ts : List Int) : Sums := ts.foldl lowR v
theorem Has.lows {s : Int} : ∀ (ts : List Int) {v : Sums}, Has v s → Has (lows v ts) s
  | [], _, h => h
  | t :: r, v, h => Has.lows r h.low
noncomputable def nones (n : Nat) : Sums := List.replicate n none
/-- the least sums by rests of what comes of given ones by a step -/
noncomputable def sbr (gs : List Int) (step : Int) (n : Nat) : Sums := withCoin (lows (nones n) gs) step
/-! ### least sums of a set -/
structure LeastS (S : Int → Prop) (g : List Int) : Prop where
  pos : 0 < g.length
  mem : ∀ (r : Nat) (x : Int), g[r]? = some x → S x ∧ x % (g.length : Int) = r
  least : ∀ s, S s → g.getD (s % (g.length : Int)).toNat 0 ≤ s
/-! ### the sums of a house -/
noncomputable def Can (h : List Int) (a : Int) : Prop := canB h a = true
theorem can_iff {h : List Int} {a : Int} : Can h a ↔ h.getD (a % (h.length : Int)).toNat 0 ≤ a := by unfold Can canB; exact decide_eq_true_iff
theorem House.can0 {h : List Int} (a : House h) : Can h 0 := by
  rw [can_iff, Int.zero_emod, show (0 : Int).toNat = 0 from rfl, getD_at a.zero]
  exact Int.le_refl _
theorem House.canAdd {h : List Int} (a : House h) {x y : Int} (hx : Can h x) (hy : Can h y) : Can h (x + y) := by
  have hpos := a.pos
  rw [can_iff] at *
  have m1 := Int.emod_nonneg x (show (h.length : Int) ≠ 0 by omega)
  have m2 := Int.emod_nonneg y (show (h.length : Int) ≠ 0 by omega)
  have m3 := Int.emod_nonneg (x + y) (show (h.length : Int) ≠ 0 by omega)
  have := a.closed _ _ _ _ _ _ (a.at x) (a.at y) (a.at (x + y)) (by rw [Int.toNat_of_nonneg m1, Int.toNat_of_nonneg m2, Int.toNat_of_nonneg m3, ← Int.add_emod])
  omega
theorem House.canLen {h : List Int} (a : House h) : Can h (h.length : Int) := by
  rw [can_iff, Int.emod_self, show (0 : Int).toNat = 0 from rfl, getD_at a.zero]
  omega
/-! ### houses mixed -/
noncomputable def MixS (h1 h2 : List Int) (b t : Int) (s : Int) : Prop := ∃ x y, Can h1 x ∧ Can h2 y ∧ s = b * x + t * y
noncomputable def stimes (h : List Int) (b : Int) (n : Nat) : List Int := (sbr (h.map fun x => x * b) ((h.length : Int) * b) n).filterMap id
noncomputable def mixL (h1 h2 : List Int) (b t : Int) (n : Nat) : Sums := lows (nones n) ((stimes h1 b n).flatMap fun x => (stimes h2 t n).map fun y => x + y)
end PG

set_option Elab.async false
set_option linter.all false
set_option maxRecDepth 100000
set_option maxHeartbeats 4000000
namespace PG
open PySem L2 PyProof.Rows
noncomputable def sLowRest (K : PySem.W.Frag) : Sp := fun vs H Q _ => match vs with
  | [.ref a, .int t] => ∃ v : Sums, H a = some (.lst (v.map toV)) ∧ 0 < v.length ∧ Q .non (upd H a (.lst ((lowR v t).map toV)))
  | _ => False
noncomputable def sLowNext (K : PySem.W.Frag) : Sp := fun vs H Q _ => match vs with
  | [.ref a, .int p, .int c] => ∃ v : Sums, H a = some (.lst (v.map toV)) ∧ (0 ≤ p ∧ p < v.length) ∧ Q .non (upd H a (.lst ((relax v p.toNat c).map toV)))
  | _ => False
noncomputable def sWithCoin (K : PySem.W.Frag) : Sp := fun vs H Q _ => match vs with
  | [.ref a, .int c] => ∃ v : Sums, SqL K H a (v.map toV) ∧ (0 < v.length ∧ v.length ≤ 100000) ∧ 1 ≤ c ∧ ∀ (p : Addr) (H' : Hp), Same H H' → H p = none → H' p = some (.lst ((withCoin v c).map toV)) → Q (.ref p) H'
  | _ => False
noncomputable def sShare0 (K : PySem.W.Frag) : Sp := fun vs H Q _ => match vs with
  | [.ref a] => ∃ cs, LI K H a cs ∧ Coins cs ∧ ∀ H', Same H H' → Q (.int (gcdL cs)) H'
  | _ => False
noncomputable def sHouseOf (K : PySem.W.Frag) : Sp := fun vs H Q _ => match vs with
  | [.ref a] => ∃ cs, LI K H a cs ∧ Coins cs ∧ gcdL cs = 1 ∧ ∀ (p : Addr) (h : List Int) (H' : Hp), Same H H' → H p = none → H' p = some (.lst (h.map V.int)) → Least cs h → (h.length : Int) ∈ cs → (∀ c ∈ cs, (h.length : Int) ≤ c) → Q (.ref p) H'
  | _ => False
noncomputable def sByRests (K : PySem.W.Frag) : Sp := fun vs H Q _ => match vs with
  | [.ref a, .int st, .int n] => ∃ gs, LI K H a gs ∧ 1 ≤ st ∧ (0 < n ∧ n ≤ 100000) ∧ ∀ (p : Addr) (H' : Hp), Same H H' → H p = none → H' p = some (.lst ((sbr gs st n.toNat).map toV)) → Q (.ref p) H'
  | _ => False
noncomputable def sTimes (K : PySem.W.Frag) : Sp := fun vs H Q _ => match vs with
  | [.ref a, .int b, .int n] => ∃ h, LI K H a h ∧ (0 < h.length ∧ h.length ≤ 100000) ∧ (1 ≤ b ∧ b ≤ 100000) ∧ (0 < n ∧ n ≤ 100000) ∧ ∀ (p : Addr) (H' : Hp), Same H H' → H p = none → H' p = some (.lst ((stimes h b n.toNat).map V.int)) → Q (.ref p) H'
  | _ => False
noncomputable def leastM (h1 h2 : List Int) (b t : Int) : Int := if t * (h2.length : Int) < b * (h1.length : Int) then t * (h2.length : Int) else b * (h1.length : Int)
noncomputable def sLeastM (K : PySem.W.Frag) : Sp := fun vs H Q _ => match vs with
  | [.ref a, .int b, .ref c, .int t] => ∃ h1 h2, LI K H a h1 ∧ LI K H c h2 ∧ (1 ≤ b ∧ b ≤ 100000) ∧ (1 ≤ t ∧ t ≤ 100000) ∧ Q (.int (leastM h1 h2 b t)) H
  | _ => False
noncomputable def sMixU (K : PySem.W.Frag) : Sp := fun vs H Q _ => match vs with
  | [.ref a, .int b, .ref c, .int t] => ∃ h1 h2, LI K H a h1 ∧ LI K H c h2 ∧ (House h1 ∧ h1.length ≤ 100000) ∧ (House h2 ∧ h2.length ≤ 100000) ∧ (1 ≤ b ∧ b ≤ 100000) ∧ (1 ≤ t ∧ t ≤ 100000) ∧ gcdL [b, t] = 1 ∧ leastM h1 h2 b t ≤ 100000 ∧
    ∀ (p : Addr) (g : List Int) (H' : Hp), Same H H' → H p = none → H' p = some (.lst (g.map V.int)) → LeastS (MixS h1 h2 b t) g → (g.length : Int) = leastM h1 h2 b t → Q (.ref p) H'
  | _ => False
noncomputable def sJoined (K : PySem.W.Frag) : Sp := fun vs H Q _ => match vs with
  | [.ref a, .ref c] => ∃ h1 h2, LI K H a h1 ∧ LI K H c h2 ∧ (House h1 ∧ h1.length ≤ 100000) ∧ (House h2 ∧ h2.length ≤ 100000) ∧
    ∀ (p : Addr) (g : List Int) (H' : Hp), Same H H' → H p = none → H' p = some (.lst (g.map V.int)) → LeastS (MixS h1 h2 1 1) g → (g.length : Int) = leastM h1 h2 1 1 → Q (.ref p) H'
  | _ => False
end PG

set_option Elab.async false
set_option linter.all false
set_option maxRecDepth 100000
set_option maxHeartbeats 4000000
namespace PG
open PySem L2 PyProof.Rows
/-! ### the house of all sums from a number on -/
noncomputable def fullL (m : Nat) : List Int := 0 :: (List.range (m - 1)).map fun (i : Nat) => (m : Int) + (1 + (i : Int))
theorem fullL_len {m : Nat} (h : 1 ≤ m) : (fullL m).length = m := by unfold fullL; simp; omega
theorem fullL_get {m r : Nat} {x : Int} (h : (fullL m)[r]? = some x) : (r = 0 ∧ x = 0) ∨ (1 ≤ r ∧ r < m ∧ x = (m : Int) + r) := by
  unfold fullL at h
  cases r with
  | zero => left; simp at h; exact ⟨rfl, h.symm⟩
  | succ r =>
    right
    rw [List.getElem?_cons_succ, List.getElem?_map] at h
    by_cases hr : r < m - 1
    · rw [List.getElem?_range hr] at h
      simp at h
      exact ⟨by omega, by omega, by omega⟩
    · rw [List.getElem?_eq_none (by simp; omega)] at h
      cases h
/-! ### what joined houses are -/
/-- a list as the laws ask of a house's list, closure aside -/
structure Shape (g : List Int) : Prop where
  pos : 0 < g.length
  zero : g[0]? = some 0
  above : ∀ (r : Nat) (x : Int), g[r]? = some x → r ≠ 0 → (g.length : Int) < x
  rest : ∀ (r : Nat) (x : Int), g[r]? = some x → x % (g.length : Int) = r
/-! ### promises -/
noncomputable def sFull (K : PySem.W.Frag) : Sp := fun vs H Q _ => match vs with
  | [.int m] => (1 ≤ m ∧ m ≤ 1000) ∧ ∀ (p : Addr) (H' : Hp), Same H H' → H p = none → H' p = some (.lst ((fullL m.toNat).map V.int)) → Q (.ref p) H'
  | _ => False
noncomputable def HouseB (h : List Int) : Prop := House h ∧ h.length < 64 ∧ ∀ x ∈ h, x ≤ 1000000
noncomputable def sMadeH (K : PySem.W.Frag) : Sp := fun vs H Q _ => match vs with
  | [.ref a, .int k] => ∃ ns, LI K H a ns ∧ ns.length ≤ 63 ∧ (0 ≤ k ∧ k ≤ 1) ∧ ∀ (p : Addr) (h : List Int) (H' : Hp), Same H H' → H p = none → H' p = some (.lst (h.map V.int)) → HouseB h → Q (.ref p) H'
  | _ => False
noncomputable def sMoreH (K : PySem.W.Frag) : Sp := fun vs H Q _ => match vs with
  | [.ref a, .int k] => ∃ ns, LI K H a ns ∧ (0 ≤ k ∧ k ≤ 1) ∧
    ∀ (p : Addr) (cs : List Int) (H' : Hp), Same H H' → H p = none → H' p = some (.lst (cs.map V.int)) → 1 ≤ cs.length → (∀ c ∈ cs, 1 ≤ c ∧ c ≤ 1000) → (∃ c ∈ cs, c ≤ 9) → gcdL cs = 1 → Q (.ref p) H'
  | _ => False
noncomputable def sIsH (K : PySem.W.Frag) : Sp := fun vs H Q _ => match vs with
  | [.ref a] => ∃ g : List Int, H a = some (.lst (g.map V.int)) ∧ Shape g ∧ g.length ≤ 100000 ∧ ∀ H', Same H H' → Q (.bl true) H'
  | _ => False
noncomputable def sGood42 (K : PySem.W.Frag) : Sp := fun vs H Q _ => match vs with
  | [.ref f, .ref a, .ref b] => ∃ g h1 h2 : List Int, H f = some (.lst (g.map V.int)) ∧ H a = some (.lst (h1.map V.int)) ∧ H b = some (.lst (h2.map V.int)) ∧ HouseB h1 ∧ HouseB h2 ∧ LeastS (MixS h1 h2 1 1) g ∧ (g.length : Int) = leastM h1 h2 1 1 ∧
    ∀ H', Same H H' → Q (.bl true) H'
  | _ => False
end PG

set_option Elab.async false
set_option linter.all false
set_option maxRecDepth 100000
set_option maxHeartbeats 4000000
namespace L2
open PySem PySem.Spec PyProof.Rows
section
variable {X : Cx}
noncomputable def uAny (K : PySem.W.Frag) : List V → Hp → VK → Prop := u1 fun x H Q => match x with
  | .ref p => ∃ bs : List Bool, SqL K H p (bs.map V.bl) ∧ Q (.bl (bs.any id)) H
  | _ => False
end
end L2

set_option Elab.async false
set_option linter.all false
set_option maxRecDepth 100000
set_option maxHeartbeats 4000000
namespace PG
open PySem L2 PyProof.Rows
/-! ### common houses -/
noncomputable def Both (h1 h2 : List Int) (s : Int) : Prop := Can h1 s ∧ Can h2 s
/-- least of all from 1 on -/
structure LeastN (P : Int → Prop) (n : Int) : Prop where
  one : 1 ≤ n
  has : P n
  low : ∀ k, 1 ≤ k → k < n → ¬ P k
/-! ### houses whose numbers lie so many lengths above their places -/
noncomputable def farL (m K : Nat) : List Int := 0 :: (List.range (m - 1)).map fun (i : Nat) => (1 + (i : Int)) + (m : Int) * (K : Int)
/-! ### promises -/
noncomputable def sPays0 (K : PySem.W.Frag) : Sp := fun vs H Q _ => match vs with
  | [.ref a, .int x] => ∃ h, LI K H a h ∧ 0 < h.length ∧ Q (.bl (canB h x)) H
  | _ => False
noncomputable def sLeastC (K : PySem.W.Frag) (c : Addr) : Sp := fun vs H Q E => match vs with
  | [.ref a, .ref b] => ∃ h1 h2, LI K H a h1 ∧ LI K H b h2 ∧ 0 < h1.length ∧ 0 < h2.length ∧ (∀ n : Int, n ≤ 1000 → LeastN (Both h1 h2) n → Q (.int n) H) ∧ ((∀ k : Int, 1 ≤ k → k ≤ 1000 → ¬ Both h1 h2 k) → E (.ref c) none H)
  | _ => False
noncomputable def sCommon (K : PySem.W.Frag) (c : Addr) : Sp := fun vs H Q E => match vs with
  | [.ref a, .ref b] => ∃ h1 h2, LI K H a h1 ∧ LI K H b h2 ∧ House h1 ∧ House h2 ∧
    (∀ (p : Addr) (g : List Int) (H' : Hp), Same H H' → H p = none → H' p = some (.lst (g.map V.int)) → LeastS (Both h1 h2) g → LeastN (Both h1 h2) (g.length : Int) → g.length ≤ 1000 → Q (.ref p) H') ∧
    ((∀ k : Int, 1 ≤ k → k ≤ 1000 → ¬ Both h1 h2 k) → ∀ H', Same H H' → E (.ref c) none H')
  | _ => False
noncomputable def sBoth (K : PySem.W.Frag) : Sp := fun vs H Q _ => match vs with
  | [.ref a, .ref b, .int n] => ∃ h1 h2, LI K H a h1 ∧ LI K H b h2 ∧ 0 < h1.length ∧ 0 < h2.length ∧ Q (.bl (canB h1 n && canB h2 n)) H
  | _ => False
noncomputable def sGood41 (K : PySem.W.Frag) : Sp := fun vs H Q _ => match vs with
  | [.ref f, .ref a, .ref b] => ∃ g h1 h2 : List Int, H f = some (.lst (g.map V.int)) ∧ LI K H a h1 ∧ LI K H b h2 ∧ House h1 ∧ House h2 ∧ LeastS (Both h1 h2) g ∧ LeastN (Both h1 h2) (g.length : Int) ∧ g.length ≤ 1000 ∧
    ∀ H', Same H H' → Q (.bl true) H'
  | _ => False
noncomputable def sRef41 (K : PySem.W.Frag) : Sp := fun vs H Q _ => match vs with
  | [.ref a, .ref b] => ∃ h1 h2 : List Int, LI K H a h1 ∧ LI K H b h2 ∧ House h1 ∧ House h2 ∧ (∀ k : Int, 1 ≤ k → k ≤ 1000 → ¬ Both h1 h2 k) ∧ ∀ H', Same H H' → Q (.bl true) H'
  | _ => False
noncomputable def sFar (K : PySem.W.Frag) : Sp := fun vs H Q _ => match vs with
  | [.int m] => (1 ≤ m ∧ m ≤ 1000) ∧ ∀ (p : Addr) (H' : Hp), Same H H' → H p = none → H' p = some (.lst ((farL m.toNat (1000 / m + 1).toNat).map V.int)) → Q (.ref p) H'
  | _ => False
end PG
namespace PG
open PySem L2 PyProof.Rows
noncomputable def sMade41 (K : PySem.W.Frag) : Sp := fun vs H Q _ => match vs with
  | [.ref a, .int k] => ∃ ns, LI K H a ns ∧ ns.length ≤ 63 ∧ (0 ≤ k ∧ k ≤ 1) ∧ ∀ (p : Addr) (h : List Int) (H' : Hp), Same H H' → H p = none → H' p = some (.lst (h.map V.int)) → House h → h.length ≤ 10 → Q (.ref p) H'
  | _ => False
end PG

set_option Elab.async false
set_option linter.all false
set_option maxRecDepth 100000
set_option maxHeartbeats 4000000
namespace L2
open PySem PySem.Spec PyProof.Rows
/-! ### f"..{x}.." of 0 or 1: some text -/
section
variable {X : Cx} {e : Expr} {te : TE} {a b : Str} {i j : Nat} {p1 p2 p3 pos : Pos}
noncomputable def uFs (te : TE) : TE := fun σ H Q => te σ H fun x H1 => match x with
  | .int n => (n = 0 ∨ n = 1) ∧ ∀ z : Str, Q (.str z) H1
  | _ => False
theorem q_fs_0 (he : QE X e te) (k1 : (Str.empty ++ a).length ≤ sizeLine) (k2 : ∀ n : Int, n = 0 ∨ n = 1 → (Str.empty ++ a ++ Str.ofString (toString n)).length ≤ sizeLine) (k3 : ∀ n : Int, n = 0 ∨ n = 1 → (Str.empty ++ a ++ Str.ofString (toString n) ++ b).length ≤ sizeLine) :
    PE X (.JoinedStr [.Constant (.str a) i p1, .FormattedValue e (-1) none p2, .Constant (.str b) j p3] pos) (uFs te) := by
  intro pins s σ H Q I h
  refine JoinedStr_many (joinParts_cons ?_)
  refine thn (pe_str (X := X) (x := a) (j := i) (pos := p1) pins s σ H (fun x H1 => x = .str a ∧ H1 = H) I ⟨rfl, rfl⟩) fun v s1 ⟨x, H1, I1, r1, e1, e2⟩ => ?_
  subst e1 e2
  obtain ⟨t1, rfl⟩ := r1
  refine ⟨k1, joinParts_cons (FormattedValue_plain ?_)⟩
  refine thn (he.run pins s1 σ H1 _ I1 h) fun v s2 ⟨x, H2, I2, r2, q2⟩ => ?_
  cases x with
  | int n =>
    obtain ⟨hn, q⟩ := q2
    obtain ⟨t2, rfl⟩ := r2
    refine formatField_int_small (by rcases hn with rfl | rfl <;> decide) ⟨k2 n hn, ?_⟩
    have I3 : Inv X pins σ H2 { s2 with toks := s2.toks + 1 + 1 } := I2.tok _
    rw [evalEach, evalEach]
    refine joinParts_cons ?_
    refine thn (pe_str (X := X) (x := b) (j := j) (pos := p3) pins _ σ H2 (fun x H1 => x = .str b ∧ H1 = H2) I3 ⟨rfl, rfl⟩) fun v s4 ⟨x, H4, I4, r4, e1, e2⟩ => ?_
    subst e1 e2
    obtain ⟨t4, rfl⟩ := r4
    refine ⟨k3 n hn, joinParts_nil ?_ (k3 n hn)⟩
    exact ⟨.str _, H4, I4.tok _, ⟨_, rfl⟩, q _⟩
  | _ => exact False.elim q2
theorem q_fs (he : QE X e te) (k1 : (Str.empty ++ a).length ≤ sizeLine := by decide) (k2 : ∀ n : Int, n = 0 ∨ n = 1 → (Str.empty ++ a ++ Str.ofString (toString n)).length ≤ sizeLine := by rintro n (rfl | rfl) <;> decide) (k3 : ∀ n : Int, n = 0 ∨ n = 1 → (Str.empty ++ a ++ Str.ofString (toString n) ++ b).length ≤ sizeLine := by rintro n (rfl | rfl) <;> decide) :
    QE X (.JoinedStr [.Constant (.str a) i p1, .FormattedValue e (-1) none p2, .Constant (.str b) j p3] pos) (uFs te) := ⟨q_fs_0 he k1 k2 k3⟩
end
end L2

set_option Elab.async false
set_option linter.all false
set_option maxRecDepth 100000
set_option maxHeartbeats 4000000
namespace PG
open PySem L2 PyProof.Rows
/-! ### the first number from a start on, of a rest -/
noncomputable def firstF (s r n : Int) : Int := s + (r - s) % n
/-! ### divided, filled -/
noncomputable def DivS (h : List Int) (b s : Int) : Prop := 0 ≤ s ∧ Can h (s * b)
noncomputable def FillS (h : List Int) (st s : Int) : Prop := 0 ≤ s ∧ (st ≤ s ∨ Can h s)
/-- a set of sums as points 5 and 6 have them -/
structure Sums0 (S : Int → Prop) (m : Nat) : Prop where
  pos : 0 < m
  nn : ∀ s, S s → 0 ≤ s
  zero : S 0
  add : ∀ s t, S s → S t → S (s + t)
  len : S (m : Int)
noncomputable def divF (h : List Int) (b : Int) (r : Int) : Int := firstF ((h.getD ((r * b) % (h.length : Int)).toNat 0 + b - 1) / b) r (h.length : Int)
noncomputable def fillF (h : List Int) (st : Int) (r : Nat) : Int := if firstF st (r : Int) (h.length : Int) < h.getD r 0 then firstF st (r : Int) (h.length : Int) else h.getD r 0
/-! ### promises -/
noncomputable def sFromX (c : Addr) : Sp := fun vs H Q E => match vs with
  | [.int l, x] => (l = 0 ∨ l = 1) ∧ Kn H x ∧ (∀ n : Int, x = .int n → l ≤ n → Q .non H) ∧ ((¬ ∃ n : Int, x = .int n ∧ l ≤ n) → E (.ref c) none H)
  | _ => False
noncomputable def sFirst : Sp := fun vs H Q _ => match vs with
  | [.int s, .int r, .int n] => 0 < n ∧ Q (.int (firstF s r n)) H
  | _ => False
noncomputable def sLDiv (K : PySem.W.Frag) : Sp := fun vs H Q _ => match vs with
  | [.ref a, .int b, .int r] => ∃ h, LI K H a h ∧ 0 < h.length ∧ (1 ≤ b ∧ b.natAbs < 2 ^ 200) ∧ (0 ≤ r ∧ r ≤ 100000) ∧ Q (.int (divF h b r)) H
  | _ => False
noncomputable def sHBS (K : PySem.W.Frag) : Sp := fun vs H Q _ => match vs with
  | [.ref a] => ∃ (w : List Int) (S : Int → Prop), SqL K H a (w.map V.int) ∧ w.length ≤ 1000 ∧ LeastS S w ∧ Sums0 S w.length ∧
    ∀ (p : Addr) (g : List Int) (H' : Hp), Same H H' → H p = none → H' p = some (.lst (g.map V.int)) → LeastS S g → LeastN S (g.length : Int) → g.length ≤ w.length → Q (.ref p) H'
  | _ => False
noncomputable def S43 (wh : Int) (h : List Int) (nb : Int) : Int → Prop := if wh = 0 then DivS h nb else FillS h nb
noncomputable def sDivX (K : PySem.W.Frag) (c : Addr) : Sp := fun vs H Q E => match vs with
  | [.ref a, x] => ∃ h, LI K H a h ∧ House h ∧ h.length ≤ 1000 ∧ Kn H x ∧
    (∀ nb : Int, x = .int nb → 1 ≤ nb → nb.natAbs < 2 ^ 200 ∧ ∀ (p : Addr) (g : List Int) (H' : Hp), Same H H' → H p = none → H' p = some (.lst (g.map V.int)) → LeastS (DivS h nb) g → LeastN (DivS h nb) (g.length : Int) → g.length ≤ h.length → Q (.ref p) H') ∧
    ((¬ ∃ n : Int, x = .int n ∧ 1 ≤ n) → E (.ref c) none H)
  | _ => False
noncomputable def sFillX (K : PySem.W.Frag) (c : Addr) : Sp := fun vs H Q E => match vs with
  | [.ref a, x] => ∃ h, LI K H a h ∧ House h ∧ h.length ≤ 1000 ∧ Kn H x ∧
    (∀ nb : Int, x = .int nb → 1 ≤ nb → ∀ (p : Addr) (g : List Int) (H' : Hp), Same H H' → H p = none → H' p = some (.lst (g.map V.int)) → LeastS (FillS h nb) g → LeastN (FillS h nb) (g.length : Int) → g.length ≤ h.length → Q (.ref p) H') ∧
    ((¬ ∃ n : Int, x = .int n ∧ 1 ≤ n) → E (.ref c) none H)
  | _ => False
noncomputable def sAsked43 (K : PySem.W.Frag) (c : Addr) : Sp := fun vs H Q E => match vs with
  | [.int wh, .ref a, x] => ∃ h, LI K H a h ∧ House h ∧ h.length ≤ 1000 ∧ Kn H x ∧
    (∀ nb : Int, x = .int nb → 1 ≤ nb → nb.natAbs < 2 ^ 200 ∧ ∀ (p : Addr) (g : List Int) (H' : Hp), Same H H' → H p = none → H' p = some (.lst (g.map V.int)) → LeastS (S43 wh h nb) g → LeastN (S43 wh h nb) (g.length : Int) → g.length ≤ h.length → Q (.ref p) H') ∧
    ((¬ ∃ n : Int, x = .int n ∧ 1 ≤ n) → E (.ref c) none H)
  | _ => False
noncomputable def sThere (K : PySem.W.Frag) : Sp := fun vs H Q _ => match vs with
  | [.int wh, .ref a, .int nb, .int x] => ∃ h, LI K H a h ∧ House h ∧ (-(2 ^ 60) ≤ x ∧ x ≤ 2 ^ 60) ∧ ∀ b, (b = true ↔ S43 wh h nb x) → Q (.bl b) H
  | _ => False
noncomputable def sGood43 (K : PySem.W.Frag) : Sp := fun vs H Q _ => match vs with
  | [.ref f, .int wh, .ref a, .int nb] => ∃ g h : List Int, H f = some (.lst (g.map V.int)) ∧ LI K H a h ∧ House h ∧ (∀ x ∈ h, x ≤ 1000000) ∧ 1 ≤ nb ∧ LeastS (S43 wh h nb) g ∧ LeastN (S43 wh h nb) (g.length : Int) ∧ g.length ≤ 1000 ∧
    ∀ H', Same H H' → Q (.bl true) H'
  | _ => False
noncomputable def sRef43 (K : PySem.W.Frag) : Sp := fun vs H Q _ => match vs with
  | [.int wh, .ref a, x] => ∃ h : List Int, LI K H a h ∧ House h ∧ h.length ≤ 1000 ∧ Kn H x ∧ (¬ ∃ n : Int, x = .int n ∧ 1 ≤ n) ∧ ∀ H', Same H H' → Q (.bl true) H'
  | _ => False
end PG

set_option Elab.async false
set_option linter.all false
set_option maxRecDepth 100000
set_option maxHeartbeats 4000000
namespace PG
open PySem L2 PyProof.Rows
/-! ### the greatest first, as a paying -/
theorem idx_inj {cs : List Int} {d e : Int} (hd : d ∈ cs) (he : e ∈ cs) (h : cs.idxOf d = cs.idxOf e) : d = e := by
  have h1 : cs.idxOf d < cs.length := List.idxOf_lt_length_of_mem hd
  have e1 : cs[cs.idxOf d]? = some d := by rw [List.getElem?_eq_getElem h1]; simp
  have h2 : cs.idxOf e < cs.length := List.idxOf_lt_length_of_mem he
  have e2 : cs[cs.idxOf e]? = some e := by rw [List.getElem?_eq_getElem h2]; simp
  rw [h, e2] at e1
  exact (Option.some.inj e1).symm
theorem idx_get {cs : List Int} {d : Int} (hd : d ∈ cs) : cs[cs.idxOf d]? = some d := by
  have h1 : cs.idxOf d < cs.length := List.idxOf_lt_length_of_mem hd
  rw [List.getElem?_eq_getElem h1]; simp
theorem gRun_left0 {cs : List Int} : ∀ (ds ps : List Int), (gRun cs ds (ps, 0)).2 = 0
  | [], _ => rfl
  | d :: ds, ps => by
    show (gRun cs ds (ps.set (cs.idxOf d) (0 / d), 0 % d)).2 = 0
    rw [Int.zero_emod]
    exact gRun_left0 ds _
/-! ### the fewest are no more than any -/
noncomputable def gsum (cs : List Int) (n : Nat) : Int := (gRes cs (n : Int)).1.sum
/-! ### the bound -/
noncomputable def asc (cs : List Int) : List Int := cs.mergeSort fun a b => decide (a ≤ b)
theorem asc_perm (cs : List Int) : (asc cs).Perm cs := List.mergeSort_perm _ _
noncomputable def bnd (cs : List Int) : Int := ((asc cs).drop (cs.length - 2)).sum
/-- the greatest first is as good as can be up to the n-th sum -/
noncomputable def GoodTo (cs : List Int) (n : Nat) : Prop := ∀ fs, FewP cs fs → ∀ m : Nat, m < n → m < fs.length → fs.getD m none = some (gsum cs m)
/-! ### promises -/
noncomputable def sCoinList0 (K : PySem.W.Frag) : Sp := fun vs H Q _ => match vs with
  | [.ref a] => ∃ cs, LI K H a cs ∧ Coins cs ∧ ∀ (p : Addr) (H' : Hp), Same H H' → H p = none → H' p = some (.lst ((asc cs).map V.int)) → Q (.ref p) H'
  | _ => False
/-- what is told of the greatest first -/
inductive Told (cs : List Int) (H H' : Hp) (T : Addr) : Prop
  | always (h0 : H T = none) (hT : H' T = some (.tup [.str "always", .int (bnd cs)])) (g : GoodTo cs (bnd cs).toNat)
  | fails (n : Nat) (P B : Addr) (bs : List Int) (h0 : H T = none) (hP0 : H P = none) (hB0 : H B = none) (nPB : P ≠ B) (hT : H' T = some (.tup [.str "fails", .int (n : Int), .ref P, .ref B])) (hP : H' P = some (.lst ((gRes cs (n : Int)).1.map V.int))) (hB : H' B = some (.lst (bs.map V.int)))
      (hn : (n : Int) < bnd cs) (g : GoodTo cs n) (hbad : ∀ fs, FewP cs fs → n < fs.length → ∃ k, fs.getD n none = some k ∧ k ≠ gsum cs n ∧ bs.sum = k) (hl : bs.length = cs.length) (hnn : ∀ x ∈ bs, 0 ≤ x) (hd : dot cs bs = (n : Int))
noncomputable def sAlw0 (K : PySem.W.Frag) : Sp := fun vs H Q _ => match vs with
  | [.ref a] => ∃ cs, LI K H a cs ∧ Coins cs ∧ 1 ∈ cs ∧ ∀ (T : Addr) (H' : Hp), Same H H' → Told cs H H' T → Q (.ref T) H'
  | _ => False
noncomputable def sDraws34 (K : PySem.W.Frag) : Sp := fun vs H Q _ => match vs with
  | [.ref a] => ∃ ns, LI K H a ns ∧ ns.length ≤ 63 ∧ ∀ (p : Addr) (ds : List Int) (H' : Hp), Same H H' → H p = none → H' p = some (.lst (ds.map V.int)) → 24 ≤ ds.length → ds.length ≤ 63 → (∀ d ∈ ds, 0 ≤ d) → Q (.ref p) H'
  | _ => False
noncomputable def sSome34 (K : PySem.W.Frag) : Sp := fun vs H Q _ => match vs with
  | [.ref a, .int st, .int most, .int far] => ∃ ds, LI K H a ds ∧ (0 ≤ st ∧ 0 ≤ most ∧ st + most ≤ ds.length ∧ most ≤ 30 ∧ st ≤ 1000) ∧ (1 ≤ far ∧ far ≤ 1000) ∧
    ∀ (p : Addr) (cs : List Int) (H' : Hp), Same H H' → H p = none → H' p = some (.lst (cs.map V.int)) → cs.length ≤ 30 → (∀ c ∈ cs, 1 ≤ c ∧ c ≤ 1000) → cs.Nodup → Q (.ref p) H'
  | _ => False
noncomputable def sDrawn34 (K : PySem.W.Frag) : Sp := fun vs H Q _ => match vs with
  | [.ref a] => ∃ ds, LI K H a ds ∧ (24 ≤ ds.length ∧ ds.length ≤ 63) ∧ (∀ d ∈ ds, 0 ≤ d) ∧ ∀ (p : Addr) (cs : List Int) (H' : Hp), Same H H' → H p = none → H' p = some (.lst (cs.map V.int)) → Coins cs → 1 ∈ cs → Q (.ref p) H'
  | _ => False
noncomputable def sNums34 (K : PySem.W.Frag) : Sp := fun vs H Q _ => match vs with
  | [.ref a, .int m] => ∃ cs, LI K H a cs ∧ Coins cs ∧ 1 ∈ cs ∧ (0 ≤ m ∧ m ≤ 4000) ∧
    ∀ (p : Addr) (ks : List Int) (H' : Hp), Same H H' → H p = none → H' p = some (.lst (ks.map V.int)) → FewP cs (ks.map some) → (ks.length : Int) = m + 1 → Q (.ref p) H'
  | _ => False
noncomputable def sGreatest34 (K : PySem.W.Frag) : Sp := fun vs H Q _ => match vs with
  | [.ref a, .int n] => ∃ cs, LI K H a cs ∧ Coins cs ∧ 0 ≤ n ∧ ∀ (p : Addr) (H' : Hp), Same H H' → H p = none → H' p = some (.lst ((gRes cs n).1.map V.int)) → Q (.ref p) H'
  | _ => False
noncomputable def sNumsIn (K : PySem.W.Frag) : Sp := fun vs H Q _ => match vs with
  | [.ref p, .int m] => ∃ ps : List Int, H p = some (.lst (ps.map V.int)) ∧ (ps.length : Int) = m ∧ ps.length ≤ 1000 ∧ (∀ x ∈ ps, 0 ≤ x) ∧ ∀ H', Same H H' → Q (.bl true) H'
  | _ => False
noncomputable def sGood34 (K : PySem.W.Frag) : Sp := fun vs H Q _ => match vs with
  | [.ref T, .ref a] => ∃ (cs : List Int) (H0 : Hp), LI K H a cs ∧ Coins cs ∧ 1 ∈ cs ∧ Told cs H0 H T ∧ ∀ H', Same H H' → Q (.bl true) H'
  | _ => False
end PG

set_option Elab.async false
set_option linter.all false
set_option maxRecDepth 100000
set_option maxHeartbeats 4000000
namespace PG
open PySem L2 PyProof.Rows
/-! ### how many coins the greatest first takes -/
noncomputable def cnt : List Int → Int → Int
  | [], _ => 0
  | d :: ds, l => l / d + cnt ds (l % d)
/-! ### payings by how many coins -/
noncomputable def Paid (cs : List Int) (n s : Int) : Prop := ∃ ps : List Int, ps.length = cs.length ∧ (∀ x ∈ ps, 0 ≤ x) ∧ dot cs ps = n ∧ ps.sum = s
theorem min_ex : ∀ (ks : List Int), ks ≠ [] → ∃ m ∈ ks, ∀ n ∈ ks, m ≤ n
  | [], h => absurd rfl h
  | [k], _ => ⟨k, by simp, by simp⟩
  | k :: l :: r, _ => by
    obtain ⟨m, hm, hmin⟩ := min_ex (l :: r) (by simp)
    by_cases h : k ≤ m
    · refine ⟨k, List.mem_cons_self, fun n hn => ?_⟩
      rcases List.mem_cons.mp hn with z | z
      · omega
      · have := hmin n z; omega
    · refine ⟨m, List.mem_cons_of_mem _ hm, fun n hn => ?_⟩
      rcases List.mem_cons.mp hn with z | z
      · omega
      · exact hmin n z
/-! ### promises -/
noncomputable def sSome35 (K : PySem.W.Frag) : Sp := fun vs H Q _ => match vs with
  | [.ref a, .int st, .int most, .int far] => ∃ ns, LI K H a ns ∧ (0 ≤ st ∧ st ≤ 1000) ∧ (0 ≤ most ∧ most ≤ 30) ∧ (1 ≤ far ∧ far ≤ 64) ∧
    ∀ (p : Addr) (cs : List Int) (H' : Hp), Same H H' → H p = none → H' p = some (.lst (cs.map V.int)) → cs.length ≤ 30 → (∀ c ∈ cs, 1 ≤ c ∧ c ≤ 64) → cs.Nodup → Q (.ref p) H'
  | _ => False
noncomputable def sDrawn35 (K : PySem.W.Frag) : Sp := fun vs H Q _ => match vs with
  | [.ref a] => ∃ ns, LI K H a ns ∧ ∀ (p : Addr) (cs : List Int) (H' : Hp), Same H H' → H p = none → H' p = some (.lst (cs.map V.int)) → Coins cs → 1 ∈ cs → (∀ c ∈ cs, c ≤ 64) → Q (.ref p) H'
  | _ => False
noncomputable def sPaid35 (K : PySem.W.Frag) : Sp := fun vs H Q _ => match vs with
  | [.ref f, .ref a, .int n] => ∃ cs ps : List Int, H f = some (.lst (ps.map V.int)) ∧ LI K H a cs ∧ Coins cs ∧ ps.length = cs.length ∧ (∀ x ∈ ps, 0 ≤ x) ∧ dot cs ps = n ∧ ∀ H', Same H H' → Q (.int ps.sum) H'
  | _ => False
noncomputable def sFails35 (K : PySem.W.Frag) : Sp := fun vs H Q _ => match vs with
  | [.ref T, .ref a] => ∃ (cs : List Int) (n : Nat) (P B : Addr) (bs : List Int), LI K H a cs ∧ Coins cs ∧ 1 ∈ cs ∧ H T = some (.tup [.str "fails", .int (n : Int), .ref P, .ref B]) ∧ H P = some (.lst ((gRes cs (n : Int)).1.map V.int)) ∧ H B = some (.lst (bs.map V.int)) ∧ (n : Int) < bnd cs ∧ bs.length = cs.length ∧ (∀ x ∈ bs, 0 ≤ x) ∧ dot cs bs = (n : Int) ∧ bs.sum < gsum cs n ∧ ∀ H', Same H H' → Q (.bl true) H'
  | _ => False
noncomputable def sBeyond (K : PySem.W.Frag) : Sp := fun vs H Q _ => match vs with
  | [.ref a, .int n, .ref N] => ∃ cs ks : List Int, LI K H a cs ∧ Coins cs ∧ 1 ∈ cs ∧ (∀ c ∈ cs, c ≤ 64) ∧ GoodTo cs (bnd cs).toNat ∧ LI K H N ks ∧ FewP cs (ks.map some) ∧ ks.length = 401 ∧ (0 ≤ n ∧ n ≤ 4294967296) ∧ ∀ H', Same H H' → Q (.bl true) H'
  | _ => False
end PG

set_option Elab.async false
set_option linter.all false
set_option maxRecDepth 100000
set_option maxHeartbeats 4000000
namespace L2
open PySem PySem.Spec PyProof.Rows
section
variable {X : Cx} {tg : Expr}
end
end L2

set_option Elab.async false
set_option linter.all false
set_option maxRecDepth 100000
set_option maxHeartbeats 4000000
namespace PG
open PySem L2 PyProof.Rows
theorem payable_list {ks : List Int} : ∀ (l : List Int), (∀ d ∈ l, Payable ks d) → Payable ks l.sum
  | [], _ => ⟨0, Pay.zero⟩
  | d :: l, h => by
    rw [List.sum_cons]
    exact (h d List.mem_cons_self).add (payable_list l fun e he => h e (List.mem_cons_of_mem _ he))
theorem mem_le_sum {l : List Int} (h : ∀ d ∈ l, 1 ≤ d) : ∀ d ∈ l, d ≤ l.sum := by
  induction l with
  | nil => intro d hd; cases hd
  | cons x l ih =>
    intro d hd
    have nn : ∀ l : List Int, (∀ d ∈ l, 1 ≤ d) → 0 ≤ l.sum := fun l => by
      induction l with
      | nil => intro _; simp
      | cons x l ih => intro hx; rw [List.sum_cons]; have := hx x List.mem_cons_self; have := ih fun y hy => hx y (List.mem_cons_of_mem _ hy); omega
    rw [List.sum_cons]
    rcases List.mem_cons.mp hd with z | z
    · have := nn l fun y hy => h y (List.mem_cons_of_mem _ hy); omega
    · have := ih (fun y hy => h y (List.mem_cons_of_mem _ hy)) d z
      have := h x List.mem_cons_self
      omega
/-! ### needless coins -/
noncomputable def Ndl (cs : List Int) (c : Int) : Prop := Payable (cs.filter fun d => !decide (d = c)) c
noncomputable def ndB (cs : List Int) (c : Int) : Bool := @decide (Ndl cs c) (Classical.propDecidable _)
theorem ndB_iff {cs : List Int} {c : Int} : ndB cs c = true ↔ Ndl cs c := @decide_eq_true_iff _ (Classical.propDecidable _)
noncomputable def dueL (cs : List Int) : List Int := (asc cs).filter (ndB cs)
structure KInv (cs : List Int) (i : Nat) (ks : List Int) : Prop where
  sub : ∀ k ∈ ks, k ∈ (asc cs).take i
  nd : ks.Nodup
  pay : ∀ d ∈ (asc cs).take i, Payable ks d
  no : ∀ k ∈ ks, ¬ Ndl cs k
  len : ks.length ≤ i
/-! ### a paying in the order of the coins handed in -/
noncomputable def ordF (ks ps : List Int) (c : Int) : Int := if c ∈ ks then ps.getD (ks.idxOf c) 0 else 0
/-! ### promises -/
/-- a row of what is told -/
noncomputable def RowP (cs : List Int) (H : Hp) (av : Addr → Prop) (T : Addr) (c : Int) : Prop := ¬ av T ∧ ∃ (B : Addr) (ps : List Int), ¬ av B ∧ H T = some (.tup [.int c, .ref B]) ∧ H B = some (.lst (ps.map V.int)) ∧ ps.length = cs.length ∧ (∀ x ∈ ps, 0 ≤ x) ∧ dot cs ps = c ∧ ∀ (j : Nat) (x d : Int), ps[j]? = some x → cs[j]? = some d → 0 < x → ¬ Ndl cs d
noncomputable def Told12 (cs : List Int) (H : Hp) (p : Addr) : Prop := ∃ ts : List Addr, H p = some (.lst (ts.map V.ref)) ∧ ts.length = (dueL cs).length ∧ ∀ (i : Nat) T c, ts[i]? = some T → (dueL cs)[i]? = some c → RowP cs H (fun _ => False) T c
noncomputable def sOrder (K : PySem.W.Frag) : Sp := fun vs H Q _ => match vs with
  | [.ref a, .ref k, .ref b] => ∃ cs ks ps, LI K H a cs ∧ LI K H k ks ∧ LI K H b ps ∧ ps.length = ks.length ∧ cs.length ≤ 1000 ∧ ∀ (p : Addr) (H' : Hp), Same H H' → H p = none → H' p = some (.lst ((cs.map (ordF ks ps)).map V.int)) → Q (.ref p) H'
  | _ => False
noncomputable def sNeedless (K : PySem.W.Frag) (c : Addr) : Sp := fun vs H Q E => match vs with
  | [.ref a] => ∃ xs, SqL K H a xs ∧ (∀ x ∈ xs, Kn H x) ∧ (∀ cs : List Int, xs = cs.map V.int → Coins cs → ∀ (p : Addr) (H' : Hp), Same H H' → H p = none → Told12 cs H' p → Q (.ref p) H') ∧ (¬ CoinsV xs → ∀ H', Same H H' → E (.ref c) none H')
  | _ => False
noncomputable def sPaidBy (K : PySem.W.Frag) : Sp := fun vs H Q _ => match vs with
  | [.ref a, .int n] => ∃ cs, LI K H a cs ∧ ((∀ c ∈ cs, 1 ≤ c) ∧ cs.length ≤ 1000) ∧ (0 ≤ n ∧ n ≤ 2000) ∧ ∀ b H', Same H H' → (b = true ↔ Payable cs n) → Q (.bl b) H'
  | _ => False
noncomputable def sDrawn12 (K : PySem.W.Frag) : Sp := fun vs H Q _ => match vs with
  | [.ref a] => ∃ ns, LI K H a ns ∧ ns.length ≤ 63 ∧ ∀ (p : Addr) (cs : List Int) (H' : Hp), Same H H' → H p = none → H' p = some (.lst (cs.map V.int)) → Coins cs → Q (.ref p) H'
  | _ => False
noncomputable def sRef12 (K : PySem.W.Frag) : Sp := fun vs H Q _ => match vs with
  | [.ref a] => ∃ xs, SqL K H a xs ∧ (∀ x ∈ xs, Kn H x) ∧ ¬ CoinsV xs ∧ ∀ H', Same H H' → Q (.bl true) H'
  | _ => False
noncomputable def sTold12 (K : PySem.W.Frag) : Sp := fun vs H Q _ => match vs with
  | [.ref f, .ref a, .ref d] => ∃ cs : List Int, LI K H a cs ∧ Coins cs ∧ Told12 cs H f ∧ H d = some (.lst ((dueL cs).map V.int)) ∧ ∀ H', Same H H' → Q (.bl true) H'
  | _ => False
theorem due_mem {cs : List Int} {c : Int} (h : c ∈ dueL cs) : c ∈ cs ∧ Ndl cs c := by
  unfold dueL at h
  rw [List.mem_filter] at h
  exact ⟨(asc_perm cs).mem_iff.mp h.1, ndB_iff.mp h.2⟩
theorem ref_at {ns : List Addr} {i : Nat} {x : V} (hx : (ns.map V.ref)[i]? = some x) : ∃ n, ns[i]? = some n ∧ x = V.ref n := by
  rw [List.getElem?_map] at hx
  cases e : ns[i]? with
  | none => rw [e] at hx; cases hx
  | some n => rw [e] at hx; cases hx; exact ⟨n, rfl, rfl⟩
end PG

set_option Elab.async false
set_option linter.all false
set_option maxRecDepth 100000
set_option maxHeartbeats 4000000
namespace L2
open PySem PySem.Spec PyProof.Rows
end L2
namespace PG
open PySem L2 PyProof.Rows
/-! ### gaps, counted -/
/-- gaps from 1 to n -/
noncomputable def gapsL (h : List Int) (n : Nat) : List Int := ((List.range n).map fun (i : Nat) => 1 + (i : Int)).filter fun x => !canB h x
/-- below N, block by block -/
noncomputable def belowC (h : List Int) (N : Nat) : Nat := ((List.range N).filter fun (i : Nat) => !canB h (i : Int)).length
noncomputable def qs (h : List Int) : List Nat := h.map fun x => (x / (h.length : Int)).toNat
noncomputable def capS (l : List Nat) (K : Nat) : Nat := (l.map fun q => min q K).sum
theorem capS_succ (l : List Nat) (K : Nat) : capS l (K + 1) = capS l K + (l.filter fun q => decide (K < q)).length := by
  unfold capS
  induction l with
  | nil => rfl
  | cons q l ih =>
    rw [List.map_cons, List.map_cons, List.sum_cons, List.sum_cons, ih, List.filter_cons]
    by_cases hq : K < q
    · rw [if_pos (decide_eq_true hq), List.length_cons]; omega
    · rw [if_neg (by simpa using hq)]; omega
theorem House.q_form {h : List Int} (a : House h) {r : Nat} {x : Int} (hx : h[r]? = some x) : x = (r : Int) + (h.length : Int) * ((x / (h.length : Int)).toNat : Int) := by
  have hpos := a.pos
  have x0 := a.nonneg x (List.mem_of_getElem? hx)
  have := Int.mul_ediv_add_emod x (h.length : Int)
  rw [a.rest r x hx] at this
  rw [Int.toNat_of_nonneg (Int.ediv_nonneg x0 (by omega))]
  omega
/-- one block -/
theorem block_len {h : List Int} (a : House h) (K : Nat) : ((List.range h.length).filter fun (r : Nat) => !canB h ((h.length * K + r : Nat) : Int)).length = ((qs h).filter fun q => decide (K < q)).length := by
  have hpos := a.pos
  have e1 : ((qs h).filter fun q => decide (K < q)).length = ((List.range h.length).filter fun r => decide (K < (qs h).getD r 0)).length := by
    have := congrArg (fun l => (l.filter fun q => decide (K < q)).length) (range_get (qs h) 0)
    rw [← this, List.filter_map, List.length_map]
    have : (qs h).length = h.length := by unfold qs; simp
    rw [this]
    rfl
  rw [e1]
  congr 1
  apply List.filter_congr
  intro r hr
  have hr' := List.mem_range.mp hr
  have hg := getD_some (ns := h) (i := r) hr'
  have hq := a.q_form hg
  have eq : (qs h).getD r 0 = (h.getD r 0 / (h.length : Int)).toNat := by
    unfold qs
    rw [List.getD_eq_getElem?_getD, List.getElem?_map, hg]
    rfl
  rw [eq]
  generalize (h.getD r 0 / (h.length : Int)).toNat = q at hq
  have em : ((h.length * K + r : Nat) : Int) % (h.length : Int) = r := by
    rw [Int.natCast_add, Int.natCast_mul, Int.add_comm, Int.add_mul_emod_self_left]
    exact Int.emod_eq_of_lt (by omega) (by omega)
  unfold canB
  rw [em, Int.toNat_natCast, hq]
  rw [Bool.eq_iff_iff]
  simp only [Bool.not_eq_true', decide_eq_false_iff_not, decide_eq_true_eq]
  have cast : ((h.length * K + r : Nat) : Int) = (h.length : Int) * (K : Int) + r := by rw [Int.natCast_add, Int.natCast_mul]
  rw [cast]
  constructor
  · intro z
    rcases Nat.lt_or_ge K q with y | y
    · exact y
    · exfalso
      have := Int.mul_le_mul_of_nonneg_left (show (q : Int) ≤ K by omega) (show (0 : Int) ≤ h.length by omega)
      omega
  · intro z y
    have := Int.mul_le_mul_of_nonneg_left (show (K : Int) + 1 ≤ q by omega) (show (0 : Int) ≤ h.length by omega)
    rw [Int.mul_add, Int.mul_one] at this
    omega
/-! ### promises -/
noncomputable def sSumX (c : Addr) : Sp := fun vs H Q E => match vs with
  | [x] => Kn H x ∧ (∀ n : Int, x = .int n → Q .non H) ∧ (isNumV x = false → E (.ref c) none H)
  | _ => False
noncomputable def sPaysX (K : PySem.W.Frag) (c : Addr) : Sp := fun vs H Q E => match vs with
  | [.ref a, x] => ∃ h, LI K H a h ∧ 0 < h.length ∧ Kn H x ∧ (∀ n : Int, x = .int n → Q (.bl (canB h n)) H) ∧ (isNumV x = false → E (.ref c) none H)
  | _ => False
noncomputable def sGreat (K : PySem.W.Frag) : Sp := fun vs H Q _ => match vs with
  | [.ref a] => ∃ h, LI K H a h ∧ 0 < h.length ∧ ∀ M ∈ h, (∀ x ∈ h, x ≤ M) → Q (.int (M - (h.length : Int))) H
  | _ => False
noncomputable def sGapN (K : PySem.W.Frag) : Sp := fun vs H Q _ => match vs with
  | [.ref a] => ∃ h, LI K H a h ∧ (0 < h.length ∧ h.length ≤ 1000) ∧ ∀ H', Same H H' → Q (.int (h.map fun x => x / (h.length : Int)).sum) H'
  | _ => False
noncomputable def sGapL (K : PySem.W.Frag) (c : Addr) : Sp := fun vs H Q E => match vs with
  | [.ref a] => ∃ h, LI K H a h ∧ (0 < h.length ∧ h.length ≤ 1000 ∧ ∀ x ∈ h, 0 ≤ x) ∧ (∀ M ∈ h, (∀ x ∈ h, x ≤ M) → M - (h.length : Int) ≤ 2000 → ∀ (p : Addr) (H' : Hp), Same H H' → H p = none → H' p = some (.lst ((gapsL h (M - (h.length : Int)).toNat).map V.int)) → Q (.ref p) H') ∧
    (∀ M ∈ h, (∀ x ∈ h, x ≤ M) → 2000 < M - (h.length : Int) → E (.ref c) none H)
  | _ => False
noncomputable def sRef06 (K : PySem.W.Frag) : Sp := fun vs H Q _ => match vs with
  | [.int wh, .ref a, x] => ∃ h : List Int, LI K H a h ∧ (0 < h.length ∧ h.length ≤ 1000 ∧ ∀ x ∈ h, 0 ≤ x) ∧ Kn H x ∧ ((wh = 0 ∧ isNumV x = false) ∨ (wh = 1 ∧ ∃ M ∈ h, (∀ x ∈ h, x ≤ M) ∧ 2000 < M - (h.length : Int))) ∧ ∀ H', Same H H' → Q (.bl true) H'
  | _ => False
noncomputable def sOnly06 (K : PySem.W.Frag) (c0 c1 : Addr) : Sp := fun vs H Q _ => match vs with
  | [.ref e, .int wh] => ((wh = 0 ∧ H e = some (excO e c0)) ∨ (wh = 1 ∧ H e = some (excO e c1))) ∧ ∀ H', Same H H' → Q (.bl true) H'
  | _ => False
noncomputable def sGaps06 (K : PySem.W.Frag) : Sp := fun vs H Q _ => match vs with
  | [.ref a, .ref f] => ∃ (h : List Int) (M : Int), LI K H a h ∧ (0 < h.length ∧ h.length ≤ 1000 ∧ 0 ≤ M) ∧ (M ∈ h ∧ (∀ x ∈ h, x ≤ M) ∧ M ≤ 1000000) ∧ H f = some (.lst ((gapsL h (M - (h.length : Int)).toNat).map V.int)) ∧ ∀ H', Same H H' → Q (.bl true) H'
  | _ => False
noncomputable def sAmount06 : Sp := fun vs H Q _ => match vs with
  | [.int c, .int l] => -1 ≤ l ∧ ∀ n : Int, Q (.int n) H
  | _ => False
noncomputable def sEdges : Sp := fun vs H Q _ => match vs with
  | [] => ∀ H', Same H H' → Q (.bl true) H'
  | _ => False
noncomputable def sDrawn06 (K : PySem.W.Frag) : Sp := fun vs H Q _ => match vs with
  | [.ref a] => ∃ ns, LI K H a ns ∧ ns.length ≤ 63 ∧
    ∀ (p : Addr) (cs : List Int) (H' : Hp), Same H H' → H p = none → H' p = some (.lst (cs.map V.int)) → 1 ≤ cs.length → (∀ c ∈ cs, 1 ≤ c ∧ c ≤ 1000) → (∃ c ∈ cs, c ≤ 25) → gcdL cs = 1 → Q (.ref p) H'
  | _ => False
end PG

set_option Elab.async false
set_option linter.all false
set_option maxRecDepth 100000
set_option maxHeartbeats 4000000
namespace L2
open PySem PySem.SeqAt PySem.Spec PyProof.Rows
section
variable {X : Cx}
/-- lists one behind the other, also the law's own -/
noncomputable def uAddS (K : PySem.W.Frag) : R2 := fun x y H Q => match x, y with
  | .ref l, .ref b => ∃ xs zs, SqL K H l xs ∧ SqL K H b zs ∧ xs.length + zs.length ≤ sizeLine ∧ ∀ p, H p = none → Q (.ref p) (upd H p (.lst (xs ++ zs)))
  | _, _ => False
end
end L2
namespace PG
open PySem L2 PyProof.Rows
/-! ### houses of coins, and payings by them -/
/-- the papers in the heap, right for what was gone through -/
noncomputable def PapOk (cs h : List Int) (done : Int → Prop) (H : Hp) (P : Addr) (rs : List Addr) : Prop :=
  H P = some (.lst (rs.map V.ref)) ∧ rs.length = h.length ∧ ∀ (r : Nat) T, rs[r]? = some T → T ≠ P ∧ ∃ ps : List Int, H T = some (.lst (ps.map V.int)) ∧ ps.length = cs.length ∧ (∀ x ∈ ps, 0 ≤ x) ∧ (done (h.getD r 0) → dot cs ps = h.getD r 0)
noncomputable def PayAns (cs : List Int) (n : Int) (H : Hp) (Q : VK) : Prop :=
  (¬ Payable cs n → ∀ H', Same H H' → Q .non H') ∧ (Payable cs n → ∀ (p : Addr) (ps : List Int) (H' : Hp), Same H H' → H p = none → H' p = some (.lst (ps.map V.int)) → ps.length = cs.length → (∀ x ∈ ps, 0 ≤ x) → dot cs ps = n → Q (.ref p) H')
/-! ### promises -/
noncomputable def sWithMore (K : PySem.W.Frag) : Sp := fun vs H Q _ => match vs with
  | [.ref a, .int i, .int t] => ∃ ps, LI K H a ps ∧ (0 ≤ i ∧ i < ps.length) ∧ ∀ (p : Addr) (H' : Hp), Same H H' → H p = none → H' p = some (.lst ((ps.set i.toNat (ps.getD i.toNat 0 + t)).map V.int)) → Q (.ref p) H'
  | _ => False
noncomputable def sLastPl (K : PySem.W.Frag) : Sp := fun vs H Q _ => match vs with
  | [.ref a, .ref b, .int n] => ∃ cs h, LI K H a cs ∧ LI K H b h ∧ Least cs h ∧ (∀ c ∈ cs, 1 ≤ c) ∧ n ∈ h ∧ 0 < n ∧ ∀ (i : Nat) (c : Int) (H' : Hp), Same H H' → cs[i]? = some c → n - c ∈ h → Q (.int i) H'
  | _ => False
noncomputable def sPapIn (K : PySem.W.Frag) : Sp := fun vs H Q _ => match vs with
  | [.ref a, .ref b] => ∃ cs h, LI K H a cs ∧ LI K H b h ∧ Least cs h ∧ Coins cs ∧ h.length < 64 ∧ ∀ (p : Addr) (rs : List Addr) (H' : Hp), Same H H' → PapOk cs h (fun _ => True) H' p rs → Q (.ref p) H'
  | _ => False
noncomputable def sPayUn (K : PySem.W.Frag) : Sp := fun vs H Q _ => match vs with
  | [.ref a, .int n] => ∃ cs, LI K H a cs ∧ Coins cs ∧ gcdL cs = 1 ∧ (∃ c ∈ cs, c < 64) ∧ PayAns cs n H Q
  | _ => False
noncomputable def sGapL0 (K : PySem.W.Frag) : Sp := fun vs H Q _ => match vs with
  | [.ref a] => ∃ h, LI K H a h ∧ (0 < h.length ∧ h.length ≤ 1000 ∧ ∀ x ∈ h, 0 ≤ x ∧ x ≤ 2000) ∧ ∀ M ∈ h, (∀ x ∈ h, x ≤ M) → ∀ (p : Addr) (H' : Hp), Same H H' → H p = none → H' p = some (.lst ((gapsL h (M - (h.length : Int)).toNat).map V.int)) → Q (.ref p) H'
  | _ => False
noncomputable def sDraws8 (K : PySem.W.Frag) : Sp := fun vs H Q _ => match vs with
  | [.ref a] => ∃ ns, LI K H a ns ∧ ns.length ≤ 63 ∧ ∀ (p : Addr) (ds : List Int) (H' : Hp), Same H H' → H p = none → H' p = some (.lst (ds.map V.int)) → 64 ≤ ds.length → ds.length ≤ 200 → Q (.ref p) H'
  | _ => False
noncomputable def sDrawn8 (K : PySem.W.Frag) : Sp := fun vs H Q _ => match vs with
  | [.ref a] => ∃ ns, LI K H a ns ∧ ns.length ≤ 200 ∧ ∀ (p : Addr) (cs : List Int) (H' : Hp), Same H H' → H p = none → H' p = some (.lst (cs.map V.int)) → Coins cs → (∀ c ∈ cs, c ≤ 30) → (∃ c ∈ cs, c ≤ 12) → gcdL cs = 1 → Q (.ref p) H'
  | _ => False
noncomputable def sWalk8 (K : PySem.W.Frag) : Sp := fun vs H Q _ => match vs with
  | [.ref a, .int m] => ∃ cs, LI K H a cs ∧ ((∀ c ∈ cs, 1 ≤ c) ∧ cs.length ≤ 1000) ∧ (0 ≤ m ∧ m ≤ 2000) ∧ ∀ (p : Addr) (bs : List Bool) (H' : Hp), Same H H' → H p = none → H' p = some (.lst (bs.map V.bl)) → (bs.length : Int) = m + 1 → (∀ j, j < bs.length → (bs.getD j false = true ↔ Payable cs (j : Int))) → Q (.ref p) H'
  | _ => False
noncomputable def sPaid8 (K : PySem.W.Frag) : Sp := fun vs H Q _ => match vs with
  | [.ref f, .ref a, .int n] => ∃ cs ps, H f = some (.lst (ps.map V.int)) ∧ LI K H a cs ∧ (ps.length = cs.length ∧ cs.length ≤ 1000) ∧ (∀ c ∈ cs, 1 ≤ c ∧ c ≤ 1000) ∧ (∀ x ∈ ps, 0 ≤ x) ∧ dot cs ps = n ∧ ∀ H', Same H H' → Q (.bl true) H'
  | _ => False
end PG

set_option Elab.async false
set_option linter.all false
set_option maxRecDepth 100000
set_option maxHeartbeats 4000000
namespace PG
open PySem L2 PyProof PyProof.Rows
/-! ### a list taken apart -/
section
variable {prog : Program} {w : World} {A : Around} {E : Value → Shared → Prop}
end
noncomputable def gLst (K : PySem.W.Frag) (n : Nat) (t : TGs) : TG := fun v σ H Q => ∃ a xs, v = .ref a ∧ SqL K H a xs ∧ xs.length = n ∧ t xs σ H Q
/-! ### mixed houses: their greatest gap -/
theorem getD_mem0 {h : List Int} {r : Nat} (hr : r < h.length) : h.getD r 0 ∈ h := by
  rw [List.getD_eq_getElem?_getD, List.getElem?_eq_getElem hr]
  exact List.getElem_mem _
/-- the same rest, and less than a length above: not above -/
theorem rest_le {x n m : Int} (hm : 1 ≤ m) (e : x % m = n % m) (h : x < n + m) : x ≤ n := by
  have e1 := Int.emod_add_mul_ediv x m
  have e2 := Int.emod_add_mul_ediv n m
  have : m * (x / m) < m * (n / m + 1) := by rw [Int.mul_add, Int.mul_one]; omega
  have h2 := Int.lt_of_mul_lt_mul_left this (by omega)
  have h3 := Int.mul_le_mul_of_nonneg_left (show x / m ≤ n / m by omega) (show 0 ≤ m by omega)
  omega
theorem rest_ge {x n m : Int} (hm : 1 ≤ m) (e : x % m = n % m) (h : n < x) : n + m ≤ x := by
  by_cases z : n + m ≤ x
  · exact z
  · have := rest_le hm e (by omega)
    omega
theorem House.canAbove {h : List Int} (a : House h) {B n : Int} (hB : ∀ x ∈ h, x ≤ B) (hn : B - (h.length : Int) < n) : Can h n := by
  have hp := a.pos
  have r0 := rest_lt hp n
  rw [can_iff]
  have hm := getD_mem0 r0
  have hr := a.rest (n % (h.length : Int)).toNat _ (getD_some (ns := h) r0)
  have m0 := Int.emod_nonneg n (show (h.length : Int) ≠ 0 by omega)
  refine rest_le (m := (h.length : Int)) (by omega) (by rw [hr]; omega) ?_
  have := hB _ hm
  omega
theorem House.notTop {h : List Int} (a : House h) {M : Int} (hM : M ∈ h) : ¬ Can h (M - (h.length : Int)) := fun c => by
  have hp := a.pos
  obtain ⟨r, hr⟩ := List.mem_iff_getElem?.mp hM
  have e := a.rest r M hr
  rw [can_iff, Int.sub_emod_right, e, Int.toNat_natCast, getD_at hr] at c
  omega
noncomputable def HouseC (h : List Int) : Prop := House h ∧ h.length ≤ 9 ∧ ∀ x ∈ h, x ≤ 40
/-! ### promises -/
noncomputable def sDrawn44 (K : PySem.W.Frag) : Sp := fun vs H Q _ => match vs with
  | [.ref a, .int st, .int first, .int far, .int most] => ∃ ns, LI K H a ns ∧ ns.length ≤ 200 ∧ (0 ≤ st ∧ st ≤ 100) ∧ (1 ≤ first ∧ first ≤ 8) ∧ (1 ≤ far ∧ far ≤ 9) ∧ (1 ≤ most ∧ most ≤ 100) ∧
    ∀ (p : Addr) (cs : List Int) (H' : Hp), Same H H' → H p = none → H' p = some (.lst (cs.map V.int)) → 1 ≤ cs.length → (∀ c ∈ cs, 1 ≤ c ∧ c ≤ 9) → (∃ c ∈ cs, c ≤ first) → gcdL cs = 1 → Q (.ref p) H'
  | _ => False
noncomputable def sMade44 (K : PySem.W.Frag) : Sp := fun vs H Q _ => match vs with
  | [.ref a, .int k] => ∃ ns, LI K H a ns ∧ ns.length ≤ 200 ∧ (0 ≤ k ∧ k ≤ 1) ∧ ∀ (p : Addr) (h : List Int) (H' : Hp), Same H H' → H p = none → H' p = some (.lst (h.map V.int)) → HouseC h → Q (.ref p) H'
  | _ => False
noncomputable def sTwo44 (K : PySem.W.Frag) : Sp := fun vs H Q _ => match vs with
  | [.ref a, .ref hs] => ∃ ns p0 p1 h0 h1, LI K H a ns ∧ ns.length ≤ 200 ∧ H hs = some (.lst [.ref p0, .ref p1]) ∧ H p0 = some (.lst (h0.map V.int)) ∧ H p1 = some (.lst (h1.map V.int)) ∧ HouseC h0 ∧ HouseC h1 ∧
    ∀ (r : Addr) (b t : Int) (H' : Hp), Same H H' → H' r = some (.lst [.int b, .int t]) → (1 ≤ b ∧ b ≤ 60) → (1 ≤ t ∧ t ≤ 120) → gcdL [b, t] = 1 → Q (.ref r) H'
  | _ => False
noncomputable def sFactor0 : Sp := fun vs H Q _ => match vs with
  | [.int n] => (1 ≤ n ∧ n ≤ 1000) ∧ Q .non H
  | _ => False
noncomputable def sMixed0 (K : PySem.W.Frag) : Sp := fun vs H Q _ => match vs with
  | [.ref a, .int b, .ref c, .int t] => ∃ h1 h2, LI K H a h1 ∧ LI K H c h2 ∧ (House h1 ∧ h1.length ≤ 100000) ∧ (House h2 ∧ h2.length ≤ 100000) ∧ (1 ≤ b ∧ b ≤ 1000) ∧ (1 ≤ t ∧ t ≤ 1000) ∧ gcdL [b, t] = 1 ∧ leastM h1 h2 b t ≤ 1000 ∧
    ∀ (p : Addr) (g : List Int) (H' : Hp), Same H H' → H p = none → H' p = some (.lst (g.map V.int)) → LeastS (MixS h1 h2 b t) g → (g.length : Int) = leastM h1 h2 b t → Q (.ref p) H'
  | _ => False
structure Mix44 (h1 h2 g : List Int) (b t : Int) : Prop where
  c1 : HouseC h1
  c2 : HouseC h2
  b1 : 1 ≤ b ∧ b ≤ 60
  t1 : 1 ≤ t ∧ t ≤ 120
  gc : gcdL [b, t] = 1
  L : LeastS (MixS h1 h2 b t) g
  gl : (g.length : Int) = leastM h1 h2 b t
noncomputable def sGood44 (K : PySem.W.Frag) : Sp := fun vs H Q _ => match vs with
  | [.ref f, .ref hs, .int b, .int t] => ∃ g p0 p1 h1 h2, H f = some (.lst (g.map V.int)) ∧ H hs = some (.lst [.ref p0, .ref p1]) ∧ H p0 = some (.lst (h1.map V.int)) ∧ H p1 = some (.lst (h2.map V.int)) ∧ Mix44 h1 h2 g b t ∧ ∀ H', Same H H' → Q (.bl true) H'
  | _ => False
end PG

set_option Elab.async false
set_option linter.all false
set_option maxRecDepth 100000
set_option maxHeartbeats 4000000
namespace PG
open PySem L2 PyProof PyProof.Rows
/-! ### == of two tuples -/
noncomputable def rEqT (K : PySem.W.Frag) (neg : Bool) : R2 := fun x y H Q => ∃ a b xs ys, x = .ref a ∧ y = .ref b ∧ SqT K H a xs ∧ SqT K H b ys ∧ xs.length = ys.length ∧
  ∃ e : Nat → Bool, (∀ (j : Nat) x y, xs[j]? = some x → ys[j]? = some y → EqV K H 3 x y (e j)) ∧ Q (.bl (if neg then !(List.range xs.length).all e else (List.range xs.length).all e)) H
section
variable {X : Cx}
end
/-! ### rows of ways -/
theorem wS_wDc {c : Nat} (P : Nat) (h0 : 0 < c) (F : Nat → Int) : wS P (wD c F) = wD c (wS P F) := by
  apply wS_inj h0
  rw [wS_comm, wS_wD h0, wS_wD h0]
noncomputable def wSn (P : Nat) : Nat → (Nat → Int) → Nat → Int
  | 0, F => F
  | n + 1, F => wS P (wSn P n F)
theorem wSn_in (P : Nat) : ∀ (n : Nat) (F : Nat → Int), wSn P (n + 1) F = wSn P n (wS P F)
  | 0, _ => rfl
  | n + 1, F => by
    show wS P (wSn P (n + 1) F) = wS P (wSn P n (wS P F))
    rw [wSn_in P n F]
/-- the row of some coins -/
noncomputable def rowF (P : Nat) (cs : List Int) : Nat → Int := wSn P cs.length (wW cs)
/-- so many terms, c apart, below -/
noncomputable def tS (c : Nat) (F : Nat → Int) : Nat → Nat → Int
  | 0, _ => 0
  | k + 1, n => tS c F k n + if k * c ≤ n then F (n - k * c) else 0
/-! ### signs -/
noncomputable def sg : Nat → Nat → Int
  | 0, k => if k = 0 then 1 else 0
  | j + 1, 0 => sg j 0
  | j + 1, k + 1 => sg j (k + 1) - sg j k
theorem sg_big : ∀ (j k : Nat), j < k → sg j k = 0
  | 0, k, h => by unfold sg; rw [if_neg (by omega)]
  | j + 1, 0, h => by omega
  | j + 1, k + 1, h => by
    show sg j (k + 1) - sg j k = 0
    rw [sg_big j (k + 1) (by omega), sg_big j k (by omega)]
    rfl
noncomputable def gAt (P : Nat) (G : Nat → Int) (n k : Nat) : Int := if k * P ≤ n then G (n - k * P) else 0
noncomputable def sgS (P j : Nat) (G : Nat → Int) (n : Nat) : Nat → Int
  | 0 => 0
  | m + 1 => sgS P j G n m + sg j m * gAt P G n m
theorem gAt_next {P n k : Nat} {G : Nat → Int} (h : P ≤ n) : gAt P G (n - P) k = gAt P G n (k + 1) := by
  unfold gAt
  rw [Nat.succ_mul]
  by_cases z : k * P + P ≤ n
  · rw [if_pos z, if_pos (by omega), show n - P - k * P = n - (k * P + P) by omega]
  · rw [if_neg z, if_neg (by omega)]
theorem gAt_none {P n k : Nat} {G : Nat → Int} (h : ¬ P ≤ n) : gAt P G n (k + 1) = 0 := by
  unfold gAt
  rw [Nat.succ_mul, if_neg (by omega)]
theorem sgS_step (P j : Nat) (G : Nat → Int) (n : Nat) : ∀ m, sgS P (j + 1) G n (m + 1) = sgS P j G n (m + 1) - if P ≤ n then sgS P j G (n - P) m else 0
  | 0 => by
    show (0 : Int) + sg j 0 * gAt P G n 0 = 0 + sg j 0 * gAt P G n 0 - (if P ≤ n then 0 else 0)
    split <;> omega
  | m + 1 => by
    have ih := sgS_step P j G n m
    show sgS P (j + 1) G n (m + 1) + (sg j (m + 1) - sg j m) * gAt P G n (m + 1) = sgS P j G n (m + 1) + sg j (m + 1) * gAt P G n (m + 1) - (if P ≤ n then sgS P j G (n - P) m + sg j m * gAt P G (n - P) m else 0)
    rw [ih, Int.sub_mul]
    by_cases h : P ≤ n
    · rw [if_pos h, if_pos h, gAt_next h]; omega
    · rw [if_neg h, if_neg h, gAt_none h, Int.mul_zero, Int.mul_zero]; omega
theorem sgS_end (P j : Nat) (G : Nat → Int) (n : Nat) : sgS P j G n (j + 2) = sgS P j G n (j + 1) := by
  show sgS P j G n (j + 1) + sg j (j + 1) * _ = _
  rw [sg_big j (j + 1) (by omega), Int.zero_mul, Int.add_zero]
/-! ### choices -/
noncomputable def ch : Nat → Nat → Nat
  | _, 0 => 1
  | 0, _ + 1 => 0
  | T + 1, s + 1 => ch T s + ch T (s + 1)
theorem ch_zero (T : Nat) : ch T 0 = 1 := by cases T <;> rfl
theorem ch_big : ∀ (T s : Nat), T < s → ch T s = 0
  | 0, s + 1, _ => rfl
  | T + 1, s + 1, h => by
    show ch T s + ch T (s + 1) = 0
    rw [ch_big T s (by omega), ch_big T (s + 1) (by omega)]
  | _, 0, h => by omega
theorem ch_self : ∀ T, ch T T = 1
  | 0 => rfl
  | T + 1 => by
    show ch T T + ch T (T + 1) = 1
    rw [ch_self T, ch_big T (T + 1) (by omega)]
/-- sums by choices -/
noncomputable def cvS (g : Nat → Int) (k q : Nat) : Nat → Int
  | 0 => 0
  | m + 1 => cvS g k q m + g m * (ch (q - m + k) k : Int)
theorem cvS_step {g : Nat → Int} {k q : Nat} : ∀ m, m ≤ q → cvS g (k + 1) q m = cvS g (k + 1) (q - 1) m + cvS g k q m
  | 0, _ => rfl
  | m + 1, h => by
    show cvS g (k + 1) q m + g m * (ch (q - m + (k + 1)) (k + 1) : Int) = cvS g (k + 1) (q - 1) m + g m * (ch (q - 1 - m + (k + 1)) (k + 1) : Int) + (cvS g k q m + g m * (ch (q - m + k) k : Int))
    rw [cvS_step m (by omega), show q - m + (k + 1) = (q - m + k) + 1 by omega, show q - 1 - m + (k + 1) = q - m + k by omega]
    show _ + g m * ((ch (q - m + k) k + ch (q - m + k) (k + 1) : Nat) : Int) = _
    rw [Int.natCast_add, Int.mul_add]
    omega
theorem cvS_wS (g : Nat → Int) (k : Nat) : wS 1 (fun q => cvS g (k + 1) q (q + 1)) = fun q => cvS g k q (q + 1) := by
  funext q
  unfold wS
  show cvS g (k + 1) q q + g q * (ch (q - q + (k + 1)) (k + 1) : Int) - (if 1 ≤ q then cvS g (k + 1) (q - 1) (q - 1 + 1) else 0) = cvS g k q q + g q * (ch (q - q + k) k : Int)
  rw [Nat.sub_self, Nat.zero_add, Nat.zero_add, ch_self, ch_self]
  by_cases h : 1 ≤ q
  · rw [if_pos h, show q - 1 + 1 = q by omega, cvS_step q (Nat.le_refl q)]
    omega
  · have z : q = 0 := by omega
    subst z
    show (0 : Int) + _ - 0 = 0 + _
    omega
theorem cvS_wS0 (g : Nat → Int) : wS 1 (fun q => cvS g 0 q (q + 1)) = g := by
  have e : ∀ (q m : Nat), cvS g 0 q m = cvS g 0 0 m := fun q m => by
    induction m with
    | zero => rfl
    | succ m ih =>
      show cvS g 0 q m + g m * (ch (q - m + 0) 0 : Int) = cvS g 0 0 m + g m * (ch (0 - m + 0) 0 : Int)
      rw [ih, ch_zero, ch_zero]
  funext q
  unfold wS
  show cvS g 0 q q + g q * (ch (q - q + 0) 0 : Int) - (if 1 ≤ q then cvS g 0 (q - 1) (q - 1 + 1) else 0) = g q
  rw [ch_zero, e q q]
  by_cases h : 1 ≤ q
  · rw [if_pos h, show q - 1 + 1 = q by omega, e (q - 1) q]
    show _ + g q * 1 - _ = _
    omega
  · have z : q = 0 := by omega
    subst z
    show (0 : Int) + g 0 * 1 - 0 = g 0
    omega
/-! ### periods -/
noncomputable def per (cs : List Int) : Nat := cs.foldl (fun p c => Nat.lcm p c.toNat) 1
/-! ### promises -/
noncomputable def sPer (K : PySem.W.Frag) : Sp := fun vs H Q _ => match vs with
  | [.ref a] => ∃ cs, LI K H a cs ∧ (∀ c ∈ cs, 1 ≤ c ∧ c ≤ 1000) ∧ Q (.int (per cs)) H
  | _ => False
noncomputable def sWithW (K : PySem.W.Frag) : Sp := fun vs H Q _ => match vs with
  | [.ref r, .int place, .int c, .int P] => ∃ (m k : Nat) (F : Nat → Int), LI K H r (wList m F) ∧ (0 ≤ place ∧ place < m ∧ m ≤ 2000) ∧ (1 ≤ c ∧ c ≤ 1000) ∧ P = (k * c.toNat : Nat) ∧ 1 ≤ P ∧ ∀ H', Same H H' → Q (.int (tS c.toNat F k place.toNat)) H'
  | _ => False
noncomputable def RuleAt (H : Hp) (T r : Addr) (cs : List Int) : Prop := H T = some (.tup [.int cs.length, .int (per cs), .ref r]) ∧ H r = some (.lst ((wList (per cs * cs.length) (rowF (per cs) cs)).map V.int))
noncomputable def sRule (K : PySem.W.Frag) : Sp := fun vs H Q _ => match vs with
  | [.ref a] => ∃ cs, LI K H a cs ∧ Coins cs ∧ per cs * cs.length ≤ 1200 ∧ ∀ (T r : Addr) (H' : Hp), Same H H' → H r = none → H T = none → RuleAt H' T r cs → Q (.ref T) H'
  | _ => False
noncomputable def sChoices : Sp := fun vs H Q _ => match vs with
  | [.int T, .int s] => (0 ≤ T ∧ T ≤ 1000000) ∧ (0 ≤ s ∧ s ≤ 1000 ∧ s ≤ T) ∧ Q (.int (ch T.toNat s.toNat)) H
  | _ => False
noncomputable def sWaysBy (K : PySem.W.Frag) : Sp := fun vs H Q _ => match vs with
  | [.ref T, .int n] => ∃ r cs, RuleAt H T r cs ∧ (1 ≤ cs.length ∧ cs.length ≤ 4) ∧ (∀ c ∈ cs, 1 ≤ c ∧ c ≤ 1000) ∧ per cs * cs.length ≤ 1200 ∧ n ≤ 1000 ∧ Q (.int (if n < 0 then 0 else wW cs n.toNat)) H
  | _ => False
noncomputable def sRow22 (K : PySem.W.Frag) : Sp := fun vs H Q _ => match vs with
  | [.ref w, .int n, .int P] => ∃ (m : Nat) (F : Nat → Int), LI K H w (wList m F) ∧ (1 ≤ n ∧ n ≤ 4) ∧ (1 ≤ P ∧ P ≤ 160) ∧ n * P ≤ m ∧ n * P ≤ 160 ∧
    ∀ (p : Addr) (H' : Hp), Same H H' → H p = none → H' p = some (.lst ((wList (P.toNat * n.toNat) (wSn P.toNat n.toNat F)).map V.int)) → Q (.ref p) H'
  | _ => False
noncomputable def sWaysL (K : PySem.W.Frag) : Sp := fun vs H Q _ => match vs with
  | [.ref a, .int m] => ∃ cs, LI K H a cs ∧ (∀ c ∈ cs, 1 ≤ c ∧ c ≤ 1000) ∧ (0 ≤ m ∧ m ≤ 2000) ∧
    ∀ (p : Addr) (H' : Hp), Same H H' → H p = none → H' p = some (.lst ((wList (m.toNat + 1) (wW cs)).map V.int)) → Q (.ref p) H'
  | _ => False
noncomputable def sDrawn22 (K : PySem.W.Frag) : Sp := fun vs H Q _ => match vs with
  | [.ref a] => ∃ ns, LI K H a ns ∧ ns.length ≤ 63 ∧ ∀ (p : Addr) (cs : List Int) (H' : Hp), Same H H' → H p = none → H' p = some (.lst (cs.map V.int)) → Coins cs → cs.length ≤ 4 → per cs * cs.length ≤ 160 → Q (.ref p) H'
  | _ => False
end PG

set_option Elab.async false
set_option linter.all false
set_option maxRecDepth 100000
set_option maxHeartbeats 4000000
namespace PG
open PySem L2 PyProof PyProof.Rows
/-! ### great products -/
noncomputable def big (k : Nat) : Nat := 2 ^ k
noncomputable def uMulG : R2 := fun x y H Q => match x, y with
  | .int i, .int j => (i.natAbs < big 4000 ∧ j.natAbs < big 4000) ∧ Q (.int (i * j)) H
  | _, _ => False
section
variable {X : Cx}
end
/-! ### comprehensions that make objects -/
theorem comp_objs {J : It} {H1 : Hp} {n : Nat} {P : Nat → V → Hp → Prop} {bl : List (Option Nat)} {σ : L2.St} {g : TG} {tc : TT} {te : TE} {Q : VK} (C : Nat → Addr → List (Addr × HO) → Prop) (jp : JP J H1 n P) (hn : n < sizeLine) (kg : KeepG g (blkSt bl σ))
    (step : ∀ i x H' (R : VK) (Z : Hp → Prop), i < n → Same H1 H' → P i x H' → (∀ (p : Addr) (fs : List (Addr × HO)) H6, Same H' H6 → (∀ z ∈ fs, H' z.1 = none ∧ H6 z.1 = some z.2) → C i p fs → R (.ref p) H6) →
      g x (blkSt bl σ) H' fun σ2 H4 => tc σ2 H4 fun b H5 => if b = true then te σ2 H5 R else Z H5)
    (fin : ∀ (D : Addr) H' (ps : List Addr), H1 D = none → Same H1 H' → H' D = some (.lst (ps.map V.ref)) → ps.length = n → (∀ (k : Nat) p, ps[k]? = some p → ∃ fs, (∀ z ∈ fs, H1 z.1 = none ∧ H' z.1 = some z.2) ∧ C k p fs) → Q (.ref D) H') :
    CompB bl g tc te σ Q J H1 := by
  intro D hD
  refine ⟨fun i m H2 => m = n - i ∧ i ≤ n ∧ Same H1 H2 ∧ ∃ ps : List Addr, ps.length = i ∧ H2 D = some (.lst (ps.map V.ref)) ∧ ∀ (k : Nat) p, ps[k]? = some p → ∃ fs, (∀ z ∈ fs, z.1 ≠ D ∧ H1 z.1 = none ∧ H2 z.1 = some z.2) ∧ C k p fs, ⟨n, rfl, Nat.zero_le _, Same.new hD, [], rfl, upd_same, fun k p h => by simp at h⟩, ?_⟩
  rintro i m H2 ⟨rfl, hi, sm, ps, pl, hx, hps⟩
  by_cases hlt : i < n
  · refine .inr ⟨jp.go i H2 hlt sm, fun x H3 y => ⟨kg, ?_⟩⟩
    obtain ⟨s3, p3⟩ := jp.yld i H2 x H3 hlt sm y
    have hx3 := s3 D _ hx
    refine step i x H3 _ _ hlt (sm.trans s3) p3 fun p fs H6 s6 hfs hC => ?_
    have hfD : ∀ z ∈ fs, z.1 ≠ D := fun z hz e => by
      have := (hfs z hz).1
      rw [e, hx3] at this
      cases this
    refine ⟨_, s6 D _ hx3, by rw [List.length_map]; omega, n - (i + 1), by omega, rfl, hlt, ((sm.trans s3).trans s6).put hD, ps ++ [p], by simp [pl], by rw [upd_same, List.map_append]; rfl, fun k q hq => ?_⟩
    by_cases hk : k < ps.length
    · rw [List.getElem?_append_left hk] at hq
      obtain ⟨gs, hg, hC'⟩ := hps k q hq
      exact ⟨gs, fun z hz => ⟨(hg z hz).1, (hg z hz).2.1, by rw [upd_ne (hg z hz).1]; exact s6 _ _ (s3 _ _ (hg z hz).2.2)⟩, hC'⟩
    · rw [List.getElem?_append_right (by omega)] at hq
      by_cases hk0 : k - ps.length = 0
      · rw [hk0] at hq
        cases hq
        have : k = i := by omega
        subst this
        exact ⟨fs, fun z hz => ⟨hfD z hz, (sm.trans s3).free (hfs z hz).1, by rw [upd_ne (hfD z hz)]; exact (hfs z hz).2⟩, hC⟩
      · rw [List.getElem?_eq_none (by simp; omega)] at hq
        cases hq
  · have e : i = n := by omega
    subst e
    refine .inl ⟨jp.stop H2 sm, fin D H2 ps hD sm hx pl fun k p hp => ?_⟩
    obtain ⟨fs, hf, hC⟩ := hps k p hp
    exact ⟨fs, fun z hz => (hf z hz).2, hC⟩
theorem atI_end {α : Type} {xs : List α} {i : Nat} (h : xs.length = i + 1) : atI xs (-1) = xs[i]? := by
  have e : ixN xs.length (-1) = some i := by
    unfold ixN
    rw [if_neg (by decide), if_pos (by omega)]
    congr 1
    omega
  unfold atI
  rw [e]
  rfl
/-! ### bounds -/
theorem wD_nn {c : Nat} {F : Nat → Int} (hF : ∀ m, 0 ≤ F m) : ∀ m n, n < m → 0 ≤ wD c F n := fun m => by
  induction m with
  | zero => intro n h; omega
  | succ m ih =>
    intro n h
    by_cases z : 0 < c ∧ c ≤ n
    · rw [wD_ge z.1 z.2]
      have := ih (n - c) (by omega)
      have := hF n
      omega
    · rw [wD, dif_neg z]
      exact hF n
/-! ### promises -/
noncomputable def sChoicesB : Sp := fun vs H Q _ => match vs with
  | [.int T, .int s] => (0 ≤ T ∧ T.natAbs < big 300) ∧ (0 ≤ s ∧ s ≤ 10 ∧ s ≤ T) ∧ Q (.int (ch T.toNat s.toNat)) H
  | _ => False
noncomputable def ansB (cs : List Int) (n : Int) : Int := if n < 0 then 0 else wW cs n.toNat
noncomputable def sWaysByB (K : PySem.W.Frag) : Sp := fun vs H Q _ => match vs with
  | [.ref T, .int n] => ∃ r cs, RuleAt H T r cs ∧ (1 ≤ cs.length ∧ cs.length ≤ 7) ∧ (∀ c ∈ cs, 1 ≤ c ∧ c ≤ 1000) ∧ per cs * cs.length ≤ 1200 ∧ n.natAbs < big 250 ∧ Q (.int (ansB cs n)) H
  | _ => False
noncomputable def sDrawn23 (K : PySem.W.Frag) : Sp := fun vs H Q _ => match vs with
  | [.ref a] => ∃ ns, LI K H a ns ∧ ns.length ≤ 200 ∧ ∀ (p : Addr) (cs : List Int) (H' : Hp), Same H H' → H p = none → H' p = some (.lst (cs.map V.int)) → Coins cs → cs.length ≤ 7 → per cs * cs.length ≤ 700 → Q (.ref p) H'
  | _ => False
noncomputable def sAmts23 (K : PySem.W.Frag) : Sp := fun vs H Q _ => match vs with
  | [.ref a] => ∃ ns, LI K H a ns ∧ ns.length ≤ 200 ∧ ∀ (p : Addr) (ms : List Int) (H' : Hp), Same H H' → H p = none → H' p = some (.lst (ms.map V.int)) → ms.length ≤ 10 → (∀ m ∈ ms, 0 ≤ m ∧ m.natAbs < big 240) → Q (.ref p) H'
  | _ => False
noncomputable def RulesAt (H : Hp) (D : Addr) (cs : List Int) : Prop := ∃ ts : List Addr, H D = some (.lst (ts.map V.ref)) ∧ ts.length = cs.length ∧ ∀ (k : Nat) T, ts[k]? = some T → ∃ r, RuleAt H T r (cs.take (k + 1))
noncomputable def sSteps23 (K : PySem.W.Frag) : Sp := fun vs H Q _ => match vs with
  | [.ref D, .ref a, .int n] => ∃ cs, RulesAt H D cs ∧ LI K H a cs ∧ Coins cs ∧ cs.length ≤ 7 ∧ (∀ k, 1 ≤ k → k ≤ cs.length → per (cs.take k) * (cs.take k).length ≤ 1200) ∧ 0 ≤ n ∧ n.natAbs < big 240 ∧ Q (.bl true) H
  | _ => False
end PG

set_option Elab.async false
set_option linter.all false
set_option maxRecDepth 100000
set_option maxHeartbeats 4000000
namespace L2
open PySem PySem.Spec PyProof.Rows
/-! ### reversed(a) -/
noncomputable def Itv (K : PySem.W.Frag) (l : Addr) (n : Nat) : It where
  go := fun i H => i < n ∧ ∃ xs, SqL K H l xs ∧ xs.length = n
  yld := fun i H x H' => H' = H ∧ ∀ xs, SqL K H l xs → xs[n - 1 - i]? = some x
  stop := fun i _ => n ≤ i
section
variable {X : Cx} {tg a : Expr} {ta : TA} {p pos : Pos} {K : PySem.W.Frag}
noncomputable def uiRev (K : PySem.W.Frag) (ta : TA) : TI := fun σ H R => ta σ H fun vs H1 => match vs with
  | [.ref l] => ∃ xs, SqL K H1 l xs ∧ R (Itv K l xs.length) H1
  | _ => False
end
/-! ### min(a, default=d) -/
section
variable {prog : Program} {w : World} {A : Around} {I : Addr} {fp wr : List Addr} {n : Nat} {P : Nat → Value → Prop} {St : Nat → Heap → Prop} {R : Result → Shared → Prop} {d : Value}
end
/-! ### max(a, default=d) -/
section
variable {prog : Program} {w : World} {A : Around} {I : Addr} {fp wr : List Addr} {n : Nat} {P : Nat → Value → Prop} {St : Nat → Heap → Prop} {R : Result → Shared → Prop} {d : Value}
theorem maxD_more (W : Walks prog w A.in1 I fp wr n P St) (bt : Nat → Nat → Bool) (cm : CmpOf prog w A.in1 .Gt P bt) (S : Addr) (nS : S ∉ fp) (m : Nat) :
    ∀ (j : Nat) (s : Shared) (vb : Value) (c : Nat), n = j + 1 + m → St (j + 1) s.heap → P (argBest bt j) vb → s.heap.get? S = some { cls := .type "list", dict := none, data := .seq #[vb, vb] c, slots := #[] } →
    (∀ v h2 tk, P (argBest bt (n - 1)) v → (∀ b o, b ∉ wr → b ≠ S → s.heap.get? b = some o → h2.get? b = some o) → R (.ok (.ret v)) { s with heap := h2, toks := tk }) →
    codeAny (model prog w) A (.builtin "max.loop" ⟨[.ref I, .none, .ref S], [(Str.ofString "default", d)]⟩) R s := by
  have nw : S ∉ wr := fun z => nS (W.sub _ z)
  have nm : (toString "max" ++ toString ".loop" : String) = "max.loop" := by decide
  induction m with
  | zero =>
    intro j s vb c en st pb gS fin
    (refine codeAny_builtin F.entry_max_loop ?_; rw [Around.under_plainId F.plain_max_loop _])
    refine (show wpAny _ A.in1 (seqItems? (.ref S) >>= _) _ _ s from wpAny_bind (wpAny_seqItems gS rfl ?_))
    refine (show wpAny _ A.in1 (tryCatch (pyNext (.ref I)) _ >>= _) _ _ s from wpAny_bind (wpAny_tryCatch (W.done s _ _ (by rw [en]; exact st) fun h2 tk kk => ?_)))
    have g2 := kk S _ nw gS
    refine (show wpAny _ A.in1 (updateSeq S (fun _ => #[]) >>= _) _ _ _ from wpAny_bind ?_)
    refine wpAny_updateSeq g2 rfl (wpAny_bind (wpAny_letGo (wpAny_pure ?_)))
    exact fin vb _ tk (by rw [en]; exact pb) fun b o b1 b2 e => (Heap.get?_update_other _ _ (Ne.symm b2)).trans (kk b o b1 e)
  | succ m ih =>
    intro j s vb c en st pb gS fin
    (refine codeAny_builtin F.entry_max_loop ?_; rw [Around.under_plainId F.plain_max_loop _])
    refine (show wpAny _ A.in1 (seqItems? (.ref S) >>= _) _ _ s from wpAny_bind (wpAny_seqItems gS rfl ?_))
    refine (show wpAny _ A.in1 (tryCatch (pyNext (.ref I)) _ >>= _) _ _ s from wpAny_bind (wpAny_tryCatch (W.item (j + 1) s _ _ (by omega) st fun v h2 tk pv st2 kk => ?_)))
    have g2 := kk S _ nw gS
    refine (show wpAny _ A.in1 (tryCatch (holding [v, v] (richCompare .Gt v vb >>= _)) _ >>= _) _ _ _ from wpAny_bind (wpAny_tryCatch (wpAny_holding (wpAny_bind (cm (j + 1) (argBest bt j) v vb _ _ _ pv pb ?_)))))
    refine wpAny_bind (wpAny_holding (wpAny_truthy_bool (wpAny_bind (wpAny_letGo (wpAny_pure ?_)))))
    have kS : ∀ (x : Obj → Obj) (b : Addr) (o : Obj), b ∉ wr → b ≠ S → s.heap.get? b = some o → (h2.update S x).get? b = some o := fun x b o b1 b2 e => (Heap.get?_update_other _ _ (Ne.symm b2)).trans (kk b o b1 e)
    cases hb : bt (j + 1) (argBest bt j) with
    | true =>
      rw [if_pos rfl]
      refine wpAny_bind (wpAny_updateSeq g2 rfl (wpAny_bind (wpAny_letGo ?_)))
      rw [nm]
      refine wpAny_pure ⟨plainId_quiet F.plain_max_loop _, ih (j + 1) _ v _ (by omega) (W.frame _ _ _ st2 fun b bf o e => ?_) (by simp only [argBest, hb, if_true]; exact pv) (Heap.get?_update_self _ g2 rfl) fun v2 h3 tk3 pv3 kk3 => ?_⟩
      · exact (Heap.get?_update_other _ _ fun z : S = b => nS (by rw [z]; exact bf)).trans e
      · exact fin v2 h3 tk3 pv3 fun b o b1 b2 e => kk3 b o b1 b2 (kS _ b o b1 b2 e)
    | false =>
      rw [if_neg Bool.false_ne_true]
      refine wpAny_bind (wpAny_letGo ?_)
      rw [nm]
      refine wpAny_pure ⟨plainId_quiet F.plain_max_loop _, ih (j + 1) _ vb c (by omega) st2 (by simp only [argBest, hb, Bool.false_eq_true, if_false]; exact pb) g2 fun v2 h3 tk3 pv3 kk3 => ?_⟩
      exact fin v2 h3 tk3 pv3 fun b o b1 b2 e => kk3 b o b1 b2 (kk b o b1 e)
theorem maxD_first (W : Walks prog w A.in1 I fp wr n P St) (bt : Nat → Nat → Bool) (cm : CmpOf prog w A.in1 .Gt P bt) (S : Addr) (nS : S ∉ fp) {s : Shared} {c : Nat} (st : St 0 s.heap)
    (gS : s.heap.get? S = some { cls := .type "list", dict := none, data := .seq #[] c, slots := #[] })
    (f0 : n = 0 → ∀ h2 tk, (∀ b o, b ∉ wr → b ≠ S → s.heap.get? b = some o → h2.get? b = some o) → R (.ok (.ret d)) { s with heap := h2, toks := tk })
    (fin : 0 < n → ∀ v h2 tk, P (argBest bt (n - 1)) v → (∀ b o, b ∉ wr → b ≠ S → s.heap.get? b = some o → h2.get? b = some o) → R (.ok (.ret v)) { s with heap := h2, toks := tk }) :
    codeAny (model prog w) A (.builtin "max.loop" ⟨[.ref I, .none, .ref S], [(Str.ofString "default", d)]⟩) R s := by
  have nw : S ∉ wr := fun z => nS (W.sub _ z)
  have nm : (toString "max" ++ toString ".loop" : String) = "max.loop" := by decide
  (refine codeAny_builtin F.entry_max_loop ?_; rw [Around.under_plainId F.plain_max_loop _])
  refine (show wpAny _ A.in1 (seqItems? (.ref S) >>= _) _ _ s from wpAny_bind (wpAny_seqItems gS rfl ?_))
  by_cases hn : n = 0
  · subst hn
    refine (show wpAny _ A.in1 (tryCatch (pyNext (.ref I)) _ >>= _) _ _ s from wpAny_bind (wpAny_tryCatch (W.done s _ _ st fun h2 tk kk => ?_)))
    refine wpAny_bind (wpAny_rule (wpAny_pure ?_))
    exact f0 rfl h2 tk fun b o b1 _ e => kk b o b1 e
  · refine (show wpAny _ A.in1 (tryCatch (pyNext (.ref I)) _ >>= _) _ _ s from wpAny_bind (wpAny_tryCatch (W.item 0 s _ _ (by omega) st fun v h2 tk pv st2 kk => ?_)))
    have g2 := kk S _ nw gS
    refine (show wpAny _ A.in1 (updateSeq S (fun _ => #[v, v]) >>= _) _ _ _ from wpAny_bind (wpAny_updateSeq g2 rfl ?_))
    rw [nm]
    refine wpAny_pure ⟨plainId_quiet F.plain_max_loop _, maxD_more W bt cm S nS (n - 1) 0 _ v _ (by omega) (W.frame _ _ _ st2 fun b bf o e => ?_) pv (Heap.get?_update_self _ g2 rfl) fun v2 h3 tk3 pv3 kk3 => ?_⟩
    · exact (Heap.get?_update_other _ _ fun z : S = b => nS (by rw [z]; exact bf)).trans e
    · exact fin (by omega) v2 h3 tk3 pv3 fun b o b1 b2 e => kk3 b o b1 b2 ((Heap.get?_update_other _ _ (Ne.symm b2)).trans (kk b o b1 e))
end
/-! ### the call -/
section
variable {prog : Program} {w : World} {A : Around} {E : Value → Shared → Prop} {s : Shared}
theorem call_kws {id : String} {f : Builtin} {us : List Value} {kws : List (Str × Value)} {Q : Value → Shared → Prop} (h1 : builtinKind id = none) (h2 : plainId id = true) (h3 : entryFor table id = some f) (h4 : argsOk id ⟨us, kws⟩)
    (go : wpAny (model prog w) A.in1 (f ⟨us, kws⟩) (fun fin s2 => match fin with
      | .done g => (match (Except.ok g : Result) with | .ok (.ret v) => Q v s2 | .ok _ => False | .error e => E e s2)
      | .again c2 => c2.quiet = true ∧ codeAny (model prog w) A c2 (fun r s3 => match r with | .ok (.ret v) => Q v s3 | .ok _ => False | .error e => E e s3) s2) E s) :
    wpAny (model prog w) A (call (.builtin id) us kws) Q E s := by
  refine wpAny_call (codeAny_call_builtin h2 h3 ?_)
  simp only [checkBuiltinCall, h1]
  cases hq : Manifest.signature? id with
  | none => exact wpAny_pure go
  | some sig =>
    have h5 : Bind.checkArgs id sig ⟨us, kws⟩ = pure () := by simpa only [argsOk, hq] using h4
    simp only [h5]
    exact wpAny_pure go
end
noncomputable def oneOf (f : V → Hp → Prop) : List V → Hp → Prop
  | [d], H => f d H
  | _, _ => False
noncomputable def minP (K : PySem.W.Frag) (Q : VK) : List V → V → Hp → Prop
  | [.ref p], d, H => ∃ ns : List Int, SqL K H p (ns.map V.int) ∧ (ns = [] → Q d H) ∧ ∀ m ∈ ns, (∀ n ∈ ns, m ≤ n) → Q (.int m) H
  | _, _, _ => False
section
variable {X : Cx} {e e2 : Expr} {t : TA} {t2 : TE} {p pos p3 : Pos}
noncomputable def tMinD (K : PySem.W.Frag) (t : TA) (t2 : TE) : TE := fun σ H Q => t σ H fun vs H1 => t2 σ H1 fun d H2 => minP K Q vs d H2
end
theorem args_max_dflt (a v : Value) : argsOk "max" ⟨[a], [(Str.ofString "default", v)]⟩ := by
  unfold argsOk
  kernel_rfl
noncomputable def maxP (K : PySem.W.Frag) (Q : VK) : List V → V → Hp → Prop
  | [.ref p], d, H => ∃ ns : List Int, SqL K H p (ns.map V.int) ∧ (ns = [] → Q d H) ∧ ∀ m ∈ ns, (∀ n ∈ ns, n ≤ m) → Q (.int m) H
  | _, _, _ => False
section
variable {X : Cx} {e e2 : Expr} {t : TA} {t2 : TE} {p pos p3 : Pos}
noncomputable def tMaxD (K : PySem.W.Frag) (t : TA) (t2 : TE) : TE := fun σ H Q => t σ H fun vs H1 => t2 σ H1 fun d H2 => maxP K Q vs d H2
theorem pe_maxD (hc : X.calm = true) (hm : X.mg "max" = none) (ha : QA X [e] t) (hd : QE X e2 t2) (hg : Gl X "max") (hn : notStar e = true) : PE X (.Call (.Name "max" p) [e] [⟨some "default", e2, p3⟩] pos) (tMaxD X.K t t2) := by
  have hs : starEach [e] X.env = [(false, eval e X.env)] := by rw [se hn, starEach]
  intro pins s σ H Q I h
  refine wpAny_Call_Name_kw (ld_blt I hg hm boot_max ?_)
  have hA := ha.run pos pins s σ H _ I h
  rw [hs] at hA ⊢
  refine callWith_builtin_kwB rfl rfl (evalArgs_kw rfl ?_)
  refine thn hA fun us s1 ⟨vs, H1, I1, r1, q1⟩ => ?_
  refine thn ((pk_cons hd.run pk_nil : PK X [⟨some "default", e2, p3⟩] _) pos pins s1 σ H1 (oneOf fun d H2 => maxP X.K Q vs d H2) I1 q1) fun ws s2 ⟨zs, H2, I2, rz, q2⟩ => ?_
  clear q1 I1 hA h I
  match zs, rz, q2 with
  | [d], rz, q2 =>
    obtain ⟨ud, rfl, rd⟩ := vals1 rz
    have q3 : maxP X.K Q vs d H2 := q2
    match vs, r1, q3 with
    | [.ref l], r1, ⟨ns, hq, q0, qm⟩ =>
      obtain ⟨u, rfl, ru⟩ := vals1 r1
      cases ru
      show wpAny (model X.prog X.w) X.A (call (.builtin "max") [.ref l] [(Str.ofString "default", ud)]) _ _ s2
      obtain ⟨its, rv, pl, hz⟩ := I2.list hq
      have hi := intsAre_of rv
      have hlen : its.length = ns.length := by rw [← rv.length, List.length_map]
      have hl := pl.isList
      have hlt : l < s2.heap.objs.size := by
        obtain ⟨o, ho, _⟩ := hl
        exact Heap.lt_size ho
      have nm : (toString "max" ++ toString ".loop" : String) = "max.loop" := by decide
      refine call_kws F.kind_max F.plain_max F.entry_max (args_max_dflt _ _) ?_
      refine (show wpAny _ X.A.in1 (Builtin.Builtins.bindParams "max" ["key", "default"] 0 ⟨[], [(Str.ofString "default", ud)]⟩ >>= _) _ _ s2 from wpAny_bind (wpAny_of_eq (show Builtin.Builtins.bindParams "max" ["key", "default"] 0 ⟨[], [(Str.ofString "default", ud)]⟩ = pure [none, some ud] from rfl) ?_))
      refine wpAny_bind (wpAny_pure (wpAny_bind (wpAny_pyIter_list hl (wpAny_bind (wpAny_newList ?_ (Nat.zero_le _))))))
      rw [nm]
      have hS : (s2.heap.push { cls := .type "list_iterator", data := .fields #[.ref l, .int 0 0] }).objs.size = s2.heap.objs.size + 1 := Heap.size_push ..
      have W := Walks.list (prog := X.prog) (w := X.w) (handled_in1 (I2.ok.hd hc)) s2.heap.objs.size l (Nat.ne_of_lt hlt) its.toArray
      refine wpAny_pure ⟨plainId_quiet F.plain_max_loop _, maxD_first W (fun i j => decide (ns.getD i 0 > ns.getD j 0)) ?_ _ ?_ ⟨⟨_, Heap.get?_push_of_some _ (Heap.get?_push_size _ rfl), rfl, rfl⟩, (hl.push _).push _⟩ (Heap.get?_push_size _ rfl) (fun n0 h2 tk kk => ?_) (fun np v h2 tk pv kk => ?_)⟩
      · intro i j vi vj s3 Q' E' h1 h2 hQ'
        obtain ⟨t1, e1⟩ := IntsAre.int_at hi i vi (by simpa using h1)
        obtain ⟨t2, e2⟩ := IntsAre.int_at hi j vj (by simpa using h2)
        subst e1 e2
        exact gt_int hQ'
      · intro hb
        simp only [List.mem_cons, List.not_mem_nil, or_false] at hb
        rcases hb with z | z
        · exact absurd (hS.symm.trans z) (Nat.succ_ne_self _)
        · exact absurd (hS.symm.trans z) (Nat.ne_of_gt (Nat.lt_succ_of_lt hlt))
      · have n0' : ns = [] := List.eq_nil_of_length_eq_zero (by rw [← hlen]; simpa using n0)
        exact ⟨d, H2, I2.kept (t' := tk) fun c o ec => kk c o (by simp only [List.mem_singleton]; exact Nat.ne_of_lt (Heap.lt_size ec)) (by rw [hS]; exact Nat.ne_of_lt (Nat.lt_succ_of_lt (Heap.lt_size ec))) (Heap.get?_push_of_some _ (Heap.get?_push_of_some _ ec)), rd, q0 n0'⟩
      · obtain ⟨a1, a2⟩ := argBest_gt (fun i => ns.getD i 0) (its.toArray.size - 1)
        have hsz : its.toArray.size = ns.length := by rw [List.size_toArray, hlen]
        have hb : argBest (fun i j => decide (ns.getD i 0 > ns.getD j 0)) (its.toArray.size - 1) < ns.length := by omega
        generalize hbb : argBest (fun i j => decide (ns.getD i 0 > ns.getD j 0)) (its.toArray.size - 1) = b at *
        obtain ⟨tv, ev⟩ := IntsAre.int_at hi b v (by simpa using pv)
        subst ev
        refine ⟨.int (ns.getD b 0), H2, I2.kept (t' := tk) fun c o ec => kk c o (by simp only [List.mem_singleton]; exact Nat.ne_of_lt (Heap.lt_size ec)) (by rw [hS]; exact Nat.ne_of_lt (Nat.lt_succ_of_lt (Heap.lt_size ec))) (Heap.get?_push_of_some _ (Heap.get?_push_of_some _ ec)), ⟨_, rfl⟩, qm _ ?_ fun n hn => ?_⟩
        · rw [List.getD_eq_getElem?_getD, List.getElem?_eq_getElem hb]
          exact List.getElem_mem hb
        · obtain ⟨i, hi', rfl⟩ := List.mem_iff_getElem.mp hn
          have := a2 i (by omega)
          rw [List.getD_eq_getElem?_getD, List.getD_eq_getElem?_getD, List.getElem?_eq_getElem hi'] at this
          rw [List.getD_eq_getElem?_getD]
          exact this
theorem q_maxD {K : PySem.W.Frag} (hc : X.calm = true) (hm : X.mg "max" = none) (ha : QA X [e] t) (hd : QE X e2 t2) (hg : Gl X "max" := by rfl) (hn : notStar e = true := by rfl) (hK : X.K = K := by rfl) : QE X (.Call (.Name "max" p) [e] [⟨some "default", e2, p3⟩] pos) (tMaxD K t t2) := by
  subst hK
  exact ⟨pe_maxD hc hm ha hd hg hn⟩
end
end L2

set_option Elab.async false
set_option linter.all false
set_option maxRecDepth 100000



namespace L2
open PySem PySem.Spec PyProof.Rows
section
variable {X : Cx}

variable {a b : Expr} {ta tb : TE} {pos : Pos}
variable {tA tB' : TT} {rest : List Expr}
end
end L2





namespace L2
open PySem PySem.Spec PyProof.Rows




section
variable {X : Cx} {CX : CXT} {k : Nat} {f C : Addr} {fd : FuncData} {ps ks : List Str} {sp : Sp} {E : XK} {x m : Str} {p pos apos kpos : Pos} {e o : Expr} {es : List Expr} {kws : List Keyword} {te ta : TE} {t tk : TA} {nm : Option Str}
variable {g : List Value → List Value → List Value} {gV : List V → List V → List V}
end

end L2


namespace L2
open PySem PySem.Spec PyProof.Rows

section
variable {κ : Type} [DecidableEq κ]
noncomputable def valV (kvs : List (κ × V)) (k : κ) : Option V := (kvs.find? fun kv => decide (kv.1 = k)).map (·.2)
/-- in its place, or at the end -/
noncomputable def putK (kvs : List (κ × V)) (k : κ) (v : V) : List (κ × V) :=
  if (kvs.any fun kv => decide (kv.1 = k)) = true then kvs.map (fun kv => if kv.1 = k then (kv.1, v) else kv) else kvs ++ [(k, v)]
noncomputable def dropK (kvs : List (κ × V)) (k : κ) : List (κ × V) := kvs.filter fun kv => decide (kv.1 ≠ k)

theorem valV_pos {p : κ × V} {r : List (κ × V)} {k : κ} (e : p.1 = k) : valV (p :: r) k = some p.2 := by simp [valV, List.find?_cons, e]
theorem valV_neg {p : κ × V} {r : List (κ × V)} {k : κ} (e : ¬ p.1 = k) : valV (p :: r) k = valV r k := by simp [valV, List.find?_cons, e]
theorem valV_any (k : κ) : ∀ kvs : List (κ × V), (kvs.any fun kv => decide (kv.1 = k)) = (valV kvs k).isSome
  | [] => rfl
  | p :: r => by
    rw [List.any_cons]
    by_cases e : p.1 = k
    · simp only [valV_pos e, decide_eq_true e, Bool.true_or, Option.isSome_some]
    · rw [valV_neg e, decide_eq_false e, Bool.false_or]; exact valV_any k r
theorem valV_map (k j : κ) (y : V) : ∀ kvs : List (κ × V), valV (kvs.map fun kv => if kv.1 = k then (kv.1, y) else kv) j = (valV kvs j).map fun x => if j = k then y else x
  | [] => rfl
  | p :: r => by
    have ih := valV_map k j y r
    rw [List.map_cons]
    by_cases h : p.1 = k
    · rw [if_pos h]
      by_cases e : p.1 = j
      · rw [valV_pos (p := (p.1, y)) e, valV_pos e, Option.map_some, if_pos (e.symm.trans h)]
      · rw [valV_neg (p := (p.1, y)) e, valV_neg e, ih]
    · rw [if_neg h]
      by_cases e : p.1 = j
      · rw [valV_pos (p := p) e, valV_pos e, Option.map_some, if_neg (fun z => h (e.trans z))]
      · rw [valV_neg (p := p) e, valV_neg e, ih]
theorem valV_snoc (k j : κ) (y : V) : ∀ kvs : List (κ × V), valV kvs k = none → valV (kvs ++ [(k, y)]) j = if j = k then some y else valV kvs j
  | [], _ => by
    by_cases e : k = j
    · rw [if_pos e.symm]; exact valV_pos (p := (k, y)) e
    · rw [if_neg (fun z => e z.symm)]; exact valV_neg (p := (k, y)) e
  | p :: r, hn => by
    rw [List.cons_append]
    have hk : ¬ p.1 = k := fun z => by rw [valV_pos z] at hn; cases hn
    rw [valV_neg hk] at hn
    have ih := valV_snoc k j y r hn
    by_cases e : p.1 = j
    · rw [valV_pos e, valV_pos e, if_neg (fun z => hk (e.trans z))]
    · rw [valV_neg e, valV_neg e, ih]
theorem valV_put (kvs : List (κ × V)) (k j : κ) (y : V) : valV (putK kvs k y) j = if j = k then some y else valV kvs j := by
  unfold putK
  by_cases a : (kvs.any fun kv => decide (kv.1 = k)) = true
  · rw [if_pos a, valV_map]
    rw [valV_any] at a
    by_cases e : j = k
    · obtain ⟨x, hx⟩ := Option.isSome_iff_exists.mp a
      rw [if_pos e, e, hx, Option.map_some, if_pos rfl]
    · rw [if_neg e]
      cases valV kvs j with
      | none => rfl
      | some x => rw [Option.map_some, if_neg e]
  · rw [if_neg a]
    refine valV_snoc k j y kvs ?_
    rw [valV_any] at a
    cases q : valV kvs k with
    | none => rfl
    | some x => rw [q] at a; exact (a rfl).elim
theorem length_putK (kvs : List (κ × V)) (k : κ) (v : V) : (putK kvs k v).length ≤ kvs.length + 1 := by
  unfold putK
  split
  · rw [List.length_map]; omega
  · rw [List.length_append, List.length_cons, List.length_nil]; omega


end


theorem kV_is {P : Program} {w : World} {k : Key} {u : Value} (r : RelV (kV k) u) : (mixKind P w).is k u = true := by
  cases k with
  | inl i => obtain ⟨t, e⟩ := (show ∃ t, u = Value.int i t from r); subst e; exact mixKind_int P w i t
  | inr x => obtain ⟨t, e⟩ := (show ∃ t, u = Value.str x t from r); subst e; exact mixKind_str P w x t
theorem kV_inj {a b : Key} (e : kV a = kV b) : a = b := by
  cases a with
  | inl i => cases b with
    | inl j => have e' : V.int i = V.int j := e; injection e' with e'; rw [e']
    | inr y => exact nomatch (show V.int i = V.str y from e)
  | inr x => cases b with
    | inl j => exact nomatch (show V.str x = V.int j from e)
    | inr y => have e' : V.str x = V.str y := e; injection e' with e'; rw [e']

/-- raw entries of a dict with tuple keys -/
noncomputable abbrev KT (H : Hp) : List (List Key × V) → List (List Key × Addr × Value) → Prop := Paired fun p q => p.1 = q.1 ∧ H q.2.1 = some (.tup (p.1.map kV)) ∧ RelV p.2 q.2.2

section
variable {P : Program} {w : World} {H : Hp} {h : Heap} {a : Addr}
end

/-- what the dict at a holds at the key y -/
noncomputable def DGet (H : Hp) (a : Addr) (y : V) (r : Option V) : Prop :=
  (∃ kvs k, Rd H a (.dK kvs) ∧ y = kV k ∧ r = valV kvs k) ∨ ∃ kvs k b, Rd H a (.dT kvs) ∧ y = .ref b ∧ H b = some (.tup (k.map kV)) ∧ r = valV kvs k
/-- the heap behind a[y] = v -/
noncomputable def DPut (H : Hp) (a : Addr) (y v : V) (H' : Hp) : Prop :=
  (∃ kvs k, H a = some (.dK kvs) ∧ y = kV k ∧ kvs.length < sizeLine ∧ H' = upd H a (.dK (putK kvs k v))) ∨
  ∃ kvs k b, H a = some (.dT kvs) ∧ y = .ref b ∧ H b = some (.tup (k.map kV)) ∧ kvs.length < sizeLine ∧ H' = upd H a (.dT (putK kvs k v))


section
variable {X : Cx} {pins : List (Addr × Obj)} {σ : St} {H : Hp} {s : Shared} {a : Addr} {y v : V} {u r : Value} {o : Option V} {A : Around} {E : Value → Shared → Prop}


end

section
variable {X : Cx} {pins : List (Addr × Obj)} {σ : St} {H : Hp} {s : Shared} {a : Addr} {kvs : List (Key × V)} {k : Key} {u : Value} {A : Around} {E : Value → Shared → Prop}
end


/-- the element of a subscription, not a slice -/
noncomputable def NoSl (i : Expr) : Prop := ∀ ov iv, subscripted i false ov iv = operate [ov, iv] (getItem ov iv)


/-- d[y] -/
noncomputable def tDGet (td ty : TE) : TE := fun σ H Q => td σ H fun x H1 => ty σ H1 fun y H2 => ∃ a v, x = .ref a ∧ DGet H2 a y (some v) ∧ Q v H2
/-- y in d, y not in d -/
noncomputable def tDIn (ty td : TE) : TE := fun σ H Q => ty σ H fun y H1 => td σ H1 fun x H2 => ∃ a o, x = .ref a ∧ DGet H2 a y o ∧ Q (.bl o.isSome) H2
noncomputable def tDNotIn (ty td : TE) : TE := fun σ H Q => ty σ H fun y H1 => td σ H1 fun x H2 => ∃ a o, x = .ref a ∧ DGet H2 a y o ∧ Q (.bl (!o.isSome)) H2
/-- d[y] = v -/
noncomputable def sDPut (td ty tv : TE) : TS := fun D σ H => tv σ H fun v H1 => td σ H1 fun x H2 => ty σ H2 fun y H3 => ∃ a H4, x = .ref a ∧ DPut H3 a y v H4 ∧ D.nx σ H4
/-- d[y] op= v -/
noncomputable def sDAug (td ty tv : TE) (rd : V → V → Hp → VK → Prop) : TS := fun D σ H => td σ H fun x H1 => ty σ H1 fun y H2 => ∃ a v, x = .ref a ∧ DGet H2 a y (some v) ∧
  tv σ H2 fun y2 H3 => rd v y2 H3 fun z H4 => ∃ H5, DPut H4 a y z H5 ∧ D.nx σ H5
/-- del d[y] -/
noncomputable def sDDel (td ty : TE) : TS := fun D σ H => td σ H fun x H1 => ty σ H1 fun y H2 => ∃ a kvs k, x = .ref a ∧ H2 a = some (.dK kvs) ∧ y = kV k ∧ (valV kvs k).isSome = true ∧ D.nx σ (upd H2 a (.dK (dropK kvs k)))

section
variable {X : Cx} {o i e value : Expr} {pos pos' tpos : Pos} {td ty tv : TE}
end


noncomputable def tDNewT : TE := fun _ H Q => ∀ p, H p = none → Q (.ref p) (upd H p (.dT []))
section
variable {X : Cx} {pos : Pos}
end

/-- the pairs of a display, from the left -/
noncomputable def tPairs : List (TE × TE) → St → Hp → (List (V × V) → Hp → Prop) → Prop
  | [], _, H, Q => Q [] H
  | (tk, tv) :: r, σ, H, Q => tk σ H fun x H1 => tv σ H1 fun y H2 => tPairs r σ H2 fun ps H3 => Q ((x, y) :: ps) H3
noncomputable abbrev VV : List (V × V) → List (Value × Value) → Prop := Paired fun p q => RelV p.1 q.1 ∧ RelV p.2 q.2
noncomputable def PPs (X : Cx) (pos : Pos) (keys : List (Option Expr)) (values : List Expr) (trs : List (TE × TE)) : Prop :=
  ∀ (pins : List (Addr × Obj)) (s : Shared) (σ : St) (H : Hp) (Q : List (V × V) → Hp → Prop), Inv X pins σ H s → tPairs trs σ H Q →
    wpAny (model X.prog X.w) X.A (evalPairs (pairTrees keys values X.env pos)) (fun vs s' => ∃ ps H', Inv X pins σ H' s' ∧ VV ps vs ∧ Q ps H') X.xe s

noncomputable def mergeK (kvs more : List (Key × V)) : List (Key × V) := more.foldl (fun acc kv => putK acc kv.1 kv.2) kvs
/-- {k: v, ..} with keys ints and texts; the new dict stands empty while the pairs are made -/
noncomputable def tDisp (trs : List (TE × TE)) : TE := fun σ H Q => ∀ p, H p = none → tPairs trs σ (upd H p (.dK [])) fun ps H2 => H2 p = some (.dK []) ∧ ∃ kvs : List (Key × V), ps = kvs.map (fun kv => (kV kv.1, kv.2)) ∧ kvs.length ≤ 15 ∧ Q (.ref p) (upd H2 p (.dK (mergeK [] kvs)))


/-- a method call o.m(e) of a built-in, with one argument: what must be seen of the text -/
structure M1 (X : Cx) (o : Expr) (m : Str) (apos : Pos) (e : Expr) (cpos : Pos) : Prop where
  base : attributeBase o m X.env (eval o X.env) = eval o X.env
  few : ((backTo cpos (starEach [e] X.env)).all (fun x => !x.1) && (backToKw cpos (keywordEach [] X.env)).all (fun x => x.1.isSome)
    && decide (([e] : List Expr).length + ([] : List Keyword).length + (if ([] : List Keyword).isEmpty then 0 else 1) < 30)) = true
  line : (apos.endLine == cpos.line) = true
  trees : backTo cpos (starEach [e] X.env) = [(false, eval e X.env)]
structure M2 (X : Cx) (o : Expr) (m : Str) (apos : Pos) (e f : Expr) (cpos : Pos) : Prop where
  base : attributeBase o m X.env (eval o X.env) = eval o X.env
  few : ((backTo cpos (starEach [e, f] X.env)).all (fun x => !x.1) && (backToKw cpos (keywordEach [] X.env)).all (fun x => x.1.isSome)
    && decide (([e, f] : List Expr).length + ([] : List Keyword).length + (if ([] : List Keyword).isEmpty then 0 else 1) < 30)) = true
  line : (apos.endLine == cpos.line) = true
  trees : backTo cpos (starEach [e, f] X.env) = [(false, eval e X.env), (false, eval f X.env)]

/-- a is a dict, whatever its keys -/
noncomputable def IsD (H : Hp) (a : Addr) : Prop := (∃ kvs, Rd H a (.dK kvs)) ∨ ∃ kvs, Rd H a (.dT kvs)

section
variable {X : Cx} {pins : List (Addr × Obj)} {σ : St} {H : Hp} {s : Shared} {a : Addr} {y d : V} {u r : Value} {o : Option V} {A : Around} {E : Value → Shared → Prop}
end

noncomputable def tDGet1 (td ty : TE) : TE := fun σ H Q => td σ H fun x H1 => ∃ a, x = .ref a ∧ IsD H1 a ∧ ty σ H1 fun y H2 => ∃ o, DGet H2 a y o ∧ Q (o.getD .non) H2
noncomputable def tDGet2 (td ty tx : TE) : TE := fun σ H Q => td σ H fun x H1 => ∃ a, x = .ref a ∧ IsD H1 a ∧ ty σ H1 fun y H2 => tx σ H2 fun z H3 => ∃ o, DGet H3 a y o ∧ Q (o.getD z) H3
/-- d.pop(k): there; d.pop(k, x): there or not -/
noncomputable def tDPop1 (td ty : TE) : TE := fun σ H Q => td σ H fun x H1 => ∃ a, x = .ref a ∧ IsD H1 a ∧ ty σ H1 fun y H2 => ∃ kvs k v, H2 a = some (.dK kvs) ∧ y = kV k ∧ valV kvs k = some v ∧ Q v (upd H2 a (.dK (dropK kvs k)))
noncomputable def tDPop2 (td ty tx : TE) : TE := fun σ H Q => td σ H fun x H1 => ∃ a, x = .ref a ∧ IsD H1 a ∧ ty σ H1 fun y H2 => tx σ H2 fun z H3 => ∃ kvs k, H3 a = some (.dK kvs) ∧ y = kV k ∧
  (∀ v, valV kvs k = some v → Q v (upd H3 a (.dK (dropK kvs k)))) ∧ (valV kvs k = none → Q z H3)
section
variable {X : Cx} {o e f : Expr} {apos cpos : Pos} {td ty tx : TE}
end

section
variable {X : Cx} {pins : List (Addr × Obj)} {σ : St} {H : Hp} {s : Shared} {a : Addr} {kvs : List (Key × V)} {A : Around} {E : Value → Shared → Prop}
end


section
variable {X : Cx} {pins : List (Addr × Obj)} {σ : St} {H : Hp} {s : Shared} {a : Addr} {y : V} {u : Value} {A : Around} {E : Value → Shared → Prop}
end
end L2

namespace Att
open PySem PySem.W PySem.Calls PyProof.Rows

end Att





namespace L2
open PySem PySem.Spec PyProof.Rows

section
variable {X : Cx}
end

section
variable {κ : Type} [DecidableEq κ]
theorem dropK_pos {p : κ × V} {r : List (κ × V)} {k : κ} (e : p.1 = k) : dropK (p :: r) k = dropK r k := by
  unfold dropK
  rw [List.filter_cons, if_neg (by simp [e])]
theorem dropK_neg {p : κ × V} {r : List (κ × V)} {k : κ} (e : ¬ p.1 = k) : dropK (p :: r) k = p :: dropK r k := by
  unfold dropK
  rw [List.filter_cons, if_pos (by simp [e])]
theorem dropK_no : ∀ {kvs : List (κ × V)} {k : κ}, ¬ k ∈ kvs.map (·.1) → dropK kvs k = kvs
  | [], _, _ => rfl
  | p :: r, k, h => by
    have h' : ¬ k ∈ r.map (·.1) := fun m => by
      obtain ⟨q, hq, e⟩ := List.mem_map.mp m
      exact h (List.mem_map.mpr ⟨q, List.mem_cons.mpr (Or.inr hq), e⟩)
    rw [dropK_neg fun e => h (List.mem_map.mpr ⟨p, List.mem_cons.mpr (Or.inl rfl), e⟩), dropK_no h']
theorem dropK_mem {kvs : List (κ × V)} {k : κ} {p : κ × V} (h : p ∈ dropK kvs k) : p ∈ kvs := (List.mem_filter.mp h).1
end
end L2


set_option Elab.async false
set_option linter.all false
set_option maxRecDepth 100000
set_option maxHeartbeats 4000000
namespace L2
open PySem PySem.Spec PyProof.Rows
section
variable {X : Cx}
/-! ### dicts with ints as keys, by values -/
noncomputable def uInD (neg : Bool) : R2 := fun y x H Q => match y, x with
  | .int i, .ref a => ∃ kvs, Rd H a (.dK kvs) ∧ Q (.bl (if neg then !(valV kvs (Sum.inl i)).isSome else (valV kvs (Sum.inl i)).isSome)) H
  | _, _ => False
noncomputable def tGetD (ta tb : TE) : TE := fun σ H Q => ta σ H fun x H1 => tb σ H1 fun y H2 => match x, y with
  | .ref a, .int i => ∃ kvs v, Rd H2 a (.dK kvs) ∧ valV kvs (Sum.inl i) = some v ∧ Q v H2
  | _, _ => False
noncomputable def uSetD : TSet := fun o i v H Q => match o, i with
  | .ref a, .int k => ∃ kvs, H a = some (.dK kvs) ∧ kvs.length < sizeLine ∧ Q (upd H a (.dK (putK kvs (Sum.inl k) v)))
  | _, _ => False
noncomputable def uDict : List V → Hp → VK → Prop := fun xs H Q => match xs with
  | [.ref a] => ∃ kvs, Rd H a (.dK kvs) ∧ ∀ p, H p = none → Q (.ref p) (upd H p (.dK kvs))
  | _ => False
noncomputable def tGet1 (td ty : TE) : TE := fun σ H Q => td σ H fun x H1 => match x with
  | .ref a => (∃ kvs, Rd H1 a (.dK kvs)) ∧ ty σ H1 fun y H2 => match y with
    | .int i => ∃ kvs, Rd H2 a (.dK kvs) ∧ Q ((valV kvs (Sum.inl i)).getD .non) H2
    | _ => False
  | _ => False
end
/-! ### for k in d: the dict is known to the object from then on -/
noncomputable def Itd (a : Addr) (o : Obj) (kvs : List (Key × V)) : It where
  go := fun i H => i < kvs.length ∧ H a = some (.frz o (.dK kvs))
  yld := fun i H x H' => H' = H ∧ ∃ k v, kvs[i]? = some (k, v) ∧ x = kV k
  stop := fun i H => kvs.length ≤ i ∧ H a = some (.frz o (.dK kvs))
section
variable {X : Cx} {tg : Expr}
noncomputable def uiDict (tl : TE) : TI := fun σ H R => tl σ H fun v H1 => match v with
  | .ref a => ∃ kvs, H1 a = some (.dK kvs) ∧ ∀ o : Obj, R (Itd a o kvs) (upd H1 a (.frz o (.dK kvs)))
  | _ => False
end
end L2

set_option Elab.async false
set_option linter.all false
set_option maxRecDepth 100000
set_option maxHeartbeats 4000000
namespace L2
open PySem PySem.Spec PyProof.Rows
section
variable {prog : Program} {w : World} {A : Around} {E : Value → Shared → Prop}
end
section
variable {X : Cx}
noncomputable def uDictP : List V → Hp → VK → Prop := fun xs H Q => match xs with
  | [.ref a] => ∃ (ps : List Addr) (kvs : List (Key × V)), H a = some (.lst (ps.map V.ref)) ∧ ps.length = kvs.length ∧ (∀ (i : Nat) p k v, ps[i]? = some p → kvs[i]? = some (k, v) → H p = some (.tup [kV k, v])) ∧ ∀ d, H d = none → Q (.ref d) (upd H d (.dK (mergeK [] kvs)))
  | _ => False
end
end L2

set_option Elab.async false
set_option linter.all false
set_option maxRecDepth 100000
set_option maxHeartbeats 4000000
namespace L2
open PySem PySem.Spec PyProof.Rows
/-! ### xs[a::2] -/
noncomputable def stepL {α : Type} : List α → List α
  | [] => []
  | [x] => [x]
  | x :: _ :: r => x :: stepL r
section
variable {X : Cx} {K : PySem.W.Frag} {e i : Expr} {te ti : TE} {pos p2 p3 p4 : Pos} {j : Nat}
noncomputable def tTwoU (K : PySem.W.Frag) (te ti : TE) : TE := fun σ H Q => te σ H fun x H1 => ti σ H1 fun y H2 => match x, y with
  | .ref a, .int k => ∃ xs, SqL K H2 a xs ∧ (0 ≤ k ∧ k ≤ xs.length) ∧ ∀ p, H2 p = none → Q (.ref p) (upd H2 p (.lst (stepL (xs.drop k.toNat))))
  | _, _ => False
end
end L2

set_option Elab.async false
set_option linter.all false
set_option maxRecDepth 100000
set_option maxHeartbeats 4000000
namespace PG
open PySem L2 PyProof PyProof.Rows
/-! ### gaps -/
structure Gaps (G : List Int) : Prop where
  pos : ∀ g ∈ G, 1 ≤ g
  le : ∀ g ∈ G, g ≤ 2000
  up : G.Pairwise (· < ·)
  few : G.length ≤ 300
  cl : ∀ g ∈ G, ∀ a, 1 ≤ a → a < g → a ∈ G ∨ g - a ∈ G
/-- the least numbers by rest that are no gaps -/
structure HouseOf (G h : List Int) : Prop where
  pos : 1 ≤ h.length
  out : (h.length : Int) ∉ G
  low : ∀ k : Int, 1 ≤ k → k < h.length → k ∈ G
  num : ∀ (r : Nat) (x : Int), h[r]? = some x → ∃ k : Nat, x = (r : Int) + (k : Int) * h.length ∧ x ∉ G ∧ ∀ j : Nat, j < k → (r : Int) + (j : Int) * h.length ∈ G
theorem HouseOf.len {G h h' : List Int} (a : HouseOf G h) (b : HouseOf G h') : h.length = h'.length := by
  by_cases z : h.length < h'.length
  · exact absurd (b.low h.length (by have := a.pos; omega) (by omega)) a.out
  · by_cases z2 : h'.length < h.length
    · exact absurd (a.low h'.length (by have := b.pos; omega) (by omega)) b.out
    · omega
theorem HouseOf.uniq {G h h' : List Int} (a : HouseOf G h) (b : HouseOf G h') : h = h' := by
  have e := a.len b
  apply List.ext_getElem e
  intro i h1 h2
  obtain ⟨k, k1, k2, k3⟩ := a.num i _ (List.getElem?_eq_getElem h1)
  obtain ⟨j, j1, j2, j3⟩ := b.num i _ (List.getElem?_eq_getElem h2)
  rw [← e] at j1 j3
  have : k = j := by
    rcases Nat.lt_trichotomy k j with z | z | z
    · exact absurd (j3 k z) (by rw [← k1]; exact k2)
    · exact z
    · exact absurd (k3 j z) (by rw [← j1]; exact j2)
  subst this
  rw [k1, j1]
theorem Gaps.closed {G : List Int} (g : Gaps G) {x y : Int} (hx : 0 ≤ x) (hy : 0 ≤ y) (nx : x ∉ G) (ny : y ∉ G) : x + y ∉ G := fun h => by
  by_cases x0 : x = 0
  · rw [x0, Int.zero_add] at h; exact ny h
  · by_cases y0 : y = 0
    · rw [y0, Int.add_zero] at h; exact nx h
    · rcases g.cl _ h x (by omega) (by omega) with z | z
      · exact nx z
      · rw [show x + y - x = y by omega] at z
        exact ny z
theorem Gaps.times {G : List Int} (g : Gaps G) {x m : Int} (hx : 0 ≤ x) (hm : 0 ≤ m) (nx : x ∉ G) (nm : m ∉ G) : ∀ k : Nat, x + (k : Int) * m ∉ G
  | 0 => by rw [show x + ((0 : Nat) : Int) * m = x by simp]; exact nx
  | k + 1 => by
    have := g.closed (x := x + (k : Int) * m) (y := m) (by have := Int.mul_nonneg (Int.natCast_nonneg k) hm; omega) hm (g.times hx hm nx nm k) nm
    rw [show x + ((k + 1 : Nat) : Int) * m = x + (k : Int) * m + m by rw [Int.natCast_add, Int.add_mul]; simp; omega]
    exact this
theorem HouseOf.can {G h : List Int} (g : Gaps G) (a : HouseOf G h) (n : Int) : Can h n ↔ 0 ≤ n ∧ n ∉ G := by
  have hp := a.pos
  have m1 := Int.emod_lt_of_pos n (show (0 : Int) < h.length by omega)
  have m0 := Int.emod_nonneg n (show (h.length : Int) ≠ 0 by omega)
  have hr : (n % (h.length : Int)).toNat < h.length := by omega
  obtain ⟨k, k1, k2, k3⟩ := a.num _ _ (getD_some (ns := h) hr)
  rw [can_iff]
  rw [Int.toNat_of_nonneg m0] at k1 k3
  have e := Int.emod_add_mul_ediv n (h.length : Int)
  generalize h.getD (n % (h.length : Int)).toNat 0 = x at k1 k2
  generalize hr' : n % (h.length : Int) = r at *
  generalize n / (h.length : Int) = t at *
  have kn : 0 ≤ (k : Int) * h.length := Int.mul_nonneg (Int.natCast_nonneg k) (Int.natCast_nonneg _)
  constructor
  · intro hle
    refine ⟨by omega, ?_⟩
    have h1 : (h.length : Int) * (k : Int) ≤ (h.length : Int) * t := by
      have := Int.mul_comm (k : Int) (h.length : Int)
      omega
    have h2 := Int.le_of_mul_le_mul_left h1 (by omega)
    have := g.times (x := x) (m := (h.length : Int)) (by omega) (by omega) k2 a.out (t - k).toNat
    rw [Int.toNat_of_nonneg (by omega), Int.sub_mul, Int.mul_comm t] at this
    rw [show n = x + ((h.length : Int) * t - (k : Int) * h.length) by omega]
    exact this
  · rintro ⟨n0, hn⟩
    by_cases z : (k : Int) ≤ t
    · have := Int.mul_le_mul_of_nonneg_right z (show (0 : Int) ≤ h.length by omega)
      rw [Int.mul_comm t] at this
      omega
    · exfalso
      have t0 : 0 ≤ t := by
        by_cases zz : 0 ≤ t
        · exact zz
        · have : (h.length : Int) * t ≤ (h.length : Int) * (-1) := Int.mul_le_mul_of_nonneg_left (by omega) (by omega)
          omega
      obtain ⟨u, rfl⟩ : ∃ u : Nat, t = (u : Int) := ⟨t.toNat, by omega⟩
      have := k3 u (by omega)
      rw [Int.mul_comm] at this
      rw [e] at this
      exact hn this
theorem HouseOf.house {G h : List Int} (g : Gaps G) (a : HouseOf G h) : House h := by
  have hp := a.pos
  have z0 : (0 : Int) ∉ G := fun z => by have := g.pos 0 z; omega
  have hnn : ∀ (r : Nat) (x : Int), h[r]? = some x → 0 ≤ x ∧ x ∉ G ∧ x % (h.length : Int) = r := fun r x hx => by
    obtain ⟨k, k1, k2, k3⟩ := a.num r x hx
    have kn : 0 ≤ (k : Int) * h.length := Int.mul_nonneg (Int.natCast_nonneg k) (Int.natCast_nonneg _)
    have hr : r < h.length := (List.getElem?_eq_some_iff.mp hx).1
    refine ⟨by omega, k2, ?_⟩
    rw [k1, Int.add_mul_emod_self_right]
    exact Int.emod_eq_of_lt (by omega) (by omega)
  refine ⟨by omega, ?_, fun r x hx hr => ?_, fun r x hx => (hnn r x hx).2.2, fun i j k x y z hx hy hz e => ?_⟩
  · obtain ⟨k, k1, k2, k3⟩ := a.num 0 _ (getD_some (ns := h) (i := 0) (by omega))
    cases k with
    | zero =>
      rw [getD_some (ns := h) (i := 0) (by omega), k1]
      simp
    | succ k =>
      have := k3 0 (by omega)
      rw [show ((0 : Nat) : Int) + ((0 : Nat) : Int) * (h.length : Int) = 0 by simp] at this
      exact absurd this z0
  · obtain ⟨k, k1, k2, k3⟩ := a.num r x hx
    have hrl : r < h.length := (List.getElem?_eq_some_iff.mp hx).1
    cases k with
    | zero =>
      have := a.low r (by omega) (by omega)
      rw [show x = (r : Int) by rw [k1]; simp] at k2
      exact absurd this k2
    | succ k =>
      have kn : 0 ≤ (k : Int) * h.length := Int.mul_nonneg (Int.natCast_nonneg k) (Int.natCast_nonneg _)
      rw [k1, Int.natCast_add, Int.add_mul]
      simp
      omega
  · obtain ⟨x0, x1, _⟩ := hnn i x hx
    obtain ⟨y0, y1, _⟩ := hnn j y hy
    obtain ⟨_, _, z2⟩ := hnn k z hz
    have hc := (a.can g (x + y)).mpr ⟨by omega, g.closed x0 y0 x1 y1⟩
    rw [can_iff] at hc
    have ei : (x + y) % (h.length : Int) = (k : Int) := by
      rw [e, Int.add_emod, (hnn i x hx).2.2, (hnn j y hy).2.2]
    rw [ei, Int.toNat_natCast, getD_at hz] at hc
    exact hc
/-- two rising lists with the same members -/
theorem rising_eq : ∀ {xs ys : List Int}, xs.Pairwise (· < ·) → ys.Pairwise (· < ·) → (∀ x, x ∈ xs ↔ x ∈ ys) → xs = ys
  | [], [], _, _, _ => rfl
  | [], y :: ys, _, _, h => absurd ((h y).mpr List.mem_cons_self) (by simp)
  | x :: xs, [], _, _, h => absurd ((h x).mp List.mem_cons_self) (by simp)
  | x :: xs, y :: ys, hx, hy, h => by
    have hx' := List.pairwise_cons.mp hx
    have hy' := List.pairwise_cons.mp hy
    have e : x = y := by
      rcases List.mem_cons.mp ((h x).mp List.mem_cons_self) with z | z
      · exact z
      · rcases List.mem_cons.mp ((h y).mpr List.mem_cons_self) with w | w
        · exact w.symm
        · have := hy'.1 x z
          have := hx'.1 y w
          omega
    subst e
    rw [rising_eq hx'.2 hy'.2 fun z => ?_]
    constructor
    · intro hz
      rcases List.mem_cons.mp ((h z).mp (List.mem_cons_of_mem _ hz)) with w | w
      · have := hx'.1 z hz; omega
      · exact w
    · intro hz
      rcases List.mem_cons.mp ((h z).mpr (List.mem_cons_of_mem _ hz)) with w | w
      · have := hy'.1 z hz; omega
      · exact w
theorem HouseOf.below {G h : List Int} {M : Int} (g : Gaps G) (a : HouseOf G h) (mx : ∀ x ∈ h, x ≤ M) : ∀ x ∈ G, x ≤ M - (h.length : Int) := fun x hx => by
  by_cases z : x ≤ M - (h.length : Int)
  · exact z
  · have := (a.can g x).mp ((a.house g).canAbove mx (by omega))
    exact absurd hx this.2
theorem HouseOf.top {G h : List Int} {M : Int} (g : Gaps G) (a : HouseOf G h) (hM : M ∈ h) (mx : ∀ x ∈ h, x ≤ M) : (G = [] ∧ M - (h.length : Int) = -1) ∨ (M - (h.length : Int) ∈ G ∧ ∀ x ∈ G, x ≤ M - (h.length : Int)) := by
  have hh := a.house g
  have nt : ¬ Can h (M - (h.length : Int)) := hh.notTop hM
  cases hG : G with
  | nil =>
    left
    refine ⟨rfl, ?_⟩
    have hl : h.length = 1 := by
      by_cases z : 1 < h.length
      · have := a.low 1 (by omega) (by omega)
        rw [hG] at this
        cases this
      · have := a.pos; omega
    have := hh.nonneg M hM
    rw [a.can g] at nt
    rw [hG] at nt
    by_cases z : 0 ≤ M - (h.length : Int)
    · exact absurd ⟨z, by simp⟩ nt
    · omega
  | cons y r =>
    right
    have hy : y ∈ G := by rw [hG]; exact List.mem_cons_self
    have h1 := g.pos y hy
    have h2 := a.below g mx y hy
    rw [← hG]
    refine ⟨?_, a.below g mx⟩
    rw [a.can g] at nt
    by_cases z : M - (h.length : Int) ∈ G
    · exact z
    · exact absurd ⟨by omega, z⟩ nt
theorem sub_len {α : Type} [DecidableEq α] : ∀ {l m : List α}, l.Nodup → (∀ x ∈ l, x ∈ m) → l.length ≤ m.length
  | [], _, _, _ => Nat.zero_le _
  | x :: l, m, hn, hs => by
    have hn' := List.nodup_cons.mp hn
    have hx := hs x List.mem_cons_self
    have := sub_len (l := l) (m := m.erase x) hn'.2 fun y hy => by
      have : y ≠ x := fun e => hn'.1 (e ▸ hy)
      exact (List.mem_erase_of_ne this).mpr (hs y (List.mem_cons_of_mem _ hy))
    rw [List.length_erase_of_mem hx] at this
    have := List.length_pos_of_mem hx
    rw [List.length_cons]
    omega
/-! ### where gaps come from -/
theorem Gaps.nil : Gaps [] := ⟨by simp, by simp, .nil, by simp, by simp⟩
theorem Gaps.snoc {G : List Int} {x : Int} (g : Gaps G) (hx : ∀ y ∈ G, y < x) (x1 : 1 ≤ x) (x2 : x ≤ 2000) (hl : G.length < 300) (hc : ∀ a, 1 ≤ a → a ≤ x / 2 → a ∈ G ∨ x - a ∈ G) : Gaps (G ++ [x]) := by
  refine ⟨fun y hy => ?_, fun y hy => ?_, ?_, by simp; omega, fun y hy a a1 a2 => ?_⟩
  · rcases List.mem_append.mp hy with z | z
    · exact g.pos y z
    · rw [List.mem_singleton.mp z]; exact x1
  · rcases List.mem_append.mp hy with z | z
    · exact g.le y z
    · rw [List.mem_singleton.mp z]; exact x2
  · rw [List.pairwise_append]
    exact ⟨g.up, by simp, fun y hy z hz => by rw [List.mem_singleton.mp hz]; exact hx y hy⟩
  · rcases List.mem_append.mp hy with z | z
    · rcases g.cl y z a a1 a2 with w | w
      · exact .inl (List.mem_append_left _ w)
      · exact .inr (List.mem_append_left _ w)
    · have e := List.mem_singleton.mp z
      subst e
      by_cases h : a ≤ y / 2
      · rcases hc a a1 h with w | w
        · exact .inl (List.mem_append_left _ w)
        · exact .inr (List.mem_append_left _ w)
      · rcases hc (y - a) (by omega) (by omega) with w | w
        · exact .inr (List.mem_append_left _ w)
        · rw [show y - (y - a) = a by omega] at w
          exact .inl (List.mem_append_left _ w)
/-! ### a dict of truths -/
noncomputable def MemD (kvs : List (Key × V)) (G : List Int) : Prop := ∀ n : Int, (valV kvs (Sum.inl n)).isSome = decide (n ∈ G)
noncomputable def trueL (G : List Int) : List (Key × V) := G.map fun g => (Sum.inl g, V.bl true)
/-! ### what is asked of the readings -/
noncomputable def sCellN (K : PySem.W.Frag) : Sp := fun vs H Q _ => match vs with
  | [.ref a, .int k] => ∃ ns, LI K H a ns ∧ ns.length ≤ 63 ∧ (0 ≤ k ∧ k ≤ 1000) ∧ ∀ n : Int, Q (.int n) H
  | _ => False
noncomputable def sMixN (K : PySem.W.Frag) : Sp := fun vs H Q _ => match vs with
  | [.ref a, .int k] => ∃ ns, LI K H a ns ∧ ns.length ≤ 63 ∧ (0 ≤ k ∧ k ≤ 1000) ∧ ∀ n : Int, 0 ≤ n → Q (.int n) H
  | _ => False
noncomputable def sFirstG : Sp := fun vs H Q _ => match vs with
  | [.ref d, .int st, .int step] => ∃ G kvs, H d = some (.dK kvs) ∧ MemD kvs G ∧ (∀ g ∈ G, g ≤ 2000) ∧ (0 ≤ st ∧ st ≤ 3000) ∧ (1 ≤ step ∧ step ≤ 3000) ∧ ∀ k : Nat, st + (k : Int) * step ∉ G → (∀ j : Nat, j < k → st + (j : Int) * step ∈ G) → Q (.int (st + (k : Int) * step)) H
  | _ => False
noncomputable def sClosedG : Sp := fun vs H Q _ => match vs with
  | [.ref d, .int g] => ∃ G kvs, H d = some (.dK kvs) ∧ MemD kvs G ∧ (∀ a, 1 ≤ a → a < g → a ∈ G ∨ g - a ∈ G) ∧ (1 ≤ g ∧ g ≤ 2000) ∧ Q .non H
  | _ => False
noncomputable def sIsGap : Sp := fun vs H Q _ => match vs with
  | [.int n] => (1 ≤ n ∧ n ≤ 2000) ∧ Q (.bl true) H
  | _ => False
noncomputable def sChkG (K : PySem.W.Frag) : Sp := fun vs H Q _ => match vs with
  | [.ref a] => ∃ ys, LI K H a ys ∧ ys.length ≤ 300 ∧ (∀ y ∈ ys, 1 ≤ y ∧ y ≤ 2000) ∧ ys.Nodup ∧ ∀ H', Same H H' → Q .non H'
  | _ => False
noncomputable def sHBG (K : PySem.W.Frag) : Sp := fun vs H Q _ => match vs with
  | [.ref a] => ∃ ys G, LI K H a ys ∧ ys.Perm G ∧ Gaps G ∧ ∀ (p : Addr) (h : List Int) (H' : Hp), Same H H' → H p = none → H' p = some (.lst (h.map V.int)) → HouseOf G h → Q (.ref p) H'
  | _ => False
noncomputable def closedB (G : List Int) (n : Int) : Bool := (List.range (n / 2).toNat).all fun (i : Nat) => decide (1 + (i : Int) ∈ G) || decide (n - (1 + (i : Int)) ∈ G)
theorem closedB_of {G : List Int} {n : Int} (h : closedB G n = true) : ∀ x, 1 ≤ x → x ≤ n / 2 → x ∈ G ∨ n - x ∈ G := fun x x1 x2 => by
  unfold closedB at h
  rw [List.all_eq_true] at h
  have := h (x - 1).toNat (List.mem_range.mpr (by omega))
  rw [show 1 + (((x - 1).toNat : Nat) : Int) = x by omega, Bool.or_eq_true, decide_eq_true_iff, decide_eq_true_iff] at this
  exact this
noncomputable def sStays (K : PySem.W.Frag) : Sp := fun vs H Q _ => match vs with
  | [.ref a, .int n] => ∃ G, LI K H a G ∧ G.length ≤ 1000 ∧ (1 ≤ n ∧ n ≤ 2000) ∧ ∀ (H' : Hp), Same H H' → Q (.bl (closedB G n)) H'
  | _ => False
noncomputable def sGapsOf (K : PySem.W.Frag) : Sp := fun vs H Q _ => match vs with
  | [.ref a] => ∃ ns, LI K H a ns ∧ ns.length ≤ 63 ∧ ∀ (p : Addr) (G : List Int) (H' : Hp), Same H H' → H p = none → H' p = some (.lst (G.map V.int)) → Gaps G → (∀ g ∈ G, g ≤ 620) → Q (.ref p) H'
  | _ => False
noncomputable def sDueG (K : PySem.W.Frag) : Sp := fun vs H Q _ => match vs with
  | [.ref a] => ∃ G, LI K H a G ∧ Gaps G ∧ ∀ (p : Addr) (h : List Int) (H' : Hp), Same H H' → H p = none → H' p = some (.lst (h.map V.int)) → HouseOf G h → Q (.ref p) H'
  | _ => False
noncomputable def sDealt (K : PySem.W.Frag) : Sp := fun vs H Q _ => match vs with
  | [.ref a, .int n] => ∃ G, LI K H a G ∧ G.length ≤ 1000 ∧ 0 ≤ n ∧ ∀ (p : Addr) (ys : List Int) (H' : Hp), Same H H' → H p = none → H' p = some (.lst (ys.map V.int)) → ys.Perm G → Q (.ref p) H'
  | _ => False
/-! ### the first one that is no gap -/
theorem first_ex {G : List Int} (gl : ∀ g ∈ G, g ≤ 2000) {st step : Int} (h0 : 0 ≤ st) (h : 1 ≤ step) : ∃ k : Nat, st + (k : Int) * step ∉ G ∧ ∀ j : Nat, j < k → st + (j : Int) * step ∈ G := by
  have out : st + ((2001 : Nat) : Int) * step ∉ G := fun z => by
    have := gl _ z
    have : ((2001 : Nat) : Int) * 1 ≤ ((2001 : Nat) : Int) * step := Int.mul_le_mul_of_nonneg_left h (by omega)
    omega
  have all : ∀ n : Nat, (∃ k : Nat, k ≤ n ∧ st + (k : Int) * step ∉ G ∧ ∀ j : Nat, j < k → st + (j : Int) * step ∈ G) ∨ ∀ k : Nat, k ≤ n → st + (k : Int) * step ∈ G := fun n => by
    induction n with
    | zero =>
      by_cases z : st + ((0 : Nat) : Int) * step ∈ G
      · right
        intro k hk
        rw [show k = 0 by omega]
        exact z
      · exact .inl ⟨0, by omega, z, fun j hj => by omega⟩
    | succ n ih =>
      rcases ih with ⟨k, hk, h1⟩ | ih
      · exact .inl ⟨k, by omega, h1⟩
      · by_cases z : st + ((n + 1 : Nat) : Int) * step ∈ G
        · right
          intro k hk
          by_cases e : k = n + 1
          · rw [e]; exact z
          · exact ih k (by omega)
        · exact .inl ⟨n + 1, by omega, z, fun j hj => ih j (by omega)⟩
  rcases all 2001 with ⟨k, _, h1⟩ | h1
  · exact ⟨k, h1⟩
  · exact absurd (h1 2001 (Nat.le_refl _)) out
open Classical in
noncomputable def firstK (G : List Int) (st step : Int) : Nat := if h : ∃ k : Nat, st + (k : Int) * step ∉ G ∧ ∀ j : Nat, j < k → st + (j : Int) * step ∈ G then Classical.choose h else 0
theorem firstK_spec {G : List Int} (gl : ∀ g ∈ G, g ≤ 2000) {st step : Int} (h0 : 0 ≤ st) (h : 1 ≤ step) : st + (firstK G st step : Int) * step ∉ G ∧ ∀ j : Nat, j < firstK G st step → st + (j : Int) * step ∈ G := by
  have ex := first_ex gl h0 h
  unfold firstK
  rw [dif_pos ex]
  exact Classical.choose_spec ex
noncomputable def hOf (G : List Int) (m : Nat) : List Int := (List.range m).map fun (i : Nat) => 0 + (i : Int) + (firstK G (0 + (i : Int)) (m : Int) : Int) * (m : Int)
theorem hOf_house {G : List Int} (gl : ∀ g ∈ G, g ≤ 2000) {m : Nat} (m1 : 1 ≤ m) (out : (m : Int) ∉ G) (low : ∀ k : Int, 1 ≤ k → k < m → k ∈ G) : HouseOf G (hOf G m) := by
  have hl : (hOf G m).length = m := by unfold hOf; simp
  refine ⟨by omega, by rw [hl]; exact out, by rw [hl]; exact low, fun r x hx => ?_⟩
  have hr : r < m := by have := (List.getElem?_eq_some_iff.mp hx).1; omega
  unfold hOf at hx
  rw [List.getElem?_map, List.getElem?_range hr] at hx
  cases hx
  obtain ⟨f1, f2⟩ := firstK_spec gl (st := 0 + (r : Int)) (step := (m : Int)) (by omega) (by omega)
  rw [hl]
  refine ⟨firstK G (0 + (r : Int)) (m : Int), by show 0 + (r : Int) + (firstK G (0 + (r : Int)) (m : Int) : Int) * (m : Int) = _; omega, f1, fun j hj => ?_⟩
  have := f2 j hj
  rwa [Int.zero_add] at this
end PG

set_option Elab.async false
set_option linter.all false
set_option maxRecDepth 100000
set_option maxHeartbeats 4000000
namespace PySem
section
variable {prog : Program} {w : World} {A : Around} {E : Value → Shared → Prop} {s : Shared}
end
end PySem

set_option Elab.async false
set_option linter.all false
set_option maxRecDepth 100000
set_option maxHeartbeats 4000000
namespace L2
open PySem PySem.SeqAt PySem.Spec PyProof.Rows
/-- within the handling of an exception that the ledger holds fast, and that has no context -/
noncomputable def HeldX (X : Cx) : Prop := ∃ (x : Addr) (o : Obj) (u : HO) (vs : Array Value), X.A.handled = some (.ref x) ∧ X.H₀ x = some (.frz o u) ∧ o.data = .fields vs ∧ vs[2]? = some .none
structure TurnH (P : Program) (w : World) (K : PySem.W.Frag) (tg : Expr) (J : It) (fp : List Addr) (it : Addr) (tn : Nat → Heap → Prop) : Prop where
  obj : ∀ i h, tn i h → ∀ b ∈ fp, ∃ o, h.get? b = some o ∧ ∀ v, o.data ≠ .cell v
  keep : ∀ i h h', tn i h → (∀ b ∈ fp, ∀ o, h.get? b = some o → h'.get? b = some o) → tn i h'
  item : ∀ (X : Cx), X.prog = P → X.w = w → X.K = K → HeldX X → ∀ (i : Nat) (pins : List (Addr × Obj)) (s : Shared) (σ : St) (H : Hp) (E : Value → Shared → Prop), Inv X pins σ H s → (∀ b ∈ fp, FpOk X pins H b) → tn i s.heap → J.go i H →
    wpAny (model P w) X.A (pyNext (.ref it)) (fun r s1 => ∃ u, r = some u ∧
      wpAny (model P w) X.A (letOwnedTupleGo tg (.ref it) u) (fun _ s2 => ∃ x H', Inv X pins σ H' s2 ∧ RelV x u ∧ J.yld i H x H' ∧ tn (i + 1) s2.heap ∧ ∀ b ∈ fp, H' b = none) E s1) E s
  done : ∀ (X : Cx), X.prog = P → X.w = w → X.K = K → HeldX X → ∀ (i : Nat) (pins : List (Addr × Obj)) (s : Shared) (σ : St) (H : Hp) (E : Value → Shared → Prop), Inv X pins σ H s → (∀ b ∈ fp, FpOk X pins H b) → tn i s.heap → J.stop i H →
    wpAny (model P w) X.A (pyNext (.ref it)) (fun r s1 => r = none ∧ Inv X pins σ H s1) E s
  self : ∀ (A : Around) (i : Nat) (s : Shared) (Q : Value → Shared → Prop) (E : Value → Shared → Prop), tn i s.heap → Q (.ref it) s → wpAny (model P w) A (pyIter (.ref it)) Q E s
noncomputable def PIEH (X : Cx) (pins : List (Addr × Obj)) (σ : St) (tg : Expr) (R : It → Hp → Prop) (itv : Value) (s2 : Shared) : Prop :=
  ∃ (it : Addr) (fp : List Addr) (tn : Nat → Heap → Prop) (J : It) (H' : Hp), itv = .ref it ∧ Inv X pins σ H' s2 ∧ TurnH X.prog X.w X.K tg J fp it tn ∧ tn 0 s2.heap ∧ (∀ b ∈ fp, FpOk X pins H' b) ∧ R J H'
noncomputable def PIH (X : Cx) (tg iter : Expr) (wi : TI) : Prop :=
  ∀ (pins : List (Addr × Obj)) (s : Shared) (σ : St) (H : Hp) (R : It → Hp → Prop), Inv X pins σ H s → wi σ H R →
    wpAny (model X.prog X.w) X.A (eval iter X.env) (fun v s1 => wpAny (model X.prog X.w) X.A (pyIter v) (PIEH X pins σ tg R) X.xe s1) X.xe s
/-- the reading of a list that is walked -/
noncomputable def uiLst (K : PySem.W.Frag) (tl : TE) : TI := fun σ H R => tl σ H fun x H1 => match x with
  | .ref a => ∃ xs, SqL K H1 a xs ∧ R (Itl K a) H1
  | _ => False
section
variable {X : Cx} {pins : List (Addr × Obj)} {σ : St} {H : Hp} {s : Shared} {scope : Scope} {N' : List Str} {bl : List (Option Nat)} {elt tg iter : Expr} {ifs : List Expr} {pos pos' : Pos} {wi : TI} {g : TG} {tc : TT} {te : TE}

end
end L2

set_option Elab.async false
set_option linter.all false
set_option maxRecDepth 100000
set_option maxHeartbeats 4000000
namespace PySem
end PySem
namespace L2
open PySem PySem.SeqAt PySem.Spec PyProof.Rows
section
variable {X : Cx}
end
end L2

set_option Elab.async false
set_option linter.all false
set_option maxRecDepth 100000
set_option maxHeartbeats 4000000
namespace L2
open PySem PySem.SeqAt PySem.Spec PyProof.Rows
section
variable {X : Cx}
noncomputable def uIsiF (K : PySem.W.Frag) : List V → Hp → VK → Prop := u2 fun x y H Q => match x with
  | .ref e => ∃ C oo, H e = some (.frz oo (excO e C)) ∧ PySem.W.ErrC K C ∧ match y with
    | .ty n => ∃ b, PySem.W.kitOne K (.ref C) (.type n) = some b ∧ Q (.bl b) H
    | .ref c => (∃ b, PySem.W.kitOne K (.ref C) (.ref c) = some b ∧ Q (.bl b) H) ∨ ∃ ys b, H c = some (.tup ys) ∧ PySem.W.kitAny K (.ref C) (ys.map clsV) = some b ∧ (∀ y ∈ ys, y = .ref (match y with | .ref a => a | _ => 0)) ∧ Q (.bl b) H
    | _ => False
  | _ => False
end
noncomputable def tTryH (K : PySem.W.Frag) (C : Addr) (i : Nat) (tx : TSX) (th : Addr → TS) : TS := fun D σ H =>
  tx D (fun cls _ H' => ∃ Ce, cls = .ref Ce ∧ PySem.W.exmOne K (.ref Ce) (.ref C) = some true ∧ ∀ (ea : Addr) (oe : Obj) (ve : Array Value), H' ea = none → oe.data = .fields ve → ve[2]? = some .none →
    th ea { nx := fun σ' H2 => D.nx (σ'.set i none) H2, rt := D.rt, bk := fun σ' H2 => D.bk (σ'.set i none) H2, ct := fun σ' H2 => D.ct (σ'.set i none) H2 } (σ.set i (some (.ref ea))) (upd H' ea (.frz oe (excO ea Ce)))) σ H

/-! ### defs that are called within the handling -/
noncomputable def HeldA (A : Around) (H : Hp) : Prop := ∃ (x : Addr) (o : Obj) (u : HO) (vs : Array Value), A.handled = some (.ref x) ∧ H x = some (.frz o u) ∧ o.data = .fields vs ∧ vs[2]? = some .none
/-- the exception at ea is held fast -/
noncomputable def FastE (ea : Addr) (H : Hp) : Prop := ∃ (o : Obj) (u : HO) (vs : Array Value), H ea = some (.frz o u) ∧ o.data = .fields vs ∧ vs[2]? = some .none
structure FnOkH (P : Program) (w : World) (K : PySem.W.Frag) (mg : Str → Option Value) (base : Heap) (CX : CXT) (k : Nat) (f : Addr) (fd : FuncData) (ps : List Str) (sp : Sp) : Prop where
  len : ∀ vs H Q E, sp vs H Q E → vs.length = ps.length
  run : ∀ (A : Around) (outer : List Env) (s : Shared) (H : Hp) (args : Args) (us : List Value) (vs : List V) (Q : VK) (E : XK), RoomU k A → HeldA A H → Env0 P w K mg base A outer s H → BindsTo s fd args (ps.zip us) → Vals vs us → sp vs H Q E →
    codeAny (model P w) A (.call (.ref f) args) (CR CX outer P w H s Q E) s
section
variable {P : Program} {w : World} {K : PySem.W.Frag} {mg : Str → Option Value} {base : Heap} {x qual : Str} {st : Stmt} {f : Addr} {fd : FuncData} {N ps : List Str} {k : Nat} {sp : Sp}
end
structure GH (P : Program) (w : World) (K : PySem.W.Frag) (mg : Str → Option Value) (base : Heap) (CX : CXT) (x : Str) (ps : List Str) (k : Nat) (sp : Sp) : Prop where
  ex : ∃ f fd, mg x = some (.ref f) ∧ PySem.W.keepIn K (.ref f) = true ∧ Binds K fd ps [] ∧ FnOkH P w K mg base CX k f fd ps sp
noncomputable def tCallH (ea : Addr) (sp : Sp) (t : TA) : TE := fun σ H Q => t σ H fun vs H1 => FastE ea H1 ∧ sp (vs ++ []) H1 Q E0
section
variable {X : Cx} {CX : CXT} {x n : Str} {ps : List Str} {k : Nat} {sp : Sp} {e : Expr} {es : List Expr} {t : TA} {p pos np hpos : Pos}
end
end L2

set_option Elab.async false
set_option linter.all false
set_option maxRecDepth 100000
set_option maxHeartbeats 4000000
namespace PySem
section
variable {prog : Program} {w : World} {A : Around} {E : Value → Shared → Prop} {h : Heap} {g : Array GenState} {d : Drawn} {t : Nat} {os : OsState}
variable {nm q : Str} {C N : Addr} {bs bm bmB : List Value} {hdct : Bool} {sn : List Str} {sub : List Value} {ab : Bool} {col : Option Bool} {dd : Option Addr} {k0 k1 k2 k3 k5 : Option Value} {B newId initId : String}
end
end PySem

set_option Elab.async false
set_option linter.all false
set_option maxRecDepth 100000
set_option maxHeartbeats 4000000
namespace PySem.W
open PySem Builtin Builtin.ObjectAttr
/-- an exception class of the program below another one, whose instances have a dict -/
structure XC (K : Frag) (C P : Addr) : Prop where
  cls : ∃ cd : ClassData, clsIn K C = some cd ∧ cd.mro = [.ref C, .ref P, .type "ValueError", .type "Exception", .type "BaseException", .type "object"] ∧ cd.hasDict = true
  sa : findIn K (.ref C) "__setattr__" = some (some (.builtin "object.__setattr__"))
section
variable {prog : Program} {w : World} {A : Around} {E : Value → Shared → Prop} {s : Shared} {K : Frag} {x C P : Addr} {ox : Obj} {od : Option Obj} {name : Str} {v : Value}
end
end PySem.W

set_option Elab.async false
set_option linter.all false
set_option maxRecDepth 100000
set_option maxHeartbeats 4000000
namespace L2
open PySem PySem.Spec PyProof.Rows
/-! ### exceptions with attributes, in the ledger -/
/-- one that was made and not yet raised -/
noncomputable def ExcNew (e C : Addr) (od : Option Addr) (h : Heap) : Prop := ∃ (o : Obj) (vs : Array Value) (a0 : Value), h.get? e = some o ∧ o.cls = .ref C ∧ o.dict = od ∧ o.data = .fields vs ∧ vs[0]? = some a0 ∧ vs[1]? = some .none ∧ vs[2]? = some .none
noncomputable def excN (e C : Addr) (od : Option Addr) : HO := .ext (ExcNew e C od)
/-- one that was caught -/
noncomputable def ExcAtD (e C : Addr) (od : Option Addr) (h : Heap) : Prop := ∃ (o : Obj) (vs : Array Value), h.get? e = some o ∧ o.cls = .ref C ∧ o.dict = od ∧ o.data = .fields vs
noncomputable def excD (e C : Addr) (od : Option Addr) : HO := .ext (ExcAtD e C od)
/-- its attributes -/
noncomputable def DictX (d : Addr) (fs : List (Str × V)) (h : Heap) : Prop := ∃ mA, h.Ns1 d mA ∧ ∀ f, RelO (fs.lookup f) (mA f)
noncomputable def xdO (d : Addr) (fs : List (Str × V)) : HO := .ext (DictX d fs)
noncomputable def rem (H : Hp) (e : Addr) : Hp := fun b => if b = e then none else H b
section
variable {P : Program} {w : World} {H : Hp} {h : Heap} {e C d : Addr} {od : Option Addr} {fs : List (Str × V)}
theorem okD (x : ExcAtD e C od h) : ObjOk P w H h e (excD e C od) := by
  obtain ⟨o, vs, g1, r⟩ := id x
  exact ⟨x, ⟨o, g1⟩, fun h1 h2 ⟨o, vs, g1, r⟩ k => ⟨o, vs, k o g1, r⟩⟩
end
section
variable {X : Cx} {pins : List (Addr × Obj)} {σ : St} {H : Hp} {s : Shared} {a C Pp d : Addr} {f : Str} {y : V} {u : Value} {A : Around} {E : Value → Shared → Prop} {fs : List (Str × V)}
end
/-! ### self.f = e, within its __init__ -/
noncomputable def sFldX1 (K : PySem.W.Frag) (ta tv : TE) (f : Str) : TS := fun D σ H => tv σ H fun y H1 => ta σ H1 fun x H2 => ∃ a C Pp, x = .ref a ∧ H2 a = some (excN a C none) ∧ PySem.W.XC K C Pp ∧ PySem.W.takerIn K C f = some none ∧
  ∀ d, H2 d = none → d ≠ a → D.nx σ (upd (upd H2 a (excN a C (some d))) d (xdO d [(f, y)]))
noncomputable def sFldX2 (K : PySem.W.Frag) (ta tv : TE) (f : Str) : TS := fun D σ H => tv σ H fun y H1 => ta σ H1 fun x H2 => ∃ a C Pp d fs, x = .ref a ∧ H2 a = some (excN a C (some d)) ∧ H2 d = some (xdO d fs) ∧ fs.length < 1000 ∧ PySem.W.XC K C Pp ∧ PySem.W.takerIn K C f = some none ∧
  D.nx σ (upd H2 d (xdO d (putF f y fs)))
/-- e.f of a caught exception -/
noncomputable def tXFld (K : PySem.W.Frag) (ta : TE) (f : Str) : TE := fun σ H Q => ta σ H fun x H1 => ∃ a C d fs v, x = .ref a ∧ H1 a = some (excD a C (some d)) ∧ H1 d = some (xdO d fs) ∧ PySem.W.ErrC K C ∧ PySem.W.hasDictIn K C = true ∧ PySem.W.findIn K (.ref C) f = some none ∧ fs.lookup f = some v ∧ Q v H1
section
variable {X : Cx} {o e value : Expr} {f : Str} {pos pos' tpos : Pos} {ta tv : TE} {K : PySem.W.Frag}
end
end L2

set_option Elab.async false
set_option linter.all false
set_option maxRecDepth 100000
set_option maxHeartbeats 4000000
namespace PySem.W
open PySem
noncomputable abbrev bmV : List Value := [.type "ValueError", .type "Exception", .type "BaseException", .type "object"]
/-- what an exception class with its own __init__ must have to be made -/
structure MkX (K : Frag) (C P f : Addr) : Prop where
  cls : ∃ (nm qn : Str) (N : Addr) (bs : List Value) (sn : List Str) (sub : List Value) (ab : Bool) (col : Option Bool) (dd : Option Addr) (k0 k1 k2 k3 k5 : Option Value),
    K.lookup C = some (excClassObj nm qn C N bs (.ref P :: bmV) true sn sub ab col dd k0 k1 k2 k3 k5 "ValueError.__new__") ∧ nsOkIn K N = true ∧ nsIn K N "__init__" = some (some (.ref f))
  par : excIn K P bmV "ValueError.__new__" = true
  fn : isFn K (.ref f) = true
  kp : keepIn K (.ref C) = true
end PySem.W
namespace L2
open PySem PySem.Spec PyProof.Rows
section
variable {X : Cx} {CX : CXT} {k : Nat} {f C Pp : Addr} {fd : FuncData} {ps : List Str} {sp : Sp} {E : XK} {pins : List (Addr × Obj)} {σ : St} {H : Hp} {s : Shared}
/-- what is wanted where an exception that was made is raised here -/
noncomputable def RaisesI (X : Cx) (E : XK) : Prop := ∀ (pins : List (Addr × Obj)) (σ : St) (H : Hp) (s : Shared) (e C : Addr) (od : Option Addr), Inv X pins σ H s → X.s₀.heap.get? e = none → H e = some (excN e C od) → E (.ref C) od (rem H e) → X.xe (.ref e) s
noncomputable def tRaiseI (C : Addr) (sp : Sp) (E : XK) (ta : TA) : TS := fun D σ H => ta σ H fun vs H1 => vs.length ≤ sizeLine ∧ ∀ x, H1 x = none → sp (.ref x :: (vs ++ [])) (upd H1 x (excN x C none)) (fun v H2 => v = .non ∧ ∃ od, H2 x = some (excN x C od) ∧ E (.ref C) od (rem H2 x)) E0
end
section
variable {P : Program} {w : World} {K : PySem.W.Frag} {mg : Str → Option Value} {base : Heap} {N : List Str} {qual : Str} {scope : Scope} {f : Addr} {cd : Value} {A : Around} {outer : List Env} {s : Shared} {H : Hp} {E : XK}
end
end L2

set_option Elab.async false
set_option linter.all false
set_option maxRecDepth 100000
set_option maxHeartbeats 4000000
namespace L2
open PySem PySem.Spec PyProof.Rows
section
variable {X : Cx}
noncomputable def uIsiD (K : PySem.W.Frag) : List V → Hp → VK → Prop := u2 fun x y H Q => match x with
  | .ref e => ∃ C od, H e = some (excD e C od) ∧ PySem.W.ErrC K C ∧ match y with
    | .ty n => ∃ b, PySem.W.kitOne K (.ref C) (.type n) = some b ∧ Q (.bl b) H
    | .ref c => (∃ b, PySem.W.kitOne K (.ref C) (.ref c) = some b ∧ Q (.bl b) H) ∨ ∃ ys b, H c = some (.tup ys) ∧ PySem.W.kitAny K (.ref C) (ys.map clsV) = some b ∧ (∀ y ∈ ys, y = .ref (match y with | .ref a => a | _ => 0)) ∧ Q (.bl b) H
    | _ => False
  | _ => False
theorem uc_isiD_0 : CallR X (.builtin "isinstance") (uIsiD X.K) := by
  intro pins s σ H xs us Q I r h
  obtain ⟨x, y, rfl, h⟩ := u2_of h
  obtain ⟨u, v, rfl, rx, ry⟩ := vals2 r
  cases x with
  | ref e =>
    cases rx
    obtain ⟨C, od, hC, c, h⟩ := h
    have hE : ExcAt e C s.heap := by
      obtain ⟨⟨oo, ww, z1, z2, _, z3⟩, _⟩ := (show ObjOk X.prog X.w H s.heap e (excD e C od) from I.hok e _ hC)
      exact ⟨oo, ww, z1, z2, z3⟩
    cases y with
    | ty n =>
      cases ry
      obtain ⟨b, e1, q⟩ := h
      exact PySem.W.kia_one (PySem.W.kitx_exc c) I.kIn hE e1 (fun z => nomatch z) fun tk => ⟨.bl b, H, I.tok _, rfl, q⟩
    | ref a =>
      cases ry
      rcases h with ⟨b, e1, q⟩ | ⟨ys, b, ht, e1, hy, q⟩
      · exact PySem.W.kia_one (PySem.W.kitx_exc c) I.kIn hE e1 (fun z => nomatch z) fun tk => ⟨.bl b, H, I.tok _, rfl, q⟩
      · obtain ⟨hz, its, rv, o, ho, hc1, n, hd⟩ := (show ObjOk X.prog X.w H s.heap a (.tup ys) from I.hok a _ ht)
        have := vals_cls rv hy
        subst this
        obtain ⟨oc, od, odt, osl⟩ := o
        cases hc1
        cases hd
        exact PySem.W.kia_tup (PySem.W.kitx_exc c) I.kIn hE ho e1 (fun z => nomatch z) fun tk => ⟨.bl b, H, I.tok _, rfl, q⟩
    | _ => exact False.elim h
  | _ => exact False.elim h
theorem uc_isiD {K : PySem.W.Frag} (hK : X.K = K := by rfl) : CallR X (.builtin "isinstance") (uIsiD K) := by subst hK; exact uc_isiD_0
end
noncomputable def tTryD (K : PySem.W.Frag) (C : Addr) (i : Nat) (tx : TSX) (th : TS) : TS := fun D σ H =>
  tx D (fun cls od H' => ∃ Ce, cls = .ref Ce ∧ PySem.W.exmOne K (.ref Ce) (.ref C) = some true ∧ ∀ ea, H' ea = none →
    th { nx := fun σ' H2 => D.nx (σ'.set i none) H2, rt := D.rt, bk := fun σ' H2 => D.bk (σ'.set i none) H2, ct := fun σ' H2 => D.ct (σ'.set i none) H2 } (σ.set i (some (.ref ea))) (upd H' ea (excD ea Ce od))) σ H
theorem ps_tryD {X : Cx} {x n : Str} {C : Addr} {i : Nat} {tx : TSX} {th : TS} {body suite : List Stmt} {b₀ : Stmt} {np hpos pos : Pos} (hst : X.stack = X.env :: X.outer) (hfr : X.env.frame = some X.env.locals)
    (hm : X.mg x = some (.ref C)) (hN : X.N.Nodup) (hi : X.N[i]? = some n) (hn : X.env.scope.names.lookup n = some .local) (hb : PSX (CX1 X.prog X.w) X body tx) (hh : ∀ v, PSs (X.marked v).nox (b₀ :: suite) th)
    (hxe : X.ex = [] := by rfl) (hg : Gl X x := by rfl) (hd : (x == ("__debug__" : Str)) = false := by decide) :
    PS X (.Try body [.ExceptHandler (some (.Name x np)) (some n) (b₀ :: suite) hpos] [] [] pos) (tTryD X.K C i tx th) := by
  intro pins s σ H D I h
  refine wpAny_Try_except (wpAny_mono (hb pins s σ H D _ I h) (fun f s1 q => ?_) fun e s1 hx => ?_)
  · cases f with
    | next => exact wpAny_execs_nil q
    | ret v => exact q
    | brk => exact q
    | cont => exact q
  obtain ⟨H1, s0, I1, hx⟩ := hx
  obtain ⟨ea, Ce', H', B, a0, od, rfl, os, bare, fl, hok, un, hB, thB, hk, hE⟩ := hx
  obtain ⟨Ce, hCe, hex, hth⟩ := hE
  cases hCe
  have fr : X.A.frames = some (X.env :: X.outer) := by rw [← hst]; exact I1.ok.frames
  have nx : ∀ {b : Addr}, b ∉ ([] : List Addr) := fun {b} z => by cases z
  have ff := fl.2.2.1
  -- the exception is new
  have new : s0.heap.get? ea = none := by
    cases q : s0.heap.get? ea with
    | none => rfl
    | some o =>
      exfalso
      by_cases hb : ea ∈ frs X.stack
      · obtain ⟨_, o3, e3, hd3⟩ := ff.mem hb
        obtain ⟨oe, vs, _, _, _, e4, _, hd4, _⟩ := fl.2.2.2
        rw [e3] at e4
        cases e4
        exact hd3 _ hd4
      · obtain ⟨o', e'⟩ := thB ea o q hb
        rw [fl.2.1] at e'
        cases e'
  have fl0 : Heap.FlyingW B (X.env :: X.outer) ea (.ref Ce') a0 s1.heap := by rw [← hst]; exact fl
  refine wpAny_mono (Mild.any mild_noteFrame hk (wpAny_looks_onW (Q := fun _ s2 => ∃ h', Heap.HeldW B (X.env :: X.outer) ea (.ref Ce') a0 X.env.locals h' ∧ s1.heap.UpToSlots h' ∧ s2 = { s1 with heap := h' }) (E := fun _ _ => False) fr hfr fl0 fun h' a b => ⟨h', a, b, rfl⟩)) (fun _ s2 hz => ?_) fun _ _ z => z.1.elim
  obtain ⟨⟨h4, held4, up4, rfl⟩, hk4⟩ := hz
  refine wpAny_mono (Mild.any mild_setFlight hk4 (wpAny_landsW (Q := fun _ s2 => ∃ h', Heap.FlyingW B (X.env :: X.outer) ea (.ref Ce') a0 h' ∧ h4.UpToSlots h' ∧ s2 = { s1 with heap := h' }) (E := fun _ _ => False) held4 fun h' a b => ⟨h', a, b, rfl⟩)) (fun _ s2 hz => ?_) fun _ _ z => z.1.elim
  obtain ⟨⟨h5, fl5, up5, rfl⟩, hk5⟩ := hz
  have I5 : Inv X pins σ H' { s1 with heap := h5 } := I1.caught hst os bare hok un hB thB ff fl5.1 (up4.trans up5)
  obtain ⟨ob, hob, hobc⟩ := fl5.there
  have LT : PySem.W.Looks (model X.prog X.w) h5 (typeOf (.ref ea)) (.ref Ce') := hobc ▸ (PySem.W.Looks.ld hob).andThen .now
  refine wpAny_handleBy_cons (codeAny_handlers_test (ld_glob (X := X.marked (.ref ea)) (I5.marked _) hg hm ?_ hd)) (by intro q; cases q)
  refine (PySem.W.exm_one I5.kIn LT hex).here ?_
  refine codeAny_handlers_suite_as ?_
  refine wpAny_mono (Mild.any mild_setFlight hk5 (lands_againW (Q := fun _ s2 => ∃ h', Heap.FlyingW B (X.env :: X.outer) ea (.ref Ce') a0 h' ∧ h5.UpToSlots h' ∧ s2 = { s1 with heap := h' }) (E := fun _ _ => False) fl5 fun h' a b => ⟨h', a, b, rfl⟩)) (fun _ s2 hz => ?_) fun _ _ z => z.1.elim
  obtain ⟨⟨h6, fl6, up6, rfl⟩, hk6⟩ := hz
  have I6 : Inv X pins σ H' { s1 with heap := h6 } := I1.caught hst os bare hok un hB thB ff fl6.1 ((up4.trans up5).trans up6)
  obtain ⟨oe, vs, T, oT, ts, e6, ⟨ec, _⟩, ed, _⟩ := fl6.2.2.2
  have hn0 : X.s₀.heap.get? ea = none := by
    cases q : X.s₀.heap.get? ea with
    | none => rfl
    | some o =>
      exfalso
      have hx : ea ∉ X.ex := by rw [hxe]; exact nx
      obtain ⟨o', e'⟩ := I1.base.there ea o q hx
      rw [new] at e'
      cases e'
  have hHn : H' ea = none := by
    cases q : H' ea with
    | none => rfl
    | some u =>
      exfalso
      obtain ⟨o, e⟩ := (hok ea u q).there
      rw [fl.2.1] at e
      cases e
  have hL : ea ≠ X.env.locals := by
    intro z
    obtain ⟨m, ⟨o, es, ep, ho, r⟩, _⟩ := id I1.loc
    rw [← z, new] at ho
    cases ho
  have c2 : oe.dict = od := by
    obtain ⟨o', vs', k1, k2, k3, k4⟩ := hk6
    have k1' : h6.get? ea = some o' := k1
    rw [e6] at k1'
    cases k1'
    exact k2
  have I7 := I6.track (u := excD ea Ce' od) e6 hHn hn0 hL (fun x c q z => by
      obtain ⟨v, o, ho, _⟩ := I1.cell x c q
      rw [z, new] at ho
      cases ho) (fun p hp z => by
      have := (I1.pin p hp).1
      rw [z, new] at this
      cases this) (okD ⟨oe, vs, e6, ec, c2, ed⟩)
  refine store_ok I7 hN hi (.inl hn) (v := .ref ea) rfl (fun s8 I8 => ?_) (.inr hn)
  refine wpAny_mono (hh (.ref ea) pins s8 _ _ _ ((I8.marked _).wish _) (hth ea hHn)) (fun f s9 q => ?_) fun _ _ z => z.elim
  cases f with
  | next =>
    obtain ⟨σ9, H9, I9, q9⟩ := q
    exact unbind_ok (I9.unwish.unmarked I1.ok) hN hi hn fun s10 I10 => ⟨_, H9, I10, q9⟩
  | brk =>
    obtain ⟨σ9, H9, I9, q9⟩ := q
    exact unbind_ok (I9.unwish.unmarked I1.ok) hN hi hn fun s10 I10 => ⟨_, H9, I10, q9⟩
  | cont =>
    obtain ⟨σ9, H9, I9, q9⟩ := q
    exact unbind_ok (I9.unwish.unmarked I1.ok) hN hi hn fun s10 I10 => ⟨_, H9, I10, q9⟩
  | ret v =>
    obtain ⟨x9, σ9, H9, I9, r9, q9⟩ := q
    exact unbind_ok (I9.unwish.unmarked I1.ok) hN hi hn fun s10 I10 => ⟨x9, _, H9, I10, r9, q9⟩


/-- the __init__ of an exception class -/
structure GX (P : Program) (w : World) (K : PySem.W.Frag) (mg : Str → Option Value) (base : Heap) (CX : CXT) (C Pp : Addr) (ps : List Str) (k : Nat) (sp : Sp) : Prop where
  ex : ∃ f fd, PySem.W.MkX K C Pp f ∧ Binds K fd ps [] ∧ FnOk P w K mg base CX k f fd ps sp
section
variable {X : Cx} {x n : Str} {ps : List Str} {k : Nat} {sp : Sp} {e : Expr} {es : List Expr} {t : TA} {p pos np cpos hpos : Pos}
theorem q_tryD {K : PySem.W.Frag} {C : Addr} {i : Nat} {tx : TSX} {th : TS} {body suite : List Stmt} {b₀ : Stmt} (hm : X.mg x = some (.ref C)) (hN : X.N.Nodup) (hi : X.N[i]? = some n) (hn : X.env.scope.names.lookup n = some .local) (hb : QSX X body tx) (hh : ∀ v, QSs (X.marked v).nox (b₀ :: suite) th)
    (hst : X.stack = X.env :: X.outer := by rfl) (hfr : X.env.frame = some X.env.locals := by rfl) (hxe : X.ex = [] := by rfl) (hg : Gl X x := by rfl) (hd : (x == ("__debug__" : Str)) = false := by decide) (hK : X.K = K := by rfl) :
    QS X (.Try body [.ExceptHandler (some (.Name x np)) (some n) (b₀ :: suite) hpos] [] [] pos) (tTryD K C i tx th) := by
  subst hK
  exact ⟨ps_tryD hst hfr hm hN hi hn hb.run (fun v => (hh v).run) hxe hg hd⟩
end
end L2

set_option Elab.async false
set_option linter.all false
set_option maxRecDepth 100000
set_option maxHeartbeats 4000000
/-! a raise within a loop -/
namespace PySem
section
variable {M : Model} {A : Around} {E : Value → Shared → Prop} {s : Shared}
/-- just made, at these frames -/
noncomputable def NewW (B : Heap) (l : List Env) (e : Addr) (cls a0 : Value) (h : Heap) : Prop :=
  B.StaysIn h ∧ B.get? e = none ∧ h.FunFrames B l ∧ ∃ (oe : Obj) (vs : Array Value), h.get? e = some oe ∧ oe.cls = cls ∧ oe.data = .fields vs ∧ vs[0]? = some a0 ∧ vs[1]? = some .none
end
end PySem
namespace L2
open PySem PySem.Spec PyProof.Rows
section
variable {P : Program} {w : World} {K : PySem.W.Frag} {mg : Str → Option Value} {base : Heap} {N : List Str} {qual : Str} {scope : Scope} {f : Addr} {cd : Value} {A : Around} {outer : List Env} {s : Shared} {H : Hp} {E : XK}
/-- an exception on its way within the def's own rows -/
noncomputable def XL (P : Program) (w : World) (A : Around) (env : Env) (outer : List Env) (s : Shared) (H : Hp) (E : XK) : Value → Shared → Prop := fun e s' => A.frames = some (env :: outer) ∧ ∃ (ea C : Addr) (H' : Hp) (B : Heap) (a0 : Value) (od : Option Addr),
  e = .ref ea ∧ s'.os = s.os ∧ AllBare s'.gens ∧ (Heap.FlyingW B (env :: outer) ea (.ref C) a0 s'.heap ∨ Heap.HeldW B (env :: outer) ea (.ref C) a0 env.locals s'.heap ∨ NewW B (env :: outer) ea (.ref C) a0 s'.heap) ∧ HOk P w H' B ∧ Un (frs outer) [] H H' s.heap s'.heap ∧
  (∀ b o, s.heap.get? b = some o → H b = none → b ∉ frs outer → B.get? b = some o) ∧ (∀ b o, s.heap.get? b = some o → b ∉ frs outer → ∃ o', B.get? b = some o') ∧ KeepE ea od .none s'.heap ∧ E (.ref C) od H'
/-- the context within a loop that may be left by an exception -/
noncomputable abbrev cxL (P : Program) (w : World) (K : PySem.W.Frag) (mg : Str → Option Value) (base : Heap) (N : List Str) (qual : Str) (scope : Scope) (f : Addr) (cd : Value) (A : Around) (outer : List Env) (s : Shared) (H : Hp) (E : XK) : Cx :=
  (cxOf (CX1 P w) P w K mg base N qual scope f cd A outer s H E).wish (XL P w (A.deeper (envOfC qual scope s.heap.objs.size f cd)) (envOfC qual scope s.heap.objs.size f cd) outer s H E)
end
end L2

set_option Elab.async false
set_option linter.all false
set_option maxRecDepth 100000
set_option maxHeartbeats 4000000
namespace L2
open PySem PySem.Spec PyProof.Rows
/-! ### range(a, b, -1) -/
section
variable {X : Cx} {tg a b c : Expr} {t : TA} {p pos : Pos}
noncomputable def uiRngD (ta : TA) : TI := fun σ H R => ta σ H fun vs H1 => match vs with
  | [.int i, .int j, .int k] => ((-1000000000000 ≤ i ∧ i ≤ 1000000000000) ∧ (-1000000000000 ≤ j ∧ j ≤ 1000000000000) ∧ k = -1) ∧ R (Its i k (i - j).toNat) H1
  | _ => False
end
end L2
namespace PG
open PySem L2 PyProof.Rows
/-! ### what the first coins pay, each at most so often, and with how many -/
noncomputable def RC (cs ks : List Int) : Nat → Int → Int → Prop
  | 0, a, n => a = 0 ∧ n = 0
  | i + 1, a, n => ∃ o, 0 ≤ o ∧ o ≤ ks.getD i 0 ∧ RC cs ks i (a - cs.getD i 0 * o) (n - o)
/-- the same by bundles, each taken whole or not -/
noncomputable def RB (cs : List Int) (bs : List (Nat × Int)) : Nat → Int → Int → Prop
  | 0, a, n => a = 0 ∧ n = 0
  | j + 1, a, n => RB cs bs j a n ∨ RB cs bs j (a - cs.getD (bs.getD j (0, 0)).1 0 * (bs.getD j (0, 0)).2) (n - (bs.getD j (0, 0)).2)
noncomputable def psum (p : Nat) : List (Nat × Int) → Int
  | [] => 0
  | x :: r => (if x.1 = p then x.2 else 0) + psum p r
theorem getD_pos {cs : List Int} (hc : ∀ c ∈ cs, 1 ≤ c) (i : Nat) : 0 ≤ cs.getD i 0 := by
  by_cases h : i < cs.length
  · have := hc _ (List.mem_of_getElem? (getD_some h)); omega
  · rw [List.getD_eq_getElem?_getD, List.getElem?_eq_none (by omega)]; simp
/-- the least one, None where there is none -/
noncomputable def MinO (S : Int → Prop) : Option Int → Prop
  | none => ∀ n, ¬ S n
  | some m => S m ∧ ∀ n, S n → m ≤ n
noncomputable def MinU (S : Int → Prop) (t : Int) : Prop := (t = 4001 ∧ ∀ n, ¬ S n) ∨ (t ≤ 4000 ∧ S t ∧ ∀ n, S n → t ≤ n)
/-- a table of the program with one more bundle -/
noncomputable def wbAt (ts : List Int) (t w : Int) (a : Nat) : Int := if (a : Int) < w then ts.getD a 0 else if ts.getD (a - w.toNat) 0 + t < ts.getD a 0 then ts.getD (a - w.toNat) 0 + t else ts.getD a 0
/-- bundles of counts -/
structure Bun (ks : List Int) (bs : List (Nat × Int)) : Prop where
  pl : ∀ x ∈ bs, x.1 < ks.length ∧ 1 ≤ x.2 ∧ x.2 ≤ 100
  ps : ∀ p, p < ks.length → psum p bs ≤ ks.getD p 0
  rb : ∀ cs a n, RB cs bs bs.length a n ↔ RC cs ks ks.length a n
  le : (bs.length : Int) ≤ ks.sum
/-- under way: the first i counts, and of the next one so many -/
structure BunI (ks : List Int) (i : Nat) (done : Int) (bs : List (Nat × Int)) : Prop where
  pl : ∀ x ∈ bs, x.1 < ks.length ∧ 1 ≤ x.2 ∧ x.2 ≤ 100
  ps : ∀ p, p < ks.length → psum p bs ≤ (if p < i then ks.getD p 0 else if p = i then done else 0)
  rb : ∀ cs a n, RB cs bs bs.length a n ↔ ∃ o, 0 ≤ o ∧ o ≤ done ∧ RC cs ks i (a - cs.getD i 0 * o) (n - o)
  le : (bs.length : Int) ≤ (ks.take i).sum + done
/-- a list of bundles in the heap -/
noncomputable def BunAt (H : Hp) (b : Addr) (bs : List (Nat × Int)) : Prop := ∃ ts : List Addr, H b = some (.lst (ts.map V.ref)) ∧ ts.length = bs.length ∧ ∀ (j : Nat) T x, ts[j]? = some T → bs[j]? = some x → H T = some (.tup [.int ((x : Nat × Int).1 : Nat), .int x.2])
/-- the tables in the heap -/
noncomputable def TabAt (cs : List Int) (bs : List (Nat × Int)) (m : Nat) (H : Hp) (T : Addr) (j : Nat) : Prop := ∃ ts : List Int, H T = some (.lst (ts.map V.int)) ∧ ts.length = m + 1 ∧ ∀ a : Nat, a ≤ m → MinU (RB cs bs j a) (ts.getD a 0)
/-! ### the law's own numbers -/
noncomputable def RO (cs ks : List Int) (i : Nat) (c A O n : Int) : Prop := ∃ o, 0 ≤ o ∧ o < O ∧ RC cs ks i (A - c * o) (n - o)
noncomputable def minUp (o b : Option Int) (O : Int) : Option Int := match b with
  | none => o
  | some x => match o with
    | none => some (x + O)
    | some y => if x + O < y then some (x + O) else some y
/-! ### promises -/
noncomputable def sCheckP0 (K : PySem.W.Frag) : Sp := fun vs H Q _ => match vs with
  | [.ref a, .ref b] => ∃ ns ms, LI K H a ns ∧ LI K H b ms ∧ ns.length = ms.length ∧ ms.length ≤ 1000 ∧ (∀ m ∈ ms, 0 ≤ m) ∧ ∀ H', Same H H' → Q .non H'
  | _ => False
noncomputable def sCounts0 (K : PySem.W.Frag) : Sp := fun vs H Q _ => match vs with
  | [.ref a, .ref b] => ∃ ns ms, LI K H a ns ∧ LI K H b ms ∧ ns.length = ms.length ∧ (1 ≤ ms.length ∧ ms.length ≤ 1000) ∧ (∀ m ∈ ms, 0 ≤ m ∧ m ≤ 100) ∧ ∀ H', Same H H' → Q .non H'
  | _ => False
noncomputable def sBunOf (K : PySem.W.Frag) : Sp := fun vs H Q _ => match vs with
  | [.ref a] => ∃ ks, LI K H a ks ∧ ks.length ≤ 40 ∧ (∀ k ∈ ks, 0 ≤ k ∧ k ≤ 100) ∧ ∀ (p : Addr) (bs : List (Nat × Int)) (H' : Hp), Same H H' → H p = none → BunAt H' p bs → Bun ks bs → Q (.ref p) H'
  | _ => False
noncomputable def sWithB (K : PySem.W.Frag) : Sp := fun vs H Q _ => match vs with
  | [.ref a, .int t, .int w] => ∃ ts, LI K H a ts ∧ ts.length ≤ 100000 ∧ 1 ≤ w ∧ ∀ (p : Addr) (us : List Int) (H' : Hp), Same H H' → H p = none → H' p = some (.lst (us.map V.int)) → us.length = ts.length → (∀ a : Nat, a < ts.length → us.getD a 0 = wbAt ts t w a) → Q (.ref p) H'
  | _ => False
noncomputable def sTables (K : PySem.W.Frag) : Sp := fun vs H Q _ => match vs with
  | [.ref a, .ref b, .int n] => ∃ cs ks bs, LI K H a cs ∧ BunAt H b bs ∧ Bun ks bs ∧ (∀ c ∈ cs, 1 ≤ c ∧ c ≤ 1000) ∧ ks.length = cs.length ∧ ks.length ≤ 40 ∧ (∀ k ∈ ks, 0 ≤ k ∧ k ≤ 100) ∧ (0 ≤ n ∧ n ≤ 2000) ∧
    ∀ (p : Addr) (rs : List Addr) (H' : Hp), Same H H' → H p = none → H' p = some (.lst (rs.map V.ref)) → rs.length = bs.length + 1 → (∀ (j : Nat) T, rs[j]? = some T → TabAt cs bs n.toNat H' T j) → Q (.ref p) H'
  | _ => False
noncomputable def HeldAns (cs ks : List Int) (n : Int) (H : Hp) (Q : VK) : Prop :=
  ((∀ k, ¬ RC cs ks cs.length n k) → ∀ H', Same H H' → Q .non H') ∧
  (∀ k, RC cs ks cs.length n k → (∀ m, RC cs ks cs.length n m → k ≤ m) → ∀ (p : Addr) (ps : List Int) (H' : Hp), Same H H' → H p = none → H' p = some (.lst (ps.map V.int)) → ps.length = cs.length → (∀ i, i < ps.length → 0 ≤ ps.getD i 0 ∧ ps.getD i 0 ≤ ks.getD i 0) → dot cs ps = n → ps.sum = k → Q (.ref p) H')
noncomputable def sHeldP (K : PySem.W.Frag) : Sp := fun vs H Q _ => match vs with
  | [.ref a, .ref b, .int n] => ∃ cs ks, LI K H a cs ∧ LI K H b ks ∧ ((∀ c ∈ cs, 1 ≤ c ∧ c ≤ 1000) ∧ ks.length = cs.length ∧ ks.length ≤ 40) ∧ (∀ k ∈ ks, 0 ≤ k ∧ k ≤ 100) ∧ (0 ≤ n ∧ n ≤ 2000) ∧ HeldAns cs ks n H Q
  | _ => False
noncomputable def sHeld (K : PySem.W.Frag) : Sp := fun vs H Q _ => match vs with
  | [.ref a, .ref b, .int n] => ∃ cs ks, LI K H a cs ∧ LI K H b ks ∧ Coins cs ∧ ks.length = cs.length ∧ (∀ k ∈ ks, 0 ≤ k ∧ k ≤ 100) ∧ (0 ≤ n ∧ n ≤ 2000) ∧ HeldAns cs ks n H Q
  | _ => False
/-- the law's numbers -/
noncomputable def sNums71 (K : PySem.W.Frag) : Sp := fun vs H Q _ => match vs with
  | [.ref a, .ref b, .int m] => ∃ cs ks, LI K H a cs ∧ LI K H b ks ∧ ((∀ c ∈ cs, 1 ≤ c ∧ c ≤ 1000) ∧ ks.length = cs.length ∧ ks.length ≤ 1000) ∧ (∀ k ∈ ks, 0 ≤ k ∧ k ≤ 100) ∧ (0 ≤ m ∧ m ≤ 2000) ∧
    ∀ (p : Addr) (fs : List (Option Int)) (H' : Hp), Same H H' → H p = none → H' p = some (.lst (fs.map toV)) → (fs.length : Int) = m + 1 → (∀ a : Nat, a < fs.length → MinO (RC cs ks cs.length a) (fs.getD a none)) → Q (.ref p) H'
  | _ => False
noncomputable def sGood71 (K : PySem.W.Frag) : Sp := fun vs H Q _ => match vs with
  | [.ref f, .ref a, .ref b, .int n, .int k] => ∃ cs ks ps, H f = some (.lst (ps.map V.int)) ∧ LI K H a cs ∧ LI K H b ks ∧ (ps.length = cs.length ∧ ks.length = cs.length ∧ cs.length ≤ 1000) ∧ (∀ c ∈ cs, 1 ≤ c ∧ c ≤ 1000) ∧ (∀ i, i < ps.length → 0 ≤ ps.getD i 0 ∧ ps.getD i 0 ≤ ks.getD i 0) ∧ dot cs ps = n ∧ ps.sum = k ∧
    ∀ H', Same H H' → Q (.bl true) H'
  | _ => False
noncomputable def sAmounts71 (K : PySem.W.Frag) : Sp := fun vs H Q _ => match vs with
  | [.ref s, .ref a, .ref b, .int first] => ∃ ns cs ks, LI K H s ns ∧ ns.length ≤ 63 ∧ LI K H a cs ∧ LI K H b ks ∧ (ks.length = cs.length ∧ 1 ≤ cs.length ∧ cs.length ≤ 1000) ∧ (∀ c ∈ cs, 1 ≤ c ∧ c ≤ 1000) ∧ (∀ k ∈ ks, 0 ≤ k ∧ k ≤ 100) ∧ 0 ≤ first ∧
    ∀ (p : Addr) (ms : List Int) (H' : Hp), Same H H' → H p = none → H' p = some (.lst (ms.map V.int)) → (1 ≤ ms.length ∧ ms.length ≤ 10) → (∀ m ∈ ms, 0 ≤ m ∧ m ≤ 2000) → Q (.ref p) H'
  | _ => False
end PG

set_option Elab.async false
set_option linter.all false
set_option maxRecDepth 100000
set_option maxHeartbeats 4000000
namespace L2
open PySem PySem.Spec PyProof.Rows
/-! ### list.count, list.index of truths -/
section
variable {X : Cx}
noncomputable def isBlK (k : Bool) : Value → Bool
  | .bool b => b == k
  | _ => false
noncomputable def uCountB (K : PySem.W.Frag) : V → List V → Hp → VK → Prop := fun x vs H Q => match x, vs with
  | .ref l, [.bl k] => ∃ bs : List Bool, SqL K H l (bs.map V.bl) ∧ Q (.int (bs.countP (· == k) : Nat)) H
  | _, _ => False
noncomputable def uIndexB (K : PySem.W.Frag) : V → List V → Hp → VK → Prop := fun x vs H Q => match x, vs with
  | .ref l, [.bl k] => ∃ bs : List Bool, SqL K H l (bs.map V.bl) ∧ k ∈ bs ∧ Q (.int (bs.idxOf k : Nat)) H
  | _, _ => False
theorem um_countB_0 : MtR X "list.count" (uCountB X.K) := fun pins s σ H x xs v us Q I rx rs h => by
  unfold uCountB at h
  split at h
  · rename_i l k
    obtain ⟨bs, hq, q⟩ := h
    cases rx
    obtain ⟨u, rfl, ru⟩ := vals1 rs
    cases ru
    obtain ⟨its, r', ⟨o, n, e, c1, c2, c3⟩, hz⟩ := I.list hq
    have hits := vals_bl r'
    subst hits
    obtain ⟨oc, od, odd, osl⟩ := o
    dsimp only at c1 c2 c3
    subst c1 c3
    refine call_meets F.slot_list_count ⟨_, e, rfl⟩ F.entry_list_count (F.args_list_count_2 _ _) (SeqAt.list_countAt l (bs.map Value.bool).toArray n od osl (.bool k) (isBlK k)) ⟨e, fun y hy => ?_, ?_⟩
    · have hy' : y ∈ bs.map Value.bool := by simpa using hy
      obtain ⟨b, _, rfl⟩ := List.mem_map.mp hy'
      exact SeqAt.EqAt.bool_bool b k
    · have e2 : (bs.map Value.bool).toArray.toList.countP (isBlK k) = bs.countP (· == k) := by
        rw [show (bs.map Value.bool).toArray.toList = bs.map Value.bool from rfl, List.countP_map]
        rfl
      rw [e2]
      exact ⟨.int _, H, I.kept (t' := s.toks + 1) fun b o z => z, ⟨_, rfl⟩, q⟩
  · exact h.elim
theorem um_countB {K : PySem.W.Frag} (hK : X.K = K := by rfl) : MtR X "list.count" (uCountB K) := by subst hK; exact um_countB_0
end
end L2
namespace PG
open PySem L2 PyProof.Rows
/-! ### what is due -/
noncomputable def code36 (w : Int) (x : V) (one : Bool) : Nat := if w = 3 then (if one = true then 0 else 4) else match x with
  | .int m => if w = 0 ∧ m < 0 then 2 else if w < 2 ∧ 2000 < m then 3 else 0
  | _ => 2
noncomputable def word36 : Nat → Str
  | 0 => "taken"
  | 1 => "coins"
  | 2 => "sum"
  | 3 => "many"
  | _ => "one"
noncomputable def Fin36 (c1 c2 c3 c4 : Addr) (Q : VK) (E : XK) : Nat → V → Hp → Prop
  | 0, v, H => Q v H
  | 1, _, H => E (.ref c1) none H
  | 2, _, H => E (.ref c2) none H
  | 3, _, H => E (.ref c3) none H
  | _, _, H => E (.ref c4) none H
noncomputable def Ans36 (c1 c2 c3 c4 : Addr) (w : Int) (xs : List V) (x : V) (H : Hp) (Q : VK) (E : XK) : Prop :=
  (¬ CoinsV xs → ∀ H', Same H H' → E (.ref c1) none H') ∧ ∀ cs : List Int, xs = cs.map V.int → Coins cs → ∀ v H', Same H H' → Fin36 c1 c2 c3 c4 Q E (code36 w x (decide (1 ∈ cs))) v H'
noncomputable def sSumX36 (c : Addr) : Sp := fun vs H Q E => match vs with
  | [x] => Kn H x ∧ (∀ n : Int, x = .int n → Q .non H) ∧ (isNumV x = false → E (.ref c) none H)
  | _ => False
noncomputable def sFromX36 (c : Addr) : Sp := fun vs H Q E => match vs with
  | [.int l, x] => (l = 0 ∨ l = 1) ∧ Kn H x ∧ (∀ n : Int, x = .int n → l ≤ n → Q .non H) ∧ ((¬ ∃ n : Int, x = .int n ∧ l ≤ n) → E (.ref c) none H)
  | _ => False
noncomputable def sListedX (c : Addr) : Sp := fun vs H Q E => match vs with
  | [.int n] => (n ≤ 2000 → Q .non H) ∧ (2000 < n → E (.ref c) none H)
  | _ => False
noncomputable def sF36 (K : PySem.W.Frag) (w : Int) (c1 c2 c3 c4 : Addr) : Sp := fun vs H Q E => match vs with
  | [.ref a, x] => ∃ xs, SqL K H a xs ∧ (∀ x ∈ xs, Kn H x) ∧ Kn H x ∧ Ans36 c1 c2 c3 c4 w xs x H Q E
  | _ => False
noncomputable def sAlw36 (K : PySem.W.Frag) (c1 c2 c3 c4 : Addr) : Sp := fun vs H Q E => match vs with
  | [.ref a] => ∃ xs x, SqL K H a xs ∧ (∀ x ∈ xs, Kn H x) ∧ Ans36 c1 c2 c3 c4 3 xs x H Q E
  | _ => False
noncomputable def sAsk36 (K : PySem.W.Frag) (c1 c2 c3 c4 : Addr) : Sp := fun vs H Q E => match vs with
  | [.int w, .ref a, x] => ∃ xs, (0 ≤ w ∧ w ≤ 3) ∧ SqL K H a xs ∧ (∀ x ∈ xs, Kn H x) ∧ Kn H x ∧ Ans36 c1 c2 c3 c4 w xs x H Q E
  | _ => False
noncomputable def sWord36 (K : PySem.W.Frag) : Sp := fun vs H Q _ => match vs with
  | [.int w, .ref a, x] => ∃ xs, (0 ≤ w ∧ w ≤ 3) ∧ SqL K H a xs ∧ (∀ x ∈ xs, Kn H x) ∧ Kn H x ∧ (¬ CoinsV xs → ∀ H', Same H H' → Q (.str "coins") H') ∧ ∀ cs : List Int, xs = cs.map V.int → Coins cs → ∀ H', Same H H' → Q (.str (word36 (code36 w x (decide (1 ∈ cs))))) H'
  | _ => False
noncomputable def sAmt36 : Sp := fun vs H Q _ => match vs with
  | [.int n] => 0 ≤ n ∧ ∀ v H', Same H H' → Kn H' v → (∀ b, v = .ref b → H b = none) → Q v H'
  | _ => False
noncomputable def sDue36 : Sp := fun vs H Q _ => match vs with
  | [.int w, x, .bl one] => (0 ≤ w ∧ w ≤ 3) ∧ Kn H x ∧ ∀ H', Same H H' → Q (.str (word36 (code36 w x one))) H'
  | _ => False
end PG

set_option Elab.async false
set_option linter.all false
set_option maxRecDepth 100000
set_option maxHeartbeats 4000000
/-! own classes: fields, methods, what is made; and a try whose body sets a name -/
namespace L2
open PySem PySem.Spec PyProof.Rows
structure GM (P : Program) (w : World) (K : PySem.W.Frag) (mg : Str → Option Value) (base : Heap) (CX : CXT) (C : Addr) (m : Str) (ps : List Str) (k : Nat) (sp : Sp) : Prop where
  cl : Cls K C
  ex : ∃ f fd, Meth K C m f ∧ Binds K fd ps [] ∧ FnOk P w K mg base CX k f fd ps sp
structure GC (P : Program) (w : World) (K : PySem.W.Frag) (mg : Str → Option Value) (base : Heap) (CX : CXT) (C : Addr) (x : Str) (ps : List Str) (k : Nat) (sp : Sp) : Prop where
  ex : ∃ f fd, Mk K C f ∧ mg x = some (.ref C) ∧ Binds K fd ps [] ∧ FnOk P w K mg base CX k f fd ps sp
section
variable {X : Cx} {CX : CXT} {K : PySem.W.Frag} {C : Addr} {m x : Str} {ps : List Str} {k : Nat} {sp : Sp} {E : XK} {o e value : Expr} {es : List Expr} {f : Str} {pos pos' apos p : Pos} {ta tv te : TE} {t : TA}
end
end L2

set_option Elab.async false
set_option linter.all false
set_option maxRecDepth 100000
set_option maxHeartbeats 4000000
namespace PG
open PySem L2 PyProof.Rows
structure GapV (G : List Int) : Prop where
  rng : ∀ g ∈ G, 1 ≤ g ∧ g ≤ 2000
  few : G.length ≤ 300
  nd : G.Nodup
noncomputable def ClosedG (G : List Int) : Prop := ∀ g ∈ G, ∀ a, 1 ≤ a → a < g → a ∈ G ∨ g - a ∈ G
theorem closed_half {G : List Int} {g : Int} (h : ∀ a, 1 ≤ a → a ≤ g / 2 → a ∈ G ∨ g - a ∈ G) : ∀ a, 1 ≤ a → a < g → a ∈ G ∨ g - a ∈ G := fun a a1 a2 => by
  by_cases z : a ≤ g / 2
  · exact h a a1 z
  · have := h (g - a) (by omega) (by omega)
    rw [show g - (g - a) = a by omega] at this
    exact this.symm
/-- a list of gaps, or what is none -/
noncomputable def GapsV (xs : List V) : Prop := ∃ G : List Int, xs = G.map V.int ∧ GapV G
noncomputable def isGapV : V → Bool
  | .int i => decide (1 ≤ i) && decide (i ≤ 2000)
  | _ => false
noncomputable def sIsGapV : Sp := fun vs H Q _ => match vs with
  | [x] => Kn H x ∧ Q (.bl (isGapV x)) H
  | _ => False
noncomputable def sChkGX (K : PySem.W.Frag) (c : Addr) : Sp := fun vs H Q E => match vs with
  | [.ref a] => ∃ xs, SqL K H a xs ∧ (∀ y ∈ xs, Kn H y) ∧ (GapsV xs → ∀ H', Same H H' → Q .non H') ∧ (¬ GapsV xs → ∀ H', Same H H' → E (.ref c) none H')
  | _ => False
noncomputable def sInitU (K : PySem.W.Frag) (C : Addr) : Sp := fun vs H Q _ => match vs with
  | [.ref e, v, u] => H e = some (excN e C none) ∧ ∀ d, H d = none → d ≠ e → Q .non (upd (upd H e (excN e C (some d))) d (xdO d [("one", v), ("other", u)]))
  | _ => False
/-- what a list that is not closed is told -/
noncomputable def UnE (c : Addr) (G : List Int) (H : Hp) (E : XK) : Prop := ∀ (one other : Int), 1 ≤ one → 1 ≤ other → one + other ∈ G → one ∉ G → other ∉ G → ∀ (d : Addr) (H' : Hp), Same H H' → H d = none → H' d = some (xdO d [("one", .int one), ("other", .int other)]) → E (.ref c) (some d) H'
noncomputable def sClosedX (c : Addr) : Sp := fun vs H Q E => match vs with
  | [.ref d, .int g] => ∃ G kvs, H d = some (.dK kvs) ∧ MemD kvs G ∧ g ∈ G ∧ (1 ≤ g ∧ g ≤ 2000) ∧ ((∀ a, 1 ≤ a → a < g → a ∈ G ∨ g - a ∈ G) → Q .non H) ∧ UnE c G H E
  | _ => False
noncomputable def sHBGX (K : PySem.W.Frag) (c1 c2 : Addr) : Sp := fun vs H Q E => match vs with
  | [.ref a] => ∃ xs, SqL K H a xs ∧ (∀ y ∈ xs, Kn H y) ∧
    (∀ G : List Int, xs = G.map V.int → GapV G → ClosedG G → ∀ (p : Addr) (h : List Int) (H' : Hp), Same H H' → H p = none → H' p = some (.lst (h.map V.int)) → HouseOf G h → Q (.ref p) H') ∧
    (¬ GapsV xs → ∀ H', Same H H' → E (.ref c1) none H') ∧ (∀ G : List Int, xs = G.map V.int → GapV G → ¬ ClosedG G → UnE c2 G H E)
  | _ => False
noncomputable def sDue52 (K : PySem.W.Frag) : Sp := fun vs H Q _ => match vs with
  | [.ref a] => ∃ G, LI K H a G ∧ GapV G ∧ (ClosedG G → ∀ (p : Addr) (h : List Int) (H' : Hp), Same H H' → H p = none → H' p = some (.lst (h.map V.int)) → HouseOf G h → Q (.ref p) H') ∧ (¬ ClosedG G → ∀ H', Same H H' → Q .non H')
  | _ => False
noncomputable def sCame (K : PySem.W.Frag) (c1 c2 : Addr) : Sp := fun vs H Q _ => match vs with
  | [.ref a] => ∃ xs, SqL K H a xs ∧ (∀ y ∈ xs, Kn H y) ∧
    (∀ G : List Int, xs = G.map V.int → GapV G → ClosedG G → ∀ (L p : Addr) (h : List Int) (H' : Hp), Same H H' → H' L = some (.lst [.non, .ref p]) → H' p = some (.lst (h.map V.int)) → HouseOf G h → Q (.ref L) H') ∧
    (¬ GapsV xs → ∀ (L ea : Addr) (H' : Hp), Same H H' → H' L = some (.lst [.ref ea, .non]) → H' ea = some (excD ea c1 none) → Q (.ref L) H') ∧
    (∀ G : List Int, xs = G.map V.int → GapV G → ¬ ClosedG G → ∀ (L ea d : Addr) (one other : Int) (H' : Hp), Same H H' → H' L = some (.lst [.ref ea, .non]) → H' ea = some (excD ea c2 (some d)) → H' d = some (xdO d [("one", .int one), ("other", .int other)]) →
      1 ≤ one → 1 ≤ other → one + other ∈ G → one ∉ G → other ∉ G → Q (.ref L) H')
  | _ => False
noncomputable def sOnly52 (K : PySem.W.Frag) (c1 c2 : Addr) : Sp := fun vs H Q _ => match vs with
  | [.ref e, .int pl] => ∃ od, ((pl = 0 ∧ H e = some (excD e c1 od)) ∨ (pl = 1 ∧ H e = some (excD e c2 od))) ∧ ∀ H', Same H H' → Q (.bl true) H'
  | _ => False
noncomputable def sGood52 (K : PySem.W.Frag) : Sp := fun vs H Q _ => match vs with
  | [.ref a, v] => ∃ G, H a = some (.lst (G.map V.int)) ∧ GapV G ∧ ((ClosedG G ∧ ∃ p h, v = .ref p ∧ H p = some (.lst (h.map V.int)) ∧ HouseOf G h) ∨ (¬ ClosedG G ∧ v = .non)) ∧ ∀ H', Same H H' → Q (.bl true) H'
  | _ => False
noncomputable def sNoG52 (K : PySem.W.Frag) : Sp := fun vs H Q _ => match vs with
  | [.ref a, .int k] => ∃ G, H a = some (.lst (G.map V.int)) ∧ GapV G ∧ 0 ≤ k ∧ ∀ (p : Addr) (ys : List V) (H' : Hp), Same H H' → H' p = some (.lst ys) → (∀ y ∈ ys, Kn H' y) → ¬ GapsV ys → ys.length ≤ 2000 → Q (.ref p) H'
  | _ => False
end PG

set_option Elab.async false
set_option linter.all false
set_option maxRecDepth 100000
set_option maxHeartbeats 4000000
namespace PG
open PySem L2 PyProof PyProof.Rows
/-! ### a comprehension that makes objects, of some -/
theorem comp_some {J : It} {H1 : Hp} {n : Nat} {P : Nat → V → Hp → Prop} {bl : List (Option Nat)} {σ : L2.St} {g : TG} {tc : TT} {te : TE} {Q : VK} (p : Nat → Bool) (C : Nat → Addr → List (Addr × HO) → Prop) (jp : JP J H1 n P) (hn : n < sizeLine) (kg : KeepG g (blkSt bl σ))
    (step : ∀ i x H' (R : VK) (Z : Hp → Prop), i < n → Same H1 H' → P i x H' → (p i = true → ∀ (a : Addr) (fs : List (Addr × HO)) H6, Same H' H6 → (∀ z ∈ fs, H' z.1 = none ∧ H6 z.1 = some z.2) → C i a fs → R (.ref a) H6) → (p i = false → ∀ H6, Same H' H6 → Z H6) →
      g x (blkSt bl σ) H' fun σ2 H4 => tc σ2 H4 fun b H5 => if b = true then te σ2 H5 R else Z H5)
    (fin : ∀ (D : Addr) H' (ps : List Addr), H1 D = none → Same H1 H' → H' D = some (.lst (ps.map V.ref)) → ps.length = ((List.range n).filter p).length → (∀ (k : Nat) a, ps[k]? = some a → ∃ i fs, ((List.range n).filter p)[k]? = some i ∧ (∀ z ∈ fs, H1 z.1 = none ∧ H' z.1 = some z.2) ∧ C i a fs) → Q (.ref D) H') :
    CompB bl g tc te σ Q J H1 := by
  intro D hD
  refine ⟨fun i m H2 => m = n - i ∧ i ≤ n ∧ Same H1 H2 ∧ ∃ ps : List Addr, ps.length = ((List.range i).filter p).length ∧ H2 D = some (.lst (ps.map V.ref)) ∧ ∀ (k : Nat) a, ps[k]? = some a → ∃ i' fs, ((List.range i).filter p)[k]? = some i' ∧ (∀ z ∈ fs, z.1 ≠ D ∧ H1 z.1 = none ∧ H2 z.1 = some z.2) ∧ C i' a fs, ⟨n, rfl, Nat.zero_le _, Same.new hD, [], rfl, upd_same, fun k p h => by simp at h⟩, ?_⟩
  rintro i m H2 ⟨rfl, hi, sm, ps, pl, hx, hps⟩
  have plen : ps.length ≤ i := by
    rw [pl]
    have := List.length_filter_le p (List.range i)
    rw [List.length_range] at this
    exact this
  by_cases hlt : i < n
  · refine .inr ⟨jp.go i H2 hlt sm, fun x H3 y => ⟨kg, ?_⟩⟩
    obtain ⟨s3, p3⟩ := jp.yld i H2 x H3 hlt sm y
    have hx3 := s3 D _ hx
    refine step i x H3 _ _ hlt (sm.trans s3) p3 (fun hp a fs H6 s6 hfs hC => ?_) (fun hp H6 s6 => ?_)
    · have hfD : ∀ z ∈ fs, z.1 ≠ D := fun z hz e => by
        have := (hfs z hz).1
        rw [e, hx3] at this
        cases this
      have er : (List.range (i + 1)).filter p = (List.range i).filter p ++ [i] := by rw [List.range_succ, List.filter_append]; simp [hp]
      refine ⟨_, s6 D _ hx3, by rw [List.length_map]; omega, n - (i + 1), by omega, rfl, hlt, ((sm.trans s3).trans s6).put hD, ps ++ [a], by rw [er, List.length_append, List.length_append, pl]; rfl, by rw [upd_same, List.map_append]; rfl, fun k q hq => ?_⟩
      rw [er]
      by_cases hk : k < ps.length
      · rw [List.getElem?_append_left hk] at hq
        obtain ⟨i', gs, ei, hg, hC'⟩ := hps k q hq
        exact ⟨i', gs, by rw [List.getElem?_append_left (by omega)]; exact ei, fun z hz => ⟨(hg z hz).1, (hg z hz).2.1, by rw [upd_ne (hg z hz).1]; exact s6 _ _ (s3 _ _ (hg z hz).2.2)⟩, hC'⟩
      · rw [List.getElem?_append_right (by omega)] at hq
        by_cases hk0 : k - ps.length = 0
        · rw [hk0] at hq
          cases hq
          exact ⟨i, fs, by rw [List.getElem?_append_right (by omega), show k - ((List.range i).filter p).length = 0 by omega]; rfl, fun z hz => ⟨hfD z hz, (sm.trans s3).free (hfs z hz).1, by rw [upd_ne (hfD z hz)]; exact (hfs z hz).2⟩, hC⟩
        · rw [List.getElem?_eq_none (by simp; omega)] at hq
          cases hq
    · have er : (List.range (i + 1)).filter p = (List.range i).filter p := by rw [List.range_succ, List.filter_append]; simp [hp]
      refine ⟨n - (i + 1), by omega, rfl, hlt, (sm.trans s3).trans s6, ps, by rw [er]; exact pl, s6 D _ hx3, fun k q hq => ?_⟩
      obtain ⟨i', gs, ei, hg, hC'⟩ := hps k q hq
      exact ⟨i', gs, by rw [er]; exact ei, fun z hz => ⟨(hg z hz).1, (hg z hz).2.1, s6 _ _ (s3 _ _ (hg z hz).2.2)⟩, hC'⟩
  · have e : i = n := by omega
    subst e
    refine .inl ⟨jp.stop H2 sm, fin D H2 ps hD sm hx pl fun k p hp => ?_⟩
    obtain ⟨i', fs, ei, hf, hC⟩ := hps k p hp
    exact ⟨i', fs, ei, fun z hz => (hf z hz).2, hC⟩
/-! ### numbers and their partners -/
noncomputable def OddG (h : List Int) (G x : Int) : Prop := 0 ≤ x ∧ x ≤ G ∧ ¬ Can h x ∧ ¬ Can h (G - x)
noncomputable def MirO (h : List Int) (G : Int) : Option Int → Prop
  | none => ∀ x, ¬ OddG h G x
  | some m => OddG h G m ∧ ∀ x, OddG h G x → m ≤ x
/-- paid ones, rising -/
noncomputable def payL (h : List Int) (n : Nat) : List Nat := (List.range n).filter fun (i : Nat) => canB h (i : Int)
/-- the odd ones, rising -/
noncomputable def oddL (h : List Int) (G : Int) : List Int := ((List.range (G + 1).toNat).filter fun (i : Nat) => !canB h (0 + (i : Int)) && !canB h (G - (0 + (i : Int)))).map fun (i : Nat) => 0 + (i : Int)
/-- the number of a rest, the other way about -/
noncomputable def farS (h : List Int) (M : Int) (r : Nat) : Int := M - h.getD ((M - (h.length : Int) - (0 + (r : Int))) % (h.length : Int)).toNat 0
/-! ### what is asked of the readings -/
noncomputable def HM (h : List Int) (M : Int) : Prop := House h ∧ M ∈ h ∧ (∀ x ∈ h, x ≤ M) ∧ h.length ≤ 1000
noncomputable def PairsAt (H : Hp) (p : Addr) (G : Int) (ks : List Nat) : Prop := ∃ ps : List Addr, H p = some (.lst (ps.map V.ref)) ∧ ps.length = ks.length ∧ ∀ (k : Nat) (a : Addr), ps[k]? = some a → ∃ i, ks[k]? = some i ∧ H a = some (.tup [.int (i : Int), .int (G - (i : Int))])
noncomputable def sMirG (K : PySem.W.Frag) : Sp := fun vs H Q _ => match vs with
  | [.ref a] => ∃ h M, LI K H a h ∧ HM h M ∧ ∀ o, MirO h (M - (h.length : Int)) o → ∀ H', Same H H' → Q (toV o) H'
  | _ => False
noncomputable def sMirP (K : PySem.W.Frag) (c : Addr) : Sp := fun vs H Q E => match vs with
  | [.ref a] => ∃ h M, LI K H a h ∧ HM h M ∧ (M - (h.length : Int) ≤ 2000 → MirO h (M - (h.length : Int)) none → ∀ (p : Addr) (H' : Hp), Same H H' → H p = none → PairsAt H' p (M - (h.length : Int)) (payL h (M - (h.length : Int) + 1).toNat) → Q (.ref p) H') ∧
    (M - (h.length : Int) ≤ 2000 → ∀ x, MirO h (M - (h.length : Int)) (some x) → ∀ H', Same H H' → Q .non H') ∧ (2000 < M - (h.length : Int) → E (.ref c) none H)
  | _ => False
noncomputable def sPairs45 (K : PySem.W.Frag) : Sp := fun vs H Q _ => match vs with
  | [.ref f, .ref d] => ∃ G ks, PairsAt H f G ks ∧ PairsAt H d G ks ∧ ∀ H', Same H H' → Q (.bl true) H'
  | _ => False
noncomputable def sGap45 (K : PySem.W.Frag) : Sp := fun vs H Q _ => match vs with
  | [x, .ref d] => ∃ os : List Int, x = toV os.head? ∧ LI K H d os ∧ ∀ H', Same H H' → Q (.bl true) H'
  | _ => False
noncomputable def sRef45 (K : PySem.W.Frag) : Sp := fun vs H Q _ => match vs with
  | [.ref a] => ∃ h M, LI K H a h ∧ HM h M ∧ 2000 < M - (h.length : Int) ∧ ∀ H', Same H H' → Q (.bl true) H'
  | _ => False
noncomputable def sLook45 (K : PySem.W.Frag) : Sp := fun vs H Q _ => match vs with
  | [.ref a, .ref b, .bl f] => ∃ h M, LI K H a h ∧ LI K H b h ∧ HM h M ∧ M - (h.length : Int) ≤ 2000 ∧ ∀ H', Same H H' → Q (.bl true) H'
  | _ => False
noncomputable def sFar45 (K : PySem.W.Frag) : Sp := fun vs H Q _ => match vs with
  | [.ref a, .ref b] => ∃ h M, LI K H a h ∧ LI K H b h ∧ HM h M ∧ h.length < 64 ∧ 2000 < M - (h.length : Int) ∧ ∀ H', Same H H' → Q (.bl true) H'
  | _ => False
noncomputable def sDrawn45 (K : PySem.W.Frag) : Sp := fun vs H Q _ => match vs with
  | [.ref a, .int st, .int first, .int far, .int most] => ∃ ns, LI K H a ns ∧ ns.length ≤ 63 ∧ (0 ≤ st ∧ st ≤ 100) ∧ (1 ≤ first ∧ first ≤ 39) ∧ (1 ≤ far ∧ far ≤ 40) ∧ (1 ≤ most ∧ most ≤ 100) ∧
    ∀ (p : Addr) (cs : List Int) (H' : Hp), Same H H' → H p = none → H' p = some (.lst (cs.map V.int)) → 1 ≤ cs.length → (∀ c ∈ cs, 1 ≤ c ∧ c ≤ 40) → (∃ c ∈ cs, c ≤ first) → gcdL cs = 1 → Q (.ref p) H'
  | _ => False
/-- the greatest one -/
theorem max_of {h : List Int} (hp : 0 < h.length) : ∃ M ∈ h, ∀ x ∈ h, x ≤ M := by
  induction h with
  | nil => cases hp
  | cons x r ih =>
    cases r with
    | nil => exact ⟨x, List.mem_cons_self, fun y hy => by rw [List.mem_singleton.mp hy]; exact Int.le_refl _⟩
    | cons y s =>
      obtain ⟨M, hM, mx⟩ := ih (by simp)
      by_cases z : x ≤ M
      · exact ⟨M, List.mem_cons_of_mem _ hM, fun t ht => by
          rcases List.mem_cons.mp ht with e | e
          · rw [e]; exact z
          · exact mx t e⟩
      · exact ⟨x, List.mem_cons_self, fun t ht => by
          rcases List.mem_cons.mp ht with e | e
          · rw [e]; exact Int.le_refl _
          · have := mx t e; omega⟩
end PG

set_option Elab.async false
set_option linter.all false
set_option maxRecDepth 100000
set_option maxHeartbeats 4000000
namespace PG
open PySem L2 PyProof.Rows
/-! ### needed coins are those that no others pay -/
noncomputable def Dec (cs : List Int) (x : Int) : Prop := ∃ y z, Payable cs y ∧ Payable cs z ∧ 1 ≤ y ∧ 1 ≤ z ∧ x = y + z
theorem need_nodup {h : List Int} (a : House h) : (need h).Nodup := by
  have hn : h.Nodup := by
    rw [List.nodup_iff_pairwise_ne, List.pairwise_iff_getElem]
    intro i j hi hj hij e
    have h1 := a.rest i _ (List.getElem?_eq_getElem hi)
    have h2 := a.rest j _ (List.getElem?_eq_getElem hj)
    rw [e] at h1
    omega
  unfold need
  rw [List.nodup_cons]
  refine ⟨fun z => ?_, (hn.sublist (List.drop_sublist 1 h)).filter _⟩
  obtain ⟨j, hj, ej⟩ := List.mem_iff_getElem.mp (List.mem_filter.mp z).1
  have hjx : h[1 + j]? = some (h.length : Int) := by rw [← List.getElem?_drop, List.getElem?_eq_getElem hj, ej]
  have := a.above (1 + j) _ hjx (by omega)
  omega
/-- the kept coins, rising -/
noncomputable def keptL (cs : List Int) : List Int := (asc cs).filter fun c => !decide (c ∈ dueL cs)
theorem kept_iff {cs : List Int} {c : Int} : c ∈ keptL cs ↔ c ∈ cs ∧ ¬ Ndl cs c := by
  unfold keptL
  rw [List.mem_filter, (asc_perm cs).mem_iff]
  constructor
  · rintro ⟨h1, h2⟩
    refine ⟨h1, fun z => ?_⟩
    have : c ∉ dueL cs := by simpa using h2
    apply this
    unfold dueL
    exact List.mem_filter.mpr ⟨(asc_perm cs).mem_iff.mpr h1, ndB_iff.mpr z⟩
  · rintro ⟨h1, h2⟩
    refine ⟨h1, ?_⟩
    have : c ∉ dueL cs := fun z => h2 (due_mem z).2
    simpa using this
/-! ### promises -/
noncomputable def sNeedless0 (K : PySem.W.Frag) : Sp := fun vs H Q _ => match vs with
  | [.ref a] => ∃ cs, LI K H a cs ∧ Coins cs ∧ ∀ (p : Addr) (H' : Hp), Same H H' → H p = none → Told12 cs H' p → Q (.ref p) H'
  | _ => False
noncomputable def sNever2 : Sp := fun vs _ _ _ => match vs with
  | [_, _] => False
  | _ => False
noncomputable def sNever3 : Sp := fun vs _ _ _ => match vs with
  | [_, _, _] => False
  | _ => False
noncomputable def sPayNo (K : PySem.W.Frag) : Sp := fun vs H Q _ => match vs with
  | [.ref a, .int n] => ∃ cs, LI K H a cs ∧ Coins cs ∧ ¬ Payable cs n ∧ ∀ H', Same H H' → Q .non H'
  | _ => False
noncomputable def sPayUnNo (K : PySem.W.Frag) : Sp := fun vs H Q _ => match vs with
  | [.ref a, .int n] => ∃ cs, LI K H a cs ∧ Coins cs ∧ gcdL cs = 1 ∧ ¬ Payable cs n ∧ ∀ H', Same H H' → Q .non H'
  | _ => False
noncomputable def sDrawn13 (K : PySem.W.Frag) : Sp := fun vs H Q _ => match vs with
  | [.ref a, .int st, .int first, .int far, .int most] => ∃ ns, LI K H a ns ∧ ns.length ≤ 200 ∧ (0 ≤ st ∧ st ≤ 100) ∧ (1 ≤ first ∧ first ≤ 900) ∧ (1 ≤ far ∧ far ≤ 900) ∧ (1 ≤ most ∧ most ≤ 30) ∧
    ∀ (p : Addr) (cs : List Int) (H' : Hp), Same H H' → H p = none → H' p = some (.lst (cs.map V.int)) → Coins cs → (∃ c ∈ cs, c ≤ first) → gcdL cs = 1 → Q (.ref p) H'
  | _ => False
noncomputable def sWithout (K : PySem.W.Frag) : Sp := fun vs H Q _ => match vs with
  | [.ref b, .ref a, .int c] => ∃ cs h, LI K H a cs ∧ LI K H b h ∧ Coins cs ∧ Least cs h ∧ (h.length : Int) ∈ cs ∧ c ∈ cs ∧ ¬ Ndl cs c ∧ ∀ H', Same H H' → Q (.bl true) H'
  | _ => False
end PG

set_option Elab.async false
set_option linter.all false
set_option maxRecDepth 100000
set_option maxHeartbeats 4000000
namespace L2
open PySem PySem.Spec PyProof.Rows
noncomputable def uPop (x : V) (H : Hp) (Q : VK) : Prop := match x with
  | .ref l => ∃ xs y, H l = some (.lst xs) ∧ xs[xs.length - 1]? = some y ∧ Q y (upd H l (.lst xs.dropLast))
  | _ => False
end L2
namespace PG
open PySem L2 PyProof PyProof.Rows
/-- what may be the next gap -/
structure Next (G : List Int) (x : Int) : Prop where
  pos : 1 ≤ x
  top : ∀ y ∈ G, y < x
  cl : ∀ a, 1 ≤ a → a < x → a ∈ G ∨ x - a ∈ G
theorem Next.gaps {G : List Int} {x : Int} (g : Gaps G) (n : Next G x) (x2 : x ≤ 2000) (hl : G.length < 300) : Gaps (G ++ [x]) :=
  g.snoc n.top n.pos x2 hl fun a a1 a2 => n.cl a a1 (by have := n.pos; omega)
theorem Gaps.last {G : List Int} {x : Int} (g : Gaps (G ++ [x])) : Gaps G ∧ Next G x := by
  have up := List.pairwise_append.mp g.up
  have top : ∀ y ∈ G, y < x := fun y hy => up.2.2 y hy x (List.mem_singleton.mpr rfl)
  have inG : ∀ a, a ∈ G ++ [x] → a < x → a ∈ G := fun a ha lt => by
    rcases List.mem_append.mp ha with z | z
    · exact z
    · rw [List.mem_singleton.mp z] at lt; omega
  refine ⟨⟨fun y hy => g.pos y (List.mem_append_left _ hy), fun y hy => g.le y (List.mem_append_left _ hy), up.1, by have := g.few; simp at this; omega, fun y hy a a1 a2 => ?_⟩, g.pos x (List.mem_append_right _ (List.mem_singleton.mpr rfl)), top, fun a a1 a2 => ?_⟩
  · have := top y hy
    rcases g.cl y (List.mem_append_left _ hy) a a1 a2 with z | z
    · exact .inl (inG a z (by omega))
    · exact .inr (inG _ z (by omega))
  · rcases g.cl x (List.mem_append_right _ (List.mem_singleton.mpr rfl)) a a1 a2 with z | z
    · exact .inl (inG a z a2)
    · exact .inr (inG _ z (by omega))
theorem mem_needH {h : List Int} (a : House h) {x : Int} : x ∈ need h ↔ 1 ≤ x ∧ Can h x ∧ partsB h x = false := by
  have hp := a.pos
  rw [← a.need_eq, List.mem_filter, List.mem_cons]
  have mem1 : ∀ y, y ∈ h.drop 1 → 1 ≤ y ∧ Can h y := fun y hy => by
    obtain ⟨i, hi⟩ := List.mem_iff_getElem?.mp hy
    rw [List.getElem?_drop] at hi
    have := a.above _ _ hi (by omega)
    refine ⟨by omega, ?_⟩
    rw [can_iff, a.rest _ _ hi, Int.toNat_natCast, getD_at hi]
    exact Int.le_refl _
  constructor
  · rintro ⟨hx, np⟩
    have np' : partsB h x = false := by simpa using np
    rcases hx with rfl | hx
    · exact ⟨by omega, a.canLen, np'⟩
    · exact ⟨(mem1 x hx).1, (mem1 x hx).2, np'⟩
  · rintro ⟨x1, xc, np⟩
    refine ⟨?_, by rw [np]; rfl⟩
    by_cases e : x = (h.length : Int)
    · exact .inl e
    · right
      have m0 := Int.emod_nonneg x (show (h.length : Int) ≠ 0 by omega)
      have m1 := Int.emod_lt_of_pos x (show (0 : Int) < h.length by omega)
      have hr : (x % (h.length : Int)).toNat < h.length := by omega
      have hat := getD_some (ns := h) hr
      rw [can_iff] at xc
      by_cases z : h.getD (x % (h.length : Int)).toNat 0 = x
      · rw [z] at hat
        have r0 : (x % (h.length : Int)).toNat ≠ 0 := fun z0 => by
          rw [z0, a.zero] at hat
          cases hat
          omega
        refine List.mem_iff_getElem?.mpr ⟨(x % (h.length : Int)).toNat - 1, ?_⟩
        rw [List.getElem?_drop, show 1 + ((x % (h.length : Int)).toNat - 1) = (x % (h.length : Int)).toNat by omega]
        exact hat
      · exfalso
        have er : h.getD (x % (h.length : Int)).toNat 0 % (h.length : Int) = x % (h.length : Int) := by
          rw [a.rest _ _ hat]; omega
        have ge := rest_ge (m := (h.length : Int)) (by omega) er.symm (by omega)
        have nn := a.nonneg _ (List.mem_of_getElem? hat)
        have cx : Can h (x - (h.length : Int)) := by
          rw [can_iff, Int.sub_emod_right]
          omega
        have : partsB h x = true := by
          unfold partsB
          rw [List.any_eq_true]
          refine ⟨(h.length : Nat) - 1, List.mem_range.mpr (by omega), ?_⟩
          rw [show 1 + (((h.length : Nat) - 1 : Nat) : Int) = (h.length : Int) by omega, Bool.and_eq_true]
          exact ⟨a.canLen, cx⟩
        rw [np] at this
        cases this
theorem parts_gaps {G h : List Int} (g : Gaps G) (a : HouseOf G h) {x : Int} : partsB h x = false ↔ ∀ y, 1 ≤ y → y < x → y ∈ G ∨ x - y ∈ G := by
  constructor
  · intro np y y1 y2
    by_cases z : y ∈ G
    · exact .inl z
    · right
      by_cases w : x - y ∈ G
      · exact w
      · exfalso
        have : partsB h x = true := by
          unfold partsB
          rw [List.any_eq_true]
          refine ⟨(y - 1).toNat, List.mem_range.mpr (by omega), ?_⟩
          rw [show 1 + (((y - 1).toNat : Nat) : Int) = y by omega, Bool.and_eq_true]
          exact ⟨(a.can g y).mpr ⟨by omega, z⟩, (a.can g (x - y)).mpr ⟨by omega, w⟩⟩
        rw [np] at this
        cases this
  · intro cl
    cases hb : partsB h x
    · rfl
    · exfalso
      unfold partsB at hb
      rw [List.any_eq_true] at hb
      obtain ⟨i, hi, hc⟩ := hb
      have := List.mem_range.mp hi
      rw [Bool.and_eq_true] at hc
      have c1 := (a.can g _).mp hc.1
      have c2 := (a.can g _).mp hc.2
      rcases cl (1 + (i : Int)) (by omega) (by omega) with z | z
      · exact c1.2 z
      · exact c2.2 z
/-- needed coins beyond all gaps -/
theorem need_next {G h : List Int} (g : Gaps G) (a : HouseOf G h) {x : Int} : (x ∈ need h ∧ ∀ y ∈ G, y < x) ↔ Next G x := by
  rw [mem_needH (a.house g)]
  constructor
  · rintro ⟨⟨x1, xc, np⟩, top⟩
    exact ⟨x1, top, (parts_gaps g a).mp np⟩
  · intro n
    refine ⟨⟨n.pos, (a.can g x).mpr ⟨by have := n.pos; omega, fun z => by have := n.top x z; omega⟩, (parts_gaps g a).mpr n.cl⟩, n.top⟩
/-- without one of them -/
noncomputable def lessH (h : List Int) (c : Int) : List Int := h.map fun x => if x = c then x + (h.length : Int) else x
theorem less_house {G h : List Int} {c : Int} (g : Gaps G) (a : HouseOf G h) (n : Next G c) (ne : c ≠ (h.length : Int)) : HouseOf (G ++ [c]) (lessH h c) := by
  have hp := a.pos
  have hh := a.house g
  have ll : (lessH h c).length = h.length := by unfold lessH; simp
  have cG : c ∉ G := fun z => by have := n.top c z; omega
  have cc := (a.can g c).mpr ⟨by have := n.pos; omega, cG⟩
  have m0 := Int.emod_nonneg c (show (h.length : Int) ≠ 0 by omega)
  have m1 := Int.emod_lt_of_pos c (show (0 : Int) < h.length by omega)
  have hr0 : (c % (h.length : Int)).toNat < h.length := by omega
  have hat := getD_some (ns := h) hr0
  have least : h[(c % (h.length : Int)).toNat]? = some c := by
    have hn := (mem_needH hh).mpr ⟨n.pos, cc, (parts_gaps g a).mpr n.cl⟩
    unfold need at hn
    rcases List.mem_cons.mp hn with z | z
    · exact absurd z ne
    · obtain ⟨i, hi⟩ := List.mem_iff_getElem?.mp (List.mem_filter.mp z).1
      rw [List.getElem?_drop] at hi
      have := hh.rest _ _ hi
      rw [this, Int.toNat_natCast]
      exact hi
  refine ⟨by omega, ?_, fun k k1 k2 => ?_, fun r x hx => ?_⟩
  · rw [ll]
    intro z
    rcases List.mem_append.mp z with z | z
    · exact a.out z
    · exact ne (List.mem_singleton.mp z).symm
  · rw [ll] at k2
    exact List.mem_append_left _ (a.low k k1 k2)
  · rw [ll]
    unfold lessH at hx
    rw [List.getElem?_map] at hx
    cases hy : h[r]? with
    | none => rw [hy] at hx; cases hx
    | some y =>
      rw [hy] at hx
      have ex : (if y = c then y + (h.length : Int) else y) = x := Option.some.inj hx
      obtain ⟨k, k1, k2, k3⟩ := a.num r y hy
      by_cases e : y = c
      · rw [if_pos e] at ex
        refine ⟨k + 1, by rw [← ex, k1, Int.natCast_add, Int.add_mul]; simp; omega, fun z => ?_, fun j hj => ?_⟩
        · rcases List.mem_append.mp z with z | z
          · have y0 := hh.nonneg y (List.mem_of_getElem? hy)
            have := g.closed (x := y) (y := (h.length : Int)) y0 (by omega) k2 a.out
            rw [ex] at this
            exact this z
          · have := List.mem_singleton.mp z
            omega
        · by_cases w : j = k
          · rw [w, ← k1, e]
            exact List.mem_append_right _ (List.mem_singleton.mpr rfl)
          · exact List.mem_append_left _ (k3 j (by omega))
      · rw [if_neg e] at ex
        refine ⟨k, by rw [← ex]; exact k1, fun z => ?_, fun j hj => List.mem_append_left _ (k3 j hj)⟩
        rcases List.mem_append.mp z with z | z
        · rw [← ex] at z; exact k2 z
        · have := List.mem_singleton.mp z
          omega
theorem above_house {G h : List Int} (g : Gaps G) (a : HouseOf G h) (n : Next G (h.length : Int)) : HouseOf (G ++ [(h.length : Int)]) (fullL (h.length + 1)) := by
  have hp := a.pos
  have fl := fullL_len (m := h.length + 1) (by omega)
  refine ⟨by omega, ?_, fun k k1 k2 => ?_, fun r x hx => ?_⟩
  · rw [fl]
    intro z
    rcases List.mem_append.mp z with z | z
    · have := n.top _ z
      omega
    · have := List.mem_singleton.mp z
      omega
  · rw [fl] at k2
    by_cases e : k = (h.length : Int)
    · rw [e]; exact List.mem_append_right _ (List.mem_singleton.mpr rfl)
    · exact List.mem_append_left _ (a.low k k1 (by omega))
  · rw [fl]
    rcases fullL_get hx with ⟨r0, x0⟩ | ⟨r1, r2, x0⟩
    · refine ⟨0, by rw [r0, x0]; simp, fun z => ?_, fun j hj => by omega⟩
      rw [x0] at z
      rcases List.mem_append.mp z with z | z
      · have := g.pos 0 z; omega
      · have := List.mem_singleton.mp z
        omega
    · refine ⟨1, by rw [x0]; omega, fun z => ?_, fun j hj => ?_⟩
      · rcases List.mem_append.mp z with z | z
        · have := n.top _ z
          omega
        · have := List.mem_singleton.mp z
          omega
      · rw [show j = 0 by omega]
        rw [show (r : Int) + ((0 : Nat) : Int) * ((h.length + 1 : Nat) : Int) = (r : Int) by simp]
        by_cases e : r = h.length
        · rw [e]; exact List.mem_append_right _ (List.mem_singleton.mpr rfl)
        · exact List.mem_append_left _ (a.low r (by omega) (by omega))
theorem next_le {G h : List Int} (a : HouseOf G h) {x B : Int} (n : Next G x) (hB : ∀ y ∈ G, y ≤ B) (B0 : 0 ≤ B) : x ≤ B + (h.length : Int) := by
  have hp := a.pos
  by_cases z : x ≤ B + (h.length : Int)
  · exact z
  · exfalso
    rcases n.cl (h.length : Int) (by omega) (by omega) with w | w
    · exact a.out w
    · have := hB _ w
      omega
theorem HouseOf.nil : HouseOf [] [0] := by
  refine ⟨by simp, by simp, fun k k1 k2 => ?_, fun r x hx => ?_⟩
  · simp at k2; omega
  · match r, hx with
    | 0, hx => cases hx; exact ⟨0, by simp, by simp, fun j hj => by omega⟩
theorem HouseOf.le_len {G h : List Int} (a : HouseOf G h) {c : Int} (c1 : 1 ≤ c) (hc : c ∉ G) : (h.length : Int) ≤ c := by
  by_cases z : (h.length : Int) ≤ c
  · exact z
  · exact absurd (a.low c c1 (by omega)) hc
theorem HouseOf.len_le {G h : List Int} (g : Gaps G) (a : HouseOf G h) : h.length ≤ G.length + 1 := by
  have := sub_len (l := (List.range (h.length - 1)).map fun (i : Nat) => 1 + (i : Int)) (m := G) ?_ ?_
  · rw [List.length_map, List.length_range] at this
    omega
  · rw [List.Nodup, List.pairwise_map]
    exact List.pairwise_lt_range.imp fun hab => by omega
  · intro x hx
    obtain ⟨i, hi, rfl⟩ := List.mem_map.mp hx
    have := List.mem_range.mp hi
    exact a.low _ (by omega) (by omega)
/-! ### lists among lists -/
noncomputable def rInNo (K : PySem.W.Frag) : R2 := fun x y H Q => ∃ p xs, y = .ref p ∧ SqL K H p xs ∧ (∀ z ∈ xs, EqV K H 3 z x false) ∧ Q (.bl false) H
/-! ### what is asked of the readings -/
noncomputable def sFill0 (K : PySem.W.Frag) : Sp := fun vs H Q _ => match vs with
  | [.ref a, .int nb] => ∃ h, LI K H a h ∧ House h ∧ h.length ≤ 1000 ∧ 1 ≤ nb ∧ ∀ (p : Addr) (g : List Int) (H' : Hp), Same H H' → H p = none → H' p = some (.lst (g.map V.int)) → LeastS (FillS h nb) g → LeastN (FillS h nb) (g.length : Int) → g.length ≤ h.length → Q (.ref p) H'
  | _ => False
noncomputable def sParent (K : PySem.W.Frag) : Sp := fun vs H Q _ => match vs with
  | [.ref a] => ∃ G h, LI K H a h ∧ HouseOf G h ∧ Gaps G ∧ (G = [] → Q .non H) ∧ ∀ G' c, G = G' ++ [c] → ∀ (p : Addr) (g : List Int) (H' : Hp), Same H H' → H p = none → H' p = some (.lst (g.map V.int)) → HouseOf G' g → Q (.ref p) H'
  | _ => False
noncomputable def sAboveH : Sp := fun vs H Q _ => match vs with
  | [.int m] => (1 ≤ m ∧ m ≤ 900) ∧ ∀ (p : Addr) (H' : Hp), Same H H' → H p = none → H' p = some (.lst ((fullL (m.toNat + 1)).map V.int)) → Q (.ref p) H'
  | _ => False
noncomputable def sWithoutC (K : PySem.W.Frag) : Sp := fun vs H Q _ => match vs with
  | [.ref a, .int c] => ∃ G h, LI K H a h ∧ HouseOf G h ∧ Gaps G ∧ Next G c ∧ h.length ≤ 900 ∧ ∀ (p : Addr) (g : List Int) (H' : Hp), Same H H' → H p = none → H' p = some (.lst (g.map V.int)) → HouseOf (G ++ [c]) g → Q (.ref p) H'
  | _ => False
structure ChildsAt (H : Hp) (p : Addr) (ps : List Addr) (cs G : List Int) : Prop where
  lst : H p = some (.lst (ps.map V.ref))
  len : ps.length = cs.length
  few : ps.length ≤ 64
  up : cs.Pairwise (· < ·)
  mem : ∀ x, x ∈ cs ↔ Next G x
  kid : ∀ (i : Nat) (q : Addr) (c : Int), ps[i]? = some q → cs[i]? = some c → ∃ g : List Int, H q = some (.lst (g.map V.int)) ∧ HouseOf (G ++ [c]) g
noncomputable def sChild (K : PySem.W.Frag) : Sp := fun vs H Q _ => match vs with
  | [.ref a] => ∃ G h, LI K H a h ∧ HouseOf G h ∧ Gaps G ∧ h.length < 64 ∧ ∀ (p : Addr) (ps : List Addr) (cs : List Int) (H' : Hp), Same H H' → H p = none → ChildsAt H' p ps cs G → Q (.ref p) H'
  | _ => False
noncomputable def sAlike (K : PySem.W.Frag) : Sp := fun vs H Q _ => match vs with
  | [.ref p] => ∃ (ps : List Addr) (gs : List (List Int)), H p = some (.lst (ps.map V.ref)) ∧ ps.length = gs.length ∧ ps.length ≤ 1000 ∧ (∀ (i : Nat) (q : Addr) (g : List Int), ps[i]? = some q → gs[i]? = some g → H q = some (.lst (g.map V.int))) ∧ gs.Nodup ∧ ∀ H', Same H H' → Q (.bl false) H'
  | _ => False
noncomputable def sStaysL (K : PySem.W.Frag) : Sp := fun vs H Q _ => match vs with
  | [.ref a, .int n] => ∃ G, LI K H a G ∧ (1 ≤ n ∧ n ≤ 2000) ∧ Q (.bl (closedB G n)) H
  | _ => False
noncomputable def sUp (K : PySem.W.Frag) : Sp := fun vs H Q _ => match vs with
  | [.ref a, .ref b] => ∃ G h, H a = some (.lst (h.map V.int)) ∧ H b = some (.lst (G.map V.int)) ∧ HouseOf G h ∧ Gaps G ∧ h.length < 64 ∧ (∀ x ∈ G, x ≤ 1900) ∧ ∀ H', Same H H' → Q (.bl true) H'
  | _ => False
noncomputable def sDown (K : PySem.W.Frag) : Sp := fun vs H Q _ => match vs with
  | [.ref d] => ∃ ds, LI K H d ds ∧ 64 ≤ ds.length ∧ ∀ H', Same H H' → Q (.bl true) H'
  | _ => False
noncomputable def sGaps62 (K : PySem.W.Frag) : Sp := fun vs H Q _ => match vs with
  | [.ref d] => ∃ ds, LI K H d ds ∧ 64 ≤ ds.length ∧ ∀ (p : Addr) (G : List Int) (H' : Hp), Same H H' → H p = none → H' p = some (.lst (G.map V.int)) → Gaps G → (∀ g ∈ G, g ≤ 620) → (∃ c, 1 ≤ c ∧ c ≤ 30 ∧ c ∉ G) → Q (.ref p) H'
  | _ => False
open Classical in
noncomputable def kidH (G : List Int) (c : Int) : List Int := if h : ∃ g, HouseOf (G ++ [c]) g then Classical.choose h else []
end PG

set_option Elab.async false
set_option linter.all false
set_option maxRecDepth 100000
set_option maxHeartbeats 4000000
namespace L2
open PySem PySem.Spec PyProof.Rows
noncomputable def uExtend (x : V) (vs : List V) (H : Hp) (Q : VK) : Prop := match x, vs with
  | .ref l, [.ref b] => ∃ xs zs, H l = some (.lst xs) ∧ H b = some (.lst zs) ∧ xs.length + zs.length ≤ sizeLine ∧ Q .non (upd H l (.lst (xs ++ zs)))
  | _, _ => False
theorem um_extend {X : Cx} : MtM X "list.extend" uExtend := fun pins s σ H x xs v us Q I rx rs h => by
  unfold uExtend at h
  split at h
  · obtain ⟨ys, zs, h1, h2, h3, q⟩ := h
    exact mt_extend pins s σ H _ _ v us Q I rx rs ⟨_, _, ys, zs, rfl, rfl, h1, h2, h3, q⟩
  · exact h.elim
end L2
namespace PG
open PySem L2 PyProof PyProof.Rows
theorem next_few {G h cs : List Int} (g : Gaps G) (a : HouseOf G h) (up : cs.Pairwise (· < ·)) (mem : ∀ x ∈ cs, Next G x) : cs.length ≤ h.length := by
  obtain ⟨B, B0, hB, hB2⟩ : ∃ B : Int, 0 ≤ B ∧ (∀ y ∈ G, y ≤ B) ∧ ∀ x, Next G x → B < x := by
    cases hG : G with
    | nil => exact ⟨0, Int.le_refl _, by simp, fun x n => by have := n.pos; omega⟩
    | cons y r =>
      obtain ⟨M, hM, mx⟩ := max_of (h := G) (by rw [hG]; simp)
      rw [← hG]
      exact ⟨M, by have := g.pos M hM; omega, mx, fun x n => n.top M hM⟩
  have := sub_len (l := cs) (m := (List.range h.length).map fun (i : Nat) => B + 1 + (i : Int)) (up.imp fun hab => by omega) fun x hx => by
    have n := mem x hx
    have h1 := next_le a n hB B0
    have h2 := hB2 x n
    exact List.mem_map.mpr ⟨(x - B - 1).toNat, List.mem_range.mpr (by omega), by omega⟩
  rw [List.length_map, List.length_range] at this
  exact this
/-- all houses with so many gaps -/
structure AllH (H : Hp) (p : Addr) (n : Nat) (ps : List Addr) (Gs : List (List Int)) : Prop where
  lst : H p = some (.lst (ps.map V.ref))
  len : ps.length = Gs.length
  few : ps.length ≤ 6 ^ n
  nd : Gs.Nodup
  mem : ∀ G, G ∈ Gs ↔ Gaps G ∧ G.length = n
  low : ∀ G ∈ Gs, ∀ g ∈ G, g ≤ 40 * (n : Int)
  kid : ∀ (i : Nat) (q : Addr) (G : List Int), ps[i]? = some q → Gs[i]? = some G → ∃ h : List Int, H q = some (.lst (h.map V.int)) ∧ HouseOf G h
/-- the houses behind the first of them -/
structure Some (H : Hp) (D : Addr) (Gs : List (List Int)) (i n : Nat) (ps : List Addr) (Es : List (List Int)) : Prop where
  lst : H D = some (.lst (ps.map V.ref))
  len : ps.length = Es.length
  few : ps.length ≤ 6 * i
  nd : Es.Nodup
  mem : ∀ E, E ∈ Es ↔ ∃ G ∈ Gs.take i, ∃ c, Next G c ∧ E = G ++ [c]
  low : ∀ E ∈ Es, Gaps E ∧ ∀ g ∈ E, g ≤ 40 * (n : Int) + 40
  kid : ∀ (j : Nat) (q : Addr) (E : List Int), ps[j]? = some q → Es[j]? = some E → ∃ h : List Int, H q = some (.lst (h.map V.int)) ∧ HouseOf E h
noncomputable def sKids (K : PySem.W.Frag) : Sp := fun vs H Q _ => match vs with
  | [.ref p] => ∃ (n : Nat) (ps : List Addr) (Gs : List (List Int)), AllH H p n ps Gs ∧ n ≤ 4 ∧ ∀ (p' : Addr) (ps' : List Addr) (Es : List (List Int)) (H' : Hp), Same H H' → H p' = none → AllH H' p' (n + 1) ps' Es → Q (.ref p') H'
  | _ => False
noncomputable def sHW (K : PySem.W.Frag) : Sp := fun vs H Q _ => match vs with
  | [.int n] => (0 ≤ n ∧ n ≤ 5) ∧ ∀ (p : Addr) (ps : List Addr) (Gs : List (List Int)) (H' : Hp), Same H H' → H p = none → AllH H' p n.toNat ps Gs → Q (.ref p) H'
  | _ => False
noncomputable def sOnce (K : PySem.W.Frag) : Sp := fun vs H Q _ => match vs with
  | [.ref a, .int n] => ∃ G h, H a = some (.lst (h.map V.int)) ∧ HouseOf G h ∧ Gaps G ∧ n = (G.length : Int) ∧ ∀ H', Same H H' → Q (.bl true) H'
  | _ => False
noncomputable def sCoins81 (K : PySem.W.Frag) : Sp := fun vs H Q _ => match vs with
  | [.ref d] => ∃ ds, LI K H d ds ∧ 64 ≤ ds.length ∧ ∀ (p : Addr) (cs : List Int) (x y : Int) (H' : Hp), Same H H' → H p = none → H' p = some (.lst (cs.map V.int)) → Coins cs → x ∈ cs → y ∈ cs → 2 ≤ x → x ≤ 9 → 2 ≤ y → y ≤ 18 → gcdL [x, y] = 1 → Q (.ref p) H'
  | _ => False
noncomputable def sGaps81 (K : PySem.W.Frag) : Sp := fun vs H Q _ => match vs with
  | [.ref a] => ∃ cs x y, LI K H a cs ∧ Coins cs ∧ x ∈ cs ∧ y ∈ cs ∧ (2 ≤ x ∧ x ≤ 9) ∧ (2 ≤ y ∧ y ≤ 18) ∧ gcdL [x, y] = 1 ∧ ∀ (p : Addr) (G : List Int) (H' : Hp), Same H H' → H p = none → H' p = some (.lst (G.map V.int)) → Gaps G → (∀ g ∈ G, g ≤ 620) → (∀ s, Payable cs s ↔ 0 ≤ s ∧ s ∉ G) → Q (.ref p) H'
  | _ => False
end PG

set_option linter.all false
set_option maxRecDepth 100000
set_option maxHeartbeats 4000000
namespace TS
open PySem PyProof.Rows
noncomputable def gallopP : Bool → Keyed → Array Keyed → Nat → Nat → Nat → StateT SortSt Sem (Option Nat) := sortPriv% PySem.Builtin.gallop
section
variable {prog : Program} {w : World} {A : Around} {E : Value → Shared → Prop} {s : Shared}
theorem elem_ok {st : SortSt} {arr : Array Keyed} {i : Nat} {x : Keyed} {Q : Keyed → SortSt → Prop} (hx : arr[i]? = some x) (h : Q x st) : wpS (model prog w) A E s (elem' arr i) Q st := by
  rw [elem'_eq, hx]
  exact wpS_pure h
/-- keys of whole numbers -/
noncomputable def IK (x : Keyed) : Prop := ∃ n t, x.1 = .int n t
noncomputable def ky (x : Keyed) : Int := numOf x.1
noncomputable def bey (left : Bool) (key x : Keyed) : Bool := if left = true then decide (ky x < ky key) else !decide (ky key < ky x)
end
end TS

set_option linter.all false
set_option maxRecDepth 100000
set_option maxHeartbeats 4000000
namespace TS
open PySem PyProof.Rows
noncomputable abbrev Up (x y : Keyed) : Prop := ky x ≤ ky y
/-! ### two rows that become one -/
structure Mrg (R : Keyed → Keyed → Prop) (all out ra rb : List Keyed) : Prop where
  perm : (out ++ (ra ++ rb)).Perm all
  so : out.Pairwise R
  sa : ra.Pairwise R
  sb : rb.Pairwise R
  la : ∀ x ∈ out, ∀ y ∈ ra, R x y
  lb : ∀ x ∈ out, ∀ y ∈ rb, R x y
section
variable {prog : Program} {w : World} {A : Around} {E : Value → Shared → Prop} {s : Shared}
end
/-- all but the gallop -/
structure Eqv (st st' : SortSt) : Prop where
  kind : kindOf st' = kindOf st
  arr : arrOf st' = arrOf st
  pend : pendingOf st' = pendingOf st
  fail : failedOf st' = failedOf st
end TS

set_option linter.all false
set_option maxRecDepth 100000
set_option maxHeartbeats 4000000
namespace TS
open PySem PyProof.Rows
noncomputable def mergeLoP : Array Keyed → Array Keyed → StateT SortSt Sem (Array Keyed) := sortPriv% PySem.Builtin.mergeLo
noncomputable def Good (a b r : Array Keyed) : Prop := r.toList.Perm (a.toList ++ b.toList) ∧ r.toList.Pairwise Up
section
variable {prog : Program} {w : World} {A : Around} {E : Value → Shared → Prop} {s : Shared}
end
end TS

set_option linter.all false
set_option maxRecDepth 100000
set_option maxHeartbeats 4000000
namespace TS
open PySem PyProof.Rows
noncomputable def mergeHiP : Array Keyed → Array Keyed → StateT SortSt Sem (Array Keyed) := sortPriv% PySem.Builtin.mergeHi
noncomputable abbrev Dn (x y : Keyed) : Prop := ky y ≤ ky x
section
variable {prog : Program} {w : World} {A : Around} {E : Value → Shared → Prop} {s : Shared}
end
end TS

set_option linter.all false
set_option maxRecDepth 100000
set_option maxHeartbeats 4000000
namespace TS
open PySem PyProof.Rows
/-- rising from i on, n of them -/
noncomputable def SS (xs : Array Keyed) (i n : Nat) : Prop := ∀ a b, i ≤ a → a ≤ b → b < i + n → K xs a ≤ K xs b
noncomputable def NI (xs : Array Keyed) (i n : Nat) : Prop := ∀ a b, i ≤ a → a ≤ b → b < i + n → K xs b ≤ K xs a
/-- the same but for the order between two places -/
structure Fine (st st' : SortSt) (lo hi : Nat) : Prop where
  kind : kindOf st' = kindOf st
  fail : failedOf st' = failedOf st
  pend : pendingOf st' = pendingOf st
  perm : (arrOf st').Perm (arrOf st)
  out : ∀ k, k < lo ∨ hi ≤ k → (arrOf st')[k]? = (arrOf st)[k]?
noncomputable def Iks (xs : Array Keyed) : Prop := ∀ x ∈ xs.toList, IK x
section
variable {prog : Program} {w : World} {A : Around} {E : Value → Shared → Prop} {s : Shared}
end
end TS

set_option linter.all false
set_option maxRecDepth 100000
set_option maxHeartbeats 4000000
namespace TS
open PySem PyProof.Rows
section
variable {prog : Program} {w : World} {A : Around} {E : Value → Shared → Prop} {s : Shared}
end
end TS

set_option linter.all false
set_option maxRecDepth 100000
set_option maxHeartbeats 4000000
namespace TS
open PySem PyProof.Rows
/-- two neighbours become one row -/
structure Joined (st st' : SortSt) (i sa n pw : Nat) : Prop where
  kind : kindOf st' = kindOf st
  fail : failedOf st' = failedOf st
  pend : pendingOf st' = ((pendingOf st).setIfInBounds i (sa, n, pw)).eraseIdxIfInBounds (i + 1)
  perm : (arrOf st').Perm (arrOf st)
  out : ∀ k, k < sa ∨ sa + n ≤ k → (arrOf st')[k]? = (arrOf st)[k]?
  srt : SS (arrOf st') sa n
section
variable {prog : Program} {w : World} {A : Around} {E : Value → Shared → Prop} {s : Shared}
end
end TS

set_option linter.all false
set_option maxRecDepth 100000
set_option maxHeartbeats 4000000
namespace TS
open PySem PyProof.Rows
/-! ### the rows that wait -/
noncomputable def Cont : Nat → List (Nat × Nat) → Nat → Prop
  | lo, [], hi => lo = hi
  | lo, x :: r, hi => x.1 = lo ∧ 1 ≤ x.2 ∧ Cont (lo + x.2) r hi
noncomputable abbrev two (x : Nat × Nat × Nat) : Nat × Nat := (x.1, x.2.1)
noncomputable abbrev prs (st : SortSt) : List (Nat × Nat) := (pendingOf st).toList.map two
structure Stk (a₀ : Array Keyed) (st : SortSt) (hi : Nat) : Prop where
  perm : (arrOf st).Perm a₀
  kind : kindOf st = oneType'
  fail : failedOf st = none
  cont : Cont 0 (prs st) hi
  srt : ∀ x ∈ prs st, SS (arrOf st) x.1 x.2
  le : hi ≤ a₀.size
section
variable {prog : Program} {w : World} {A : Around} {E : Value → Shared → Prop} {s : Shared} {a₀ : Array Keyed}
end
end TS

set_option Elab.async false
set_option linter.all false
set_option maxRecDepth 100000
set_option maxHeartbeats 4000000
namespace TS
open PySem PyProof.Rows
section
variable {prog : Program} {w : World} {A : Around} {E : Value → Shared → Prop} {s : Shared}
end
end TS
namespace L2
open PySem PySem.Spec PyProof.Rows
section
variable {X : Cx}
/-- sorted of ints, however many -/
noncomputable def uSortedL (K : PySem.W.Frag) : List V → Hp → VK → Prop := u1 fun x H Q => match x with
  | .ref p => ∃ ns : List Int, SqL K H p (ns.map V.int) ∧ ∀ (l : Addr) (ms : List Int), H l = none → ms.Perm ns → ms.Pairwise (· ≤ ·) → Q (.ref l) (upd H l (.lst (ms.map V.int)))
  | _ => False
end
end L2

set_option Elab.async false
set_option linter.all false
set_option maxRecDepth 100000
set_option maxHeartbeats 4000000
namespace LO
open PySem PyProof.Rows PySem.SeqAt
open AutoSeq1 (wpAny_loadPart')
open MeetsSeq MeetsSeq2 MeetsSeq3
/-- what the first unlike pair says -/
noncomputable def firstNe (e c : Nat → Bool) (base : Bool) : Nat → Nat → Bool
  | 0, _ => base
  | k + 1, i => if e i = true then firstNe e c base k (i + 1) else c i
noncomputable def RcOp (op : CmpOp) (A : Around) (s : Shared) (y x : Value) (b : Bool) : Prop :=
  ∀ (prog : Program) (w : World) (E : Value → Shared → Prop) (Q : Value → Shared → Prop), Q (.bool b) s → wpAny (model prog w) A (richCompare op y x) Q E s
theorem lt_loopAt (l b : Addr) (items items2 : Array Value) (n n2 : Nat) (dd dd2 : Option Addr) (sl sl2 : Array (Option Value)) (hsz : items.size = items2.size) (e c : Nat → Bool) (k : Nat) :
    ∀ i : Nat, items.size - i = k → Meets (Builtin.«list.__eq__.loop» ⟨[.ref l, .ref b, rawInt i, rawInt 0], []⟩)
      (fun A R s => s.heap.get? l = some { cls := .type "list", dict := dd, data := .seq items n, slots := sl } ∧ s.heap.get? b = some { cls := .type "list", dict := dd2, data := .seq items2 n2, slots := sl2 } ∧
        (∀ j (h1 : j < items.size) (h2 : j < items2.size), EqAt A.in1 s items[j] items2[j] (e j) ∧ RcOp .Lt A.in1 s items[j] items2[j] (c j)) ∧
        R (.ok (.ret (.bool (firstNe e c false k i)))) s) := by
  induction k with
  | zero =>
    intro i hk prog w A R s h
    obtain ⟨hp, g, d, tk, os⟩ := s; obtain ⟨hl, hb, he, h⟩ := h
    wp_walk using wpAny_loadPart' hl, wpAny_loadPart' hb
    have hi1 : items[((i : Nat) : Int).toNat]? = none := by simp; omega
    have hi2 : items2[((i : Nat) : Int).toNat]? = none := by simp; omega
    rw [hi1, hi2]
    wp_walk using wpAny_loadPart' hl, wpAny_loadPart' hb
    show R (.ok (.ret (.bool (decide (items.size < items2.size))))) _
    rw [hsz]
    simpa [firstNe] using h
  | succ k ih =>
    intro i hk prog w A R s h
    obtain ⟨hp, g, d, tk, os⟩ := s; obtain ⟨hl, hb, he, h⟩ := h
    wp_walk using wpAny_loadPart' hl, wpAny_loadPart' hb
    have hlt : i < items.size := by omega
    have hlt2 : i < items2.size := by omega
    have hi1 : items[((i : Nat) : Int).toNat]? = some items[i] := by simp [hlt]
    have hi2 : items2[((i : Nat) : Int).toNat]? = some items2[i] := by simp [hlt2]
    have hc : ((i : Int) + 1) = ((i + 1 : Nat) : Int) := by push_cast; rfl
    rw [hi1, hi2]
    refine wpAny_bind ((he i hlt hlt2).1 prog w _ _ ?_)
    unfold firstNe at h
    cases hb' : e i with
    | true =>
      rw [hb', if_pos rfl] at h
      wp_walk
      rw [hc]
      exact ⟨plainId_quiet plain_eq_loop _, codeAny_builtin entry_eq_loop (by
        rw [Around.under_plainId plain_eq_loop _]
        exact ih (i + 1) (by omega) prog w A R _ ⟨hl, hb, he, h⟩)⟩
    | false =>
      rw [hb', if_neg (by decide)] at h
      wp_walk using wpAny_loadPart' hl, wpAny_loadPart' hb
      rw [hi1, hi2]
      refine wpAny_bind ((he i hlt hlt2).2 prog w _ _ ?_)
      wp_walk
      exact h
theorem ge_loopAt (l b : Addr) (items items2 : Array Value) (n n2 : Nat) (dd dd2 : Option Addr) (sl sl2 : Array (Option Value)) (hsz : items.size = items2.size) (e c : Nat → Bool) (k : Nat) :
    ∀ i : Nat, items.size - i = k → Meets (Builtin.«list.__eq__.loop» ⟨[.ref l, .ref b, rawInt i, rawInt 5], []⟩)
      (fun A R s => s.heap.get? l = some { cls := .type "list", dict := dd, data := .seq items n, slots := sl } ∧ s.heap.get? b = some { cls := .type "list", dict := dd2, data := .seq items2 n2, slots := sl2 } ∧
        (∀ j (h1 : j < items.size) (h2 : j < items2.size), EqAt A.in1 s items[j] items2[j] (e j) ∧ RcOp .GtE A.in1 s items[j] items2[j] (c j)) ∧
        R (.ok (.ret (.bool (firstNe e c true k i)))) s) := by
  induction k with
  | zero =>
    intro i hk prog w A R s h
    obtain ⟨hp, g, d, tk, os⟩ := s; obtain ⟨hl, hb, he, h⟩ := h
    wp_walk using wpAny_loadPart' hl, wpAny_loadPart' hb
    have hi1 : items[((i : Nat) : Int).toNat]? = none := by simp; omega
    have hi2 : items2[((i : Nat) : Int).toNat]? = none := by simp; omega
    rw [hi1, hi2]
    wp_walk using wpAny_loadPart' hl, wpAny_loadPart' hb
    show R (.ok (.ret (.bool (decide (items.size ≥ items2.size))))) _
    rw [hsz]
    simpa [firstNe] using h
  | succ k ih =>
    intro i hk prog w A R s h
    obtain ⟨hp, g, d, tk, os⟩ := s; obtain ⟨hl, hb, he, h⟩ := h
    wp_walk using wpAny_loadPart' hl, wpAny_loadPart' hb
    have hlt : i < items.size := by omega
    have hlt2 : i < items2.size := by omega
    have hi1 : items[((i : Nat) : Int).toNat]? = some items[i] := by simp [hlt]
    have hi2 : items2[((i : Nat) : Int).toNat]? = some items2[i] := by simp [hlt2]
    have hc : ((i : Int) + 1) = ((i + 1 : Nat) : Int) := by push_cast; rfl
    rw [hi1, hi2]
    refine wpAny_bind ((he i hlt hlt2).1 prog w _ _ ?_)
    unfold firstNe at h
    cases hb' : e i with
    | true =>
      rw [hb', if_pos rfl] at h
      wp_walk
      rw [hc]
      exact ⟨plainId_quiet plain_eq_loop _, codeAny_builtin entry_eq_loop (by
        rw [Around.under_plainId plain_eq_loop _]
        exact ih (i + 1) (by omega) prog w A R _ ⟨hl, hb, he, h⟩)⟩
    | false =>
      rw [hb', if_neg (by decide)] at h
      wp_walk using wpAny_loadPart' hl, wpAny_loadPart' hb
      rw [hi1, hi2]
      refine wpAny_bind ((he i hlt hlt2).2 prog w _ _ ?_)
      wp_walk
      exact h

theorem list_ltAt (l b : Addr) (items items2 : Array Value) (n n2 : Nat) (dd dd2 : Option Addr) (sl sl2 : Array (Option Value)) (hsz : items.size = items2.size) (e c : Nat → Bool) :
    Meets (Builtin.«list.__lt__» ⟨[.ref l, .ref b], []⟩)
      (fun A R s => s.heap.get? l = some { cls := .type "list", dict := dd, data := .seq items n, slots := sl } ∧ s.heap.get? b = some { cls := .type "list", dict := dd2, data := .seq items2 n2, slots := sl2 } ∧
        (∀ j (h1 : j < items.size) (h2 : j < items2.size), EqAt A.in1 s items[j] items2[j] (e j) ∧ RcOp .Lt A.in1 s items[j] items2[j] (c j)) ∧
        R (.ok (.ret (.bool (firstNe e c false items.size 0)))) s) := by
  intro prog w A R s h
  obtain ⟨hp, g, d, tk, os⟩ := s; obtain ⟨hl, hb, he, h⟩ := h
  have f3 := AutoSeq1.sub_list_list
  wp_walk using wpAny_loadPart' hl, wpAny_loadPart' hb
  exact ⟨plainId_quiet plain_eq_loop _, codeAny_builtin entry_eq_loop (by
    rw [Around.under_plainId plain_eq_loop _]
    exact lt_loopAt l b items items2 n n2 dd dd2 sl sl2 hsz e c _ 0 rfl prog w A R _ ⟨hl, hb, he, h⟩)⟩

theorem list_geAt (l b : Addr) (items items2 : Array Value) (n n2 : Nat) (dd dd2 : Option Addr) (sl sl2 : Array (Option Value)) (hsz : items.size = items2.size) (e c : Nat → Bool) :
    Meets (Builtin.«list.__ge__» ⟨[.ref l, .ref b], []⟩)
      (fun A R s => s.heap.get? l = some { cls := .type "list", dict := dd, data := .seq items n, slots := sl } ∧ s.heap.get? b = some { cls := .type "list", dict := dd2, data := .seq items2 n2, slots := sl2 } ∧
        (∀ j (h1 : j < items.size) (h2 : j < items2.size), EqAt A.in1 s items[j] items2[j] (e j) ∧ RcOp .GtE A.in1 s items[j] items2[j] (c j)) ∧
        R (.ok (.ret (.bool (firstNe e c true items.size 0)))) s) := by
  intro prog w A R s h
  obtain ⟨hp, g, d, tk, os⟩ := s; obtain ⟨hl, hb, he, h⟩ := h
  have f3 := AutoSeq1.sub_list_list
  wp_walk using wpAny_loadPart' hl, wpAny_loadPart' hb
  exact ⟨plainId_quiet plain_eq_loop _, codeAny_builtin entry_eq_loop (by
    rw [Around.under_plainId plain_eq_loop _]
    exact ge_loopAt l b items items2 n n2 dd dd2 sl sl2 hsz e c _ 0 rfl prog w A R _ ⟨hl, hb, he, h⟩)⟩

theorem ints_get : ∀ {vs : List Value} {ns : List Int}, IntsAre vs ns → ∀ (j : Nat) (h : j < vs.length), ∃ t, vs[j] = .int (ns.getD j 0) t
  | _, _, .nil, j, h => by simp at h
  | _, _, .cons n t hI, 0, h => ⟨t, rfl⟩
  | _, _, .cons n t hI, j + 1, h => by
    obtain ⟨t', e⟩ := ints_get hI j (by simpa using h)
    exact ⟨t', by simpa using e⟩
theorem firstNe_lt : ∀ (k i : Nat) (ns ms : List Int), ns.length = ms.length → ns.length - i = k → i ≤ ns.length →
    firstNe (fun j => decide (ns.getD j 0 = ms.getD j 0)) (fun j => decide (ns.getD j 0 < ms.getD j 0)) false k i = HT.lexLt (ns.drop i) (ms.drop i)
  | 0, i, ns, ms, hl, hk, hi => by
    rw [List.drop_of_length_le (by omega), List.drop_of_length_le (by omega)]; rfl
  | k + 1, i, ns, ms, hl, hk, hi => by
    have h1 : i < ns.length := by omega
    have h2 : i < ms.length := by omega
    have e1 : ns.getD i 0 = ns[i] := by simp [List.getD, h1]
    have e2 : ms.getD i 0 = ms[i] := by simp [List.getD, h2]
    rw [List.drop_eq_getElem_cons h1, List.drop_eq_getElem_cons h2, HT.lexLt_cons, ← firstNe_lt k (i + 1) ns ms hl (by omega) (by omega)]
    show (if decide (ns.getD i 0 = ms.getD i 0) = true then _ else decide (ns.getD i 0 < ms.getD i 0)) = _
    rw [e1, e2]
    by_cases z : ns[i] = ms[i]
    · rw [if_pos z, if_pos (decide_eq_true z)]
    · rw [if_neg z, if_neg (by rw [decide_eq_false z]; decide)]
theorem firstNe_ge : ∀ (k i : Nat) (ns ms : List Int), ns.length = ms.length → ns.length - i = k → i ≤ ns.length →
    firstNe (fun j => decide (ns.getD j 0 = ms.getD j 0)) (fun j => decide (ms.getD j 0 ≤ ns.getD j 0)) true k i = !HT.lexLt (ns.drop i) (ms.drop i)
  | 0, i, ns, ms, hl, hk, hi => by
    rw [List.drop_of_length_le (by omega), List.drop_of_length_le (by omega)]; rfl
  | k + 1, i, ns, ms, hl, hk, hi => by
    have h1 : i < ns.length := by omega
    have h2 : i < ms.length := by omega
    have e1 : ns.getD i 0 = ns[i] := by simp [List.getD, h1]
    have e2 : ms.getD i 0 = ms[i] := by simp [List.getD, h2]
    rw [List.drop_eq_getElem_cons h1, List.drop_eq_getElem_cons h2, HT.lexLt_cons]
    show (if decide (ns.getD i 0 = ms.getD i 0) = true then firstNe _ _ true k (i + 1) else decide (ms.getD i 0 ≤ ns.getD i 0)) = _
    rw [firstNe_ge k (i + 1) ns ms hl (by omega) (by omega), e1, e2]
    by_cases z : ns[i] = ms[i]
    · rw [if_pos z, if_pos (decide_eq_true z)]
    · rw [if_neg z, if_neg (by rw [decide_eq_false z]; decide)]
      by_cases y : ns[i] < ms[i]
      · rw [decide_eq_true y, decide_eq_false (by omega)]; rfl
      · rw [decide_eq_false y, decide_eq_true (by omega)]; rfl
section
variable {prog : Program} {w : World} {A : Around} {E : Value → Shared → Prop} {s : Shared}
theorem rc_ge_int (A : Around) (s : Shared) (a : Int) (t : Tok) (c : Int) (u : Tok) : RcOp .GtE A s (.int a t) (.int c u) (decide (c ≤ a)) := fun prog w E Q h =>
  (PyProof.Rows.ge_int h : wpAny (model prog w) A (compareOp .GtE (.int a t) (.int c u)) Q E s)
theorem rc_lt_int (A : Around) (s : Shared) (a : Int) (t : Tok) (c : Int) (u : Tok) : RcOp .Lt A s (.int a t) (.int c u) (decide (a < c)) := fun prog w E Q h =>
  (PyProof.Rows.lt_int h : wpAny (model prog w) A (compareOp .Lt (.int a t) (.int c u)) Q E s)
/-- xs >= ys of lists of ints -/
theorem ge_lists {l b : Addr} {items items2 : Array Value} {ns ms : List Int} {Q : Value → Shared → Prop} (hl : s.heap.IsList l items) (hb : s.heap.IsList b items2) (hi : IntsAre items.toList ns) (hj : IntsAre items2.toList ms)
    (hsz : ns.length = ms.length) (hu : A.units < cLine) (h : Q (.bool (!HT.lexLt ns ms)) s) : wpAny (model prog w) A (compareOp .GtE (.ref l) (.ref b)) Q E s := by
  obtain ⟨⟨cls, dd, data, sl⟩, ho, hc, n, hd⟩ := id hl
  obtain ⟨⟨cls2, dd2, data2, sl2⟩, ho2, hc2, n2, hd2⟩ := id hb
  simp only at hc hd hc2 hd2
  subst hc hd hc2 hd2
  have z1 : items.size = ns.length := by rw [← hi.length]; simp
  have z2 : items2.size = ms.length := by rw [← hj.length]; simp
  have ev := firstNe_ge items.size 0 ns ms hsz (by omega) (by omega)
  rw [List.drop_zero, List.drop_zero] at ev
  refine richCompare_meets_room (op := .GtE) ⟨_, ho, rfl⟩ ⟨_, ho2, rfl⟩ F.slot_list_ge F.entry_list_ge (F.args_list_ge_2 _ _) (list_geAt l b items items2 n n2 dd dd2 sl sl2 (by omega) (fun j => decide (ns.getD j 0 = ms.getD j 0)) (fun j => decide (ms.getD j 0 ≤ ns.getD j 0)))
    ⟨ho, ho2, fun j h1 h2 => ?_, ?_⟩ hu
  · obtain ⟨t, e⟩ := ints_get hi j (by simpa using h1)
    obtain ⟨u, f⟩ := ints_get hj j (by simpa using h2)
    have e' : items[j] = .int (ns.getD j 0) t := by simpa using e
    have f' : items2[j] = .int (ms.getD j 0) u := by simpa using f
    rw [e', f']
    exact ⟨EqAt.int_int _ t _ u, rc_ge_int _ _ _ t _ u⟩
  · rw [ev]
    exact show Value.bool (!HT.lexLt ns ms) ≠ Value.notImplemented ∧ Q (.bool (!HT.lexLt ns ms)) s from ⟨(fun x => nomatch x), h⟩
/-- what list.sort asks of two lists of ints -/
theorem oneLt_lists {l b : Addr} {items items2 : Array Value} {ns ms : List Int} {Q : Bool → Shared → Prop} (hl : s.heap.IsList l items) (hb : s.heap.IsList b items2) (hi : IntsAre items.toList ns) (hj : IntsAre items2.toList ms)
    (hsz : ns.length = ms.length) (hu : A.units < cLine) (h : Q (HT.lexLt ns ms) s) : wpAny (model prog w) A (oneLt' true (.ref l) (.ref b)) Q E s := by
  obtain ⟨⟨cls, dd, data, sl⟩, ho, hc, n, hd⟩ := id hl
  obtain ⟨⟨cls2, dd2, data2, sl2⟩, ho2, hc2, n2, hd2⟩ := id hb
  simp only at hc hd hc2 hd2
  subst hc hd hc2 hd2
  have z1 : items.size = ns.length := by rw [← hi.length]; simp
  have z2 : items2.size = ms.length := by rw [← hj.length]; simp
  have ev := firstNe_lt items.size 0 ns ms hsz (by omega) (by omega)
  rw [List.drop_zero, List.drop_zero] at ev
  rw [oneLt'_eq]
  simp only [if_true]
  refine wpAny_bind (wpAny_cRoomFor hu ?_)
  refine wpAny_bind (wpAny_callSpecialIfBound?_slot ⟨_, ho, rfl⟩ F.slot_list_lt (call_meets F.slot_list_lt ⟨_, ho, rfl⟩ F.entry_list_lt (F.args_list_lt_2 _ _) (list_ltAt l b items items2 n n2 dd dd2 sl sl2 (by omega) (fun j => decide (ns.getD j 0 = ms.getD j 0)) (fun j => decide (ns.getD j 0 < ms.getD j 0)))
    ⟨ho, ho2, fun j h1 h2 => ?_, ?_⟩))
  · obtain ⟨t, e⟩ := ints_get hi j (by simpa using h1)
    obtain ⟨u, f⟩ := ints_get hj j (by simpa using h2)
    have e' : items[j] = .int (ns.getD j 0) t := by simpa using e
    have f' : items2[j] = .int (ms.getD j 0) u := by simpa using f
    rw [e', f']
    exact ⟨EqAt.int_int _ t _ u, rc_lt_int _ _ _ t _ u⟩
  · rw [ev]
    exact wpAny_truthy_bool h
end
end LO

set_option Elab.async false
set_option linter.all false
set_option maxRecDepth 100000
set_option maxHeartbeats 4000000
namespace LO
open PySem PyProof.Rows TS
theorem minRun_le : ∀ (f n r : Nat), minRun' f n r ≤ n + r
  | 0, n, r => Nat.le_refl _
  | f + 1, n, r => by
    rw [minRun'_succ]
    by_cases z : n < 64
    · rw [if_pos z]; exact Nat.le_refl _
    · rw [if_neg z]
      have := minRun_le f (n / 2) (max r (n % 2))
      omega
section
variable {prog : Program} {w : World} {A : Around} {E : Value → Shared → Prop} {s : Shared}
/-- what list.sort asks of two things -/
noncomputable def LtS (A : Around) (s : Shared) (x y : Value) (b : Bool) : Prop := ∀ (prog : Program) (w : World) (E : Value → Shared → Prop) (Q : Bool → Shared → Prop), Q b s → wpAny (model prog w) A (oneLt' true x y) Q E s
theorem ltAt_rise {st : SortSt} {i j : Nat} {b : Bool} {x y : Keyed} {Q : Option Bool → SortSt → Prop} (hk : kindOf st = oneType') (hi : (arrOf st)[i]? = some x) (hj : (arrOf st)[j]? = some y) (hL : LtS A s x.1 y.1 b) (h : Q (some b) st) :
    wpS (model prog w) A E s (ltAt' i j) Q st := by
  rw [ltAt'_eq]
  refine wpS_bind (wpS_get (wpS_bind (elem_ok hi (wpS_bind (elem_ok hj ?_)))))
  rw [lt'_eq]
  refine wpS_bind (wpS_get ?_)
  rw [hk, keyLt'_oneType]
  exact wpS_bind (wpS_lift (wpAny_attempt (hL prog w _ _ ⟨rfl, wpS_pure h⟩)))
/-- no later one is less than the one ahead of it -/
noncomputable def Rise (A : Around) (s : Shared) (arr : Array Keyed) : Prop := ∀ i x y, arr[i]? = some x → arr[i + 1]? = some y → LtS A s y.1 x.1 false
theorem countRun_rise {st : SortSt} {Q : Option Nat → SortSt → Prop} (hk : kindOf st = oneType') (hr : Rise A s (arrOf st)) (h1 : 1 ≤ (arrOf st).size) (h : Q (some (arrOf st).size) st) :
    wpS (model prog w) A E s (countRun' 0 ((arrOf st).size - 0)) Q st := by
  refine wpS_bind (wpS_mono (wpS_forRange (I := fun x c st'' => st = st'' ∧ c = (none, x))
        (Q := fun c st'' => st = st'' ∧ c = (none, (arrOf st).size)) ?astep ?afin ⟨rfl, rfl⟩) ?apost)
  case afin =>
    rintro c st'' ⟨rfl, rfl⟩
    exact ⟨rfl, by congr 1; omega⟩
  case astep =>
    rintro x c st'' hx1 hx2 ⟨rfl, rfl⟩
    dsimp only
    have g1 := getElem?_pos (arrOf st) (0 + x) (by omega)
    have g2 := getElem?_pos (arrOf st) (0 + x - 1) (by omega)
    refine wpS_bind (ltAt_rise hk g1 g2 (hr (0 + x - 1) _ _ g2 (by rw [show 0 + x - 1 + 1 = 0 + x by omega]; exact g1)) ?_)
    simp only [Bool.false_eq_true, if_false]
    exact wpS_pure ⟨rfl, rfl⟩
  case apost =>
    rintro c st'' ⟨rfl, rfl⟩
    dsimp only
    rw [if_pos (by simp)]
    exact wpS_pure h
theorem sortRuns_rise {st : SortSt} {Q : Unit → SortSt → Prop} (hk : kindOf st = oneType') (hp : pendingOf st = #[]) (hr : Rise A s (arrOf st)) (h2 : 2 ≤ (arrOf st).size) (h : ∀ st', arrOf st' = arrOf st → failedOf st' = failedOf st → Q () st') :
    wpS (model prog w) A E s sortRuns' Q st := by
  rw [sortRuns'_eq]
  refine wpS_bind (wpS_get ?_)
  dsimp only
  have hmr := minRun_le (arrOf st).size (arrOf st).size 0
  generalize minRun' (arrOf st).size (arrOf st).size 0 = mr at hmr
  refine wpS_bind (wpS_mono (wpS_forRange (I := fun x c st' => (x = 0 ∧ c = (none, 0) ∧ st' = st) ∨ (c = (none, (arrOf st).size) ∧ arrOf st' = arrOf st ∧ failedOf st' = failedOf st ∧ (pendingOf st').size = 1))
    (Q := fun c st' => c = (none, (arrOf st).size) ∧ arrOf st' = arrOf st ∧ failedOf st' = failedOf st ∧ (pendingOf st').size = 1) ?step ?fin (.inl ⟨rfl, rfl, rfl⟩)) ?post)
  case fin =>
    rintro c st' (⟨x, _⟩ | z)
    · omega
    · exact z
  case step =>
    rintro x c st1 _ hx (⟨x0, rfl, rfl⟩ | ⟨rfl, z⟩)
    · dsimp only
      rw [if_neg (by omega)]
      refine wpS_bind (countRun_rise hk hr (by omega) ?_)
      dsimp only
      rw [if_neg (by omega)]
      refine wpS_bind (wpS_get ?_)
      rw [hp]
      refine wpS_bind (wpS_modify (wpS_pure (.inr ⟨by congr 1; omega, rfl, rfl, ?_⟩)))
      show ((pendingOf st1).push _).size = 1
      rw [hp]; rfl
    · dsimp only
      rw [if_pos (Nat.le_refl _)]
      exact wpS_pure ⟨rfl, z⟩
  case post =>
    rintro c st1 ⟨rfl, a1, a2, a3⟩
    dsimp only
    refine wpS_bind (wpS_mono (wpS_forRange (I := fun x c st' => c.1 = none ∧ st1 = st') (Q := fun c st' => c.1 = none ∧ st1 = st') ?_ ?_ ⟨rfl, rfl⟩) ?_)
    · rintro x ⟨_, c⟩ st5 _ hx ⟨e, rfl⟩
      cases e
      refine wpS_bind (wpS_get ?_)
      rw [if_pos (by omega)]
      exact wpS_pure ⟨rfl, rfl⟩
    · exact fun c st5 z => z
    · rintro ⟨_, c⟩ st5 ⟨e, rfl⟩
      cases e
      exact wpS_pure (h _ a1 a2)
theorem mapM_wp {α β : Type} {M : Model} {f : α → Sem β} {c : β} {Q : List β → Shared → Prop} : ∀ {vs : List α}, (∀ v ∈ vs, ∀ Q' : β → Shared → Prop, Q' c s → wpAny M A (f v) Q' E s) → Q (vs.map fun _ => c) s → wpAny M A (vs.mapM f) Q E s := by
  intro vs
  induction vs generalizing Q with
  | nil => intro _ h; rw [List.mapM_nil]; exact wpAny_pure h
  | cons v vs ih =>
    intro hv h
    rw [List.mapM_cons]
    refine wpAny_bind (hv v (by simp) _ (wpAny_bind (ih (fun u hu => hv u (by simp [hu])) (wpAny_pure h))))
theorem firstOfTuple'_list {v : Value} {Q : Option Value → Shared → Prop} {M : Model} (hv : s.TypeIs v "list") (h : Q none s) : wpAny M A (firstOfTuple' v) Q E s := by
  show wpAny M A (do
    if (← typeOf v) != .type "tuple" then return none
    return (← Builtin.List.listItems v)[0]?) Q E s
  refine wpAny_bind (wpAny_typeOf hv ?_)
  rw [if_pos (by decide)]
  exact wpAny_pure h
theorem keyKind_lists {vs : List Value} {Q : SortKind → Shared → Prop} {M : Model} (h2 : 2 ≤ vs.length) (hv : ∀ v ∈ vs, s.TypeIs v "list") (h : Q oneType' s) : wpAny M A (keyKind' vs.toArray) Q E s := by
  match vs, h2, hv with
  | [], h2, _ => simp at h2
  | [_], h2, _ => simp at h2
  | v₁ :: v₂ :: rest, _, hv =>
    rw [keyKind'_eq, List.mapM_toArray]
    refine wpAny_bind ?_
    rw [← bind_pure_comp]
    refine wpAny_bind (mapM_wp (c := none) (fun v hv' Q' q => firstOfTuple'_list (hv v hv') q) (wpAny_pure ?_))
    rw [if_neg (by simp), if_neg (by simp)]
    rw [oneTypeOnly'_eq, List.mapM_toArray]
    refine wpAny_bind (wpAny_bind ?_)
    rw [← bind_pure_comp]
    refine wpAny_bind (mapM_wp (c := Value.type "list") (fun v hv' Q' q => wpAny_typeOf (hv v hv') q) (wpAny_pure ?_))
    have hall : ((List.map (fun _ => Value.type "list") (v₁ :: v₂ :: rest)).toArray.all fun x => x == Value.type "list") = true := by
      simp only [List.all_toArray, List.all_map, List.all_eq_true]
      intro _ _
      rfl
    have h0 : (List.map (fun _ => Value.type "list") (v₁ :: v₂ :: rest)).toArray[0]? = some (Value.type "list") := by simp
    rw [h0]
    simp only [hall, if_true]
    exact wpAny_pure (wpAny_pure h)
end
end LO

set_option Elab.async false
set_option linter.all false
set_option maxRecDepth 100000
set_option maxHeartbeats 4000000
namespace LO
open PySem PyProof.Rows TS
section
variable {prog : Program} {w : World} {A : Around} {E : Value → Shared → Prop} {s : Shared}
/-- things that list.sort finds in order, wherever else the heap grows -/
noncomputable def Rows (A : Around) (s : Shared) (vs : List Value) : Prop := ∀ s' : Shared, (∀ p o, s.heap.get? p = some o → s'.heap.get? p = some o) → (∀ v ∈ vs, s'.TypeIs v "list") ∧ ∀ i x y, vs[i]? = some x → vs[i + 1]? = some y → LtS A s' y x false
theorem pairs_at {vs : List Value} {i : Nat} {x : Keyed} (h : (pairsOf vs)[i]? = some x) : vs[i]? = some x.1 := by
  have : (pairsOf vs).toList[i]? = some x := by rw [Array.getElem?_toList]; exact h
  rw [pairsOf_toList, List.getElem?_zip_eq_some] at this
  exact this.1
theorem sort_rise {a : Addr} {vs : List Value} {n : Nat} {P : Fin → Shared → Prop} (ho : s.heap.get? a = some (seqObj "list" vs.toArray n)) (hz : vs.length ≤ sizeLine)
    (hR : ∀ s' : Shared, (∀ p o, p ≠ a → s.heap.get? p = some o → s'.heap.get? p = some o) → (∀ v ∈ vs, s'.TypeIs v "list") ∧ ∀ i x y, vs[i]? = some x → vs[i + 1]? = some y → LtS A s' y x false)
    (h : P (.done (.ret .none)) { s with heap := sortedHeap s.heap a vs vs.toArray }) :
    wpAny (model prog w) A (Builtin.«list.sort» ⟨[.ref a], []⟩) P E s := by
  rw [list_sort_plain]
  refine wpAny_bind (listItems_at ho rfl (wpAny_bind (listUpdate_at ho rfl ?_ (by simpa using hz))))
  obtain ⟨e1, he1⟩ : ∃ e1, (s.heap.update a (Obj.mapSeq fun _ => #[])).get? a = some (seqObj "list" #[] e1) := ⟨_, get?_update_seq ho (fun _ => #[])⟩
  refine wpAny_bind (seqEpoch_at he1 rfl (wpAny_bind (wpAny_newTuple (wpAny_bind (wpAny_newList (wpAny_holding ?_))))))
  have la : a < s.heap.objs.size := Heap.lt_size ho
  have he2 : (((s.heap.update a (Obj.mapSeq fun _ => #[])).push (seqObj "tuple" vs.toArray 0)).push (seqObj "list" #[] 0)).get? a = some (seqObj "list" #[] e1) := by
    rw [Heap.get?_push_ne _ _ _ (by rw [size_push', Heap.size_update]; exact Nat.ne_of_lt (Nat.lt_succ_of_lt la)), Heap.get?_push_ne _ _ _ (by rw [Heap.size_update]; exact Nat.ne_of_lt la)]
    exact he1
  show wpAny (model prog w) A _ P E { s with heap := ((s.heap.update a (Obj.mapSeq fun _ => #[])).push (seqObj "tuple" vs.toArray 0)).push (seqObj "list" #[] 0) }
  have hr := hR { s with heap := ((s.heap.update a (Obj.mapSeq fun _ => #[])).push (seqObj "tuple" vs.toArray 0)).push (seqObj "list" #[] 0) } (fun p o ne hp => by
    have lp : p < s.heap.objs.size := Heap.lt_size hp
    show (((s.heap.update a (Obj.mapSeq fun _ => #[])).push (seqObj "tuple" vs.toArray 0)).push (seqObj "list" #[] 0)).get? p = some o
    rw [Heap.get?_push_ne _ _ _ (by rw [size_push', Heap.size_update]; exact Nat.ne_of_lt (Nat.lt_succ_of_lt lp)), Heap.get?_push_ne _ _ _ (by rw [Heap.size_update]; exact Nat.ne_of_lt lp), Heap.get?_update_ne _ _ _ _ ne]
    exact hp)
  dsimp only
  by_cases two : vs.toArray.size < 2
  · rw [if_pos two, if_pos two]
    refine wpAny_bind (wpAny_pure ?_)
    rw [StateT.run_pure]
    refine wpAny_bind (wpAny_pure ?_)
    dsimp only
    have em : (Array.map (fun x => x.snd) (vs.toArray.zip vs.toArray)) = vs.toArray := by
      apply Array.ext'
      simp [List.map_snd_zip]
    refine wpAny_bind (seqEpoch_at he2 rfl (wpAny_bind (listUpdate_at he2 rfl ?_ (hsz2 := by rw [em]; simpa using Nat.le_succ_of_le hz))))
    simp only [bne_self_eq_false, Bool.false_eq_true, if_false]
    refine wpAny_pure ?_
    rw [em]
    exact h
  · rw [if_neg two, if_neg two]
    have h2 : 2 ≤ vs.length := by simpa using two
    refine wpAny_bind (keyKind_lists h2 hr.1 ?_)
    refine wpAny_bind (wpAny_mono (sortRuns_rise (st := SortSt.mk' oneType' (pairsOf vs) #[] 7 none)
      (Q := fun _ st' => arrOf st' = pairsOf vs ∧ failedOf st' = none) rfl rfl (fun i x y hx hy => hr.2 i _ _ (pairs_at hx) (pairs_at hy)) (by show 2 ≤ (pairsOf vs).size; rw [pairsOf_size]; exact h2) fun st' a1 a2 => ⟨a1, a2⟩) ?_ fun _ _ e => e)
    rintro ⟨⟨⟩, st'⟩ s' ⟨rfl, ha, hf⟩
    dsimp only
    have em : (Array.map (fun x => x.snd) (arrOf st')) = vs.toArray := by
      rw [ha]
      apply Array.ext'
      rw [Array.toList_map, pairsOf_toList, List.map_snd_zip (Nat.le_refl _)]
    refine wpAny_bind (seqEpoch_at he2 rfl (wpAny_bind (listUpdate_at he2 rfl ?_ (hsz2 := by rw [em]; simpa using Nat.le_succ_of_le hz))))
    rw [hf]
    simp only [bne_self_eq_false, Bool.false_eq_true, if_false]
    refine wpAny_pure ?_
    rw [em]
    exact h
theorem sorted_rise {l : Addr} {vs : List Value} {Q : Value → Shared → Prop} (hl : s.heap.IsList l vs.toArray) (hz : vs.length ≤ sizeLine) (hR : Rows A.in1.in1 s vs)
    (h : Q (.ref (s.heap.objs.size + 1)) { s with heap := sortedAll s.heap vs vs.toArray }) :
    wpAny (model prog w) A (call (.builtin "sorted") [.ref l]) Q E s := by
  refine Calls.call_function_entry kind_sorted plain_sorted entry_sorted (args_sorted1 _) ?_
  unfold Builtin.«sorted»
  refine wpAny_bind (m := checkCount "sorted" 1 1 _) (wpAny_pure (wpAny_bind (collect_list hl (wpAny_bind (wpAny_newList ?_)) hz)))
  have hsz : ((s.heap.push (seqObj "list" #[] 0)).update s.heap.objs.size (Obj.mapSeq (· ++ vs.toArray))).objs.size = s.heap.objs.size + 1 := by rw [Heap.size_update, size_push']
  have hoL : (((s.heap.push (seqObj "list" #[] 0)).update s.heap.objs.size (Obj.mapSeq (· ++ vs.toArray))).push (seqObj "list" vs.toArray 0)).get? (s.heap.objs.size + 1) = some (seqObj "list" vs.toArray 0) := by
    rw [← hsz]
    exact Heap.get?_push_size _ rfl
  show wpAny _ _ _ _ _ { s with heap := ((s.heap.push (seqObj "list" #[] 0)).update s.heap.objs.size (Obj.mapSeq (· ++ vs.toArray))).push (seqObj "list" vs.toArray 0) }
  rw [hsz]
  refine wpAny_bind (wpAny_holding (wpAny_call_entry slot_list_sort ⟨_, hoL, rfl⟩ entry_list_sort (sort_rise hoL hz (fun s' hs' => hR s' fun p o hp => hs' p o ?_ ?_) ⟨_, rfl, wpAny_pure ⟨_, rfl, h⟩⟩) (args_list_sort _)))
  · exact Nat.ne_of_lt (Nat.lt_succ_of_lt (Heap.lt_size hp))
  · have lp : p < s.heap.objs.size := Heap.lt_size hp
    show ((((s.heap.push (seqObj "list" #[] 0)).update s.heap.objs.size (Obj.mapSeq (· ++ vs.toArray))).push (seqObj "list" vs.toArray 0))).get? p = some o
    rw [Heap.get?_push_ne _ _ _ (by rw [hsz]; exact Nat.ne_of_lt (Nat.lt_succ_of_lt lp)), Heap.get?_update_ne _ _ _ _ (Nat.ne_of_lt lp), Heap.get?_push_ne _ _ _ (Nat.ne_of_lt lp)]
    exact hp
end
end LO
namespace L2
open PySem PySem.Spec PyProof.Rows
section
variable {X : Cx}
/-- sorted of lists of ints that stand in order -/
noncomputable def uSortedO (K : PySem.W.Frag) : List V → Hp → VK → Prop := u1 fun x H Q => match x with
  | .ref p => ∃ (ps : List Addr) (G : Nat → List Int), SqL K H p (ps.map V.ref) ∧ (∀ i q, ps[i]? = some q → SqL K H q ((G i).map V.int)) ∧ (∀ i, i + 1 < ps.length → (G (i + 1)).length = (G i).length ∧ HT.lexLt (G (i + 1)) (G i) = false) ∧
      ∀ l : Addr, H l = none → Q (.ref l) (upd H l (.lst (ps.map V.ref)))
  | _ => False
theorem uc_sortedO_0 (hu : X.A.units + 8 < cLine) : CallR X (.builtin "sorted") (uSortedO X.K) := by
  intro pins s σ H xs us Q I r h
  obtain ⟨x, rfl, h⟩ := u1_of h
  cases x with
  | ref p =>
    obtain ⟨ps, G, hq, hg, ho, q⟩ := h
    obtain ⟨u, rfl, rx⟩ := vals1 r
    cases rx
    obtain ⟨its, r', pl, hz⟩ := I.list hq
    have hlen := r'.length
    rw [List.length_map] at hlen hz
    refine LO.sorted_rise pl.isList (by omega) (fun s' hs' => ⟨fun v hv => ?_, fun i x y hx hy => ?_⟩) ?_
    · obtain ⟨i, hi, e⟩ := List.mem_iff_getElem.mp hv
      have hi' : i < ps.length := by omega
      obtain ⟨u1, e1, q1⟩ := r'.get (show (ps.map V.ref)[i]? = some (V.ref ps[i]) by simp [hi'])
      rw [List.getElem?_eq_getElem hi, e] at e1
      cases Option.some.inj e1
      cases q1
      obtain ⟨its2, r2, pl2, _⟩ := I.list (hg i _ (List.getElem?_eq_getElem hi'))
      obtain ⟨o2, ho2, hc2, n2, hd2⟩ := id pl2.isList
      exact ⟨o2, hs' _ _ ho2, hc2⟩
    · have hx' : i < its.length := by
        rcases Nat.lt_or_ge i its.length with z | z
        · exact z
        · rw [List.getElem?_eq_none z] at hx; cases hx
      have hy' : i + 1 < its.length := by
        rcases Nat.lt_or_ge (i + 1) its.length with z | z
        · exact z
        · rw [List.getElem?_eq_none z] at hy; cases hy
      obtain ⟨u1, e1, q1⟩ := r'.get (show (ps.map V.ref)[i]? = some (V.ref (ps[i]'(by omega))) by rw [List.getElem?_map, List.getElem?_eq_getElem (by omega)]; rfl)
      obtain ⟨u2, e2, q2⟩ := r'.get (show (ps.map V.ref)[i + 1]? = some (V.ref (ps[i + 1]'(by omega))) by rw [List.getElem?_map, List.getElem?_eq_getElem (by omega)]; rfl)
      rw [hx] at e1
      rw [hy] at e2
      cases Option.some.inj e1
      cases Option.some.inj e2
      cases q1
      cases q2
      obtain ⟨i1, r1, p1, _⟩ := I.list (hg i _ (List.getElem?_eq_getElem (by omega)))
      obtain ⟨i2, r2, p2, _⟩ := I.list (hg (i + 1) _ (List.getElem?_eq_getElem (by omega)))
      obtain ⟨o1, ho1, hc1, n1, hd1⟩ := id p1.isList
      obtain ⟨o2, ho2, hc2, n2, hd2⟩ := id p2.isList
      intro prog w E Q' hq'
      have := ho i (by omega)
      refine LO.oneLt_lists (ns := G (i + 1)) (ms := G i) ⟨o2, hs' _ _ ho2, hc2, n2, hd2⟩ ⟨o1, hs' _ _ ho1, hc1, n1, hd1⟩ (intsAre_of r2) (intsAre_of r1) this.1 (by show X.A.units + 1 + 1 < cLine; omega) ?_
      rw [this.2]
      exact hq'
    · obtain ⟨e, he⟩ := PyProof.Rows.sortedAll_at s.heap its its.toArray
      refine ⟨.ref (s.heap.objs.size + 1), _, I.laid (t' := s.toks) (fun _ _ => PyProof.Rows.sortedAll_old) (Nat.le_succ _) (show ObjOk X.prog X.w _ _ _ (.lst (ps.map V.ref)) from ⟨by rw [List.length_map]; exact hz, its, e, r', he⟩), rfl, q _ (I.hok.fresh (Nat.le_succ _))⟩
  | _ => exact False.elim h
theorem uc_sortedO {K : PySem.W.Frag} (hu : X.A.units + 8 < cLine) (hK : X.K = K := by rfl) : CallR X (.builtin "sorted") (uSortedO K) := by subst hK; exact uc_sortedO_0 hu
/-- >= of whole numbers, and of lists of them -/
noncomputable def uGeL (K : PySem.W.Frag) : R2 := fun x y H Q => match x, y with
  | .ref a, .ref b => ∃ ns ms : List Int, SqL K H a (ns.map V.int) ∧ SqL K H b (ms.map V.int) ∧ ns.length = ms.length ∧ Q (.bl (!HT.lexLt ns ms)) H
  | _, _ => False
theorem uo_geL_0 (hu : X.A.units + 8 < cLine) : OpR X (compareOp .GtE) (uGeL X.K) := by
  intro pins s σ H x y v u Q I rx ry h
  cases x with
  | ref a =>
    cases y with
    | ref b =>
      obtain ⟨ns, ms, ha, hb, hl, q⟩ := h
      cases rx; cases ry
      obtain ⟨i1, r1, p1, _⟩ := I.list ha
      obtain ⟨i2, r2, p2, _⟩ := I.list hb
      exact LO.ge_lists p1.isList p2.isList (intsAre_of r1) (intsAre_of r2) hl (by omega) ⟨.bl _, H, I, rfl, q⟩
    | _ => exact False.elim h
  | _ => exact False.elim h
theorem uo_geL {K : PySem.W.Frag} (hu : X.A.units + 8 < cLine) (hK : X.K = K := by rfl) : OpR X (compareOp .GtE) (uGeL K) := by subst hK; exact uo_geL_0 hu
end
end L2

set_option Elab.async false
set_option linter.all false
set_option maxRecDepth 100000
set_option maxHeartbeats 4000000
namespace PG
open PySem L2 PyProof PyProof.Rows
theorem next_le2 {G : List Int} {x : Int} (n : Next G x) : x ≤ 2 * (G.length : Int) + 1 := by
  have h := sub_len (l := (List.range (x - 1).toNat).map fun (i : Nat) => 1 + (i : Int)) (m := G ++ G.map fun y => x - y) (by
    rw [List.Nodup, List.pairwise_map]
    exact List.pairwise_lt_range.imp fun hab => by omega) (fun a ha => by
    obtain ⟨i, hi, rfl⟩ := List.mem_map.mp ha
    have hi' := List.mem_range.mp hi
    rcases n.cl (1 + (i : Int)) (by omega) (by omega) with z | z
    · exact List.mem_append_left _ z
    · exact List.mem_append_right _ (List.mem_map.mpr ⟨_, z, by omega⟩))
  rw [List.length_map, List.length_range, List.length_append, List.length_map] at h
  omega
theorem closedB_iff {G : List Int} {n : Int} : closedB G n = true ↔ ∀ x, 1 ≤ x → x ≤ n / 2 → x ∈ G ∨ n - x ∈ G := by
  refine ⟨closedB_of, fun h => ?_⟩
  unfold closedB
  rw [List.all_eq_true]
  intro i hi
  have hi' := List.mem_range.mp hi
  rw [Bool.or_eq_true, decide_eq_true_iff, decide_eq_true_iff]
  exact h _ (by omega) (by omega)
/-- the next gaps -/
noncomputable def nexts (G : List Int) : List Int := ((List.range (2 * G.length + 1)).map fun (i : Nat) => 1 + (i : Int)).filter fun x => G.all (fun y => decide (y < x)) && closedB G x
theorem mem_nexts {G : List Int} {x : Int} : x ∈ nexts G ↔ Next G x := by
  unfold nexts
  rw [List.mem_filter, Bool.and_eq_true, List.all_eq_true, closedB_iff, List.mem_map]
  constructor
  · rintro ⟨⟨i, hi, rfl⟩, h1, h2⟩
    exact ⟨by omega, fun y hy => of_decide_eq_true (h1 y hy), closed_half h2⟩
  · intro n
    have := next_le2 n
    have := n.pos
    exact ⟨⟨(x - 1).toNat, List.mem_range.mpr (by omega), by omega⟩, fun y hy => decide_eq_true (n.top y hy), fun a a1 a2 => n.cl a a1 (by omega)⟩
theorem nexts_up (G : List Int) : (nexts G).Pairwise (· < ·) := by
  unfold nexts
  refine List.Pairwise.filter _ ?_
  rw [List.pairwise_map]
  exact List.pairwise_lt_range.imp fun hab => by omega
theorem nexts_of {G cs : List Int} (up : cs.Pairwise (· < ·)) (mem : ∀ x, x ∈ cs ↔ Next G x) : cs = nexts G := rising_eq up (nexts_up G) fun x => (mem x).trans mem_nexts.symm
/-- all lists of so many gaps, in order -/
noncomputable def tree : Nat → List (List Int)
  | 0 => [[]]
  | n + 1 => (tree n).flatMap fun G => (nexts G).map fun x => G ++ [x]
theorem tree_ok : ∀ (n : Nat), n ≤ 20 → ∀ G ∈ tree n, Gaps G ∧ G.length = n
  | 0, _, G, hG => by
    rw [List.mem_singleton.mp hG]
    exact ⟨Gaps.nil, rfl⟩
  | n + 1, hn, G, hG => by
    obtain ⟨G', h1, h2⟩ := List.mem_flatMap.mp hG
    obtain ⟨x, hx, rfl⟩ := List.mem_map.mp h2
    obtain ⟨g, l⟩ := tree_ok n (by omega) G' h1
    have nx := mem_nexts.mp hx
    have := next_le2 nx
    exact ⟨nx.gaps g (by omega) (by omega), by rw [List.length_append, l]; rfl⟩
theorem gaps_le2 {G : List Int} (g : Gaps G) : ∀ x ∈ G, x ≤ 2 * (G.length : Int) - 1 := by
  intro x hx
  rcases List.eq_nil_or_concat G with e | ⟨G', c, e⟩
  · rw [e] at hx; cases hx
  · rw [List.concat_eq_append] at e
    subst e
    have n := g.last.2
    have := next_le2 n
    rw [List.length_append, List.length_singleton]
    rcases List.mem_append.mp hx with z | z
    · have := n.top x z
      push_cast
      omega
    · rw [List.mem_singleton.mp z]
      push_cast
      omega
theorem house_ex {G : List Int} (g : Gaps G) : ∃ h, HouseOf G h := by
  obtain ⟨k, h1, h2⟩ := first_ex (G := G) g.le (st := 1) (step := 1) (by omega) (by omega)
  refine ⟨_, hOf_house (m := k + 1) g.le (by omega) (by rw [show (((k + 1 : Nat)) : Int) = 1 + (k : Int) * 1 by push_cast; omega]; exact h1) fun a a1 a2 => ?_⟩
  have := h2 (a - 1).toNat (by omega)
  rw [show 1 + (((a - 1).toNat : Nat) : Int) * 1 = a by omega] at this
  exact this
theorem nexts_few {G : List Int} (g : Gaps G) : (nexts G).length ≤ G.length + 1 := by
  obtain ⟨h, hh⟩ := house_ex g
  exact Nat.le_trans (next_few g hh (nexts_up G) fun x hx => mem_nexts.mp hx) (hh.len_le g)
noncomputable def fct : Nat → Nat
  | 0 => 1
  | n + 1 => fct n * (n + 1)
theorem flat_len {α β : Type} {f : α → List β} {c : Nat} : ∀ {l : List α}, (∀ x ∈ l, (f x).length ≤ c) → (l.flatMap f).length ≤ l.length * c
  | [], _ => by simp
  | x :: l, h => by
    rw [List.flatMap_cons, List.length_append, List.length_cons, Nat.add_mul, Nat.one_mul]
    have h1 := h x List.mem_cons_self
    have h2 := flat_len (l := l) fun y hy => h y (List.mem_cons_of_mem _ hy)
    omega
theorem tree_few : ∀ (n : Nat), n ≤ 20 → (tree n).length ≤ fct n
  | 0, _ => Nat.le_refl _
  | n + 1, hn => by
    have h1 := flat_len (l := tree n) (f := fun G => (nexts G).map fun x => G ++ [x]) (c := n + 1) fun G hG => by
      obtain ⟨g, l⟩ := tree_ok n (by omega) G hG
      rw [List.length_map, ← l]
      exact nexts_few g
    have h2 := tree_few n (by omega)
    exact Nat.le_trans h1 (Nat.mul_le_mul_right _ h2)
theorem fct_up : ∀ {n m : Nat}, n ≤ m → fct n ≤ fct m
  | n, 0, h => by rw [Nat.le_zero.mp h]; exact Nat.le_refl _
  | n, m + 1, h => by
    by_cases z : n = m + 1
    · rw [z]; exact Nat.le_refl _
    · have := fct_up (n := n) (m := m) (by omega)
      show fct n ≤ fct m * (m + 1)
      exact Nat.le_trans this (Nat.le_mul_of_pos_right _ (by omega))
theorem tree_len {n : Nat} (hn : n ≤ 9) : (tree n).length ≤ 362880 := Nat.le_trans (tree_few n (by omega)) (fct_up (m := 9) hn)
theorem lexLt_snoc : ∀ {a b : List Int} {x y : Int}, a.length = b.length → HT.lexLt a b = true → HT.lexLt (a ++ [x]) (b ++ [y]) = true
  | [], [], _, _, _, h => by cases h
  | [], _ :: _, _, _, h, _ => by simp at h
  | _ :: _, [], _, _, h, _ => by simp at h
  | p :: a, q :: b, x, y, hl, h => by
    rw [HT.lexLt_cons] at h
    rw [List.cons_append, List.cons_append, HT.lexLt_cons]
    by_cases e : p = q
    · rw [if_pos e] at h ⊢
      exact lexLt_snoc (by simpa using hl) h
    · rw [if_neg e] at h ⊢
      exact h
theorem lexLt_same : ∀ {a : List Int} {x y : Int}, x < y → HT.lexLt (a ++ [x]) (a ++ [y]) = true
  | [], x, y, h => by
    show (if x = y then HT.lexLt [] [] else decide (x < y)) = true
    rw [if_neg (by omega)]
    exact decide_eq_true h
  | p :: a, x, y, h => by
    rw [List.cons_append, List.cons_append, HT.lexLt_cons, if_pos rfl]
    exact lexLt_same h
theorem lexLt_asym : ∀ {a b : List Int}, HT.lexLt a b = true → HT.lexLt b a = false
  | [], [], h => by cases h
  | [], _ :: _, _ => rfl
  | _ :: _, [], h => by cases h
  | p :: a, q :: b, h => by
    rw [HT.lexLt_cons] at h ⊢
    by_cases e : p = q
    · rw [if_pos e] at h
      rw [if_pos e.symm]
      exact lexLt_asym h
    · rw [if_neg e] at h
      rw [if_neg (Ne.symm e)]
      have := of_decide_eq_true h
      exact decide_eq_false (by omega)
theorem tree_up : ∀ (n : Nat), n ≤ 20 → (tree n).Pairwise fun a b => HT.lexLt a b = true
  | 0, _ => by simp [tree]
  | n + 1, hn => by
    have ih := tree_up n (by omega)
    show ((tree n).flatMap fun G => (nexts G).map fun x => G ++ [x]).Pairwise _
    rw [List.pairwise_flatMap]
    refine ⟨fun G hG => ?_, ih.imp_of_mem fun {a b} ha hb hab x hx y hy => ?_⟩
    · rw [List.pairwise_map]
      exact (nexts_up G).imp fun h => lexLt_same h
    · obtain ⟨u, _, rfl⟩ := List.mem_map.mp hx
      obtain ⟨v, _, rfl⟩ := List.mem_map.mp hy
      exact lexLt_snoc (by rw [(tree_ok n (by omega) a ha).2, (tree_ok n (by omega) b hb).2]) hab
theorem tree_at {n i : Nat} {a b : List Int} (hn : n ≤ 20) (ha : (tree n)[i]? = some a) (hb : (tree n)[i + 1]? = some b) : HT.lexLt a b = true := by
  obtain ⟨h1, e1⟩ := List.getElem?_eq_some_iff.mp ha
  obtain ⟨h2, e2⟩ := List.getElem?_eq_some_iff.mp hb
  have := List.pairwise_iff_getElem.mp (tree_up n hn) i (i + 1) h1 h2 (by omega)
  rw [e1, e2] at this
  exact this
/-- a list of houses with these gaps -/
structure TreeAt (H : Hp) (p : Addr) (ps : List Addr) (Gs : List (List Int)) : Prop where
  lst : H p = some (.lst (ps.map V.ref))
  len : ps.length = Gs.length
  kid : ∀ (i : Nat) (q : Addr) (G : List Int), ps[i]? = some q → Gs[i]? = some G → ∃ h : List Int, H q = some (.lst (h.map V.int)) ∧ HouseOf G h
theorem TreeAt.mono {H H' : Hp} {p : Addr} {ps : List Addr} {Gs : List (List Int)} (a : TreeAt H p ps Gs) (s : Same H H') : TreeAt H' p ps Gs :=
  ⟨s _ _ a.lst, a.len, fun i q G h1 h2 => by obtain ⟨g, e, o⟩ := a.kid i q G h1 h2; exact ⟨g, s _ _ e, o⟩⟩
theorem TreeAt.at {H : Hp} {p : Addr} {ps : List Addr} {Gs : List (List Int)} (a : TreeAt H p ps Gs) {q : Addr} (hq : q ∈ ps) : ∃ G ∈ Gs, ∃ h : List Int, H q = some (.lst (h.map V.int)) ∧ HouseOf G h := by
  obtain ⟨i, hi, e⟩ := List.mem_iff_getElem.mp hq
  have hi2 : i < Gs.length := by rw [← a.len]; exact hi
  exact ⟨Gs[i], List.getElem_mem hi2, a.kid i q _ (by rw [List.getElem?_eq_getElem hi, e]) (List.getElem?_eq_getElem hi2)⟩
theorem TreeAt.ne {H : Hp} {p : Addr} {ps : List Addr} {Gs : List (List Int)} (a : TreeAt H p ps Gs) {q : Addr} (hq : q ∈ ps) : q ≠ p := by
  intro z
  subst z
  obtain ⟨G, _, h, e, ho⟩ := a.at hq
  rw [a.lst] at e
  have e' := HO.lst.inj (Option.some.inj e)
  have := ho.pos
  cases ps with
  | nil => cases hq
  | cons x r =>
    cases h with
    | nil => simp at this
    | cons y s => simp at e'
/-- lists of numbers -/
structure RowsAt (H : Hp) (p : Addr) (qs : List Addr) (Gs : List (List Int)) : Prop where
  lst : H p = some (.lst (qs.map V.ref))
  len : qs.length = Gs.length
  row : ∀ (i : Nat) (q : Addr) (G : List Int), qs[i]? = some q → Gs[i]? = some G → H q = some (.lst (G.map V.int))
theorem RowsAt.mono {H H' : Hp} {p : Addr} {ps : List Addr} {Gs : List (List Int)} (a : RowsAt H p ps Gs) (s : Same H H') : RowsAt H' p ps Gs :=
  ⟨s _ _ a.lst, a.len, fun i q G h1 h2 => s _ _ (a.row i q G h1 h2)⟩
theorem RowsAt.push {H : Hp} {p q : Addr} {ps : List Addr} {Gs : List (List Int)} {G : List Int} (a : RowsAt H p ps Gs) (hq : H q = some (.lst (G.map V.int))) (nq : q ≠ p) (ne : ∀ x ∈ ps, x ≠ p) : RowsAt (upd H p (.lst (ps.map V.ref ++ [.ref q]))) p (ps ++ [q]) (Gs ++ [G]) := by
  refine ⟨by rw [upd_same, List.map_append]; rfl, by simp [a.len], fun i x g h1 h2 => ?_⟩
  by_cases z : i < ps.length
  · rw [List.getElem?_append_left z] at h1
    rw [List.getElem?_append_left (by rw [← a.len]; exact z)] at h2
    rw [upd_ne (ne x (List.mem_of_getElem? h1))]
    exact a.row i x g h1 h2
  · rw [List.getElem?_append_right (by omega)] at h1
    rw [List.getElem?_append_right (by rw [← a.len]; omega), ← a.len] at h2
    have i0 : i - ps.length = 0 := by
      have := (List.getElem?_eq_some_iff.mp h1).1
      simp at this
      omega
    rw [i0] at h1 h2
    have e1 : q = x := by simpa using h1
    have e2 : G = g := by simpa using h2
    subst e1 e2
    rw [upd_ne nq]
    exact hq
noncomputable def sAll63 (K : PySem.W.Frag) : Sp := fun vs H Q _ => match vs with
  | [.ref a] => ∃ ps n, n ≤ 8 ∧ TreeAt H a ps (tree n) ∧ ∀ (p : Addr) (qs : List Addr) (H' : Hp), Same H H' → H p = none → TreeAt H' p qs (tree (n + 1)) → Q (.ref p) H'
  | _ => False
noncomputable def sHW63 (K : PySem.W.Frag) (c1 c2 : Addr) : Sp := fun vs H Q E => match vs with
  | [x] => Kn H x ∧ (∀ n : Nat, x = .int (n : Int) → n ≤ 9 → ∀ (p : Addr) (ps : List Addr) (H' : Hp), Same H H' → TreeAt H' p ps (tree n) → Q (.ref p) H') ∧ ((¬ ∃ n : Int, x = .int n ∧ 0 ≤ n) → E (.ref c1) none H) ∧ (∀ n : Int, x = .int n → 9 < n → E (.ref c2) none H)
  | _ => False
noncomputable def sGaps63 (K : PySem.W.Frag) : Sp := fun vs H Q _ => match vs with
  | [.ref a] => ∃ G h, H a = some (.lst (h.map V.int)) ∧ HouseOf G h ∧ Gaps G ∧ G.length ≤ 9 ∧ ∀ (p : Addr) (H' : Hp), Same H H' → H p = none → H' p = some (.lst (G.map V.int)) → Q (.ref p) H'
  | _ => False
noncomputable def sClosed63 (K : PySem.W.Frag) : Sp := fun vs H Q _ => match vs with
  | [.ref a] => ∃ G, LI K H a G ∧ (∀ g ∈ G, 1 ≤ g ∧ g ≤ 2000) ∧ (ClosedG G → Q (.bl true) H) ∧ (¬ ClosedG G → Q (.bl false) H)
  | _ => False
noncomputable def sTold63 (K : PySem.W.Frag) : Sp := fun vs H Q _ => match vs with
  | [.ref f, .int m] => ∃ ps, ∃ n : Nat, m = n ∧ n ≤ 9 ∧ TreeAt H f ps (tree n) ∧ ∀ (p : Addr) (qs : List Addr) (H' : Hp), Same H H' → H p = none → RowsAt H' p qs (tree n) → Q (.ref p) H'
  | _ => False
noncomputable def sNext63 (K : PySem.W.Frag) : Sp := fun vs H Q _ => match vs with
  | [.ref t] => ∃ qs n, n ≤ 8 ∧ RowsAt H t qs (tree n) ∧ ∀ (p : Addr) (rs : List Addr) (H' : Hp), Same H H' → H p = none → RowsAt H' p rs (tree (n + 1)) → Q (.ref p) H'
  | _ => False
noncomputable def sRef63 (K : PySem.W.Frag) : Sp := fun vs H Q _ => match vs with
  | [x, .bl g] => Kn H x ∧ ((g = false ∧ ¬ ∃ n : Int, x = .int n ∧ 0 ≤ n) ∨ (g = true ∧ ∃ n : Int, x = .int n ∧ 9 < n)) ∧ ∀ H', Same H H' → Q (.bl true) H'
  | _ => False
noncomputable def sCell63 (K : PySem.W.Frag) : Sp := fun vs H Q _ => match vs with
  | [.ref a, .int k] => ∃ ns, LI K H a ns ∧ 0 ≤ k ∧ ∀ n : Int, Q (.int n) H
  | _ => False
/-- != of a list of objects and the empty one -/
theorem neNil {K : PySem.W.Frag} {H : Hp} {Q : VK} {a b : Addr} {ps : List Addr} (ha : SqL K H a (ps.map V.ref)) (hb : SqL K H b []) (q : Q (.bl (!decide (ps = []))) H) : rEqL K true (.ref a) (.ref b) H Q := by
  refine ⟨a, b, _, _, rfl, rfl, ha, hb, ?_⟩
  cases ps with
  | nil => exact .inl ⟨rfl, fun _ => true, fun j x y hx => by simp at hx, q⟩
  | cons p r => exact .inr ⟨by simp, q⟩
theorem eqv_eq {K : PySem.W.Frag} {H : Hp} {n : Nat} {a b : Addr} {ns : List Int} (ha : H a = some (.lst (ns.map V.int))) (hb : H b = some (.lst (ns.map V.int))) : EqV K H (n + 1) (.ref a) (.ref b) true := by
  by_cases z : a = b
  · subst z; exact .same _
  have e : (List.range (ns.map V.int).length).all (fun _ => true) = true := List.all_eq_true.mpr fun _ _ => rfl
  rw [← e]
  refine .lists (SqL.of ha) (SqL.of hb) z rfl fun j x y hx hy => ?_
  rw [hx] at hy
  cases hy
  obtain ⟨m, hm, rfl⟩ := int_at hx
  have : eqV (.int m) (.int m) = true := by simp [eqV]
  rw [← this]
  exact .flat rfl rfl
end PG

set_option Elab.async false
set_option linter.all false
set_option maxRecDepth 100000
set_option maxHeartbeats 4000000
namespace PG
open PySem L2 PyProof.Rows

noncomputable def top (i : Nat) : Stmt := PySem.Challenge.pw_paygaps_k63_houses_counted.main.body.getD i (.Pass ⟨0, 0, 0, 0⟩)
noncomputable abbrev s_PayError : Stmt := top 1
noncomputable abbrev s_NoCoins : Stmt := top 2
noncomputable abbrev s_NoPaying : Stmt := top 3
noncomputable abbrev s_NoSum : Stmt := top 4
noncomputable abbrev s_Shared : Stmt := top 5
noncomputable abbrev s_TooMany : Stmt := top 6
noncomputable abbrev s_NoOne : Stmt := top 7
noncomputable abbrev s_NoGaps : Stmt := top 8
noncomputable abbrev s_Unclosed : Stmt := top 9
noncomputable abbrev s_NoChange : Stmt := top 10
noncomputable abbrev s_TooLittle : Stmt := top 11
noncomputable abbrev s_is_number : Stmt := top 13
noncomputable abbrev s_check_sum_from : Stmt := top 14
noncomputable abbrev s_greatest_gap : Stmt := top 17
noncomputable abbrev s_needed_coins : Stmt := top 19
noncomputable abbrev s_is_parted : Stmt := top 20
noncomputable abbrev s_children_of : Stmt := top 23
noncomputable abbrev s_without_coin : Stmt := top 24
noncomputable abbrev s_house_above : Stmt := top 25
noncomputable abbrev s_houses_with : Stmt := top 26
noncomputable abbrev s_children_of_all : Stmt := top 27
noncomputable abbrev s__law_whole : Stmt := top 29
noncomputable abbrev s__law_cell : Stmt := top 30
noncomputable abbrev s__law_gaps : Stmt := top 31
noncomputable abbrev s__law_closed : Stmt := top 32
noncomputable abbrev s__law_all : Stmt := top 33
noncomputable abbrev s__law_next : Stmt := top 34
noncomputable abbrev s__law_refused : Stmt := top 35
noncomputable abbrev s_law : Stmt := top 36
noncomputable abbrev s_Unclosed___init__ : Stmt := inClass (top 9) 0
structure Errs (K : PySem.W.Frag) (mg : Str → Option Value) where
  a_PayError : Addr
  m_PayError : mg "PayError" = some (.ref a_PayError)
  a_NoCoins : Addr
  m_NoCoins : mg "NoCoins" = some (.ref a_NoCoins)
  a_NoPaying : Addr
  m_NoPaying : mg "NoPaying" = some (.ref a_NoPaying)
  a_NoSum : Addr
  m_NoSum : mg "NoSum" = some (.ref a_NoSum)
  a_Shared : Addr
  m_Shared : mg "Shared" = some (.ref a_Shared)
  a_TooMany : Addr
  m_TooMany : mg "TooMany" = some (.ref a_TooMany)
  a_NoOne : Addr
  m_NoOne : mg "NoOne" = some (.ref a_NoOne)
  a_NoGaps : Addr
  m_NoGaps : mg "NoGaps" = some (.ref a_NoGaps)
  a_Unclosed : Addr
  m_Unclosed : mg "Unclosed" = some (.ref a_Unclosed)
  a_NoChange : Addr
  m_NoChange : mg "NoChange" = some (.ref a_NoChange)
  a_TooLittle : Addr
  m_TooLittle : mg "TooLittle" = some (.ref a_TooLittle)
  x_NoSum : ExcC K a_NoSum
  c_NoSum : PySem.W.ErrC K a_NoSum
  t_NoSum : PySem.W.exmOne K (.ref a_NoSum) (.ref a_PayError) = some true
  v_NoSum : PySem.W.kitOne K (.ref a_NoSum) (.type "ValueError") = some true
  k_NoSum_PayError : PySem.W.kitOne K (.ref a_NoSum) (.ref a_PayError) = some true
  k_NoSum_NoCoins : PySem.W.kitOne K (.ref a_NoSum) (.ref a_NoCoins) = some false
  k_NoSum_NoPaying : PySem.W.kitOne K (.ref a_NoSum) (.ref a_NoPaying) = some false
  k_NoSum_NoSum : PySem.W.kitOne K (.ref a_NoSum) (.ref a_NoSum) = some true
  k_NoSum_Shared : PySem.W.kitOne K (.ref a_NoSum) (.ref a_Shared) = some false
  k_NoSum_TooMany : PySem.W.kitOne K (.ref a_NoSum) (.ref a_TooMany) = some false
  k_NoSum_NoOne : PySem.W.kitOne K (.ref a_NoSum) (.ref a_NoOne) = some false
  k_NoSum_NoGaps : PySem.W.kitOne K (.ref a_NoSum) (.ref a_NoGaps) = some false
  k_NoSum_Unclosed : PySem.W.kitOne K (.ref a_NoSum) (.ref a_Unclosed) = some false
  k_NoSum_NoChange : PySem.W.kitOne K (.ref a_NoSum) (.ref a_NoChange) = some false
  k_NoSum_TooLittle : PySem.W.kitOne K (.ref a_NoSum) (.ref a_TooLittle) = some false
  x_TooMany : ExcC K a_TooMany
  c_TooMany : PySem.W.ErrC K a_TooMany
  t_TooMany : PySem.W.exmOne K (.ref a_TooMany) (.ref a_PayError) = some true
  v_TooMany : PySem.W.kitOne K (.ref a_TooMany) (.type "ValueError") = some true
  k_TooMany_PayError : PySem.W.kitOne K (.ref a_TooMany) (.ref a_PayError) = some true
  k_TooMany_NoCoins : PySem.W.kitOne K (.ref a_TooMany) (.ref a_NoCoins) = some false
  k_TooMany_NoPaying : PySem.W.kitOne K (.ref a_TooMany) (.ref a_NoPaying) = some false
  k_TooMany_NoSum : PySem.W.kitOne K (.ref a_TooMany) (.ref a_NoSum) = some false
  k_TooMany_Shared : PySem.W.kitOne K (.ref a_TooMany) (.ref a_Shared) = some false
  k_TooMany_TooMany : PySem.W.kitOne K (.ref a_TooMany) (.ref a_TooMany) = some true
  k_TooMany_NoOne : PySem.W.kitOne K (.ref a_TooMany) (.ref a_NoOne) = some false
  k_TooMany_NoGaps : PySem.W.kitOne K (.ref a_TooMany) (.ref a_NoGaps) = some false
  k_TooMany_Unclosed : PySem.W.kitOne K (.ref a_TooMany) (.ref a_Unclosed) = some false
  k_TooMany_NoChange : PySem.W.kitOne K (.ref a_TooMany) (.ref a_NoChange) = some false
  k_TooMany_TooLittle : PySem.W.kitOne K (.ref a_TooMany) (.ref a_TooLittle) = some false
  xc_Unclosed : PySem.W.XC K a_Unclosed a_PayError
  hd_Unclosed : PySem.W.hasDictIn K a_Unclosed = true
  nf_Unclosed_one : PySem.W.findIn K (.ref a_Unclosed) "one" = some none
  tk_Unclosed_one : PySem.W.takerIn K a_Unclosed "one" = some none
  nf_Unclosed_other : PySem.W.findIn K (.ref a_Unclosed) "other" = some none
  tk_Unclosed_other : PySem.W.takerIn K a_Unclosed "other" = some none
  c_Unclosed : PySem.W.ErrC K a_Unclosed
  t_Unclosed : PySem.W.exmOne K (.ref a_Unclosed) (.ref a_PayError) = some true
  v_Unclosed : PySem.W.kitOne K (.ref a_Unclosed) (.type "ValueError") = some true
  k_Unclosed_PayError : PySem.W.kitOne K (.ref a_Unclosed) (.ref a_PayError) = some true
  k_Unclosed_NoCoins : PySem.W.kitOne K (.ref a_Unclosed) (.ref a_NoCoins) = some false
  k_Unclosed_NoPaying : PySem.W.kitOne K (.ref a_Unclosed) (.ref a_NoPaying) = some false
  k_Unclosed_NoSum : PySem.W.kitOne K (.ref a_Unclosed) (.ref a_NoSum) = some false
  k_Unclosed_Shared : PySem.W.kitOne K (.ref a_Unclosed) (.ref a_Shared) = some false
  k_Unclosed_TooMany : PySem.W.kitOne K (.ref a_Unclosed) (.ref a_TooMany) = some false
  k_Unclosed_NoOne : PySem.W.kitOne K (.ref a_Unclosed) (.ref a_NoOne) = some false
  k_Unclosed_NoGaps : PySem.W.kitOne K (.ref a_Unclosed) (.ref a_NoGaps) = some false
  k_Unclosed_Unclosed : PySem.W.kitOne K (.ref a_Unclosed) (.ref a_Unclosed) = some true
  k_Unclosed_NoChange : PySem.W.kitOne K (.ref a_Unclosed) (.ref a_NoChange) = some false
  k_Unclosed_TooLittle : PySem.W.kitOne K (.ref a_Unclosed) (.ref a_TooLittle) = some false
end PG

set_option Elab.async false
set_option linter.all false
set_option maxRecDepth 100000
set_option maxHeartbeats 4000000
namespace PG
open PySem L2 PyProof.Rows

section
variable {P : Program} {w : World} {K : PySem.W.Frag} {mg : Str → Option Value} {base : Heap}

theorem sc_is_number : FnScope ["thing"] ["thing"] (defScope s_is_number) := ⟨rfl, rfl, rfl, by decide +kernel, rfl, by decide +kernel, by decide +kernel⟩
theorem ok_is_number {f : Addr} {fd : FuncData} (F : Fun K "is_number" "is_number" s_is_number f fd) (B : Blt mg) (ER : Errs K mg) : FnOk P w K mg base (CX1 P w) 1 f fd ["thing"] sNum := by
  refine F.okN sc_is_number (fun vs H Q E h => ?_) (fun cdv A outer s H vs Q E hr h => ?_)
  · unfold sNum at h; split at h
    · rfl
    · exact h.elim
  · unfold sNum at h; split at h
    rotate_left
    · exact h.elim
    rename_i x
    refine ⟨_, (q_sone (q_ret (q_and (q_callB (uc_isi (K := K)) (by rfl) B.isi boot_isinstance (q_cons (q_v 0) (q_cons (q_bltn (v := .ty "int") (by rfl) B.int boot_int rfl) q_nil))) (q_one (q_not (q_callB (uc_isi (K := K)) (by rfl) B.isi boot_isinstance (q_cons (q_v 0) (q_cons (q_bltn (v := .ty "bool") (by rfl) B.bool boot_bool rfl) q_nil)))))))), ?_⟩
    obtain ⟨kn, q⟩ := h
    cases x with
    | non => exact ⟨_, false, TyOf.non, by kernel_rfl, iteF q⟩
    | bl b => exact ⟨_, true, TyOf.bl b, by kernel_rfl, iteT ⟨_, true, TyOf.bl b, by kernel_rfl, q⟩⟩
    | int i => exact ⟨_, true, TyOf.int i, by kernel_rfl, iteT ⟨_, false, TyOf.int i, by kernel_rfl, q⟩⟩
    | str x => exact ⟨_, false, TyOf.str x, by kernel_rfl, iteF q⟩
    | ref a =>
      rcases kn with ⟨xs, e⟩ | ⟨xs, e⟩ | ⟨kvs, e⟩
      · exact ⟨_, false, TyOf.lst e, by kernel_rfl, iteF q⟩
      · exact ⟨_, false, TyOf.tup e, by kernel_rfl, iteF q⟩
      · exact ⟨_, false, TyOf.dK e, by kernel_rfl, iteF q⟩
    | _ => exact kn.elim

theorem sc__law_whole : FnScope ["_law_found"] ["_law_found"] (defScope s__law_whole) := ⟨rfl, rfl, rfl, by decide +kernel, rfl, by decide +kernel, by decide +kernel⟩
theorem ok__law_whole {f : Addr} {fd : FuncData} (F : Fun K "_law_whole" "_law_whole" s__law_whole f fd) (B : Blt mg) (ER : Errs K mg) : FnOk P w K mg base (CX1 P w) 1 f fd ["_law_found"] sNum := by
  refine F.okN sc__law_whole (fun vs H Q E h => ?_) (fun cdv A outer s H vs Q E hr h => ?_)
  · unfold sNum at h; split at h
    · rfl
    · exact h.elim
  · unfold sNum at h; split at h
    rotate_left
    · exact h.elim
    rename_i x
    refine ⟨_, (q_sone (q_ret (q_and (q_callB (uc_isi (K := K)) (by rfl) B.isi boot_isinstance (q_cons (q_v 0) (q_cons (q_bltn (v := .ty "int") (by rfl) B.int boot_int rfl) q_nil))) (q_one (q_not (q_callB (uc_isi (K := K)) (by rfl) B.isi boot_isinstance (q_cons (q_v 0) (q_cons (q_bltn (v := .ty "bool") (by rfl) B.bool boot_bool rfl) q_nil)))))))), ?_⟩
    obtain ⟨kn, q⟩ := h
    cases x with
    | non => exact ⟨_, false, TyOf.non, by kernel_rfl, iteF q⟩
    | bl b => exact ⟨_, true, TyOf.bl b, by kernel_rfl, iteT ⟨_, true, TyOf.bl b, by kernel_rfl, q⟩⟩
    | int i => exact ⟨_, true, TyOf.int i, by kernel_rfl, iteT ⟨_, false, TyOf.int i, by kernel_rfl, q⟩⟩
    | str x => exact ⟨_, false, TyOf.str x, by kernel_rfl, iteF q⟩
    | ref a =>
      rcases kn with ⟨xs, e⟩ | ⟨xs, e⟩ | ⟨kvs, e⟩
      · exact ⟨_, false, TyOf.lst e, by kernel_rfl, iteF q⟩
      · exact ⟨_, false, TyOf.tup e, by kernel_rfl, iteF q⟩
      · exact ⟨_, false, TyOf.dK e, by kernel_rfl, iteF q⟩
    | _ => exact kn.elim

theorem sc_check_sum_from : FnScope ["least", "amount"] ["least", "amount"] (defScope s_check_sum_from) := ⟨rfl, rfl, rfl, by decide +kernel, rfl, by decide +kernel, by decide +kernel⟩
theorem ok_check_sum_from {f : Addr} {fd : FuncData} (F : Fun K "check_sum_from" "check_sum_from" s_check_sum_from f fd) (ER : Errs K mg) (g_is_number : G P w K mg base (CX1 P w) "is_number" ["thing"] 1 sNum) : FnOk P w K mg base (CX1 P w) 2 f fd ["least", "amount"] (sFromX ER.a_NoSum) := by
  refine F.okX sc_check_sum_from (fun vs H Q E h => ?_) (fun cdv A outer s H vs Q E hr h => ?_)
  · unfold sFromX at h; split at h
    · rfl
    · exact h.elim
  · unfold sFromX at h; split at h
    rotate_left
    · exact h.elim
    rename_i l x
    refine ⟨_, (q_sone (q_sif (q_tw (q_tor (q_tnot (q_tval (K := K) (q_g g_is_number (hr.mono (by decide)) pass1 (q_cons (q_v 1) q_nil)))) (q_tor1 (q_tcmp uo_lt (q_v 1) (q_v 0) (nomark _))))) (q_sone (q_raise raises1 rfl ER.m_NoSum ER.x_NoSum (q_cons (q_fs (q_v 0)) q_nil))) q_snil)), ?_⟩
    obtain ⟨hl, kn, q, hE⟩ := h
    refine ⟨kn, ?_⟩
    cases x with
    | int n =>
      refine ifB (fun g => ?_) fun g => ?_
      · have g' : n < l := of_decide_eq_true g
        exact ⟨hl, fun z => ⟨by show 1 ≤ sizeLine; decide, hE fun ⟨m, e, hm⟩ => by cases e; omega⟩⟩
      · have g' : ¬ n < l := of_decide_eq_false g
        exact q n rfl (by omega)
    | _ => exact ⟨hl, fun z => ⟨by show 1 ≤ sizeLine; decide, hE fun ⟨m, e, hm⟩ => by cases e⟩⟩

theorem sc_greatest_gap : FnScope ["house"] ["house"] (defScope s_greatest_gap) := ⟨rfl, rfl, rfl, by decide +kernel, rfl, by decide +kernel, by decide +kernel⟩
theorem ok_greatest_gap {f : Addr} {fd : FuncData} (F : Fun K "greatest_gap" "greatest_gap" s_greatest_gap f fd) (B : Blt mg) (ER : Errs K mg) : FnOk P w K mg base (CX1 P w) 1 f fd ["house"] (sGreat K) := by
  refine F.okN sc_greatest_gap (fun vs H Q E h => ?_) (fun cdv A outer s H vs Q E hr h => ?_)
  · unfold sGreat at h; split at h
    · rfl
    · exact h.elim
  · unfold sGreat at h; split at h
    rotate_left
    · exact h.elim
    rename_i a
    refine ⟨_, (q_sone (q_ret (q_op uo_sub (q_callB (uc_max (K := K) rfl) (by rfl) B.max boot_max (q_cons (q_v 0) q_nil)) (q_callB (uc_len (K := K)) (by rfl) B.len PySem.boot_len (q_cons (q_v 0) q_nil))))), ?_⟩
    obtain ⟨h, hS, h0, q⟩ := h
    refine ⟨h, hS, h0, fun M hM hMax => ⟨_, .inl hS, ?_⟩⟩
    rw [List.length_map]
    exact q M hM hMax

theorem sc_is_parted : FnScope ["house", "least", "size", "part", "left"] ["house", "least"] (defScope s_is_parted) := ⟨rfl, rfl, rfl, by decide +kernel, rfl, by decide +kernel, by decide +kernel⟩
theorem ok_is_parted {f : Addr} {fd : FuncData} (F : Fun K "is_parted" "is_parted" s_is_parted f fd) (B : Blt mg) (ER : Errs K mg) : FnOk P w K mg base (CX1 P w) 1 f fd ["house", "least"] (sParted K) := by
  refine F.okN sc_is_parted (fun vs H Q E h => ?_) (fun cdv A outer s H vs Q E hr h => ?_)
  · unfold sParted at h; split at h
    · rfl
    · exact h.elim
  · unfold sParted at h; split at h
    rotate_left
    · exact h.elim
    rename_i a x
    refine ⟨_, (q_scons (q_set (i := 2) sc_is_parted.nd rfl (Or.inl rfl) (q_callB (uc_len (K := K)) (by rfl) B.len PySem.boot_len (q_cons (q_v 0) q_nil))) (q_scons (q_for PassesOwn.never rfl (q_seq (K := K) (q_slice (usl (K := K)) (q_v 0) (q_some q_int) q_none)) (q_name (i := 3) sc_is_parted.nd rfl (Or.inl rfl)) (q_scons (q_set (i := 4) sc_is_parted.nd rfl (Or.inl rfl) (q_op uo_sub (q_v 1) (q_v 3))) (q_sone (q_sif (q_tw (q_tand (q_tcmp uo_gt (q_v 4) q_int (nomark _)) (q_tand1 (q_tcmp uo_ge (q_v 4) (q_ix (ux (K := K)) (q_v 0) (q_op uo_mod (q_v 4) (q_v 2)) (fun _ _ => rfl)) (nomark _))))) (q_sone (q_ret q_bl)) q_snil)))) (q_sone (q_ret q_bl)))), ?_⟩
    obtain ⟨h, hS, hh, q⟩ := h
    have hpos := hh.pos
    refine ⟨_, .inl hS, _, hS, fun u hu => ?_⟩
    rw [List.length_map]
    have eu : cutV (h.map V.int) (some 1) none = (h.drop 1).map V.int := by
      rw [show (some (1 : Int)) = some ((1 : Nat) : Int) from rfl, cutV_drop, List.map_drop]
    rw [eu]
    have s1 : Same H (upd H u (.lst ((h.drop 1).map V.int))) := Same.new hu
    refine .inl ⟨_, SqL.of upd_same, for_list (K := K) (a := u) (xs := (h.drop 1).map V.int) (fun i σ H' => ∃ v w : Option V, σ = [some (.ref a), some (.int x), some (.int h.length), v, w] ∧ upd H u (.lst ((h.drop 1).map V.int)) = H' ∧ ((h.drop 1).take i).any (fun part => decide (0 < x - part) && canB h (x - part)) = false) ⟨none, none, rfl, rfl, by simp⟩ (fun i σ H' _ ⟨_, _, _, z, _⟩ => by rw [← z]; exact SqL.of upd_same) ?_ ?_⟩
    · rintro i y σ H' hy ⟨v, w', rfl, rfl, hno⟩
      obtain ⟨p, hp, rfl⟩ := int_at hy
      have et : (h.drop 1).take (i + 1) = (h.drop 1).take i ++ [p] := by rw [List.take_add_one, hp]; rfl
      have m1 := Int.emod_lt_of_pos (x - p) (show (0 : Int) < h.length by omega)
      have m0 := Int.emod_nonneg (x - p) (show (h.length : Int) ≠ 0 by omega)
      refine ifB (fun g => ?_) fun g => ?_
      · have g' : 0 < x - p := of_decide_eq_true g
        refine ⟨by omega, _, _, .inl (s1.seq hS), atInt m0 m1, ifB (fun g2 => ?_) fun g2 => ?_⟩
        · have e : partedB h x = true := by
            unfold partedB
            rw [List.any_eq_true]
            exact ⟨p, List.mem_of_getElem? hp, by rw [Bool.and_eq_true]; exact ⟨decide_eq_true g', g2⟩⟩
          have := q _ s1
          rw [e] at this
          exact this
        · refine ⟨_, _, rfl, rfl, ?_⟩
          rw [et, List.any_append, hno, Bool.false_or]
          have g2' : canB h (x - p) = false := g2
          simp
          exact fun _ => g2'
      · have g' : ¬ 0 < x - p := of_decide_eq_false g
        refine ⟨_, _, rfl, rfl, ?_⟩
        rw [et, List.any_append, hno, Bool.false_or]
        simp
        intro z
        exfalso
        omega
    · rintro σ H' ⟨v, w', rfl, rfl, hno⟩
      rw [List.length_map, List.take_length] at hno
      have := q _ s1
      unfold partedB at this
      rw [hno] at this
      exact this

theorem sc_needed_coins : FnScope ["house", "unparted"] ["house"] (defScope s_needed_coins) := ⟨rfl, rfl, rfl, by decide +kernel, rfl, by decide +kernel, by decide +kernel⟩
theorem ok_needed_coins {f : Addr} {fd : FuncData} (F : Fun K "needed_coins" "needed_coins" s_needed_coins f fd) (B : Blt mg) (ER : Errs K mg) (g_is_parted : G P w K mg base (CX1 P w) "is_parted" ["house", "least"] 1 (sParted K)) : FnOk P w K mg base (CX1 P w) 2 f fd ["house"] (sNeeded K) := by
  refine F.okN sc_needed_coins (fun vs H Q E h => ?_) (fun cdv A outer s H vs Q E hr h => ?_)
  · unfold sNeeded at h; split at h
    · rfl
    · exact h.elim
  · unfold sNeeded at h; split at h
    rotate_left
    · exact h.elim
    rename_i a
    refine ⟨_, (q_scons (q_setC (i := 1) [none, some 0] ["least", "house"] sc_needed_coins.nd rfl rfl rfl (by kernel_rfl) (q_seq (K := K) (q_slice (usl (K := K)) (q_v 0) (q_some q_int) q_none)) (fun _ _ _ _ _ => (q_name (i := 0) (show List.Nodup (["least", "house"] : List Str) from by decide +kernel) rfl (Or.inl rfl))) (fun _ _ _ _ _ => q_fone (q_tnot (q_tval (K := K) (q_g g_is_parted (hr.mono (by decide)) pass1E (q_cons (q_v 1) (q_cons (q_v 0) q_nil)))))) (fun _ _ _ _ _ => (q_v 0))) (q_sone (q_ret (q_callB (uc_sorted (K := K) rfl) (by rfl) B.sorted boot_sorted (q_cons (q_op uo_add (q_lst (q_cons (q_callB (uc_len (K := K)) (by rfl) B.len PySem.boot_len (q_cons (q_v 0) q_nil)) q_nil)) (q_v 1)) q_nil))))), ?_⟩
    obtain ⟨h, hS, hh, hl, q⟩ := h
    have hpos := hh.pos
    refine ⟨_, hS, fun u hu => ?_⟩
    have eu : cutV (h.map V.int) (some 1) none = (h.drop 1).map V.int := by
      rw [show (some (1 : Int)) = some ((1 : Nat) : Int) from rfl, cutV_drop, List.map_drop]
    rw [eu]
    have s1 : Same H (upd H u (.lst ((h.drop 1).map V.int))) := Same.new hu
    refine .inl ⟨_, SqL.of upd_same, comp_by (fun i => V.int ((h.drop 1).getD i 0)) (fun i => !partedB h ((h.drop 1).getD i 0)) (jp_list (SqL.of upd_same)) (by rw [List.length_map, List.length_drop]; exact small1000 (by omega)) (keepName rfl) (fun i x H' R Z hi sm hx hR hZ => ?_) (fun D H2 hD s2 hL => ?_)⟩
    · obtain ⟨c, hcx, rfl⟩ := int_at hx
      rw [getD_at hcx] at hR hZ
      refine ⟨h, (s1.trans sm).seq hS, hh, fun H3 s3 => ifB (fun g => ?_) fun g => ?_⟩
      · exact hR g H3 s3
      · exact hZ g H3 s3
    rw [List.length_map, range_filter_map (h.drop 1) 0 (fun c => !partedB h c) V.int] at hL
    have t2 := s1.trans s2
    refine ⟨_, .inl (t2.seq hS), by show 1 ≤ sizeLine; decide, fun r hr0 => ?_⟩
    rw [List.length_map]
    have nDr : D ≠ r := by intro z; subst z; rw [hL] at hr0; cases hr0
    have fl : ((h.drop 1).filter fun c => !partedB h c).length ≤ h.length := Nat.le_trans (List.length_filter_le _ _) (by simp)
    refine ⟨_, _, upd_same, by rw [upd_ne nDr]; exact hL, by rw [List.length_map, sizeLine_eq]; show 1 + _ ≤ _; omega, fun e he => ?_⟩
    have s3 := (t2.trans (Same.new (o := .lst [.int (h.length : Int)]) hr0)).trans (Same.new (o := .lst ([V.int (h.length : Int)] ++ ((h.drop 1).filter fun c => !partedB h c).map V.int)) he)
    have nl : (need h).length < 64 := by
      unfold need
      rw [List.length_cons]
      have : ((h.drop 1).filter fun c => !partedB h c).length ≤ (h.drop 1).length := List.length_filter_le _ _
      rw [List.length_drop] at this
      omega
    refine ⟨need h, SqL.of upd_same, nl, fun l ms hl0 pm srt => ?_⟩
    exact q l ms _ (s3.trans (Same.new hl0)) (s3.free hl0) upd_same pm srt

theorem sc_house_above : FnScope ["gap", "size"] ["gap"] (defScope s_house_above) := ⟨rfl, rfl, rfl, by decide +kernel, rfl, by decide +kernel, by decide +kernel⟩
theorem ok_house_above {f : Addr} {fd : FuncData} {tk_LONGEST_HOUSE : Tok} (F : Fun K "house_above" "house_above" s_house_above f fd) (B : Blt mg) (ER : Errs K mg) (mc_LONGEST_HOUSE : mg "LONGEST_HOUSE" = some (.int 1000 tk_LONGEST_HOUSE)) : FnOk P w K mg base (CX1 P w) 1 f fd ["gap"] sAboveH := by
  refine F.okN sc_house_above (fun vs H Q E h => ?_) (fun cdv A outer s H vs Q E hr h => ?_)
  · unfold sAboveH at h; split at h
    · rfl
    · exact h.elim
  · unfold sAboveH at h; split at h
    rotate_left
    · exact h.elim
    rename_i m
    refine ⟨_, (q_scons (q_set (i := 1) sc_house_above.nd rfl (Or.inl rfl) (q_op uo_add (q_v 0) q_int)) (q_scons (q_sif (q_tcmp uo_gt (q_v 1) (q_glob (v := .int 1000) (by rfl) mc_LONGEST_HOUSE ⟨_, rfl⟩) (nomark _)) (q_sone q_never) q_snil) (q_sone (q_ret (q_op uo_add (q_lst (q_cons q_int q_nil)) (q_callTy (uc_listRng rfl) (by rfl) B.list boot_list (q_cons (q_callTy uc_rangeV (by rfl) B.range boot_range (q_cons (q_op uo_add (q_v 1) q_int) (q_cons (q_op uo_mul q_int (q_v 1)) q_nil))) q_nil))))))), ?_⟩
    obtain ⟨⟨m1, m2⟩, q⟩ := h
    refine ifB (fun z => by have := of_decide_eq_true z; omega) fun _ => ⟨by show 1 ≤ sizeLine; decide, fun r hr => ⟨.inl ⟨by decide, by decide⟩, fun rg hrg => ⟨_, _, upd_same, ⟨by omega, by omega, by omega⟩, fun l hl0 => ?_⟩⟩⟩
    have s3 : Same H (upd (upd (upd H r (.lst [.int 0])) rg (.rng (m + 1 + 1) (2 * (m + 1)))) l (.lst ((List.range (2 * (m + 1) - (m + 1 + 1)).toNat).map fun (k : Nat) => V.int (m + 1 + 1 + (k : Int))))) := ((Same.new hr).trans (Same.new hrg)).trans (Same.new hl0)
    refine ⟨_, _, ((Same.new hrg).trans (Same.new hl0)) _ _ upd_same, upd_same, by rw [List.length_map, List.length_range, sizeLine_eq]; show 1 + _ ≤ _; omega, fun p hp => ?_⟩
    refine q p _ (s3.trans (Same.new hp)) (s3.free hp) ?_
    rw [upd_same]
    have e : [V.int 0] ++ ((List.range (2 * (m + 1) - (m + 1 + 1)).toNat).map fun (k : Nat) => V.int (m + 1 + 1 + (k : Int))) = (fullL (m.toNat + 1)).map V.int := by
      unfold fullL
      rw [List.map_cons, List.map_map, show (2 * (m + 1) - (m + 1 + 1)).toNat = m.toNat + 1 - 1 by omega]
      show V.int 0 :: _ = V.int 0 :: _
      congr 1
      apply List.map_congr_left
      intro i _
      show V.int (m + 1 + 1 + (i : Int)) = V.int (((m.toNat + 1 : Nat) : Int) + (1 + (i : Int)))
      congr 1
      omega
    rw [e]

theorem sc_without_coin : FnScope ["house", "coin", "size"] ["house", "coin"] (defScope s_without_coin) := ⟨rfl, rfl, rfl, by decide +kernel, rfl, by decide +kernel, by decide +kernel⟩
theorem ok_without_coin {f : Addr} {fd : FuncData} (F : Fun K "without_coin" "without_coin" s_without_coin f fd) (B : Blt mg) (ER : Errs K mg) (g_house_above : G P w K mg base (CX1 P w) "house_above" ["gap"] 1 sAboveH) : FnOk P w K mg base (CX1 P w) 2 f fd ["house", "coin"] (sWithoutC K) := by
  refine F.okN sc_without_coin (fun vs H Q E h => ?_) (fun cdv A outer s H vs Q E hr h => ?_)
  · unfold sWithoutC at h; split at h
    · rfl
    · exact h.elim
  · unfold sWithoutC at h; split at h
    rotate_left
    · exact h.elim
    rename_i a c
    refine ⟨_, (q_scons (q_set (i := 2) sc_without_coin.nd rfl (Or.inr rfl) (q_callB (uc_len (K := K)) (by rfl) B.len PySem.boot_len (q_cons (q_v 0) q_nil))) (q_scons (q_sif (q_tcmp (uo_eq (K := K) hr.u8) (q_v 1) (q_v 2) (nomark _)) (q_sone (q_ret (q_g g_house_above (hr.mono (by decide)) pass1E (q_cons (q_v 2) q_nil)))) q_snil) (q_sone (q_ret (q_comp [none, some 1, some 2] ["least", "coin", "size"] rfl (by kernel_rfl) (q_seq (K := K) (q_v 0)) (fun _ _ _ _ _ => (q_name (i := 0) (show List.Nodup (["least", "coin", "size"] : List Str) from by decide +kernel) rfl (Or.inl rfl))) (fun _ _ _ _ _ => q_fnil) (fun _ _ _ _ _ => (q_if (q_tcmp (uo_eq (K := K) hr.u8) (q_v 0) (q_v 1) (nomark _)) (q_op uo_add (q_v 0) (q_v 2)) (q_v 0)))))))), ?_⟩
    obtain ⟨G, h, hS, hh, g, n, hl, q⟩ := h
    have hp := hh.pos
    refine ⟨_, .inl hS, ?_⟩
    rw [List.length_map]
    refine ifB (fun z => ?_) fun z => ?_
    · have z' : c = (h.length : Int) := of_decide_eq_true z
      subst z'
      refine ⟨⟨by omega, by omega⟩, fun p H' s' hpn hL => q p _ H' s' hpn hL ?_⟩
      rw [Int.toNat_natCast]
      exact above_house g hh n
    · have z' : c ≠ (h.length : Int) := of_decide_eq_false z
      refine .inl ⟨_, hS, comp_by (fun i => V.int (if h.getD i 0 = c then h.getD i 0 + (h.length : Int) else h.getD i 0)) (fun _ => true) (jp_list hS) (by rw [List.length_map]; exact small1000 (by omega)) (keepName rfl) (fun i x H' R Z hi sm hx hR hZ => ?_) (fun D H1 hD s1 hL => ?_)⟩
      · obtain ⟨y, hy, rfl⟩ := int_at hx
        have := hR rfl H' (Same.refl _)
        rw [getD_at hy] at this
        refine tT (ifB (fun w => ?_) fun w => ?_)
        · have w' : y = c := of_decide_eq_true w
          rw [if_pos w'] at this
          exact this
        · have w' : ¬ y = c := of_decide_eq_false w
          rw [if_neg w'] at this
          exact this
      rw [mapAt (fun x => if x = c then x + (h.length : Int) else x)] at hL
      exact q D (lessH h c) H1 s1 hD hL (less_house g hh n z')

theorem sc_children_of : FnScope ["house", "greatest"] ["house"] (defScope s_children_of) := ⟨rfl, rfl, rfl, by decide +kernel, rfl, by decide +kernel, by decide +kernel⟩
theorem ok_children_of {f : Addr} {fd : FuncData} (F : Fun K "children_of" "children_of" s_children_of f fd) (ER : Errs K mg) (g_greatest_gap : G P w K mg base (CX1 P w) "greatest_gap" ["house"] 1 (sGreat K)) (g_needed_coins : G P w K mg base (CX1 P w) "needed_coins" ["house"] 2 (sNeeded K)) (g_without_coin : G P w K mg base (CX1 P w) "without_coin" ["house", "coin"] 2 (sWithoutC K)) : FnOk P w K mg base (CX1 P w) 3 f fd ["house"] (sChild K) := by
  refine F.okN sc_children_of (fun vs H Q E h => ?_) (fun cdv A outer s H vs Q E hr h => ?_)
  · unfold sChild at h; split at h
    · rfl
    · exact h.elim
  · unfold sChild at h; split at h
    rotate_left
    · exact h.elim
    rename_i a
    refine ⟨_, (q_scons (q_set (i := 1) sc_children_of.nd rfl (Or.inr rfl) (q_g g_greatest_gap (hr.mono (by decide)) pass1E (q_cons (q_v 0) q_nil))) (q_sone (q_ret (q_comp [none, some 0, some 1] ["coin", "house", "greatest"] rfl (by kernel_rfl) (q_seq (K := K) (q_g g_needed_coins (hr.mono (by decide)) pass1E (q_cons (q_v 0) q_nil))) (fun _ _ _ _ _ => (q_name (i := 0) (show List.Nodup (["coin", "house", "greatest"] : List Str) from by decide +kernel) rfl (Or.inl rfl))) (fun _ _ _ _ _ => q_fone (q_tcmp uo_gt (q_v 0) (q_v 2) (nomark _))) (fun _ _ _ _ _ => (q_g g_without_coin (hr.mono (by decide)) pass1E (q_cons (q_v 1) (q_cons (q_v 0) q_nil)))))))), ?_⟩
    obtain ⟨G, h, hS, hh, g, hl, q⟩ := h
    have house := hh.house g
    refine ⟨h, hS, house.pos, fun M hM mx => ?_⟩
    refine ⟨h, hS, house, hl, fun pn ms H1 s1 hpn hn pm srt => ?_⟩
    have top : ∀ x, 1 ≤ x → ((M - (h.length : Int) < x) ↔ ∀ y ∈ G, y < x) := fun x x1 => by
      rcases hh.top g hM mx with ⟨e, f⟩ | ⟨f1, f2⟩
      · rw [e]
        exact ⟨(fun _ y hy => by cases hy), fun _ => by omega⟩
      · exact ⟨fun z y hy => by have := f2 y hy; omega, fun z => z _ f1⟩
    have nd : ms.Nodup := pm.nodup_iff.mpr (need_nodup house)
    have memN : ∀ x, x ∈ ms.filter (fun x => decide (M - (h.length : Int) < x)) ↔ Next G x := fun x => by
      rw [List.mem_filter, pm.mem_iff, decide_eq_true_iff, ← need_next g hh]
      constructor
      · rintro ⟨h1, h2⟩
        exact ⟨h1, (top x ((mem_needH house).mp h1).1).mp h2⟩
      · rintro ⟨h1, h2⟩
        exact ⟨h1, (top x ((mem_needH house).mp h1).1).mpr h2⟩
    have upN : (ms.filter (fun x => decide (M - (h.length : Int) < x))).Pairwise (· < ·) := by
      have h1 : ms.Pairwise (fun x y => x ≤ y ∧ x ≠ y) := srt.and nd
      exact List.Pairwise.filter _ (h1.imp fun hab => by omega)
    have mlen : ms.length ≤ 64 := by
      rw [pm.length_eq]
      unfold need
      rw [List.length_cons]
      have : ((h.drop 1).filter fun c => !partedB h c).length ≤ (h.drop 1).length := List.length_filter_le _ _
      rw [List.length_drop] at this
      omega
    refine .inl ⟨_, SqL.of hn, comp_some (fun i => decide (M - (h.length : Int) < ms.getD i 0)) (fun i T fs => ∃ gc : List Int, fs = [(T, .lst (gc.map V.int))] ∧ HouseOf (G ++ [ms.getD i 0]) gc) (jp_list (SqL.of hn)) (by rw [List.length_map]; exact small1000 (by omega)) (keepName rfl) (fun i x H' R Z hi sm hx hR hZ => ?_) (fun D H2 ps hD s2 hL psl hps => ?_)⟩
    · obtain ⟨y, hy, rfl⟩ := int_at hx
      rw [getD_at hy] at hR hZ
      refine ifB (fun z => ?_) fun z => hZ z H' (Same.refl _)
      have ny := (memN y).mp (List.mem_filter.mpr ⟨List.mem_of_getElem? hy, z⟩)
      refine ⟨G, h, (s1.trans sm).seq hS, hh, g, ny, by omega, fun p gc H6 s6 hp6 hg6 ho6 => ?_⟩
      refine hR z p [(p, .lst (gc.map V.int))] H6 s6 (fun w hw => ?_) ⟨gc, rfl, ho6⟩
      rw [List.mem_singleton.mp hw]
      exact ⟨hp6, hg6⟩
    rw [List.length_map] at psl hps
    have ecs : ((List.range ms.length).filter fun i => decide (M - (h.length : Int) < ms.getD i 0)).map (fun i => ms.getD i 0) = ms.filter (fun x => decide (M - (h.length : Int) < x)) := by
      have := range_filter_map ms 0 (fun x => decide (M - (h.length : Int) < x)) (fun x => x)
      rw [List.map_id'] at this
      exact this
    refine q D ps (ms.filter (fun x => decide (M - (h.length : Int) < x))) H2 (s1.trans s2) (s1.free hD) ⟨hL, by rw [← ecs, List.length_map]; exact psl, by rw [psl]; exact Nat.le_trans (List.length_filter_le _ _) (by rw [List.length_range]; exact mlen), upN, memN, fun i qa c hq hc => ?_⟩
    obtain ⟨i', fs, hi', hf, gc, rfl, ho⟩ := hps i qa hq
    rw [← ecs, List.getElem?_map, hi'] at hc
    cases hc
    exact ⟨gc, (hf _ List.mem_cons_self).2, ho⟩


end
end PG

set_option Elab.async false
set_option linter.all false
set_option maxRecDepth 100000
set_option maxHeartbeats 4000000
namespace PG
open PySem L2 PyProof.Rows

section
variable {P : Program} {w : World} {K : PySem.W.Frag} {mg : Str → Option Value} {base : Heap}

theorem le_mul1 {k n : Int} (hn : 0 ≤ n) (hk : 1 ≤ k) : n ≤ k * n := by
  have := Int.mul_le_mul_of_nonneg_right hk hn
  rw [Int.one_mul] at this
  exact this
theorem house_ne {H : Hp} {C q : Addr} {qs : List Addr} {h : List Int} (hC : H C = some (.lst (qs.map V.ref))) (hq : H q = some (.lst (h.map V.int))) (pos : 1 ≤ h.length) : q ≠ C := by
  intro z
  rw [z, hC] at hq
  have e := HO.lst.inj (Option.some.inj hq)
  cases h with
  | nil => simp at pos
  | cons y s =>
    cases qs with
    | nil => simp at e
    | cons x r => simp at e
theorem TreeAt.more {H : Hp} {C pc : Addr} {qs pcs : List Addr} {Gs : List (List Int)} {G : List Int} (T : TreeAt H C qs Gs) (ch : ChildsAt H pc pcs (nexts G) G) : TreeAt (upd H C (.lst (qs.map V.ref ++ pcs.map V.ref))) C (qs ++ pcs) (Gs ++ (nexts G).map fun x => G ++ [x]) := by
  refine ⟨by rw [upd_same, List.map_append], by rw [List.length_append, List.length_append, T.len, ch.len, List.length_map], fun i q g h1 h2 => ?_⟩
  by_cases z : i < qs.length
  · rw [List.getElem?_append_left z] at h1
    rw [List.getElem?_append_left (by rw [← T.len]; exact z)] at h2
    rw [upd_ne (T.ne (List.mem_of_getElem? h1))]
    exact T.kid i q g h1 h2
  · rw [List.getElem?_append_right (by omega)] at h1
    rw [List.getElem?_append_right (by rw [← T.len]; omega), ← T.len, List.getElem?_map] at h2
    cases e : (nexts G)[i - qs.length]? with
    | none => rw [e] at h2; cases h2
    | some c =>
      rw [e] at h2
      cases h2
      obtain ⟨h, e1, ho⟩ := ch.kid _ q c h1 e
      rw [upd_ne (house_ne T.lst e1 ho.pos)]
      exact ⟨h, e1, ho⟩
theorem stepsN_mul {r y : Int} {k n : Nat} (n1 : 1 ≤ n) (k1 : 1 ≤ k) (e : y = r + (k : Int) * (n : Int)) : stepsN r y n = k := by
  have e1 : (y - r - 1) / (n : Int) = (k : Int) - 1 := by
    rw [show y - r - 1 = ((n : Int) - 1) + ((k : Int) - 1) * (n : Int) by rw [e, Int.sub_mul, Int.one_mul]; omega, Int.add_mul_ediv_right _ _ (by omega), Int.ediv_eq_zero_of_lt (by omega) (by omega)]
    omega
  have le : (n : Int) ≤ (k : Int) * (n : Int) := le_mul1 (by omega) (by omega)
  unfold stepsN
  rw [if_pos (by omega), e1]
  omega
theorem sc_children_of_all : FnScope ["houses", "children", "house"] ["houses"] (defScope s_children_of_all) := ⟨rfl, rfl, rfl, by decide +kernel, rfl, by decide +kernel, by decide +kernel⟩
theorem ok_children_of_all {f : Addr} {fd : FuncData} (F : Fun K "children_of_all" "children_of_all" s_children_of_all f fd) (ER : Errs K mg) (g_children_of : G P w K mg base (CX1 P w) "children_of" ["house"] 3 (sChild K)) : FnOk P w K mg base (CX1 P w) 4 f fd ["houses"] (sAll63 K) := by
  refine F.okN sc_children_of_all (fun vs H Q E h => ?_) (fun cdv A outer s H vs Q E hr h => ?_)
  · unfold sAll63 at h; split at h
    · rfl
    · exact h.elim
  · unfold sAll63 at h; split at h
    rotate_left
    · exact h.elim
    rename_i a
    refine ⟨_, (q_scons (q_set (i := 1) sc_children_of_all.nd rfl (Or.inl rfl) (q_lst q_nil)) (q_scons (q_for PassesOwn.never rfl (q_seq (K := K) (q_v 0)) (q_name (i := 2) sc_children_of_all.nd rfl (Or.inl rfl)) (q_sone (q_expr (q_bm (K := K) PySem.F.slot_list_extend PySem.F.type_list_extend um_extend (q_v 1) (q_cons (q_g g_children_of (hr.mono (by decide)) pass1E (q_cons (q_v 2) q_nil)) q_nil))))) (q_sone (q_ret (q_v 1))))), ?_⟩
    obtain ⟨ps, n, n8, T, q⟩ := h
    refine ⟨by show 0 ≤ _; omega, fun C hC => ?_⟩
    have s0 := Same.new (o := .lst []) hC
    refine .inl ⟨_, SqL.of (s0 _ _ T.lst), for_list (K := K) (a := a) (xs := ps.map V.ref) (fun i σ H' => ∃ (v : Option V) (qs : List Addr), σ = [some (.ref a), some (.ref C), v] ∧ Same H H' ∧ TreeAt H' C qs (((tree n).take i).flatMap fun G => (nexts G).map fun x => G ++ [x])) ⟨none, [], rfl, s0, ?_⟩ (fun i σ H' _ ⟨_, _, _, s, _⟩ => SqL.of (s _ _ T.lst)) ?_ ?_⟩
    · exact ⟨upd_same, rfl, fun i q G h1 => by simp at h1⟩
    · rintro i x σ H1 hx ⟨v, qs, rfl, s1, T1⟩
      obtain ⟨p, hp, rfl⟩ := ref_at hx
      have hi : i < (tree n).length := by rw [← T.len]; exact (List.getElem?_eq_some_iff.mp hp).1
      obtain ⟨G, hG⟩ : ∃ G, (tree n)[i]? = some G := ⟨_, List.getElem?_eq_getElem hi⟩
      obtain ⟨h, e, ho⟩ := T.kid i p G hp hG
      obtain ⟨g, gl⟩ := tree_ok n (by omega) G (List.mem_of_getElem? hG)
      have hl := ho.len_le g
      refine ⟨⟨_, SqL.of T1.lst⟩, G, h, SqL.of (s1 _ _ e), ho, g, by omega, fun pc pcs cs H2 s2 hpc ch => ?_⟩
      have ecs := nexts_of ch.up ch.mem
      subst ecs
      have T2 := T1.mono s2
      have few : qs.length ≤ 362880 * 9 := by
        rw [T1.len]
        refine Nat.le_trans (flat_len (c := n + 1) fun G' hG' => ?_) (Nat.mul_le_mul (Nat.le_trans (by rw [List.length_take]; omega) (tree_len (n := n) (by omega))) (by omega))
        obtain ⟨g', gl'⟩ := tree_ok n (by omega) G' (List.mem_of_mem_take hG')
        rw [List.length_map, ← gl']
        exact nexts_few g'
      have few2 := ch.few
      refine ⟨_, _, T2.lst, ch.lst, by rw [List.length_map, List.length_map, sizeLine_eq]; omega, ?_⟩
      refine ⟨_, qs ++ pcs, rfl, (s1.trans s2).put hC, ?_⟩
      rw [List.take_add_one, hG, Option.toList_some, List.flatMap_append, List.flatMap_cons, List.flatMap_nil, List.append_nil]
      exact T2.more ch
    rintro σ H1 ⟨v, qs, rfl, s1, T1⟩
    rw [List.length_map, T.len, List.take_length] at T1
    exact q C qs H1 s1 hC T1

theorem sc_houses_with : FnScope ["number", "houses", "step"] ["number"] (defScope s_houses_with) := ⟨rfl, rfl, rfl, by decide +kernel, rfl, by decide +kernel, by decide +kernel⟩
theorem ok_houses_with {f : Addr} {fd : FuncData} {tk_MOST_LISTED_GAPS : Tok} (F : Fun K "houses_with" "houses_with" s_houses_with f fd) (B : Blt mg) (ER : Errs K mg) (mc_MOST_LISTED_GAPS : mg "MOST_LISTED_GAPS" = some (.int 9 tk_MOST_LISTED_GAPS)) (g_check_sum_from : G P w K mg base (CX1 P w) "check_sum_from" ["least", "amount"] 2 (sFromX ER.a_NoSum)) (g_children_of_all : G P w K mg base (CX1 P w) "children_of_all" ["houses"] 4 (sAll63 K)) : FnOk P w K mg base (CX1 P w) 5 f fd ["number"] (sHW63 K ER.a_NoSum ER.a_TooMany) := by
  refine F.okX sc_houses_with (fun vs H Q E h => ?_) (fun cdv A outer s H vs Q E hr h => ?_)
  · unfold sHW63 at h; split at h
    · rfl
    · exact h.elim
  · unfold sHW63 at h; split at h
    rotate_left
    · exact h.elim
    rename_i x
    refine ⟨_, (q_scons (q_expr (q_g g_check_sum_from (hr.mono (by decide)) pass1 (q_cons q_int (q_cons (q_v 0) q_nil)))) (q_scons (q_sif (q_tcmp uo_gt (q_v 0) (q_glob (v := .int 9) (by rfl) mc_MOST_LISTED_GAPS ⟨_, rfl⟩) (nomark _)) (q_sone (q_raise raises1 rfl ER.m_TooMany ER.x_TooMany (q_cons q_str q_nil))) q_snil) (q_scons (q_set (i := 1) sc_houses_with.nd rfl (Or.inl rfl) (q_lst (q_cons (q_lst (q_cons q_int q_nil)) q_nil))) (q_scons (q_nox (q_for PassesOwn.never rfl (q_range1 B.range (q_cons (q_v 0) q_nil)) (q_name (i := 2) sc_houses_with.nd rfl (Or.inl rfl)) (q_sone (q_set (i := 1) sc_houses_with.nd rfl (Or.inl rfl) (q_g g_children_of_all (hr.mono (by decide)) pass1E (q_cons (q_v 1) q_nil)))))) (q_sone (q_ret (q_v 1))))))), ?_⟩
    obtain ⟨kn, q, e1, e2⟩ := h
    refine ⟨.inl rfl, kn, fun n en n0 => ?_, fun ne => e1 ne⟩
    subst en
    refine ifB (fun z => ⟨by show 1 ≤ sizeLine; decide, ?_⟩) fun z => ?_
    · exact e2 n rfl (of_decide_eq_true z)
    have z' := of_decide_eq_false z
    obtain ⟨k, rfl⟩ : ∃ k : Nat, n = k := ⟨n.toNat, by omega⟩
    have k9 : k ≤ 9 := by omega
    have q := q k rfl k9
    refine ⟨by show 1 ≤ sizeLine; decide, fun z0 hz0 => ⟨by show 1 ≤ sizeLine; decide, fun L hL => ?_⟩⟩
    have s2 := (Same.new (o := .lst [.int 0]) hz0).trans (Same.new (o := .lst [.ref z0]) hL)
    refine ⟨⟨by omega, by omega⟩, ?_⟩
    refine for_range (fun i σ H' => ∃ (P : Addr) (ps : List Addr) (v : Option V), σ = [some (.int (k : Int)), some (.ref P), v] ∧ Same H H' ∧ TreeAt H' P ps (tree i)) ⟨L, [z0], none, rfl, s2, ⟨upd_same, rfl, fun i q G h1 h2 => ?_⟩⟩ ?_ ?_
    · cases i with
      | zero =>
        have e1 : z0 = q := by simpa using h1
        have e2 : [] = G := by simpa [tree] using h2
        subst e1 e2
        exact ⟨[0], (Same.new hL) _ _ upd_same, HouseOf.nil⟩
      | succ i => simp at h1
    · rintro i σ H1 hi ⟨P, ps, v, rfl, s1, T⟩
      have hi' : i < k := hi
      exact ⟨ps, i, by omega, T, fun p qs H2 s2 hp T2 => ⟨p, qs, _, rfl, s1.trans s2, T2⟩⟩
    rintro σ H1 ⟨P, ps, v, rfl, s1, T⟩
    exact q P ps H1 s1 T

theorem sc__law_gaps : FnScope ["_law_house", "_law_size", "_law_found", "_law_rest", "_law_number"] ["_law_house"] (defScope s__law_gaps) := ⟨rfl, rfl, rfl, by decide +kernel, rfl, by decide +kernel, by decide +kernel⟩
theorem ok__law_gaps {f : Addr} {fd : FuncData} (F : Fun K "_law_gaps" "_law_gaps" s__law_gaps f fd) (B : Blt mg) (ER : Errs K mg) (g__law_whole : G P w K mg base (CX1 P w) "_law_whole" ["_law_found"] 1 sNum) : FnOk P w K mg base (CX1 P w) 2 f fd ["_law_house"] (sGaps63 K) := by
  refine F.okN sc__law_gaps (fun vs H Q E h => ?_) (fun cdv A outer s H vs Q E hr h => ?_)
  · unfold sGaps63 at h; split at h
    · rfl
    · exact h.elim
  · unfold sGaps63 at h; split at h
    rotate_left
    · exact h.elim
    rename_i a
    refine ⟨_, (q_scons (q_set (i := 1) sc__law_gaps.nd rfl (Or.inl rfl) (q_callB (uc_len (K := K)) (by rfl) B.len PySem.boot_len (q_cons (q_v 0) q_nil))) (q_scons (q_set (i := 2) sc__law_gaps.nd rfl (Or.inl rfl) (q_lst q_nil)) (q_scons (q_for PassesOwn.never rfl (q_range2 B.range (q_cons q_int (q_cons (q_v 1) q_nil))) (q_name (i := 3) sc__law_gaps.nd rfl (Or.inl rfl)) (q_scons (q_sif (q_tw (q_tor (q_tnot (q_tval (K := K) (q_g g__law_whole (hr.mono (by decide)) pass1E (q_cons (q_ix (ux (K := K)) (q_v 0) (q_v 3) (fun _ _ => rfl)) q_nil)))) (q_tor (q_tcmp uo_lt (q_ix (ux (K := K)) (q_v 0) (q_v 3) (fun _ _ => rfl)) (q_v 1) (nomark _)) (q_tor (q_tcmp (uo_ne (K := K) hr.u8) (q_op uo_mod (q_ix (ux (K := K)) (q_v 0) (q_v 3) (fun _ _ => rfl)) (q_v 1)) (q_v 3) (nomark _)) (q_tor1 (q_tcmp uo_gt (q_ix (ux (K := K)) (q_v 0) (q_v 3) (fun _ _ => rfl)) q_int (nomark _))))))) (q_sone (q_ret q_non)) q_snil) (q_sone (q_for PassesOwn.never rfl (q_range3 B.range (q_cons (q_v 3) (q_cons (q_ix (ux (K := K)) (q_v 0) (q_v 3) (fun _ _ => rfl)) (q_cons (q_v 1) q_nil)))) (q_name (i := 4) sc__law_gaps.nd rfl (Or.inl rfl)) (q_sone (q_expr (q_bm (K := K) PySem.F.slot_list_append PySem.F.type_list_append um_append (q_v 2) (q_cons (q_v 4) q_nil)))))))) (q_sone (q_ret (q_callB (uc_sorted (K := K) rfl) (by rfl) B.sorted boot_sorted (q_cons (q_v 2) q_nil))))))), ?_⟩
    obtain ⟨G, h, hA, ho, g, gl, q⟩ := h
    have hp := ho.pos
    have house := ho.house g
    have hl := ho.len_le g
    have n0 : (0 : Int) ∉ G := fun z => by have := g.pos 0 z; omega
    refine ⟨_, .inl (SqL.of hA), by show 0 ≤ _; omega, fun F hF => ?_⟩
    rw [List.length_map]
    have s0 := Same.new (o := .lst []) hF
    refine ⟨⟨by decide, by decide, by omega, by omega⟩, ?_⟩
    refine for_range (fun i σ H' => ∃ (v w : Option V) (fs : List Int), σ = [some (.ref a), some (.int h.length), some (.ref F), v, w] ∧ Same H H' ∧ H' F = some (.lst (fs.map V.int)) ∧ fs.Nodup ∧ ∀ x, x ∈ fs ↔ x ∈ G ∧ x % (h.length : Int) ≤ i) ⟨none, none, [], rfl, s0, upd_same, by simp, fun x => ?_⟩ ?_ ?_
    · refine ⟨(fun z => by cases z), fun ⟨z1, z2⟩ => ?_⟩
      have x1 := g.pos x z1
      have m0 := Int.emod_nonneg x (show (h.length : Int) ≠ 0 by omega)
      have e := Int.emod_add_mul_ediv x (h.length : Int)
      have d0 := Int.ediv_nonneg (show 0 ≤ x by omega) (show (0 : Int) ≤ h.length by omega)
      have := g.times (x := 0) (m := (h.length : Int)) (by omega) (by omega) n0 ho.out (x / (h.length : Int)).toNat
      rw [Int.toNat_of_nonneg d0, Int.mul_comm] at this
      have m1 : x % (h.length : Int) = 0 := by
        have z2' : x % (h.length : Int) ≤ ((0 : Nat) : Int) := z2
        omega
      rw [m1] at e
      rw [e] at this
      exact absurd z1 this
    · rintro i σ H1 hi ⟨v, w, fs, rfl, s1, hf, nd, mem⟩
      have hi' : i + 1 < h.length := by omega
      obtain ⟨y, hy⟩ : ∃ y, h[1 + i]? = some y := ⟨_, List.getElem?_eq_getElem (by omega)⟩
      obtain ⟨k, ey, out, low⟩ := ho.num (1 + i) y hy
      have k1 : 1 ≤ k := by
        rcases Nat.eq_zero_or_pos k with z | z
        · subst z
          have := ho.low ((1 + i : Nat) : Int) (by omega) (by omega)
          rw [ey] at out
          simp at out this
          exact absurd this out
        · exact z
      have le : (h.length : Int) ≤ (k : Int) * (h.length : Int) := le_mul1 (by omega) (by omega)
      have top : ((1 + i : Nat) : Int) + ((k - 1 : Nat) : Int) * (h.length : Int) ≤ 17 := by
        have := gaps_le2 g _ (low (k - 1) (by omega))
        omega
      have ey2 : y = ((1 + i : Nat) : Int) + ((k - 1 : Nat) : Int) * (h.length : Int) + (h.length : Int) := by
        rw [ey, show ((k : Nat) : Int) = ((k - 1 : Nat) : Int) + 1 by omega, Int.add_mul, Int.one_mul]
        omega
      have hat : atI (h.map V.int) (1 + (i : Int)) = some (.int y) := atI_of (by omega) (by rw [show (1 + (i : Int)).toNat = 1 + i by omega, List.getElem?_map, hy]; rfl)
      have hA1 := s1 _ _ hA
      have emod : y % (h.length : Int) = 1 + (i : Int) := by
        rw [ey, Int.add_mul_emod_self_right, Int.emod_eq_of_lt (by omega) (by omega)]
        push_cast
        omega
      refine ⟨_, _, .inl (SqL.of hA1), hat, trivial, ?_⟩
      refine ⟨_, _, .inl (SqL.of hA1), hat, ifB (fun z => by have := of_decide_eq_true z; omega) fun _ => ?_⟩
      refine ⟨_, _, .inl (SqL.of hA1), hat, by omega, ?_⟩
      refine ifB (fun z => by rw [emod] at z; simp at z) fun _ => ?_
      refine ⟨_, _, .inl (SqL.of hA1), hat, ifB (fun z => by have := of_decide_eq_true z; omega) fun _ => ?_⟩
      refine ⟨_, _, .inl (SqL.of hA1), hat, ⟨⟨by omega, by omega⟩, ⟨by omega, by omega⟩, by omega, by omega⟩, ?_⟩
      rw [stepsN_mul (r := 1 + (i : Int)) (y := y) (k := k) (n := h.length) hp k1 (by rw [ey]; push_cast; omega)]
      refine for_range3 (fun j σ H' => ∃ (w : Option V) (fs' : List Int), σ = [some (.ref a), some (.int h.length), some (.ref F), some (.int (1 + (i : Int))), w] ∧ Same H H' ∧ H' F = some (.lst (fs'.map V.int)) ∧ fs'.Nodup ∧ ∀ x, x ∈ fs' ↔ x ∈ fs ∨ ∃ t : Nat, t < j ∧ x = 1 + (i : Int) + (t : Int) * (h.length : Int)) ⟨_, fs, rfl, s1, hf, nd, fun x => ⟨.inl, fun z => z.elim id fun ⟨t, h1, _⟩ => by omega⟩⟩ ?_ ?_
      · rintro j σ H2 hj ⟨w2, fs2, rfl, s2, hf2, nd2, mem2⟩
        have inG : ∀ x ∈ fs2, x ∈ G := fun x hx => by
          rcases (mem2 x).mp hx with z | ⟨t, h1, rfl⟩
          · exact ((mem x).mp z).1
          · have := low t (by omega)
            push_cast at this
            exact this
        have fl := sub_len nd2 inG
        refine ⟨⟨_, SqL.of hf2⟩, _, hf2, by rw [List.length_map, sizeLine_eq]; omega, ?_⟩
        refine ⟨_, fs2 ++ [1 + (i : Int) + (j : Int) * (h.length : Int)], rfl, s2.put hF, by rw [upd_same, List.map_append]; rfl, ?_, fun x => ?_⟩
        · rw [List.nodup_append]
          refine ⟨nd2, by simp, fun x hx z hz => ?_⟩
          rw [List.mem_singleton.mp hz]
          rintro rfl
          rcases (mem2 _).mp hx with c | ⟨t, h1, h2⟩
          · have := ((mem _).mp c).2
            rw [Int.add_mul_emod_self_right, Int.emod_eq_of_lt (by omega) (by omega)] at this
            omega
          · have h3 : (j : Int) * (h.length : Int) = (t : Int) * (h.length : Int) := by omega
            have := Int.eq_of_mul_eq_mul_right (by omega) h3
            omega
        · rw [List.mem_append, List.mem_singleton, mem2]
          constructor
          · rintro ((z | ⟨t, h1, h2⟩) | rfl)
            · exact .inl z
            · exact .inr ⟨t, by omega, h2⟩
            · exact .inr ⟨j, by omega, rfl⟩
          · rintro (z | ⟨t, h1, h2⟩)
            · exact .inl (.inl z)
            · by_cases e : t = j
              · subst e; exact .inr h2
              · exact .inl (.inr ⟨t, by omega, h2⟩)
      · rintro σ H2 ⟨w2, fs2, rfl, s2, hf2, nd2, mem2⟩
        refine ⟨_, _, fs2, rfl, s2, hf2, nd2, fun x => (mem2 x).trans ⟨?_, ?_⟩⟩
        · rintro (z | ⟨t, h1, rfl⟩)
          · have := (mem x).mp z
            exact ⟨this.1, by have := this.2; push_cast; omega⟩
          · have := low t h1
            push_cast at this
            refine ⟨this, ?_⟩
            rw [Int.add_mul_emod_self_right, Int.emod_eq_of_lt (by omega) (by omega)]
            push_cast
            omega
        · rintro ⟨z1, z2⟩
          by_cases c : x % (h.length : Int) ≤ i
          · exact .inl ((mem x).mpr ⟨z1, c⟩)
          · refine .inr ⟨(x / (h.length : Int)).toNat, ?_, ?_⟩
            · have x1 := g.pos x z1
              have d0 := Int.ediv_nonneg (show 0 ≤ x by omega) (show (0 : Int) ≤ h.length by omega)
              rcases Nat.lt_or_ge (x / (h.length : Int)).toNat k with u | u
              · exact u
              · exfalso
                have e := Int.emod_add_mul_ediv x (h.length : Int)
                have m1 : x % (h.length : Int) = 1 + (i : Int) := by push_cast at z2; omega
                have := g.times (x := y) (m := (h.length : Int)) (by omega) (by omega) out ho.out ((x / (h.length : Int)).toNat - k)
                refine this ?_
                have ex : y + (((x / (h.length : Int)).toNat - k : Nat) : Int) * (h.length : Int) = x := by
                  rw [show (((x / (h.length : Int)).toNat - k : Nat) : Int) = x / (h.length : Int) - (k : Int) by omega, Int.sub_mul, ey]
                  rw [m1, Int.mul_comm] at e
                  push_cast
                  omega
                rw [ex]
                exact z1
            · have x1 := g.pos x z1
              have d0 := Int.ediv_nonneg (show 0 ≤ x by omega) (show (0 : Int) ≤ h.length by omega)
              have e := Int.emod_add_mul_ediv x (h.length : Int)
              have m1 : x % (h.length : Int) = 1 + (i : Int) := by push_cast at z2; omega
              rw [m1, Int.mul_comm] at e
              rw [Int.toNat_of_nonneg d0]
              exact e.symm
    rintro σ H1 ⟨v, w, fs, rfl, s1, hf, nd, mem⟩
    have mem' : ∀ x, x ∈ fs ↔ x ∈ G := fun x => by
      rw [mem]
      refine ⟨fun z => z.1, fun z => ⟨z, ?_⟩⟩
      have := Int.emod_lt_of_pos x (show (0 : Int) < h.length by omega)
      omega
    have fl := sub_len nd fun x hx => (mem' x).mp hx
    refine ⟨fs, SqL.of hf, by omega, fun l ms hl0 pm srt => ?_⟩
    have em : ms = G := by
      refine rising_eq ?_ g.up fun x => (pm.mem_iff).trans (mem' x)
      have h1 : ms.Pairwise (fun x y => x ≤ y ∧ x ≠ y) := srt.and (pm.nodup_iff.mpr nd)
      exact h1.imp fun hab => by omega
    subst em
    exact q l _ (s1.trans (Same.new hl0)) (s1.free hl0) upd_same

theorem sc__law_closed : FnScope ["_law_gaps_here", "_law_gap", "_law_one"] ["_law_gaps_here"] (defScope s__law_closed) := ⟨rfl, rfl, rfl, by decide +kernel, rfl, by decide +kernel, by decide +kernel⟩
theorem ok__law_closed {f : Addr} {fd : FuncData} (F : Fun K "_law_closed" "_law_closed" s__law_closed f fd) (B : Blt mg) (ER : Errs K mg) : FnOk P w K mg base (CX1 P w) 1 f fd ["_law_gaps_here"] (sClosed63 K) := by
  refine F.okN sc__law_closed (fun vs H Q E h => ?_) (fun cdv A outer s H vs Q E hr h => ?_)
  · unfold sClosed63 at h; split at h
    · rfl
    · exact h.elim
  · unfold sClosed63 at h; split at h
    rotate_left
    · exact h.elim
    rename_i a
    refine ⟨_, (q_scons (q_for PassesOwn.never rfl (q_seq (K := K) (q_v 0)) (q_name (i := 1) sc__law_closed.nd rfl (Or.inl rfl)) (q_sone (q_for PassesOwn.never rfl (q_range2 B.range (q_cons q_int (q_cons (q_op uo_add (q_op uo_fdiv (q_v 1) q_int) q_int) q_nil))) (q_name (i := 2) sc__law_closed.nd rfl (Or.inl rfl)) (q_sone (q_sif (q_tw (q_tand (q_tcmp (uo_notIn (K := K)) (q_v 2) (q_v 0) rfl) (q_tand1 (q_tcmp (uo_notIn (K := K)) (q_op uo_sub (q_v 1) (q_v 2)) (q_v 0) rfl)))) (q_sone (q_ret q_bl)) q_snil))))) (q_sone (q_ret q_bl))), ?_⟩
    obtain ⟨G, hS, g, q1, q2⟩ := h
    refine .inl ⟨_, hS, for_list (K := K) (a := a) (xs := G.map V.int) (fun i σ H' => ∃ v w : Option V, σ = [some (.ref a), v, w] ∧ H = H' ∧ ∀ (j : Nat) y, j < i → G[j]? = some y → ∀ x, 1 ≤ x → x < y → x ∈ G ∨ y - x ∈ G) ⟨none, none, rfl, rfl, fun j y hj => by omega⟩ (fun i σ H' _ ⟨_, _, _, e, _⟩ => by rw [← e]; exact hS) ?_ ?_⟩
    · rintro i x σ _ hx ⟨v, w, rfl, rfl, low⟩
      obtain ⟨y, hy, rfl⟩ := int_at hx
      have my := List.mem_of_getElem? hy
      have yr := g y my
      refine ⟨⟨by decide, by decide⟩, ⟨by decide, by decide, by omega, by omega⟩, ?_⟩
      refine for_range (fun k σ H' => ∃ w : Option V, σ = [some (.ref a), some (.int y), w] ∧ H = H' ∧ ∀ x : Int, 1 ≤ x → x < 1 + (k : Int) → x ∈ G ∨ y - x ∈ G) ⟨_, rfl, rfl, fun x x1 x2 => by omega⟩ ?_ ?_
      · rintro k σ _ hk ⟨w, rfl, rfl, lowk⟩
        have nxt : (1 + (k : Int) ∈ G ∨ y - (1 + (k : Int)) ∈ G) → ∀ x : Int, 1 ≤ x → x < 1 + ((k + 1 : Nat) : Int) → x ∈ G ∨ y - x ∈ G := fun z x x1 x2 => by
          by_cases e : x = 1 + (k : Int)
          · rw [e]; exact z
          · exact lowk x x1 (by omega)
        refine ⟨_, .inl hS, ⟨rfl, flat_ints G⟩, ifB (fun z => ⟨_, .inl hS, ⟨rfl, flat_ints G⟩, ifB (fun z2 => ?_) fun z2 => ⟨_, rfl, rfl, nxt (.inr ?_)⟩⟩) fun z => ⟨_, rfl, rfl, nxt (.inl ?_)⟩⟩
        · rw [inV_ints] at z z2
          refine q2 fun cl => ?_
          have z' : ¬ (1 + (k : Int)) ∈ G := by simpa using z
          have z2' : ¬ (y - (1 + (k : Int))) ∈ G := by simpa using z2
          rcases cl y my (1 + (k : Int)) (by omega) (by omega) with u | u
          · exact z' u
          · exact z2' u
        · rw [inV_ints] at z2
          simpa using z2
        · rw [inV_ints] at z
          simpa using z
      · rintro σ _ ⟨w, rfl, rfl, lowk⟩
        refine ⟨_, _, rfl, rfl, fun j z hj hz => ?_⟩
        by_cases e : j = i
        · rw [e, hy] at hz
          cases hz
          exact closed_half fun x x1 x2 => lowk x x1 (by omega)
        · exact low j z (by omega) hz
    rintro σ _ ⟨v0, w0, rfl, rfl, low0⟩
    refine q1 fun y hy => ?_
    obtain ⟨j, hj, e⟩ := List.mem_iff_getElem.mp hy
    exact low0 j y (by rw [List.length_map]; exact hj) (by rw [List.getElem?_eq_getElem hj, e])

end
end PG

set_option Elab.async false
set_option linter.all false
set_option maxRecDepth 100000
set_option maxHeartbeats 4000000
namespace PG
open PySem L2 PyProof.Rows

section
variable {P : Program} {w : World} {K : PySem.W.Frag} {mg : Str → Option Value} {base : Heap}

theorem sc__law_cell : FnScope ["_law_script", "_law_k"] ["_law_script", "_law_k"] (defScope s__law_cell) := ⟨rfl, rfl, rfl, by decide +kernel, rfl, by decide +kernel, by decide +kernel⟩
theorem ok__law_cell {f : Addr} {fd : FuncData} (F : Fun K "_law_cell" "_law_cell" s__law_cell f fd) (B : Blt mg) (ER : Errs K mg) : FnOk P w K mg base (CX1 P w) 1 f fd ["_law_script", "_law_k"] (sCell63 K) := by
  refine F.okN sc__law_cell (fun vs H Q E h => ?_) (fun cdv A outer s H vs Q E hr h => ?_)
  · unfold sCell63 at h; split at h
    · rfl
    · exact h.elim
  · unfold sCell63 at h; split at h
    rotate_left
    · exact h.elim
    rename_i a k
    refine ⟨_, (q_scons (q_sif (q_tcmp uo_lt (q_v 1) (q_callB (uc_len (K := K)) (by rfl) B.len PySem.boot_len (q_cons (q_v 0) q_nil)) (nomark _)) (q_sone (q_ret (q_ix (ux (K := K)) (q_v 0) (q_v 1) (fun _ _ => rfl)))) q_snil) (q_sone (q_ret q_int))), ?_⟩
    obtain ⟨ns, hS, k0, q⟩ := h
    refine ⟨_, .inl hS, ifB (fun z => ?_) fun z => q 0⟩
    have z' := of_decide_eq_true z
    rw [List.length_map] at z'
    exact ⟨_, _, .inl hS, atInt k0 z', q _⟩

theorem sc__law_all : FnScope ["_law_found", "_law_many", "_law_told", "_law_house", "_law_gaps_here"] ["_law_found", "_law_many"] (defScope s__law_all) := ⟨rfl, rfl, rfl, by decide +kernel, rfl, by decide +kernel, by decide +kernel⟩
theorem ok__law_all {f : Addr} {fd : FuncData} (F : Fun K "_law_all" "_law_all" s__law_all f fd) (B : Blt mg) (ER : Errs K mg) (g__law_whole : G P w K mg base (CX1 P w) "_law_whole" ["_law_found"] 1 sNum) (g__law_gaps : G P w K mg base (CX1 P w) "_law_gaps" ["_law_house"] 2 (sGaps63 K)) (g__law_closed : G P w K mg base (CX1 P w) "_law_closed" ["_law_gaps_here"] 1 (sClosed63 K)) : FnOk P w K mg base (CX1 P w) 3 f fd ["_law_found", "_law_many"] (sTold63 K) := by
  refine F.okN sc__law_all (fun vs H Q E h => ?_) (fun cdv A outer s H vs Q E hr h => ?_)
  · unfold sTold63 at h; split at h
    · rfl
    · exact h.elim
  · unfold sTold63 at h; split at h
    rotate_left
    · exact h.elim
    rename_i f m
    refine ⟨_, (q_scons (q_sif (q_tnot (q_tval (K := K) (q_callB (uc_isi (K := K)) (by rfl) B.isi boot_isinstance (q_cons (q_v 0) (q_cons (q_bltn (v := .ty "list") (by rfl) B.list boot_list rfl) q_nil))))) (q_sone (q_ret q_non)) q_snil) (q_scons (q_set (i := 2) sc__law_all.nd rfl (Or.inl rfl) (q_lst q_nil)) (q_scons (q_for PassesOwn.never rfl (q_seq (K := K) (q_v 0)) (q_name (i := 3) sc__law_all.nd rfl (Or.inl rfl)) (q_scons (q_sif (q_tw (q_tor (q_tnot (q_tval (K := K) (q_callB (uc_isi (K := K)) (by rfl) B.isi boot_isinstance (q_cons (q_v 3) (q_cons (q_bltn (v := .ty "list") (by rfl) B.list boot_list rfl) q_nil))))) (q_tor (q_tcmp (uo_eq (K := K) hr.u8) (q_v 3) (q_lst q_nil) (nomark _)) (q_tor (q_tnot (q_tval (K := K) (q_g g__law_whole (hr.mono (by decide)) pass1E (q_cons (q_ix (ux (K := K)) (q_v 3) q_int (fun _ _ => rfl)) q_nil)))) (q_tor1 (q_tcmp (uo_ne (K := K) hr.u8) (q_ix (ux (K := K)) (q_v 3) q_int (fun _ _ => rfl)) q_int (nomark _))))))) (q_sone (q_ret q_non)) q_snil) (q_scons (q_set (i := 4) sc__law_all.nd rfl (Or.inl rfl) (q_g g__law_gaps (hr.mono (by decide)) pass1E (q_cons (q_v 3) q_nil))) (q_scons (q_sif (q_tw (q_tor (q_tcmp uo_is (q_v 4) q_non (nomark _)) (q_tor (q_tcmp (uo_ne (K := K) hr.u8) (q_callB (uc_len (K := K)) (by rfl) B.len PySem.boot_len (q_cons (q_v 4) q_nil)) (q_v 1) (nomark _)) (q_tor (q_tnot (q_tval (K := K) (q_g g__law_closed (hr.mono (by decide)) pass1E (q_cons (q_v 4) q_nil)))) (q_tor1 (q_tw (q_tand (q_tcmp (uo_ne (K := K) hr.u8) (q_v 2) (q_lst q_nil) (nomark _)) (q_tand1 (q_tcmp (uo_geL (K := K) hr.u8) (q_ix (ux (K := K)) (q_v 2) (q_un uu_neg q_int) (fun _ _ => rfl)) (q_v 4) (nomark _)))))))))) (q_sone (q_ret q_non)) q_snil) (q_sone (q_expr (q_bm (K := K) PySem.F.slot_list_append PySem.F.type_list_append um_append (q_v 2) (q_cons (q_v 4) q_nil)))))))) (q_sone (q_ret (q_v 2)))))), ?_⟩
    obtain ⟨ps, n, rfl, n9, T, q⟩ := h
    refine ⟨_, true, TyOf.lst T.lst, by kernel_rfl, ?_⟩
    refine ⟨by show 0 ≤ _; omega, fun L hL => ?_⟩
    have s0 := Same.new (o := .lst []) hL
    have fl := tree_len n9
    refine .inl ⟨_, SqL.of (s0 _ _ T.lst), for_list (K := K) (a := f) (xs := ps.map V.ref) (fun i σ H' => ∃ (v w : Option V) (qs : List Addr), σ = [some (.ref f), some (.int (n : Int)), some (.ref L), v, w] ∧ Same H H' ∧ RowsAt H' L qs ((tree n).take i) ∧ ∀ x ∈ qs, x ≠ L) ⟨none, none, [], rfl, s0, ⟨upd_same, by simp, fun i q G h1 => by simp at h1⟩, by simp⟩ (fun i σ H' _ ⟨_, _, _, _, s, _⟩ => SqL.of (s _ _ T.lst)) ?_ ?_⟩
    · rintro i x σ H1 hx ⟨v, w, qs, rfl, s1, R, ne⟩
      obtain ⟨p, hp, rfl⟩ := ref_at hx
      have hi : i < (tree n).length := by rw [← T.len]; exact (List.getElem?_eq_some_iff.mp hp).1
      obtain ⟨G, hG⟩ : ∃ G, (tree n)[i]? = some G := ⟨_, List.getElem?_eq_getElem hi⟩
      obtain ⟨h, e, ho⟩ := T.kid i p G hp hG
      obtain ⟨g, gl⟩ := tree_ok n (by omega) G (List.mem_of_getElem? hG)
      have pos := ho.pos
      have e1 := s1 _ _ e
      have h0 : h[0]? = some 0 := by
        obtain ⟨x, hx⟩ : ∃ x, h[0]? = some x := ⟨_, List.getElem?_eq_getElem (by omega)⟩
        obtain ⟨k, ex, _, low⟩ := ho.num 0 x hx
        rcases Nat.eq_zero_or_pos k with z | z
        · subst z
          rw [hx, ex]
          simp
        · have := low 0 z
          have := g.pos _ this
          simp at this
      refine ⟨_, true, TyOf.lst e1, by kernel_rfl, ?_⟩
      refine ⟨by show 0 ≤ _; omega, fun r hr => ?_⟩
      have s2 := Same.new (o := .lst []) hr
      refine eqInts (neg := false) (ns := h) (ms := []) (SqL.of (s2 _ _ e1)) (SqL.of upd_same) (ifB (fun z => ?_) fun _ => ?_)
      · exfalso
        have z' : h = [] := by simpa using z
        rw [z'] at pos
        simp at pos
      generalize upd H1 r (.lst []) = H2 at s2
      have e2 := s2 _ _ e1
      have hat : atI (h.map V.int) 0 = some (.int 0) := atI_of (by omega) (by rw [List.getElem?_map]; show Option.map _ h[0]? = _; rw [h0]; rfl)
      refine ⟨_, _, .inl (SqL.of e2), hat, trivial, ?_⟩
      refine ⟨_, _, .inl (SqL.of e2), hat, ?_⟩
      refine ⟨G, h, e2, ho, g, by omega, fun b H3 s3 hb0 hb => ?_⟩
      refine ⟨_, .inl (SqL.of hb), ?_⟩
      rw [List.length_map, gl]
      refine ifB (fun z => by simp at z) fun _ => ?_
      refine ⟨G, SqL.of hb, fun y hy => ⟨g.pos y hy, g.le y hy⟩, fun _ => ?_, fun nc => absurd g.cl nc⟩
      refine ⟨by show 0 ≤ _; omega, fun r2 hr2 => ?_⟩
      have s4 := Same.new (o := .lst []) hr2
      have u := (s2.trans s3).trans s4
      have R4 := R.mono u
      have hb4 := s4 _ _ hb
      have ql := R.len
      rw [List.length_take] at ql
      have nb : b ≠ L := by
        intro z
        rw [z, (R.mono s2).lst] at hb0
        cases hb0
      have pu := R4.push hb4 nb ne
      have et : (tree n).take i ++ [G] = (tree n).take (i + 1) := by rw [List.take_add_one, hG]; rfl
      rw [et] at pu
      have ne' : ∀ x ∈ qs ++ [b], x ≠ L := fun x hx => by
        rcases List.mem_append.mp hx with z | z
        · exact ne x z
        · rw [List.mem_singleton.mp z]; exact nb
      refine neNil (SqL.of R4.lst) (SqL.of upd_same) (ifB (fun z => ?_) fun z => ?_)
      · have qne : qs ≠ [] := by simpa using z
        have i1 : qs.length = (i - 1) + 1 := by
          have : qs.length ≠ 0 := fun c => qne (List.length_eq_zero_iff.mp c)
          omega
        obtain ⟨qb, hqb⟩ : ∃ x, qs[i - 1]? = some x := ⟨_, List.getElem?_eq_getElem (by omega)⟩
        obtain ⟨G', hG'⟩ : ∃ x, (tree n)[i - 1]? = some x := ⟨_, List.getElem?_eq_getElem (by omega)⟩
        have row := R4.row (i - 1) qb G' hqb (by rw [List.getElem?_take_of_lt (by omega)]; exact hG')
        have gl' := (tree_ok n (by omega) G' (List.mem_of_getElem? hG')).2
        refine ⟨_, _, .inl (SqL.of R4.lst), (atI_end (i := i - 1) (by rw [List.length_map]; exact i1)).trans (by rw [List.getElem?_map, hqb]; rfl), ?_⟩
        refine ⟨G', G, SqL.of row, SqL.of hb4, by rw [gl', gl], ?_⟩
        have up := tree_at (n := n) (i := i - 1) (by omega) hG' (by rw [show i - 1 + 1 = i by omega]; exact hG)
        rw [up]
        refine ⟨⟨_, SqL.of R4.lst⟩, _, R4.lst, by rw [List.length_map, sizeLine_eq]; omega, ?_⟩
        exact ⟨_, _, qs ++ [b], rfl, (s1.trans u).put hL, pu, ne'⟩
      · refine ⟨⟨_, SqL.of R4.lst⟩, _, R4.lst, by rw [List.length_map, sizeLine_eq]; omega, ?_⟩
        exact ⟨_, _, qs ++ [b], rfl, (s1.trans u).put hL, pu, ne'⟩
    rintro σ H1 ⟨v, w, qs, rfl, s1, R, ne⟩
    rw [List.length_map, T.len, List.take_length] at R
    exact q L qs H1 s1 hL R

theorem sc__law_next : FnScope ["_law_told", "_law_found", "_law_gaps_here", "_law_last", "_law_size", "_law_number"] ["_law_told"] (defScope s__law_next) := ⟨rfl, rfl, rfl, by decide +kernel, rfl, by decide +kernel, by decide +kernel⟩
theorem ok__law_next {f : Addr} {fd : FuncData} (F : Fun K "_law_next" "_law_next" s__law_next f fd) (B : Blt mg) (ER : Errs K mg) (g__law_closed : G P w K mg base (CX1 P w) "_law_closed" ["_law_gaps_here"] 1 (sClosed63 K)) : FnOk P w K mg base (CX1 P w) 2 f fd ["_law_told"] (sNext63 K) := by
  refine F.okN sc__law_next (fun vs H Q E h => ?_) (fun cdv A outer s H vs Q E hr h => ?_)
  · unfold sNext63 at h; split at h
    · rfl
    · exact h.elim
  · unfold sNext63 at h; split at h
    rotate_left
    · exact h.elim
    rename_i t
    refine ⟨_, (q_scons (q_set (i := 1) sc__law_next.nd rfl (Or.inl rfl) (q_lst q_nil)) (q_scons (q_for PassesOwn.never rfl (q_seq (K := K) (q_v 0)) (q_name (i := 2) sc__law_next.nd rfl (Or.inl rfl)) (q_scons (q_set (i := 3) sc__law_next.nd rfl (Or.inl rfl) (q_cut (q_maxD (K := K) rfl B.max (q_cons (q_v 2) q_nil) q_int))) (q_scons (q_set (i := 4) sc__law_next.nd rfl (Or.inl rfl) q_int) (q_scons (q_while PassesOwn.never (q_tcmp (uo_in (K := K)) (q_v 4) (q_v 2) rfl) (q_sone (q_set (i := 4) sc__law_next.nd rfl (Or.inl rfl) (q_op uo_add (q_v 4) q_int)))) (q_sone (q_for PassesOwn.never rfl (q_range2 B.range (q_cons (q_op uo_add (q_v 3) q_int) (q_cons (q_op uo_add (q_op uo_add (q_v 3) (q_v 4)) q_int) q_nil))) (q_name (i := 5) sc__law_next.nd rfl (Or.inl rfl)) (q_sone (q_sif (q_tval (K := K) (q_g g__law_closed (hr.mono (by decide)) pass1E (q_cons (q_op uo_add (q_v 2) (q_lst (q_cons (q_v 5) q_nil))) q_nil))) (q_sone (q_expr (q_bm (K := K) PySem.F.slot_list_append PySem.F.type_list_append um_append (q_v 1) (q_cons (q_op uo_add (q_v 2) (q_lst (q_cons (q_v 5) q_nil))) q_nil)))) q_snil)))))))) (q_sone (q_ret (q_callB (uc_sortedO (K := K) hr.u8) (by rfl) B.sorted boot_sorted (q_cons (q_v 1) q_nil)))))), ?_⟩
    obtain ⟨qs, n, n8, R, q⟩ := h
    refine ⟨by show 0 ≤ _; omega, fun F hF => ?_⟩
    have s0 := Same.new (o := .lst []) hF
    refine .inl ⟨_, SqL.of (s0 _ _ R.lst), for_list (K := K) (a := t) (xs := qs.map V.ref) (fun i σ H' => ∃ (v w x y : Option V) (rs : List Addr), σ = [some (.ref t), some (.ref F), v, w, x, y] ∧ Same H H' ∧ RowsAt H' F rs (((tree n).take i).flatMap fun G => (nexts G).map fun x => G ++ [x]) ∧ ∀ z ∈ rs, z ≠ F) ⟨none, none, none, none, [], rfl, s0, ⟨upd_same, by simp, fun i q G h1 => by simp at h1⟩, by simp⟩ (fun i σ H' _ ⟨_, _, _, _, _, _, s, _⟩ => SqL.of (s _ _ R.lst)) ?_ ?_⟩
    · rintro i x σ H1 hx ⟨v, w, x', y, rs, rfl, s1, R1, ne1⟩
      obtain ⟨p, hp, rfl⟩ := ref_at hx
      have hi : i < (tree n).length := by rw [← R.len]; exact (List.getElem?_eq_some_iff.mp hp).1
      obtain ⟨G, hG⟩ : ∃ G, (tree n)[i]? = some G := ⟨_, List.getElem?_eq_getElem hi⟩
      obtain ⟨g, gl⟩ := tree_ok n (by omega) G (List.mem_of_getElem? hG)
      have row := R.row i p G hp hG
      have row1 := s1 _ _ row
      obtain ⟨h, ho⟩ := house_ex g
      have hl := ho.len_le g
      have gle := gaps_le2 g
      have few : rs.length ≤ 362880 * 9 := by
        rw [R1.len]
        refine Nat.le_trans (flat_len (c := n + 1) fun G' hG' => ?_) (Nat.mul_le_mul (Nat.le_trans (by rw [List.length_take]; omega) (tree_len (n := n) (by omega))) (by omega))
        obtain ⟨g', gl'⟩ := tree_ok n (by omega) G' (List.mem_of_mem_take hG')
        rw [List.length_map, ← gl']
        exact nexts_few g'
      have rl := R1.len
      refine ⟨fun v H' => ∃ last : Int, v = .int last ∧ (∀ y ∈ G, y ≤ last) ∧ (0 ≤ last ∧ last ≤ 100) ∧ (last = 0 ∨ last ∈ G) ∧ H1 = H', ⟨G, SqL.of row1, fun e => ⟨0, rfl, (by rw [e]; simp), ⟨by omega, by omega⟩, .inl rfl, rfl⟩, fun m hm mx => ⟨m, rfl, mx, ⟨by have := g.pos m hm; omega, by have := gle m hm; omega⟩, .inr hm, rfl⟩⟩, ?_⟩
      rintro _ _ ⟨last, rfl, lmax, ⟨l0, l100⟩, lor, rfl⟩
      refine while_of (fun σ H' => ∃ m : Nat, σ = [some (.ref t), some (.ref F), some (.ref p), some (.int last), some (.int (m : Int)), y] ∧ H1 = H' ∧ 1 ≤ m ∧ ∀ k : Int, 1 ≤ k → k < m → k ∈ G) (fun σ _ => match σ with | [_, _, _, _, some (.int x), _] => (2001 - x).toNat | _ => 0) ⟨1, rfl, rfl, by omega, fun k k1 k2 => by omega⟩ ?_
      rintro σ _ ⟨m, rfl, rfl, m1, low⟩
      refine ⟨_, .inl (SqL.of row1), ⟨rfl, flat_ints G⟩, ifB (fun z => while_go ?_) fun z => ?_⟩
      · rw [inV_ints] at z
        have z' : (m : Int) ∈ G := of_decide_eq_true z
        have := g.le _ z'
        refine ⟨⟨m + 1, rfl, rfl, by omega, fun k k1 k2 => ?_⟩, ?_⟩
        · by_cases e : k = (m : Int)
          · rw [e]; exact z'
          · exact low k k1 (by omega)
        · show (2001 - ((m : Int) + 1)).toNat < (2001 - (m : Int)).toNat
          omega
      rw [inV_ints] at z
      have out : (m : Int) ∉ G := of_decide_eq_false z
      have mh : m = h.length := by
        have a1 := ho.le_len (c := (m : Int)) (by omega) out
        rcases Nat.lt_or_ge h.length m with u | u
        · exact absurd (low (h.length : Int) (by have := ho.pos; omega) (by omega)) ho.out
        · omega
      refine ⟨⟨by omega, by omega, by omega, by omega⟩, ?_⟩
      refine for_range (fun j σ H' => ∃ (y : Option V) (rs' : List Addr), σ = [some (.ref t), some (.ref F), some (.ref p), some (.int last), some (.int (m : Int)), y] ∧ Same H H' ∧ RowsAt H' F rs' ((((tree n).take i).flatMap fun G => (nexts G).map fun x => G ++ [x]) ++ (((List.range j).map fun (k : Nat) => last + 1 + (k : Int)).filter fun x => decide (x ∈ nexts G)).map fun x => G ++ [x]) ∧ ∀ z ∈ rs', z ≠ F) ⟨_, rs, rfl, s1, by simpa using R1, ne1⟩ ?_ ?_
      · rintro j σ H2 hj ⟨y2, rs2, rfl, s2, R2, ne2⟩
        have hj' : j < 100 := by omega
        have row2 := s2 _ _ row
        have few2 : rs2.length ≤ 362880 * 9 + 100 := by
          rw [R2.len, List.length_append, List.length_map, ← rl]
          have := List.length_filter_le (fun x => decide (x ∈ nexts G)) ((List.range j).map fun (k : Nat) => last + 1 + (k : Int))
          rw [List.length_map, List.length_range] at this
          omega
        have er : (List.range (j + 1)).map (fun (k : Nat) => last + 1 + (k : Int)) = (List.range j).map (fun (k : Nat) => last + 1 + (k : Int)) ++ [last + 1 + (j : Int)] := by rw [List.range_succ, List.map_append]; rfl
        have eg : G.map V.int ++ [V.int (last + 1 + (j : Int))] = (G ++ [last + 1 + (j : Int)]).map V.int := by rw [List.map_append]; rfl
        refine ⟨by show 1 ≤ sizeLine; decide, fun r hr => ?_⟩
        have sr := Same.new (o := .lst [.int (last + 1 + (j : Int))]) hr
        refine ⟨_, _, sr _ _ row2, upd_same, by rw [List.length_map, sizeLine_eq]; show _ + 1 ≤ _; omega, fun p1 hp1 => ?_⟩
        have s3 := sr.trans (Same.new (o := .lst (G.map V.int ++ [.int (last + 1 + (j : Int))])) hp1)
        refine ⟨G ++ [last + 1 + (j : Int)], SqL.of (upd_same.trans (congrArg (fun l => some (HO.lst l)) eg)), fun z hz => ?_, fun cl => ?_, fun ncl => ?_⟩
        · rcases List.mem_append.mp hz with c | c
          · exact ⟨g.pos z c, g.le z c⟩
          · rw [List.mem_singleton.mp c]
            exact ⟨by omega, by omega⟩
        · have nx : Next G (last + 1 + (j : Int)) := ⟨by omega, fun y hy => by have := lmax y hy; omega, fun b b1 b2 => by
            rcases cl _ (List.mem_append_right _ (List.mem_singleton.mpr rfl)) b b1 b2 with c | c
            · rcases List.mem_append.mp c with d | d
              · exact .inl d
              · have := List.mem_singleton.mp d; omega
            · rcases List.mem_append.mp c with d | d
              · exact .inr d
              · have := List.mem_singleton.mp d; omega⟩
          have R3 := R2.mono s3
          refine ⟨⟨_, SqL.of R3.lst⟩, by show 1 ≤ sizeLine; decide, fun r2 hr2 => ?_⟩
          have sr2 := s3.trans (Same.new (o := .lst [.int (last + 1 + (j : Int))]) hr2)
          refine ⟨_, _, sr2 _ _ row2, upd_same, by rw [List.length_map, sizeLine_eq]; show _ + 1 ≤ _; omega, fun p2 hp2 => ?_⟩
          have s4 := sr2.trans (Same.new (o := .lst (G.map V.int ++ [.int (last + 1 + (j : Int))])) hp2)
          have R4 := R2.mono s4
          have np : p2 ≠ F := by
            intro z
            rw [z, (R2.mono sr2).lst] at hp2
            cases hp2
          have hp2' := upd_same (H := upd (upd (upd (upd H2 r (.lst [.int (last + 1 + (j : Int))])) p1 (.lst (G.map V.int ++ [.int (last + 1 + (j : Int))]))) r2 (.lst [.int (last + 1 + (j : Int))])) p2 (.lst (G.map V.int ++ [.int (last + 1 + (j : Int))]))) (a := p2) (o := .lst (G.map V.int ++ [.int (last + 1 + (j : Int))]))
          have hp3 : (upd (upd (upd (upd H2 r (.lst [.int (last + 1 + (j : Int))])) p1 (.lst (G.map V.int ++ [.int (last + 1 + (j : Int))]))) r2 (.lst [.int (last + 1 + (j : Int))])) p2 (.lst (G.map V.int ++ [.int (last + 1 + (j : Int))]))) p2 = some (.lst ((G ++ [last + 1 + (j : Int)]).map V.int)) := upd_same.trans (congrArg (fun l => some (HO.lst l)) eg)
          have pu := R4.push hp3 np ne2
          refine ⟨_, R4.lst, by rw [List.length_map, sizeLine_eq]; omega, ?_⟩
          refine ⟨_, rs2 ++ [p2], rfl, (s2.trans s4).put hF, ?_, fun z hz => ?_⟩
          · rw [er, List.filter_append, List.map_append, ← List.append_assoc, List.filter_cons, if_pos (decide_eq_true (mem_nexts.mpr nx))]
            exact pu
          · rcases List.mem_append.mp hz with c | c
            · exact ne2 z c
            · rw [List.mem_singleton.mp c]; exact np
        · have nn : last + 1 + (j : Int) ∉ nexts G := fun c => by
            have nx := mem_nexts.mp c
            exact ncl (nx.gaps g (by omega) (by omega)).cl
          refine ⟨_, rs2, rfl, s2.trans s3, ?_, ne2⟩
          rw [er, List.filter_append, List.map_append, List.filter_cons, if_neg (by rw [decide_eq_false nn]; decide), List.filter_nil, List.map_nil, List.append_nil]
          exact R2.mono s3
      · rintro σ H2 ⟨y2, rs2, rfl, s2, R2, ne2⟩
        refine ⟨_, _, _, _, rs2, rfl, s2, ?_, ne2⟩
        have en : ((List.range (last + (m : Int) + 2 - (last + 1)).toNat).map fun (k : Nat) => last + 1 + (k : Int)).filter (fun x => decide (x ∈ nexts G)) = nexts G := by
          refine rising_eq ?_ (nexts_up G) fun x => ?_
          · refine List.Pairwise.filter _ ?_
            rw [List.pairwise_map]
            exact List.pairwise_lt_range.imp fun hab => by omega
          · rw [List.mem_filter, decide_eq_true_iff, List.mem_map]
            refine ⟨fun c => c.2, fun c => ⟨?_, c⟩⟩
            have nx := mem_nexts.mp c
            have a1 := next_le ho nx lmax l0
            have a2 : last < x := by
              rcases lor with e | e
              · have := nx.pos; omega
              · exact nx.top _ e
            exact ⟨(x - last - 1).toNat, List.mem_range.mpr (by omega), by omega⟩
        rw [en] at R2
        rw [List.take_add_one, hG, Option.toList_some, List.flatMap_append, List.flatMap_cons, List.flatMap_nil, List.append_nil]
        exact R2
    rintro σ H1 ⟨v, w, x', y, rs, rfl, s1, R1, ne1⟩
    rw [List.length_map, R.len, List.take_length] at R1
    have R1' : RowsAt H1 F rs (tree (n + 1)) := R1
    refine ⟨rs, fun i => (tree (n + 1)).getD i [], SqL.of R1'.lst, fun i q hq => ?_, fun i hi => ?_, fun l hl => ?_⟩
    · have hi : i < (tree (n + 1)).length := by rw [← R1'.len]; exact (List.getElem?_eq_some_iff.mp hq).1
      show SqL K H1 q (((tree (n + 1)).getD i []).map V.int)
      rw [List.getD_eq_getElem?_getD, List.getElem?_eq_getElem hi]
      exact SqL.of (R1'.row i q _ hq (List.getElem?_eq_getElem hi))
    · rw [R1'.len] at hi
      dsimp only
      rw [List.getD_eq_getElem?_getD, List.getD_eq_getElem?_getD, List.getElem?_eq_getElem hi, List.getElem?_eq_getElem (show i < (tree (n + 1)).length by omega)]
      refine ⟨?_, lexLt_asym (tree_at (n := n + 1) (by omega) (List.getElem?_eq_getElem (by omega)) (List.getElem?_eq_getElem hi))⟩
      show ((tree (n + 1))[i + 1]).length = ((tree (n + 1))[i]).length
      rw [(tree_ok (n + 1) (by omega) _ (List.getElem_mem _)).2, (tree_ok (n + 1) (by omega) _ (List.getElem_mem _)).2]
    · exact q l rs _ (s1.trans (Same.new hl)) (s1.free hl) ⟨upd_same, R1'.len, fun i q' G h1 h2 => (Same.new hl) _ _ (R1'.row i q' G h1 h2)⟩

end
end PG

set_option Elab.async false
set_option linter.all false
set_option maxRecDepth 100000
set_option maxHeartbeats 4000000
namespace PG
open PySem L2 PyProof.Rows

section
variable {P : Program} {w : World} {K : PySem.W.Frag} {mg : Str → Option Value} {base : Heap}

theorem sc__law_refused : FnScope ["_law_thing", "_law_great", "_law_came", "error", "_law_kinds"] ["_law_thing", "_law_great"] (defScope s__law_refused) := ⟨rfl, rfl, rfl, by decide +kernel, rfl, by decide +kernel, by decide +kernel⟩
theorem ok__law_refused {f : Addr} {fd : FuncData} (F : Fun K "_law_refused" "_law_refused" s__law_refused f fd) (B : Blt mg) (ER : Errs K mg) (g_houses_with : G P w K mg base (CX1 P w) "houses_with" ["number"] 5 (sHW63 K ER.a_NoSum ER.a_TooMany)) : FnOk P w K mg base (CX1 P w) 6 f fd ["_law_thing", "_law_great"] (sRef63 K) := by
  refine F.okN sc__law_refused (fun vs H Q E h => ?_) (fun cdv A outer s H vs Q E hr h => ?_)
  · unfold sRef63 at h; split at h
    · rfl
    · exact h.elim
  · unfold sRef63 at h; split at h
    rotate_left
    · exact h.elim
    rename_i x g
    refine ⟨_, (q_scons (q_set (i := 2) sc__law_refused.nd rfl (Or.inl rfl) q_non) (q_scons (q_tryD (i := 3) (K := K) ER.m_PayError sc__law_refused.nd rfl rfl (q_xexpr (q_xg g_houses_with (hr.mono (by decide)) (q_cons (q_v 0) q_nil))) (fun _ => (q_sone (q_set (i := 2) sc__law_refused.nd rfl (Or.inl rfl) (q_v 3))))) (q_scons (q_set (i := 4) sc__law_refused.nd rfl (Or.inl rfl) (q_lst (q_cons (q_callB (uc_isiD (K := K)) (by rfl) B.isi boot_isinstance (q_cons (q_v 2) (q_cons (q_glob (v := .ref ER.a_NoSum) (by rfl) ER.m_NoSum rfl) q_nil))) (q_cons (q_callB (uc_isiD (K := K)) (by rfl) B.isi boot_isinstance (q_cons (q_v 2) (q_cons (q_glob (v := .ref ER.a_TooMany) (by rfl) ER.m_TooMany rfl) q_nil))) (q_cons (q_callB (uc_isiD (K := K)) (by rfl) B.isi boot_isinstance (q_cons (q_v 2) (q_cons (q_glob (v := .ref ER.a_NoChange) (by rfl) ER.m_NoChange rfl) q_nil))) (q_cons (q_callB (uc_isiD (K := K)) (by rfl) B.isi boot_isinstance (q_cons (q_v 2) (q_cons (q_glob (v := .ref ER.a_NoCoins) (by rfl) ER.m_NoCoins rfl) q_nil))) q_nil)))))) (q_scons (q_set (i := 4) sc__law_refused.nd rfl (Or.inl rfl) (q_op uo_add (q_v 4) (q_lst (q_cons (q_callB (uc_isiD (K := K)) (by rfl) B.isi boot_isinstance (q_cons (q_v 2) (q_cons (q_glob (v := .ref ER.a_NoGaps) (by rfl) ER.m_NoGaps rfl) q_nil))) (q_cons (q_callB (uc_isiD (K := K)) (by rfl) B.isi boot_isinstance (q_cons (q_v 2) (q_cons (q_glob (v := .ref ER.a_NoOne) (by rfl) ER.m_NoOne rfl) q_nil))) (q_cons (q_callB (uc_isiD (K := K)) (by rfl) B.isi boot_isinstance (q_cons (q_v 2) (q_cons (q_glob (v := .ref ER.a_NoPaying) (by rfl) ER.m_NoPaying rfl) q_nil))) q_nil)))))) (q_scons (q_set (i := 4) sc__law_refused.nd rfl (Or.inl rfl) (q_op uo_add (q_v 4) (q_lst (q_cons (q_callB (uc_isiD (K := K)) (by rfl) B.isi boot_isinstance (q_cons (q_v 2) (q_cons (q_glob (v := .ref ER.a_Shared) (by rfl) ER.m_Shared rfl) q_nil))) (q_cons (q_callB (uc_isiD (K := K)) (by rfl) B.isi boot_isinstance (q_cons (q_v 2) (q_cons (q_glob (v := .ref ER.a_TooLittle) (by rfl) ER.m_TooLittle rfl) q_nil))) (q_cons (q_callB (uc_isiD (K := K)) (by rfl) B.isi boot_isinstance (q_cons (q_v 2) (q_cons (q_glob (v := .ref ER.a_Unclosed) (by rfl) ER.m_Unclosed rfl) q_nil))) q_nil)))))) (q_sone (q_ret (q_and (q_cmp (uo_eq (K := K) hr.u8) (q_bm (K := K) PySem.F.slot_list_count PySem.F.type_list_count (um_countB (K := K)) (q_v 4) (q_cons q_bl q_nil)) q_int (nomark _)) (q_and (q_ix (ux (K := K)) (q_v 4) (q_callTy uc_int (by rfl) B.int boot_int (q_cons (q_v 1) q_nil)) (fun _ _ => rfl)) (q_one (q_callB (uc_isiD (K := K)) (by rfl) B.isi boot_isinstance (q_cons (q_v 2) (q_cons (q_bltn (v := .ty "ValueError") (by rfl) B.ValueError PyProof.Rows.Boot.«ValueError» rfl) q_nil))))))))))))), ?_⟩
    obtain ⟨kn, hc, q⟩ := h
    refine ⟨kn, fun n en n9 => ?_, fun ne => ⟨ER.a_NoSum, rfl, ER.t_NoSum, fun ea hea => ?_⟩, fun n en n10 => ⟨ER.a_TooMany, rfl, ER.t_TooMany, fun ea hea => ?_⟩⟩
    · exfalso
      rcases hc with ⟨_, hn⟩ | ⟨_, m, em, hm⟩
      · exact hn ⟨_, en, by omega⟩
      · rw [en] at em
        cases em
        omega
    · rcases hc with ⟨rfl, _⟩ | ⟨_, m, em, hm⟩
      · have sx := Same.new (o := excD ea ER.a_NoSum none) hea
        have hx : (upd H ea (excD ea ER.a_NoSum none)) ea = some (excD ea ER.a_NoSum none) := upd_same
        generalize upd H ea (excD ea ER.a_NoSum none) = Hx at sx hx ⊢
        refine ⟨_, _, hx, ER.c_NoSum, .inl ⟨_, ER.k_NoSum_NoSum, _, _, hx, ER.c_NoSum, .inl ⟨_, ER.k_NoSum_TooMany, _, _, hx, ER.c_NoSum, .inl ⟨_, ER.k_NoSum_NoChange, _, _, hx, ER.c_NoSum, .inl ⟨_, ER.k_NoSum_NoCoins, ?_⟩⟩⟩⟩⟩
        refine ⟨by show 4 ≤ sizeLine; decide, fun l0 hl0 => ?_⟩
        have s0 := Same.new (o := .lst [.bl true, .bl false, .bl false, .bl false]) hl0
        have hk0 : (upd Hx l0 (.lst [.bl true, .bl false, .bl false, .bl false])) l0 = some (.lst ([true, false, false, false].map V.bl)) := upd_same
        have t0 := s0
        have hx1 := s0 _ _ hx
        generalize upd Hx l0 (.lst [.bl true, .bl false, .bl false, .bl false]) = H0 at s0 hk0 t0 hx1 ⊢
        refine ⟨_, _, hx1, ER.c_NoSum, .inl ⟨_, ER.k_NoSum_NoGaps, _, _, hx1, ER.c_NoSum, .inl ⟨_, ER.k_NoSum_NoOne, _, _, hx1, ER.c_NoSum, .inl ⟨_, ER.k_NoSum_NoPaying, ?_⟩⟩⟩⟩
        refine ⟨by show 3 ≤ sizeLine; decide, fun l1 hl1 => ?_⟩
        have s1 := Same.new (o := .lst [.bl false, .bl false, .bl false]) hl1
        refine ⟨_, _, s1 _ _ hk0, upd_same, by show 4 + 3 ≤ _; rw [sizeLine_eq]; omega, fun m1 hm1 => ?_⟩
        have u1 := s1.trans (Same.new (o := .lst ([true, false, false, false].map V.bl ++ [.bl false, .bl false, .bl false])) hm1)
        have hk1 : (upd (upd H0 l1 (.lst [.bl false, .bl false, .bl false])) m1 (.lst ([true, false, false, false].map V.bl ++ [.bl false, .bl false, .bl false]))) m1 = some (.lst ([true, false, false, false, false, false, false].map V.bl)) := upd_same
        have t1 := t0.trans u1
        have hx2 := u1 _ _ hx1
        generalize upd (upd H0 l1 (.lst [.bl false, .bl false, .bl false])) m1 (.lst ([true, false, false, false].map V.bl ++ [.bl false, .bl false, .bl false])) = H1 at u1 hk1 t1 hx2 ⊢
        refine ⟨_, _, hx2, ER.c_NoSum, .inl ⟨_, ER.k_NoSum_Shared, _, _, hx2, ER.c_NoSum, .inl ⟨_, ER.k_NoSum_TooLittle, _, _, hx2, ER.c_NoSum, .inl ⟨_, ER.k_NoSum_Unclosed, ?_⟩⟩⟩⟩
        refine ⟨by show 3 ≤ sizeLine; decide, fun l2 hl2 => ?_⟩
        have s2 := Same.new (o := .lst [.bl false, .bl false, .bl false]) hl2
        refine ⟨_, _, s2 _ _ hk1, upd_same, by show 7 + 3 ≤ _; rw [sizeLine_eq]; omega, fun m2 hm2 => ?_⟩
        have u2 := s2.trans (Same.new (o := .lst ([true, false, false, false, false, false, false].map V.bl ++ [.bl false, .bl false, .bl false])) hm2)
        have hk2 : (upd (upd H1 l2 (.lst [.bl false, .bl false, .bl false])) m2 (.lst ([true, false, false, false, false, false, false].map V.bl ++ [.bl false, .bl false, .bl false]))) m2 = some (.lst ([true, false, false, false, false, false, false, false, false, false].map V.bl)) := upd_same
        have t2 := t1.trans u2
        have hx3 := u2 _ _ hx2
        generalize upd (upd H1 l2 (.lst [.bl false, .bl false, .bl false])) m2 (.lst ([true, false, false, false, false, false, false].map V.bl ++ [.bl false, .bl false, .bl false])) = H2 at u2 hk2 t2 hx3 ⊢
        refine ⟨⟨_, SqL.of hk2⟩, [true, false, false, false, false, false, false, false, false, false], SqL.of hk2, ?_⟩
        refine ⟨_, _, .inl (SqL.of hk2), rfl, ?_⟩
        exact ⟨_, _, hx3, ER.c_NoSum, _, ER.v_NoSum, q _ (sx.trans t2)⟩
      · exact absurd ⟨m, em, by omega⟩ ne
    · rcases hc with ⟨_, hn⟩ | ⟨rfl, _⟩
      · exact absurd ⟨n, en, by omega⟩ hn
      · have sx := Same.new (o := excD ea ER.a_TooMany none) hea
        have hx : (upd H ea (excD ea ER.a_TooMany none)) ea = some (excD ea ER.a_TooMany none) := upd_same
        generalize upd H ea (excD ea ER.a_TooMany none) = Hx at sx hx ⊢
        refine ⟨_, _, hx, ER.c_TooMany, .inl ⟨_, ER.k_TooMany_NoSum, _, _, hx, ER.c_TooMany, .inl ⟨_, ER.k_TooMany_TooMany, _, _, hx, ER.c_TooMany, .inl ⟨_, ER.k_TooMany_NoChange, _, _, hx, ER.c_TooMany, .inl ⟨_, ER.k_TooMany_NoCoins, ?_⟩⟩⟩⟩⟩
        refine ⟨by show 4 ≤ sizeLine; decide, fun l0 hl0 => ?_⟩
        have s0 := Same.new (o := .lst [.bl false, .bl true, .bl false, .bl false]) hl0
        have hk0 : (upd Hx l0 (.lst [.bl false, .bl true, .bl false, .bl false])) l0 = some (.lst ([false, true, false, false].map V.bl)) := upd_same
        have t0 := s0
        have hx1 := s0 _ _ hx
        generalize upd Hx l0 (.lst [.bl false, .bl true, .bl false, .bl false]) = H0 at s0 hk0 t0 hx1 ⊢
        refine ⟨_, _, hx1, ER.c_TooMany, .inl ⟨_, ER.k_TooMany_NoGaps, _, _, hx1, ER.c_TooMany, .inl ⟨_, ER.k_TooMany_NoOne, _, _, hx1, ER.c_TooMany, .inl ⟨_, ER.k_TooMany_NoPaying, ?_⟩⟩⟩⟩
        refine ⟨by show 3 ≤ sizeLine; decide, fun l1 hl1 => ?_⟩
        have s1 := Same.new (o := .lst [.bl false, .bl false, .bl false]) hl1
        refine ⟨_, _, s1 _ _ hk0, upd_same, by show 4 + 3 ≤ _; rw [sizeLine_eq]; omega, fun m1 hm1 => ?_⟩
        have u1 := s1.trans (Same.new (o := .lst ([false, true, false, false].map V.bl ++ [.bl false, .bl false, .bl false])) hm1)
        have hk1 : (upd (upd H0 l1 (.lst [.bl false, .bl false, .bl false])) m1 (.lst ([false, true, false, false].map V.bl ++ [.bl false, .bl false, .bl false]))) m1 = some (.lst ([false, true, false, false, false, false, false].map V.bl)) := upd_same
        have t1 := t0.trans u1
        have hx2 := u1 _ _ hx1
        generalize upd (upd H0 l1 (.lst [.bl false, .bl false, .bl false])) m1 (.lst ([false, true, false, false].map V.bl ++ [.bl false, .bl false, .bl false])) = H1 at u1 hk1 t1 hx2 ⊢
        refine ⟨_, _, hx2, ER.c_TooMany, .inl ⟨_, ER.k_TooMany_Shared, _, _, hx2, ER.c_TooMany, .inl ⟨_, ER.k_TooMany_TooLittle, _, _, hx2, ER.c_TooMany, .inl ⟨_, ER.k_TooMany_Unclosed, ?_⟩⟩⟩⟩
        refine ⟨by show 3 ≤ sizeLine; decide, fun l2 hl2 => ?_⟩
        have s2 := Same.new (o := .lst [.bl false, .bl false, .bl false]) hl2
        refine ⟨_, _, s2 _ _ hk1, upd_same, by show 7 + 3 ≤ _; rw [sizeLine_eq]; omega, fun m2 hm2 => ?_⟩
        have u2 := s2.trans (Same.new (o := .lst ([false, true, false, false, false, false, false].map V.bl ++ [.bl false, .bl false, .bl false])) hm2)
        have hk2 : (upd (upd H1 l2 (.lst [.bl false, .bl false, .bl false])) m2 (.lst ([false, true, false, false, false, false, false].map V.bl ++ [.bl false, .bl false, .bl false]))) m2 = some (.lst ([false, true, false, false, false, false, false, false, false, false].map V.bl)) := upd_same
        have t2 := t1.trans u2
        have hx3 := u2 _ _ hx2
        generalize upd (upd H1 l2 (.lst [.bl false, .bl false, .bl false])) m2 (.lst ([false, true, false, false, false, false, false].map V.bl ++ [.bl false, .bl false, .bl false])) = H2 at u2 hk2 t2 hx3 ⊢
        refine ⟨⟨_, SqL.of hk2⟩, [false, true, false, false, false, false, false, false, false, false], SqL.of hk2, ?_⟩
        refine ⟨_, _, .inl (SqL.of hk2), rfl, ?_⟩
        exact ⟨_, _, hx3, ER.c_TooMany, _, ER.v_TooMany, q _ (sx.trans t2)⟩

theorem sc_law : FnScope ["_law_script", "_law_many", "_law_far", "_law_found", "_law_told", "_law_longer", "_law_held", "_law_house"] ["_law_script"] (defScope s_law) := ⟨rfl, rfl, rfl, by decide +kernel, rfl, by decide +kernel, by decide +kernel⟩
theorem ok_law {f : Addr} {fd : FuncData} (F : Fun K "law" "law" s_law f fd) (B : Blt mg) (ER : Errs K mg) (g_houses_with : G P w K mg base (CX1 P w) "houses_with" ["number"] 5 (sHW63 K ER.a_NoSum ER.a_TooMany)) (g__law_cell : G P w K mg base (CX1 P w) "_law_cell" ["_law_script", "_law_k"] 1 (sCell63 K)) (g__law_all : G P w K mg base (CX1 P w) "_law_all" ["_law_found", "_law_many"] 3 (sTold63 K)) (g__law_next : G P w K mg base (CX1 P w) "_law_next" ["_law_told"] 2 (sNext63 K)) (g__law_refused : G P w K mg base (CX1 P w) "_law_refused" ["_law_thing", "_law_great"] 6 (sRef63 K)) : FnOk P w K mg base (CX1 P w) 7 f fd ["_law_script"] (sLaw K) := by
  refine F.okN sc_law (fun vs H Q E h => ?_) (fun cdv A outer s H vs Q E hr h => ?_)
  · unfold sLaw at h; split at h
    · rfl
    · exact h.elim
  · unfold sLaw at h; split at h
    rotate_left
    · exact h.elim
    rename_i a
    refine ⟨_, (q_scons (q_set (i := 1) sc_law.nd rfl (Or.inl rfl) (q_cut (q_op uo_mod (q_g g__law_cell (hr.mono (by decide)) pass1E (q_cons (q_v 0) (q_cons q_int q_nil))) q_int))) (q_scons (q_set (i := 2) sc_law.nd rfl (Or.inl rfl) (q_cut (q_op uo_mod (q_callB uc_abs (by rfl) B.abs boot_abs (q_cons (q_g g__law_cell (hr.mono (by decide)) pass1E (q_cons (q_v 0) (q_cons q_int q_nil))) q_nil)) (q_op uo_pow q_int q_int)))) (q_scons (q_sif (q_tnot (q_tval (K := K) (q_g g__law_refused (hr.mono (by decide)) pass1E (q_cons (q_ix (ux (K := K)) (q_lst (q_cons (q_un uu_neg q_int) (q_cons (q_op uo_sub (q_un uu_neg q_int) (q_v 2)) (q_cons q_bl (q_cons q_bl (q_cons q_non (q_cons q_str (q_cons (q_tup (q_cons q_int q_nil)) (q_cons (q_lst (q_cons q_int q_nil)) (q_cons q_dnew q_nil)))))))))) (q_op uo_mod (q_g g__law_cell (hr.mono (by decide)) pass1E (q_cons (q_v 0) (q_cons q_int q_nil))) q_int) (fun _ _ => rfl)) (q_cons q_bl q_nil))))) (q_sone (q_ret q_bl)) q_snil) (q_scons (q_sif (q_tnot (q_tval (K := K) (q_g g__law_refused (hr.mono (by decide)) pass1E (q_cons (q_op uo_add q_int (q_op uo_mul (q_v 2) (q_op uo_mod (q_op uo_fdiv (q_g g__law_cell (hr.mono (by decide)) pass1E (q_cons (q_v 0) (q_cons q_int q_nil))) q_int) q_int))) (q_cons q_bl q_nil))))) (q_sone (q_ret q_bl)) q_snil) (q_scons (q_set (i := 3) sc_law.nd rfl (Or.inl rfl) (q_g g_houses_with (hr.mono (by decide)) pass1E (q_cons (q_v 1) q_nil))) (q_scons (q_set (i := 4) sc_law.nd rfl (Or.inl rfl) (q_g g__law_all (hr.mono (by decide)) pass1E (q_cons (q_v 3) (q_cons (q_v 1) q_nil)))) (q_scons (q_set (i := 5) sc_law.nd rfl (Or.inl rfl) (q_g g__law_all (hr.mono (by decide)) pass1E (q_cons (q_g g_houses_with (hr.mono (by decide)) pass1E (q_cons (q_op uo_add (q_v 1) q_int) q_nil)) (q_cons (q_op uo_add (q_v 1) q_int) q_nil)))) (q_scons (q_sif (q_tw (q_tor (q_tcmp uo_is (q_v 4) q_non (nomark _)) (q_tor (q_tcmp uo_is (q_v 5) q_non (nomark _)) (q_tor1 (q_tcmp (uo_ne (K := K) hr.u8) (q_v 5) (q_g g__law_next (hr.mono (by decide)) pass1E (q_cons (q_v 4) q_nil)) (nomark _)))))) (q_sone (q_ret q_bl)) q_snil) (q_scut (q_sif (q_tw (q_tand (q_tcmp (uo_eq (K := K) hr.u8) (q_v 1) q_int (nomark _)) (q_tand1 (q_tcmp (uo_ne (K := K) hr.u8) (q_v 3) (q_lst (q_cons (q_lst (q_cons q_int q_nil)) q_nil)) (nomark _))))) (q_sone (q_ret q_bl)) q_snil) (q_scons (q_setC (i := 6) [none] ["_law_house"] sc_law.nd rfl rfl rfl (by kernel_rfl) (q_seq (K := K) (q_v 3)) (fun _ _ _ _ _ => (q_name (i := 0) (show List.Nodup (["_law_house"] : List Str) from by decide +kernel) rfl (Or.inl rfl))) (fun _ _ _ _ _ => q_fnil) (fun _ _ _ _ _ => (q_callTy (uc_list (K := K)) (by rfl) B.list boot_list (q_cons (q_v 0) q_nil)))) (q_scons (q_for PassesOwn.never rfl (q_seq (K := K) (q_v 3)) (q_name (i := 7) sc_law.nd rfl (Or.inl rfl)) (q_sone (q_expr (q_bm (K := K) PySem.F.slot_list_append PySem.F.type_list_append um_append (q_v 7) (q_cons q_int q_nil))))) (q_scons (q_expr (q_bm (K := K) PySem.F.slot_list_append PySem.F.type_list_append um_append (q_v 3) (q_cons (q_lst q_nil) q_nil))) (q_sone (q_ret (q_cmp (uo_eq (K := K) hr.u8) (q_g g_houses_with (hr.mono (by decide)) pass1E (q_cons (q_v 1) q_nil)) (q_v 6) (nomark _)))))))))))))))), ?_⟩
    obtain ⟨ns, hS, hl, q⟩ := h
    refine ⟨fun v H' => ∃ k : Nat, v = .int (k : Int) ∧ k ≤ 8 ∧ H = H', ⟨ns, hS, by decide, fun n0 => ⟨by decide, (n0 % 9).toNat, ?_, ?_, rfl⟩⟩, ?_⟩
    · rw [Int.toNat_of_nonneg (Int.emod_nonneg _ (by omega))]
    · omega
    rintro _ _ ⟨k, rfl, k8, rfl⟩
    refine ⟨fun v H' => ∃ f : Int, v = .int f ∧ 0 ≤ f ∧ H = H', ⟨ns, hS, by decide, fun n1 => ?_⟩, ?_⟩
    · refine ⟨⟨by decide, by decide, by decide⟩, by decide, _, rfl, ?_, rfl⟩
      exact Int.emod_nonneg _ (by decide)
    rintro _ _ ⟨far, rfl, f0, rfl⟩
    refine ⟨by show 1 ≤ sizeLine; decide, fun T hT => ⟨by show 1 ≤ sizeLine; decide, fun l hl' => fun d hd => ⟨by show 9 ≤ sizeLine; decide, fun o ho => ?_⟩⟩⟩
    have sT := Same.new (o := .tup [.int 1]) hT
    have sl := Same.new (o := .lst [.int 1]) hl'
    have sd := Same.new (o := .dK []) hd
    have so := Same.new (o := .lst [V.int (-1), V.int (-1 - far), V.bl true, V.bl false, V.non, V.str "3", V.ref T, V.ref l, V.ref d]) ho
    have tt := ((sT.trans sl).trans sd).trans so
    refine ⟨ns, tt.seq hS, by decide, fun c => ⟨by decide, ?_⟩⟩
    obtain ⟨v, hv, hm, _⟩ := atI_lt (xs := [V.int (-1), V.int (-1 - far), V.bl true, V.bl false, V.non, V.str "3", V.ref T, V.ref l, V.ref d]) (k := c % 9) (Int.emod_nonneg _ (by omega)) (by show c % 9 < 9; omega)
    refine ⟨_, v, .inl (SqL.of upd_same), hv, ?_⟩
    have kv : Kn (upd (upd (upd (upd H T (.tup [.int 1])) l (.lst [.int 1])) d (.dK [])) o (.lst [V.int (-1), V.int (-1 - far), V.bl true, V.bl false, V.non, V.str "3", V.ref T, V.ref l, V.ref d])) v ∧ ¬ ∃ n : Int, v = .int n ∧ 0 ≤ n := by
      simp only [List.mem_cons, List.not_mem_nil, or_false] at hm
      rcases hm with rfl | rfl | rfl | rfl | rfl | rfl | rfl | rfl | rfl
      · exact ⟨trivial, by rintro ⟨n, e, hn⟩; cases e; omega⟩
      · exact ⟨trivial, by rintro ⟨n, e, hn⟩; cases e; omega⟩
      · exact ⟨trivial, by rintro ⟨n, e, hn⟩; cases e⟩
      · exact ⟨trivial, by rintro ⟨n, e, hn⟩; cases e⟩
      · exact ⟨trivial, by rintro ⟨n, e, hn⟩; cases e⟩
      · exact ⟨trivial, by rintro ⟨n, e, hn⟩; cases e⟩
      · exact ⟨.inr (.inl ⟨_, ((sl.trans sd).trans so) _ _ upd_same⟩), by rintro ⟨n, e, hn⟩; cases e⟩
      · exact ⟨.inl ⟨_, (sd.trans so) _ _ upd_same⟩, by rintro ⟨n, e, hn⟩; cases e⟩
      · exact ⟨.inr (.inr ⟨_, so _ _ upd_same⟩), by rintro ⟨n, e, hn⟩; cases e⟩
    refine ⟨kv.1, .inl ⟨rfl, kv.2⟩, fun H1 s1 => ?_⟩
    have t1 := tt.trans s1
    refine ⟨ns, t1.seq hS, by decide, fun c2 => ⟨⟨by decide, by decide⟩, by decide, .inr ⟨by omega, by omega⟩, ?_⟩⟩
    refine ⟨trivial, .inr ⟨rfl, _, rfl, ?_⟩, fun H2 s2 => ?_⟩
    · have := Int.mul_nonneg f0 (Int.emod_nonneg (c2 / 9) (show (2 : Int) ≠ 0 by omega))
      omega
    refine ⟨trivial, fun n en n9 P ps H3 s3 T3 => ?_, fun ne => absurd ⟨_, rfl, by omega⟩ ne, fun n en hn => by cases en; omega⟩
    have en' : k = n := by have := V.int.inj en; omega
    subst en'
    refine ⟨ps, k, rfl, by omega, T3, fun L qs H4 s4 hL R4 => ?_⟩
    refine ⟨trivial, fun n en n9 P2 ps2 H5 s5 T5 => ?_, fun ne => absurd ⟨_, rfl, by omega⟩ ne, fun n en hn => by cases en; omega⟩
    have en2 : n = k + 1 := by have := V.int.inj en; omega
    subst en2
    refine ⟨ps2, k + 1, by push_cast; rfl, by omega, T5, fun Lb qs2 H6 s6 hLb R6 => ?_⟩
    refine ⟨qs, k, by omega, R4.mono (s5.trans s6), fun p rs H7 s7 hp R7 => ?_⟩
    refine neSelf (SqL.of (R6.mono s7).lst) (SqL.of R7.lst) (by rw [List.length_map, List.length_map, R6.len, R7.len]) (fun j x y hx hy => ?_) ?_
    · obtain ⟨x', ex, rfl⟩ := ref_at hx
      obtain ⟨y', ey, rfl⟩ := ref_at hy
      obtain ⟨G, hG⟩ : ∃ G, (tree (k + 1))[j]? = some G := ⟨_, List.getElem?_eq_getElem (by rw [← R7.len]; exact (List.getElem?_eq_some_iff.mp ey).1)⟩
      exact eqv_eq ((R6.mono s7).row j x' G ex hG) (R7.row j y' G ey hG)
    have u : Same H3 H7 := ((s4.trans s5).trans s6).trans s7
    refine ⟨fun σ' H' => σ' = [some (.ref a), some (.int (k : Int)), some (.int far), some (.ref P), some (.ref L), some (.ref Lb), none, none] ∧ Same H7 H', ?_, ?_⟩
    · refine ifB (fun z => ?_) fun z => ⟨rfl, Same.refl _⟩
      have z' : (k : Int) = 0 := of_decide_eq_true z
      have k0 : k = 0 := by omega
      subst k0
      refine ⟨by show 1 ≤ sizeLine; decide, fun z0 hz0 => ⟨by show 1 ≤ sizeLine; decide, fun z1 hz1 => ?_⟩⟩
      have sz := (Same.new (o := .lst [.int 0]) hz0).trans (Same.new (o := .lst [.ref z0]) hz1)
      have Tz := T3.mono (u.trans sz)
      refine neSelf (SqL.of Tz.lst) (SqL.of upd_same) (by rw [List.length_map, Tz.len]; rfl) (fun j x y hx hy => ?_) ?_
      · obtain ⟨x', ex, rfl⟩ := ref_at hx
        cases j with
        | zero =>
          have e0 : V.ref z0 = y := by simpa using hy
          subst e0
          obtain ⟨h, e, ho⟩ := Tz.kid 0 x' [] ex rfl
          have e1 := ho.uniq HouseOf.nil
          subst e1
          exact eqv_eq e ((Same.new hz1) _ _ upd_same)
        | succ j => simp at hy
      exact ⟨rfl, sz⟩
    rintro _ H8 ⟨rfl, s8⟩
    have T8 := T3.mono (u.trans s8)
    have pl : ps.length ≤ 362880 := by rw [T8.len]; exact tree_len (by omega)
    refine .inl ⟨_, SqL.of T8.lst, comp_objs (fun i D fs => ∃ q h, ps[i]? = some q ∧ H8 q = some (.lst (List.map V.int h)) ∧ fs = [(D, .lst (List.map V.int h))]) (jp_list (SqL.of T8.lst)) (by rw [List.length_map, sizeLine_eq]; omega) (keepName rfl) (fun i x H' R Z hi sm hx hR => ?_) (fun D H9 ds hD s9 hDl dl hds => ?_)⟩
    · obtain ⟨q', eq, rfl⟩ := ref_at hx
      obtain ⟨G, hG, h, e, ho⟩ := T8.at (List.mem_of_getElem? eq)
      refine tT ⟨_, .inl (SqL.of (sm _ _ e)), fun D2 hD2 => ?_⟩
      refine hR D2 [(D2, .lst (h.map V.int))] _ (Same.new hD2) (fun w hw => ?_) ⟨q', h, eq, e, rfl⟩
      rw [List.mem_singleton.mp hw]
      exact ⟨hD2, upd_same⟩
    have T9 := T8.mono s9
    have nP : P ∉ ps := fun hq => T9.ne hq rfl
    refine .inl ⟨_, SqL.of T9.lst, for_list (K := K) (a := P) (xs := ps.map V.ref) (fun i σ H' => ∃ v : Option V, σ = [some (.ref a), some (.int (k : Int)), some (.int far), some (.ref P), some (.ref L), some (.ref Lb), some (.ref D), v] ∧ (∀ x, x ∉ ps → H' x = H9 x) ∧ ∀ q ∈ ps, ∃ zs, H' q = some (.lst zs) ∧ zs.length ≤ 2000 + i) ⟨none, rfl, fun _ _ => rfl, fun q hq => ?_⟩ (fun i σ H' _ ⟨_, _, e, _⟩ => SqL.of ((e P nP).trans T9.lst)) ?_ ?_⟩
    · obtain ⟨G, hG, h, e, ho⟩ := T9.at hq
      obtain ⟨g, gl⟩ := tree_ok k (by omega) G hG
      have := ho.len_le g
      exact ⟨_, e, by rw [List.length_map]; omega⟩
    · rintro i x σ H' hx ⟨v, rfl, e, kq⟩
      obtain ⟨p', ep, rfl⟩ := ref_at hx
      have mp := List.mem_of_getElem? ep
      have ip := (List.getElem?_eq_some_iff.mp ep).1
      obtain ⟨zs, hz, zl⟩ := kq p' mp
      refine ⟨⟨_, SqL.of hz⟩, _, hz, by rw [sizeLine_eq]; omega, ⟨_, rfl, fun x hx => ?_, fun q hq => ?_⟩⟩
      · have nx : x ≠ p' := fun z => by
          rw [z] at hx
          exact hx mp
        rw [upd_ne nx, e x hx]
      · by_cases z : q = p'
        · subst z
          exact ⟨_, upd_same, by rw [List.length_append]; show _ + 1 ≤ _; omega⟩
        · obtain ⟨zs', h1, h2⟩ := kq q hq
          exact ⟨zs', by rw [upd_ne z]; exact h1, by omega⟩
    rintro σ H10 ⟨v10, rfl, e10, kq⟩
    have hP10 : H10 P = some (.lst (ps.map V.ref)) := (e10 P nP).trans T9.lst
    refine ⟨⟨_, SqL.of hP10⟩, by show 0 ≤ _; omega, fun r hr => ?_⟩
    refine ⟨_, (Same.new hr) _ _ hP10, by rw [List.length_map, sizeLine_eq]; omega, ?_⟩
    have at11 : ∀ (x : Addr) (o : HO), H8 x = none → H9 x = some o → (upd (upd H10 r (.lst [])) P (.lst (ps.map V.ref ++ [.ref r]))) x = some o := fun x o h8 h9 => by
      have n1 : x ∉ ps := fun c => by
        obtain ⟨G, _, h, e, _⟩ := T8.at c
        rw [h8] at e
        cases e
      have n2 : x ≠ P := fun c => by
        rw [c, T8.lst] at h8
        cases h8
      have h10 := (e10 x n1).trans h9
      have n3 : x ≠ r := fun c => by
        rw [c, hr] at h10
        cases h10
      rw [upd_ne n2, upd_ne n3]
      exact h10
    refine ⟨trivial, fun n en n9 P3 ps3 H12 s12 T12 => ?_, fun ne => absurd ⟨_, rfl, by omega⟩ ne, fun n en hn => by cases en; omega⟩
    have en3 : k = n := by have := V.int.inj en; omega
    subst en3
    refine eqSelfL (SqL.of T12.lst) (SqL.of (s12 _ _ (at11 D _ hD hDl))) (by rw [List.length_map, List.length_map, T12.len, dl, List.length_map, T8.len]) (fun j x y hx hy => ?_) (q _)
    obtain ⟨x', ex, rfl⟩ := ref_at hx
    obtain ⟨y', ey, rfl⟩ := ref_at hy
    obtain ⟨fs, hfs, qq, h, eqq, hqq, rfl⟩ := hds j y' ey
    obtain ⟨f1, f2⟩ := hfs _ List.mem_cons_self
    obtain ⟨G, hG⟩ : ∃ G, (tree k)[j]? = some G := ⟨_, List.getElem?_eq_getElem (by rw [← T12.len]; exact (List.getElem?_eq_some_iff.mp ex).1)⟩
    obtain ⟨h1, g1, o1⟩ := T12.kid j x' G ex hG
    obtain ⟨h2, g2, o2⟩ := T8.kid j qq G eqq hG
    rw [hqq] at g2
    have e2 := map_int_inj (HO.lst.inj (Option.some.inj g2))
    have e1 := o1.uniq o2
    subst e1 e2
    exact eqv_eq g1 (s12 _ _ (at11 y' _ f1 f2))

end
end PG

set_option Elab.async false
set_option linter.all false
set_option maxRecDepth 100000
set_option maxHeartbeats 4000000
namespace PG
open PySem L2 PyProof.Rows

theorem len_1 {α : Type} {us : List α} (h : us.length = 1) : ∃ a0, us = [a0] := by
  cases us with
  | nil => simp at h
  | cons a t => cases t with
    | nil => exact ⟨a, rfl⟩
    | cons b s => simp at h
theorem len_2 {α : Type} {us : List α} (h : us.length = 2) : ∃ a0 a1, us = [a0, a1] := by
  cases us with
  | nil => simp at h
  | cons a0 t =>
    obtain ⟨a1, rfl⟩ := len_1 (us := t) (by simpa using h)
    exact ⟨a0, a1, rfl⟩
theorem len_3 {α : Type} {us : List α} (h : us.length = 3) : ∃ a0 a1 a2, us = [a0, a1, a2] := by
  cases us with
  | nil => simp at h
  | cons a0 t =>
    obtain ⟨a1, a2, rfl⟩ := len_2 (us := t) (by simpa using h)
    exact ⟨a0, a1, a2, rfl⟩
theorem all_mk {l : PySem.W.OpenLaw} {w : World} {K : PySem.W.Frag} {h : Heap} {mg : Str → Option Value} {fa : Addr} (X : K.In h) (GN : h.Ns mainGlobals mg) (hfa : mg "law" = some (.ref fa))
    {f0 : Addr} {od0 an0 : Option Addr} {sl0 : Array (Option Value)} {oc0 kV0 dc0 pm0 cd0 ct0 : Value}
    {f1 : Addr} {od1 an1 : Option Addr} {sl1 : Array (Option Value)} {oc1 kV1 dc1 pm1 cd1 ct1 : Value}
    {f2 : Addr} {od2 an2 : Option Addr} {sl2 : Array (Option Value)} {oc2 kV2 dc2 pm2 cd2 ct2 : Value}
    {f3 : Addr} {od3 an3 : Option Addr} {sl3 : Array (Option Value)} {oc3 kV3 dc3 pm3 cd3 ct3 : Value}
    {f4 : Addr} {od4 an4 : Option Addr} {sl4 : Array (Option Value)} {oc4 kV4 dc4 pm4 cd4 ct4 : Value}
    {f5 : Addr} {od5 an5 : Option Addr} {sl5 : Array (Option Value)} {oc5 kV5 dc5 pm5 cd5 ct5 : Value}
    {f6 : Addr} {od6 an6 : Option Addr} {sl6 : Array (Option Value)} {oc6 kV6 dc6 pm6 cd6 ct6 : Value}
    {f7 : Addr} {od7 an7 : Option Addr} {sl7 : Array (Option Value)} {oc7 kV7 dc7 pm7 cd7 ct7 : Value}
    {f8 : Addr} {od8 an8 : Option Addr} {sl8 : Array (Option Value)} {oc8 kV8 dc8 pm8 cd8 ct8 : Value}
    {f9 : Addr} {od9 an9 : Option Addr} {sl9 : Array (Option Value)} {oc9 kV9 dc9 pm9 cd9 ct9 : Value}
    {f10 : Addr} {od10 an10 : Option Addr} {sl10 : Array (Option Value)} {oc10 kV10 dc10 pm10 cd10 ct10 : Value}
    {f11 : Addr} {od11 an11 : Option Addr} {sl11 : Array (Option Value)} {oc11 kV11 dc11 pm11 cd11 ct11 : Value}
    {f12 : Addr} {od12 an12 : Option Addr} {sl12 : Array (Option Value)} {oc12 kV12 dc12 pm12 cd12 ct12 : Value}
    {f13 : Addr} {od13 an13 : Option Addr} {sl13 : Array (Option Value)} {oc13 kV13 dc13 pm13 cd13 ct13 : Value}
    {f14 : Addr} {od14 an14 : Option Addr} {sl14 : Array (Option Value)} {oc14 kV14 dc14 pm14 cd14 ct14 : Value}
    {f15 : Addr} {od15 an15 : Option Addr} {sl15 : Array (Option Value)} {oc15 kV15 dc15 pm15 cd15 ct15 : Value}
    {f16 : Addr} {od16 an16 : Option Addr} {sl16 : Array (Option Value)} {oc16 kV16 dc16 pm16 cd16 ct16 : Value}
    {f17 : Addr} {od17 an17 : Option Addr} {sl17 : Array (Option Value)} {oc17 kV17 dc17 pm17 cd17 ct17 : Value}
    {f18 : Addr} {od18 an18 : Option Addr} {sl18 : Array (Option Value)} {oc18 kV18 dc18 pm18 cd18 ct18 : Value} {nm_Unclosed qn_Unclosed : Str} {N_Unclosed : Addr} {bs_Unclosed : List Value} {sn_Unclosed : List Str} {sub_Unclosed : List Value} {ab_Unclosed : Bool} {col_Unclosed : Option Bool} {dd_Unclosed : Option Addr} {k0_Unclosed k1_Unclosed k2_Unclosed k3_Unclosed k5_Unclosed : Option Value} {nc_Unclosed : Value} {nd_Unclosed : Option Addr} {es_Unclosed : Array DictEntry} {nn_Unclosed : Nat} {ns_Unclosed : Array (Option Value)}
    {u0 : Tok}
    {u1 : Tok}
    {C_PayError : Addr}
    {C_NoCoins : Addr}
    {C_NoPaying : Addr}
    {C_NoSum : Addr}
    {C_Shared : Addr}
    {C_TooMany : Addr}
    {C_NoOne : Addr}
    {C_NoGaps : Addr}
    {C_Unclosed : Addr}
    {C_NoChange : Addr}
    {C_TooLittle : Addr}
    {cd_NoSum : ClassData}
    {cd_TooMany : ClassData}
    {cd_Unclosed : ClassData}
    (a0 : PySem.W.nsIn K mainGlobals "is_number" = some (some (.ref f0))) (l0 : K.lookup f0 = some ⟨oc0, od0, .func (PySem.W.fnOf "is_number" "is_number" (defArgs s_is_number) (defBody s_is_number) (defScope s_is_number) .none kV0 dc0 pm0 an0 cd0 ct0), sl0⟩) (c0 : PySem.W.codeIn K cd0 "is_number" = true) (k0 : PySem.W.keepIn K (.ref f0) = true)
    (a1 : PySem.W.nsIn K mainGlobals "check_sum_from" = some (some (.ref f1))) (l1 : K.lookup f1 = some ⟨oc1, od1, .func (PySem.W.fnOf "check_sum_from" "check_sum_from" (defArgs s_check_sum_from) (defBody s_check_sum_from) (defScope s_check_sum_from) .none kV1 dc1 pm1 an1 cd1 ct1), sl1⟩) (c1 : PySem.W.codeIn K cd1 "check_sum_from" = true) (k1 : PySem.W.keepIn K (.ref f1) = true)
    (a2 : PySem.W.nsIn K mainGlobals "greatest_gap" = some (some (.ref f2))) (l2 : K.lookup f2 = some ⟨oc2, od2, .func (PySem.W.fnOf "greatest_gap" "greatest_gap" (defArgs s_greatest_gap) (defBody s_greatest_gap) (defScope s_greatest_gap) .none kV2 dc2 pm2 an2 cd2 ct2), sl2⟩) (c2 : PySem.W.codeIn K cd2 "greatest_gap" = true) (k2 : PySem.W.keepIn K (.ref f2) = true)
    (a3 : PySem.W.nsIn K mainGlobals "needed_coins" = some (some (.ref f3))) (l3 : K.lookup f3 = some ⟨oc3, od3, .func (PySem.W.fnOf "needed_coins" "needed_coins" (defArgs s_needed_coins) (defBody s_needed_coins) (defScope s_needed_coins) .none kV3 dc3 pm3 an3 cd3 ct3), sl3⟩) (c3 : PySem.W.codeIn K cd3 "needed_coins" = true) (k3 : PySem.W.keepIn K (.ref f3) = true)
    (a4 : PySem.W.nsIn K mainGlobals "is_parted" = some (some (.ref f4))) (l4 : K.lookup f4 = some ⟨oc4, od4, .func (PySem.W.fnOf "is_parted" "is_parted" (defArgs s_is_parted) (defBody s_is_parted) (defScope s_is_parted) .none kV4 dc4 pm4 an4 cd4 ct4), sl4⟩) (c4 : PySem.W.codeIn K cd4 "is_parted" = true) (k4 : PySem.W.keepIn K (.ref f4) = true)
    (a5 : PySem.W.nsIn K mainGlobals "children_of" = some (some (.ref f5))) (l5 : K.lookup f5 = some ⟨oc5, od5, .func (PySem.W.fnOf "children_of" "children_of" (defArgs s_children_of) (defBody s_children_of) (defScope s_children_of) .none kV5 dc5 pm5 an5 cd5 ct5), sl5⟩) (c5 : PySem.W.codeIn K cd5 "children_of" = true) (k5 : PySem.W.keepIn K (.ref f5) = true)
    (a6 : PySem.W.nsIn K mainGlobals "without_coin" = some (some (.ref f6))) (l6 : K.lookup f6 = some ⟨oc6, od6, .func (PySem.W.fnOf "without_coin" "without_coin" (defArgs s_without_coin) (defBody s_without_coin) (defScope s_without_coin) .none kV6 dc6 pm6 an6 cd6 ct6), sl6⟩) (c6 : PySem.W.codeIn K cd6 "without_coin" = true) (k6 : PySem.W.keepIn K (.ref f6) = true)
    (a7 : PySem.W.nsIn K mainGlobals "house_above" = some (some (.ref f7))) (l7 : K.lookup f7 = some ⟨oc7, od7, .func (PySem.W.fnOf "house_above" "house_above" (defArgs s_house_above) (defBody s_house_above) (defScope s_house_above) .none kV7 dc7 pm7 an7 cd7 ct7), sl7⟩) (c7 : PySem.W.codeIn K cd7 "house_above" = true) (k7 : PySem.W.keepIn K (.ref f7) = true)
    (a8 : PySem.W.nsIn K mainGlobals "houses_with" = some (some (.ref f8))) (l8 : K.lookup f8 = some ⟨oc8, od8, .func (PySem.W.fnOf "houses_with" "houses_with" (defArgs s_houses_with) (defBody s_houses_with) (defScope s_houses_with) .none kV8 dc8 pm8 an8 cd8 ct8), sl8⟩) (c8 : PySem.W.codeIn K cd8 "houses_with" = true) (k8 : PySem.W.keepIn K (.ref f8) = true)
    (a9 : PySem.W.nsIn K mainGlobals "children_of_all" = some (some (.ref f9))) (l9 : K.lookup f9 = some ⟨oc9, od9, .func (PySem.W.fnOf "children_of_all" "children_of_all" (defArgs s_children_of_all) (defBody s_children_of_all) (defScope s_children_of_all) .none kV9 dc9 pm9 an9 cd9 ct9), sl9⟩) (c9 : PySem.W.codeIn K cd9 "children_of_all" = true) (k9 : PySem.W.keepIn K (.ref f9) = true)
    (a10 : PySem.W.nsIn K mainGlobals "_law_whole" = some (some (.ref f10))) (l10 : K.lookup f10 = some ⟨oc10, od10, .func (PySem.W.fnOf "_law_whole" "_law_whole" (defArgs s__law_whole) (defBody s__law_whole) (defScope s__law_whole) .none kV10 dc10 pm10 an10 cd10 ct10), sl10⟩) (c10 : PySem.W.codeIn K cd10 "_law_whole" = true) (k10 : PySem.W.keepIn K (.ref f10) = true)
    (a11 : PySem.W.nsIn K mainGlobals "_law_cell" = some (some (.ref f11))) (l11 : K.lookup f11 = some ⟨oc11, od11, .func (PySem.W.fnOf "_law_cell" "_law_cell" (defArgs s__law_cell) (defBody s__law_cell) (defScope s__law_cell) .none kV11 dc11 pm11 an11 cd11 ct11), sl11⟩) (c11 : PySem.W.codeIn K cd11 "_law_cell" = true) (k11 : PySem.W.keepIn K (.ref f11) = true)
    (a12 : PySem.W.nsIn K mainGlobals "_law_gaps" = some (some (.ref f12))) (l12 : K.lookup f12 = some ⟨oc12, od12, .func (PySem.W.fnOf "_law_gaps" "_law_gaps" (defArgs s__law_gaps) (defBody s__law_gaps) (defScope s__law_gaps) .none kV12 dc12 pm12 an12 cd12 ct12), sl12⟩) (c12 : PySem.W.codeIn K cd12 "_law_gaps" = true) (k12 : PySem.W.keepIn K (.ref f12) = true)
    (a13 : PySem.W.nsIn K mainGlobals "_law_closed" = some (some (.ref f13))) (l13 : K.lookup f13 = some ⟨oc13, od13, .func (PySem.W.fnOf "_law_closed" "_law_closed" (defArgs s__law_closed) (defBody s__law_closed) (defScope s__law_closed) .none kV13 dc13 pm13 an13 cd13 ct13), sl13⟩) (c13 : PySem.W.codeIn K cd13 "_law_closed" = true) (k13 : PySem.W.keepIn K (.ref f13) = true)
    (a14 : PySem.W.nsIn K mainGlobals "_law_all" = some (some (.ref f14))) (l14 : K.lookup f14 = some ⟨oc14, od14, .func (PySem.W.fnOf "_law_all" "_law_all" (defArgs s__law_all) (defBody s__law_all) (defScope s__law_all) .none kV14 dc14 pm14 an14 cd14 ct14), sl14⟩) (c14 : PySem.W.codeIn K cd14 "_law_all" = true) (k14 : PySem.W.keepIn K (.ref f14) = true)
    (a15 : PySem.W.nsIn K mainGlobals "_law_next" = some (some (.ref f15))) (l15 : K.lookup f15 = some ⟨oc15, od15, .func (PySem.W.fnOf "_law_next" "_law_next" (defArgs s__law_next) (defBody s__law_next) (defScope s__law_next) .none kV15 dc15 pm15 an15 cd15 ct15), sl15⟩) (c15 : PySem.W.codeIn K cd15 "_law_next" = true) (k15 : PySem.W.keepIn K (.ref f15) = true)
    (a16 : PySem.W.nsIn K mainGlobals "_law_refused" = some (some (.ref f16))) (l16 : K.lookup f16 = some ⟨oc16, od16, .func (PySem.W.fnOf "_law_refused" "_law_refused" (defArgs s__law_refused) (defBody s__law_refused) (defScope s__law_refused) .none kV16 dc16 pm16 an16 cd16 ct16), sl16⟩) (c16 : PySem.W.codeIn K cd16 "_law_refused" = true) (k16 : PySem.W.keepIn K (.ref f16) = true)
    (a17 : PySem.W.nsIn K mainGlobals "law" = some (some (.ref f17))) (l17 : K.lookup f17 = some ⟨oc17, od17, .func (PySem.W.fnOf "law" "law" (defArgs s_law) (defBody s_law) (defScope s_law) .none kV17 dc17 pm17 an17 cd17 ct17), sl17⟩) (c17 : PySem.W.codeIn K cd17 "law" = true) (k17 : PySem.W.keepIn K (.ref f17) = true)
    (m0 : PySem.W.nsIn K mainGlobals "LONGEST_HOUSE" = some (some (.int 1000 u0)))
    (m1 : PySem.W.nsIn K mainGlobals "MOST_LISTED_GAPS" = some (some (.int 9 u1)))
    (ca_PayError : PySem.W.nsIn K mainGlobals "PayError" = some (some (.ref C_PayError)))
    (ca_NoCoins : PySem.W.nsIn K mainGlobals "NoCoins" = some (some (.ref C_NoCoins)))
    (ca_NoPaying : PySem.W.nsIn K mainGlobals "NoPaying" = some (some (.ref C_NoPaying)))
    (ca_NoSum : PySem.W.nsIn K mainGlobals "NoSum" = some (some (.ref C_NoSum)))
    (ca_Shared : PySem.W.nsIn K mainGlobals "Shared" = some (some (.ref C_Shared)))
    (ca_TooMany : PySem.W.nsIn K mainGlobals "TooMany" = some (some (.ref C_TooMany)))
    (ca_NoOne : PySem.W.nsIn K mainGlobals "NoOne" = some (some (.ref C_NoOne)))
    (ca_NoGaps : PySem.W.nsIn K mainGlobals "NoGaps" = some (some (.ref C_NoGaps)))
    (ca_Unclosed : PySem.W.nsIn K mainGlobals "Unclosed" = some (some (.ref C_Unclosed)))
    (ca_NoChange : PySem.W.nsIn K mainGlobals "NoChange" = some (some (.ref C_NoChange)))
    (ca_TooLittle : PySem.W.nsIn K mainGlobals "TooLittle" = some (some (.ref C_TooLittle)))
    (cx_NoSum : PySem.W.excIn K C_NoSum [.type "ValueError", .type "Exception", .type "BaseException", .type "object"] "ValueError.__new__" = true)
    (e1_NoSum : PySem.W.findIn K (.ref C_NoSum) "__getattribute__" = some (some (.builtin "BaseException.__getattribute__")))
    (e2_NoSum : PySem.W.findIn K (.ref C_NoSum) "__getattr__" = some none)
    (e3_NoSum : PySem.W.findIn K (.ref C_NoSum) "__class__" = some (some (.builtin "object.__class__")))
    (e4_NoSum : PySem.W.mroIn K C_NoSum (.type "BaseException") = some true)
    (e5_NoSum : PySem.W.mroIn K C_NoSum (.type "object") = some true)
    (e6_NoSum : PySem.W.clsIn K C_NoSum = some cd_NoSum)
    (et_NoSum : PySem.W.exmOne K (.ref C_NoSum) (.ref C_PayError) = some true)
    (ev_NoSum : PySem.W.kitOne K (.ref C_NoSum) (.type "ValueError") = some true)
    (ek_NoSum_PayError : PySem.W.kitOne K (.ref C_NoSum) (.ref C_PayError) = some true)
    (ek_NoSum_NoCoins : PySem.W.kitOne K (.ref C_NoSum) (.ref C_NoCoins) = some false)
    (ek_NoSum_NoPaying : PySem.W.kitOne K (.ref C_NoSum) (.ref C_NoPaying) = some false)
    (ek_NoSum_NoSum : PySem.W.kitOne K (.ref C_NoSum) (.ref C_NoSum) = some true)
    (ek_NoSum_Shared : PySem.W.kitOne K (.ref C_NoSum) (.ref C_Shared) = some false)
    (ek_NoSum_TooMany : PySem.W.kitOne K (.ref C_NoSum) (.ref C_TooMany) = some false)
    (ek_NoSum_NoOne : PySem.W.kitOne K (.ref C_NoSum) (.ref C_NoOne) = some false)
    (ek_NoSum_NoGaps : PySem.W.kitOne K (.ref C_NoSum) (.ref C_NoGaps) = some false)
    (ek_NoSum_Unclosed : PySem.W.kitOne K (.ref C_NoSum) (.ref C_Unclosed) = some false)
    (ek_NoSum_NoChange : PySem.W.kitOne K (.ref C_NoSum) (.ref C_NoChange) = some false)
    (ek_NoSum_TooLittle : PySem.W.kitOne K (.ref C_NoSum) (.ref C_TooLittle) = some false)
    (cx_TooMany : PySem.W.excIn K C_TooMany [.type "ValueError", .type "Exception", .type "BaseException", .type "object"] "ValueError.__new__" = true)
    (e1_TooMany : PySem.W.findIn K (.ref C_TooMany) "__getattribute__" = some (some (.builtin "BaseException.__getattribute__")))
    (e2_TooMany : PySem.W.findIn K (.ref C_TooMany) "__getattr__" = some none)
    (e3_TooMany : PySem.W.findIn K (.ref C_TooMany) "__class__" = some (some (.builtin "object.__class__")))
    (e4_TooMany : PySem.W.mroIn K C_TooMany (.type "BaseException") = some true)
    (e5_TooMany : PySem.W.mroIn K C_TooMany (.type "object") = some true)
    (e6_TooMany : PySem.W.clsIn K C_TooMany = some cd_TooMany)
    (et_TooMany : PySem.W.exmOne K (.ref C_TooMany) (.ref C_PayError) = some true)
    (ev_TooMany : PySem.W.kitOne K (.ref C_TooMany) (.type "ValueError") = some true)
    (ek_TooMany_PayError : PySem.W.kitOne K (.ref C_TooMany) (.ref C_PayError) = some true)
    (ek_TooMany_NoCoins : PySem.W.kitOne K (.ref C_TooMany) (.ref C_NoCoins) = some false)
    (ek_TooMany_NoPaying : PySem.W.kitOne K (.ref C_TooMany) (.ref C_NoPaying) = some false)
    (ek_TooMany_NoSum : PySem.W.kitOne K (.ref C_TooMany) (.ref C_NoSum) = some false)
    (ek_TooMany_Shared : PySem.W.kitOne K (.ref C_TooMany) (.ref C_Shared) = some false)
    (ek_TooMany_TooMany : PySem.W.kitOne K (.ref C_TooMany) (.ref C_TooMany) = some true)
    (ek_TooMany_NoOne : PySem.W.kitOne K (.ref C_TooMany) (.ref C_NoOne) = some false)
    (ek_TooMany_NoGaps : PySem.W.kitOne K (.ref C_TooMany) (.ref C_NoGaps) = some false)
    (ek_TooMany_Unclosed : PySem.W.kitOne K (.ref C_TooMany) (.ref C_Unclosed) = some false)
    (ek_TooMany_NoChange : PySem.W.kitOne K (.ref C_TooMany) (.ref C_NoChange) = some false)
    (ek_TooMany_TooLittle : PySem.W.kitOne K (.ref C_TooMany) (.ref C_TooLittle) = some false)
    (e1_Unclosed : PySem.W.findIn K (.ref C_Unclosed) "__getattribute__" = some (some (.builtin "BaseException.__getattribute__")))
    (e2_Unclosed : PySem.W.findIn K (.ref C_Unclosed) "__getattr__" = some none)
    (e3_Unclosed : PySem.W.findIn K (.ref C_Unclosed) "__class__" = some (some (.builtin "object.__class__")))
    (e4_Unclosed : PySem.W.mroIn K C_Unclosed (.type "BaseException") = some true)
    (e5_Unclosed : PySem.W.mroIn K C_Unclosed (.type "object") = some true)
    (e6_Unclosed : PySem.W.clsIn K C_Unclosed = some cd_Unclosed)
    (et_Unclosed : PySem.W.exmOne K (.ref C_Unclosed) (.ref C_PayError) = some true)
    (ev_Unclosed : PySem.W.kitOne K (.ref C_Unclosed) (.type "ValueError") = some true)
    (ek_Unclosed_PayError : PySem.W.kitOne K (.ref C_Unclosed) (.ref C_PayError) = some true)
    (ek_Unclosed_NoCoins : PySem.W.kitOne K (.ref C_Unclosed) (.ref C_NoCoins) = some false)
    (ek_Unclosed_NoPaying : PySem.W.kitOne K (.ref C_Unclosed) (.ref C_NoPaying) = some false)
    (ek_Unclosed_NoSum : PySem.W.kitOne K (.ref C_Unclosed) (.ref C_NoSum) = some false)
    (ek_Unclosed_Shared : PySem.W.kitOne K (.ref C_Unclosed) (.ref C_Shared) = some false)
    (ek_Unclosed_TooMany : PySem.W.kitOne K (.ref C_Unclosed) (.ref C_TooMany) = some false)
    (ek_Unclosed_NoOne : PySem.W.kitOne K (.ref C_Unclosed) (.ref C_NoOne) = some false)
    (ek_Unclosed_NoGaps : PySem.W.kitOne K (.ref C_Unclosed) (.ref C_NoGaps) = some false)
    (ek_Unclosed_Unclosed : PySem.W.kitOne K (.ref C_Unclosed) (.ref C_Unclosed) = some true)
    (ek_Unclosed_NoChange : PySem.W.kitOne K (.ref C_Unclosed) (.ref C_NoChange) = some false)
    (ek_Unclosed_TooLittle : PySem.W.kitOne K (.ref C_Unclosed) (.ref C_TooLittle) = some false)
    (cx_PayError : PySem.W.excIn K C_PayError [.type "ValueError", .type "Exception", .type "BaseException", .type "object"] "ValueError.__new__" = true)
    (xl_Unclosed : K.lookup C_Unclosed = some (excClassObj nm_Unclosed qn_Unclosed C_Unclosed N_Unclosed bs_Unclosed (.ref C_PayError :: PySem.W.bmV) true sn_Unclosed sub_Unclosed ab_Unclosed col_Unclosed dd_Unclosed k0_Unclosed k1_Unclosed k2_Unclosed k3_Unclosed k5_Unclosed "ValueError.__new__")) (xn_Unclosed : K.lookup N_Unclosed = some ⟨nc_Unclosed, nd_Unclosed, .dict es_Unclosed nn_Unclosed, ns_Unclosed⟩) (xo_Unclosed : (es_Unclosed.all fun e => match e.key with | .str _ _ => true | _ => false) = true) (a18 : PySem.W.nsIn K N_Unclosed "__init__" = some (some (.ref f18))) (l18 : K.lookup f18 = some ⟨oc18, od18, .func (PySem.W.fnOf "__init__" "Unclosed.__init__" (defArgs s_Unclosed___init__) (defBody s_Unclosed___init__) (defScope s_Unclosed___init__) .none kV18 dc18 pm18 an18 cd18 ct18), sl18⟩) (c18 : PySem.W.codeIn K cd18 "Unclosed.__init__" = true) (k18 : PySem.W.keepIn K (.ref f18) = true) (i18 : PySem.W.isFn K (.ref f18) = true) (xk_Unclosed : PySem.W.keepIn K (.ref C_Unclosed) = true) (xs_Unclosed : PySem.W.findIn K (.ref C_Unclosed) "__setattr__" = some (some (.builtin "object.__setattr__"))) (xd_Unclosed : PySem.W.hasDictIn K C_Unclosed = true) (xf_Unclosed_one : PySem.W.findIn K (.ref C_Unclosed) "one" = some none) (xt_Unclosed_one : PySem.W.takerIn K C_Unclosed "one" = some none) (xf_Unclosed_other : PySem.W.findIn K (.ref C_Unclosed) "other" = some none) (xt_Unclosed_other : PySem.W.takerIn K C_Unclosed "other" = some none)
    (z0 : PySem.W.nsIn K mainGlobals "len" = some none)
    (z1 : PySem.W.nsIn K mainGlobals "isinstance" = some none)
    (z2 : PySem.W.nsIn K mainGlobals "int" = some none)
    (z3 : PySem.W.nsIn K mainGlobals "bool" = some none)
    (z4 : PySem.W.nsIn K mainGlobals "all" = some none)
    (z5 : PySem.W.nsIn K mainGlobals "any" = some none)
    (z6 : PySem.W.nsIn K mainGlobals "set" = some none)
    (z7 : PySem.W.nsIn K mainGlobals "range" = some none)
    (z8 : PySem.W.nsIn K mainGlobals "list" = some none)
    (z9 : PySem.W.nsIn K mainGlobals "abs" = some none)
    (z10 : PySem.W.nsIn K mainGlobals "min" = some none)
    (z11 : PySem.W.nsIn K mainGlobals "max" = some none)
    (z12 : PySem.W.nsIn K mainGlobals "sum" = some none)
    (z13 : PySem.W.nsIn K mainGlobals "sorted" = some none)
    (z14 : PySem.W.nsIn K mainGlobals "zip" = some none)
    (z15 : PySem.W.nsIn K mainGlobals "enumerate" = some none)
    (z16 : PySem.W.nsIn K mainGlobals "tuple" = some none)
    (z17 : PySem.W.nsIn K mainGlobals "str" = some none)
    (z18 : PySem.W.nsIn K mainGlobals "dict" = some none)
    (z19 : PySem.W.nsIn K mainGlobals "ValueError" = some none)
    (z20 : PySem.W.nsIn K mainGlobals "reversed" = some none) :
    ∃ fd : FuncData, (∀ (s : Shared) (v : Value), BindsTo s fd ⟨[v], []⟩ [("_law_script", v)]) ∧ ∀ base : Heap, K.In base → base.Ns mainGlobals mg → FnOk l.prog w K mg base (CX1 l.prog w) 7 fa fd ["_law_script"] (sLaw K) := by
  have e := hfa.symm.trans (PySem.W.mg_of X GN a17)
  cases e
  have B : Blt mg := ⟨PySem.W.mg_none_of X GN z0, PySem.W.mg_none_of X GN z1, PySem.W.mg_none_of X GN z2, PySem.W.mg_none_of X GN z3, PySem.W.mg_none_of X GN z4, PySem.W.mg_none_of X GN z5, PySem.W.mg_none_of X GN z6, PySem.W.mg_none_of X GN z7, PySem.W.mg_none_of X GN z8, PySem.W.mg_none_of X GN z9, PySem.W.mg_none_of X GN z10, PySem.W.mg_none_of X GN z11, PySem.W.mg_none_of X GN z12, PySem.W.mg_none_of X GN z13, PySem.W.mg_none_of X GN z14, PySem.W.mg_none_of X GN z15, PySem.W.mg_none_of X GN z16, PySem.W.mg_none_of X GN z17, PySem.W.mg_none_of X GN z18, PySem.W.mg_none_of X GN z19, PySem.W.mg_none_of X GN z20⟩
  have mc_LONGEST_HOUSE := PySem.W.mg_of X GN m0
  have mc_MOST_LISTED_GAPS := PySem.W.mg_of X GN m1
  obtain ⟨ER, hER_Unclosed, hER_PayError⟩ : ∃ R : Errs K mg, R.a_Unclosed = C_Unclosed ∧ R.a_PayError = C_PayError := ⟨⟨C_PayError, PySem.W.mg_of X GN ca_PayError, C_NoCoins, PySem.W.mg_of X GN ca_NoCoins, C_NoPaying, PySem.W.mg_of X GN ca_NoPaying, C_NoSum, PySem.W.mg_of X GN ca_NoSum, C_Shared, PySem.W.mg_of X GN ca_Shared, C_TooMany, PySem.W.mg_of X GN ca_TooMany, C_NoOne, PySem.W.mg_of X GN ca_NoOne, C_NoGaps, PySem.W.mg_of X GN ca_NoGaps, C_Unclosed, PySem.W.mg_of X GN ca_Unclosed, C_NoChange, PySem.W.mg_of X GN ca_NoChange, C_TooLittle, PySem.W.mg_of X GN ca_TooLittle, cx_NoSum, ⟨e1_NoSum, e2_NoSum, e3_NoSum, e4_NoSum, e5_NoSum, fun z => by rw [z] at e6_NoSum; cases e6_NoSum⟩, et_NoSum, ev_NoSum, ek_NoSum_PayError, ek_NoSum_NoCoins, ek_NoSum_NoPaying, ek_NoSum_NoSum, ek_NoSum_Shared, ek_NoSum_TooMany, ek_NoSum_NoOne, ek_NoSum_NoGaps, ek_NoSum_Unclosed, ek_NoSum_NoChange, ek_NoSum_TooLittle, cx_TooMany, ⟨e1_TooMany, e2_TooMany, e3_TooMany, e4_TooMany, e5_TooMany, fun z => by rw [z] at e6_TooMany; cases e6_TooMany⟩, et_TooMany, ev_TooMany, ek_TooMany_PayError, ek_TooMany_NoCoins, ek_TooMany_NoPaying, ek_TooMany_NoSum, ek_TooMany_Shared, ek_TooMany_TooMany, ek_TooMany_NoOne, ek_TooMany_NoGaps, ek_TooMany_Unclosed, ek_TooMany_NoChange, ek_TooMany_TooLittle, ⟨⟨_, by unfold PySem.W.clsIn; rw [xl_Unclosed], rfl, rfl⟩, xs_Unclosed⟩, xd_Unclosed, xf_Unclosed_one, xt_Unclosed_one, xf_Unclosed_other, xt_Unclosed_other, ⟨e1_Unclosed, e2_Unclosed, e3_Unclosed, e4_Unclosed, e5_Unclosed, fun z => by rw [z] at e6_Unclosed; cases e6_Unclosed⟩, et_Unclosed, ev_Unclosed, ek_Unclosed_PayError, ek_Unclosed_NoCoins, ek_Unclosed_NoPaying, ek_Unclosed_NoSum, ek_Unclosed_Shared, ek_Unclosed_TooMany, ek_Unclosed_NoOne, ek_Unclosed_NoGaps, ek_Unclosed_Unclosed, ek_Unclosed_NoChange, ek_Unclosed_TooLittle⟩, rfl, rfl⟩
  subst hER_Unclosed
  subst hER_PayError
  have F0 := fun_mk (st := s_is_number) l0 c0 k0
  have b0 := F0.binds (ps := ["thing"]) fun _ _ _ _ _ _ us hl => by obtain ⟨u0, rfl⟩ := len_1 hl; rfl
  have F1 := fun_mk (st := s_check_sum_from) l1 c1 k1
  have b1 := F1.binds (ps := ["least", "amount"]) fun _ _ _ _ _ _ us hl => by obtain ⟨u0, u1, rfl⟩ := len_2 hl; rfl
  have F2 := fun_mk (st := s_greatest_gap) l2 c2 k2
  have b2 := F2.binds (ps := ["house"]) fun _ _ _ _ _ _ us hl => by obtain ⟨u0, rfl⟩ := len_1 hl; rfl
  have F3 := fun_mk (st := s_needed_coins) l3 c3 k3
  have b3 := F3.binds (ps := ["house"]) fun _ _ _ _ _ _ us hl => by obtain ⟨u0, rfl⟩ := len_1 hl; rfl
  have F4 := fun_mk (st := s_is_parted) l4 c4 k4
  have b4 := F4.binds (ps := ["house", "least"]) fun _ _ _ _ _ _ us hl => by obtain ⟨u0, u1, rfl⟩ := len_2 hl; rfl
  have F5 := fun_mk (st := s_children_of) l5 c5 k5
  have b5 := F5.binds (ps := ["house"]) fun _ _ _ _ _ _ us hl => by obtain ⟨u0, rfl⟩ := len_1 hl; rfl
  have F6 := fun_mk (st := s_without_coin) l6 c6 k6
  have b6 := F6.binds (ps := ["house", "coin"]) fun _ _ _ _ _ _ us hl => by obtain ⟨u0, u1, rfl⟩ := len_2 hl; rfl
  have F7 := fun_mk (st := s_house_above) l7 c7 k7
  have b7 := F7.binds (ps := ["gap"]) fun _ _ _ _ _ _ us hl => by obtain ⟨u0, rfl⟩ := len_1 hl; rfl
  have F8 := fun_mk (st := s_houses_with) l8 c8 k8
  have b8 := F8.binds (ps := ["number"]) fun _ _ _ _ _ _ us hl => by obtain ⟨u0, rfl⟩ := len_1 hl; rfl
  have F9 := fun_mk (st := s_children_of_all) l9 c9 k9
  have b9 := F9.binds (ps := ["houses"]) fun _ _ _ _ _ _ us hl => by obtain ⟨u0, rfl⟩ := len_1 hl; rfl
  have F10 := fun_mk (st := s__law_whole) l10 c10 k10
  have b10 := F10.binds (ps := ["_law_found"]) fun _ _ _ _ _ _ us hl => by obtain ⟨u0, rfl⟩ := len_1 hl; rfl
  have F11 := fun_mk (st := s__law_cell) l11 c11 k11
  have b11 := F11.binds (ps := ["_law_script", "_law_k"]) fun _ _ _ _ _ _ us hl => by obtain ⟨u0, u1, rfl⟩ := len_2 hl; rfl
  have F12 := fun_mk (st := s__law_gaps) l12 c12 k12
  have b12 := F12.binds (ps := ["_law_house"]) fun _ _ _ _ _ _ us hl => by obtain ⟨u0, rfl⟩ := len_1 hl; rfl
  have F13 := fun_mk (st := s__law_closed) l13 c13 k13
  have b13 := F13.binds (ps := ["_law_gaps_here"]) fun _ _ _ _ _ _ us hl => by obtain ⟨u0, rfl⟩ := len_1 hl; rfl
  have F14 := fun_mk (st := s__law_all) l14 c14 k14
  have b14 := F14.binds (ps := ["_law_found", "_law_many"]) fun _ _ _ _ _ _ us hl => by obtain ⟨u0, u1, rfl⟩ := len_2 hl; rfl
  have F15 := fun_mk (st := s__law_next) l15 c15 k15
  have b15 := F15.binds (ps := ["_law_told"]) fun _ _ _ _ _ _ us hl => by obtain ⟨u0, rfl⟩ := len_1 hl; rfl
  have F16 := fun_mk (st := s__law_refused) l16 c16 k16
  have b16 := F16.binds (ps := ["_law_thing", "_law_great"]) fun _ _ _ _ _ _ us hl => by obtain ⟨u0, u1, rfl⟩ := len_2 hl; rfl
  have F17 := fun_mk (st := s_law) l17 c17 k17
  have F18 := fun_mk (st := s_Unclosed___init__) l18 c18 k18
  have b18 := F18.binds (ps := ["self", "one", "other"]) fun _ _ _ _ _ _ us hl => by obtain ⟨u0, u1, u2, rfl⟩ := len_3 hl; rfl
  refine ⟨PySem.W.fnOf "law" "law" (defArgs s_law) (defBody s_law) (defScope s_law) .none kV17 dc17 pm17 an17 cd17 ct17, fun s v => .of_eq rfl, fun base _ _ => ?_⟩
  have g_is_number : G l.prog w K mg base (CX1 l.prog w) "is_number" _ _ _ := ⟨_, _, PySem.W.mg_of X GN a0, k0, b0, ok_is_number F0 B ER⟩
  have g_check_sum_from : G l.prog w K mg base (CX1 l.prog w) "check_sum_from" _ _ _ := ⟨_, _, PySem.W.mg_of X GN a1, k1, b1, ok_check_sum_from F1 ER g_is_number⟩
  have g_greatest_gap : G l.prog w K mg base (CX1 l.prog w) "greatest_gap" _ _ _ := ⟨_, _, PySem.W.mg_of X GN a2, k2, b2, ok_greatest_gap F2 B ER⟩
  have g_house_above : G l.prog w K mg base (CX1 l.prog w) "house_above" _ _ _ := ⟨_, _, PySem.W.mg_of X GN a7, k7, b7, ok_house_above F7 B ER mc_LONGEST_HOUSE⟩
  have g_without_coin : G l.prog w K mg base (CX1 l.prog w) "without_coin" _ _ _ := ⟨_, _, PySem.W.mg_of X GN a6, k6, b6, ok_without_coin F6 B ER g_house_above⟩
  have g_is_parted : G l.prog w K mg base (CX1 l.prog w) "is_parted" _ _ _ := ⟨_, _, PySem.W.mg_of X GN a4, k4, b4, ok_is_parted F4 B ER⟩
  have g_needed_coins : G l.prog w K mg base (CX1 l.prog w) "needed_coins" _ _ _ := ⟨_, _, PySem.W.mg_of X GN a3, k3, b3, ok_needed_coins F3 B ER g_is_parted⟩
  have g_children_of : G l.prog w K mg base (CX1 l.prog w) "children_of" _ _ _ := ⟨_, _, PySem.W.mg_of X GN a5, k5, b5, ok_children_of F5 ER g_greatest_gap g_needed_coins g_without_coin⟩
  have g_children_of_all : G l.prog w K mg base (CX1 l.prog w) "children_of_all" _ _ _ := ⟨_, _, PySem.W.mg_of X GN a9, k9, b9, ok_children_of_all F9 ER g_children_of⟩
  have g_houses_with : G l.prog w K mg base (CX1 l.prog w) "houses_with" _ _ _ := ⟨_, _, PySem.W.mg_of X GN a8, k8, b8, ok_houses_with F8 B ER mc_MOST_LISTED_GAPS g_check_sum_from g_children_of_all⟩
  have g__law_whole : G l.prog w K mg base (CX1 l.prog w) "_law_whole" _ _ _ := ⟨_, _, PySem.W.mg_of X GN a10, k10, b10, ok__law_whole F10 B ER⟩
  have g__law_gaps : G l.prog w K mg base (CX1 l.prog w) "_law_gaps" _ _ _ := ⟨_, _, PySem.W.mg_of X GN a12, k12, b12, ok__law_gaps F12 B ER g__law_whole⟩
  have g__law_closed : G l.prog w K mg base (CX1 l.prog w) "_law_closed" _ _ _ := ⟨_, _, PySem.W.mg_of X GN a13, k13, b13, ok__law_closed F13 B ER⟩
  have g__law_all : G l.prog w K mg base (CX1 l.prog w) "_law_all" _ _ _ := ⟨_, _, PySem.W.mg_of X GN a14, k14, b14, ok__law_all F14 B ER g__law_whole g__law_gaps g__law_closed⟩
  have g__law_cell : G l.prog w K mg base (CX1 l.prog w) "_law_cell" _ _ _ := ⟨_, _, PySem.W.mg_of X GN a11, k11, b11, ok__law_cell F11 B ER⟩
  have g__law_refused : G l.prog w K mg base (CX1 l.prog w) "_law_refused" _ _ _ := ⟨_, _, PySem.W.mg_of X GN a16, k16, b16, ok__law_refused F16 B ER g_houses_with⟩
  have g__law_next : G l.prog w K mg base (CX1 l.prog w) "_law_next" _ _ _ := ⟨_, _, PySem.W.mg_of X GN a15, k15, b15, ok__law_next F15 B ER g__law_closed⟩
  exact ok_law F17 B ER g_houses_with g__law_cell g__law_all g__law_next g__law_refused
theorem walk {l : PySem.W.OpenLaw} {q : Program} {loose : List Str} {XP : (Str → Option Value) → Heap → Prop} {YP : World → Heap → Prop} {d : DefRec} {K : Params → PySem.W.Frag} (hn : l.most = some 63) (hdf : d.params.defaults = [])
    (hY : ∀ (w : World) (h : Heap), YP w h → (K w.params).In h)
    (F : ∀ (w : World) (mg : Str → Option Value) (fa : Addr) (h : Heap), (K w.params).In h → h.Ns mainGlobals mg → mg d.name = some (.ref fa) →
      ∃ fd : FuncData, (∀ (s : Shared) (u : Value), BindsTo s fd ⟨[u], []⟩ [("_law_script", u)]) ∧ ∀ base : Heap, (K w.params).In base → base.Ns mainGlobals mg → FnOk l.prog w (K w.params) mg base (CX1 l.prog w) 7 fa fd ["_law_script"] (sLaw (K w.params))) :
    PySem.W.WalkO q loose XP YP l.row.toRowW d [] (fun f vs => PySem.call f vs) :=
  L2.walk_of (n := 63) (k := 7) (x := "_law_script") (CX := fun w => CX1 l.prog w) (sp := fun w => sLaw (K w.params)) hn (by decide) hdf ⟨rfl, by decide, by decide⟩ hY F (fun _ _ a ns hl _ hS => ⟨ns, hS, hl, fun _ => rfl⟩) fun _ _ _ _ _ z => by obtain ⟨_, _, _, _, _, _, _, _, _, _, _, _, _, _, _, h⟩ := z; exact h
end PG
open PySem PySem.W PyProof.Rows
set_option maxRecDepth 100000 in
set_option maxHeartbeats 0 in
theorem PySem.W.Fast.tw1237289431921079034 : True := trivial
theorem PySem.W.Fast.tw17295394789889947795 : True := trivial
theorem PySem.W.Fast.tw5823793010048750926 : True := trivial
theorem PySem.W.Fast.tw12483301211151906045 : True := trivial
theorem PySem.W.Fast.tw220425553191443000 : True := trivial
theorem PySem.W.Fast.tw6116684180336366303 : True := trivial
theorem PySem.W.Fast.tw1043721876070546183 : True := trivial
theorem PySem.W.Fast.tw7421509957400501120 : True := trivial
theorem PySem.W.Fast.tw3131388405161777361 : True := trivial
theorem PySem.Challenge.cw_paygaps_k63_houses_counted_holds : PySem.Challenge.rw_paygaps_k63_houses_counted.Holds := by
  w_on; o_law; k_head; (case hw => w_witness2)
  k_fill
  refine PG.walk (l := PySem.Challenge.rw_paygaps_k63_houses_counted) rfl rfl (fun w h Y => PySem.W.kIn_of Y) ?F
  case F =>
    intro w mg fa h KX G hmg
    refine' PG.all_mk KX G hmg ?a0 ?l0 ?c0 ?k0 ?a1 ?l1 ?c1 ?k1 ?a2 ?l2 ?c2 ?k2 ?a3 ?l3 ?c3 ?k3 ?a4 ?l4 ?c4 ?k4 ?a5 ?l5 ?c5 ?k5 ?a6 ?l6 ?c6 ?k6 ?a7 ?l7 ?c7 ?k7 ?a8 ?l8 ?c8 ?k8 ?a9 ?l9 ?c9 ?k9 ?a10 ?l10 ?c10 ?k10 ?a11 ?l11 ?c11 ?k11 ?a12 ?l12 ?c12 ?k12 ?a13 ?l13 ?c13 ?k13 ?a14 ?l14 ?c14 ?k14 ?a15 ?l15 ?c15 ?k15 ?a16 ?l16 ?c16 ?k16 ?a17 ?l17 ?c17 ?k17 ?m0 ?m1 ?ca_PayError ?ca_NoCoins ?ca_NoPaying ?ca_NoSum ?ca_Shared ?ca_TooMany ?ca_NoOne ?ca_NoGaps ?ca_Unclosed ?ca_NoChange ?ca_TooLittle ?cx_NoSum ?e1_NoSum ?e2_NoSum ?e3_NoSum ?e4_NoSum ?e5_NoSum ?e6_NoSum ?et_NoSum ?ev_NoSum ?ek_NoSum_PayError ?ek_NoSum_NoCoins ?ek_NoSum_NoPaying ?ek_NoSum_NoSum ?ek_NoSum_Shared ?ek_NoSum_TooMany ?ek_NoSum_NoOne ?ek_NoSum_NoGaps ?ek_NoSum_Unclosed ?ek_NoSum_NoChange ?ek_NoSum_TooLittle ?cx_TooMany ?e1_TooMany ?e2_TooMany ?e3_TooMany ?e4_TooMany ?e5_TooMany ?e6_TooMany ?et_TooMany ?ev_TooMany ?ek_TooMany_PayError ?ek_TooMany_NoCoins ?ek_TooMany_NoPaying ?ek_TooMany_NoSum ?ek_TooMany_Shared ?ek_TooMany_TooMany ?ek_TooMany_NoOne ?ek_TooMany_NoGaps ?ek_TooMany_Unclosed ?ek_TooMany_NoChange ?ek_TooMany_TooLittle ?e1_Unclosed ?e2_Unclosed ?e3_Unclosed ?e4_Unclosed ?e5_Unclosed ?e6_Unclosed ?et_Unclosed ?ev_Unclosed ?ek_Unclosed_PayError ?ek_Unclosed_NoCoins ?ek_Unclosed_NoPaying ?ek_Unclosed_NoSum ?ek_Unclosed_Shared ?ek_Unclosed_TooMany ?ek_Unclosed_NoOne ?ek_Unclosed_NoGaps ?ek_Unclosed_Unclosed ?ek_Unclosed_NoChange ?ek_Unclosed_TooLittle ?cx_PayError ?xl_Unclosed ?xn_Unclosed ?xo_Unclosed ?a18 ?l18 ?c18 ?k18 ?i18 ?xk_Unclosed ?xs_Unclosed ?xd_Unclosed ?xf_Unclosed_one ?xt_Unclosed_one ?xf_Unclosed_other ?xt_Unclosed_other ?z0 ?z1 ?z2 ?z3 ?z4 ?z5 ?z6 ?z7 ?z8 ?z9 ?z10 ?z11 ?z12 ?z13 ?z14 ?z15 ?z16 ?z17 ?z18 ?z19 ?z20
    (case a0 => k_is)
    (case l0 => k_is)
    (case c0 => k_is)
    (case k0 => k_is)
    (case a1 => k_is)
    (case l1 => k_is)
    (case c1 => k_is)
    (case k1 => k_is)
    (case a2 => k_is)
    (case l2 => k_is)
    (case c2 => k_is)
    (case k2 => k_is)
    (case a3 => k_is)
    (case l3 => k_is)
    (case c3 => k_is)
    (case k3 => k_is)
    (case a4 => k_is)
    (case l4 => k_is)
    (case c4 => k_is)
    (case k4 => k_is)
    (case a5 => k_is)
    (case l5 => k_is)
    (case c5 => k_is)
    (case k5 => k_is)
    (case a6 => k_is)
    (case l6 => k_is)
    (case c6 => k_is)
    (case k6 => k_is)
    (case a7 => k_is)
    (case l7 => k_is)
    (case c7 => k_is)
    (case k7 => k_is)
    (case a8 => k_is)
    (case l8 => k_is)
    (case c8 => k_is)
    (case k8 => k_is)
    (case a9 => k_is)
    (case l9 => k_is)
    (case c9 => k_is)
    (case k9 => k_is)
    (case a10 => k_is)
    (case l10 => k_is)
    (case c10 => k_is)
    (case k10 => k_is)
    (case a11 => k_is)
    (case l11 => k_is)
    (case c11 => k_is)
    (case k11 => k_is)
    (case a12 => k_is)
    (case l12 => k_is)
    (case c12 => k_is)
    (case k12 => k_is)
    (case a13 => k_is)
    (case l13 => k_is)
    (case c13 => k_is)
    (case k13 => k_is)
    (case a14 => k_is)
    (case l14 => k_is)
    (case c14 => k_is)
    (case k14 => k_is)
    (case a15 => k_is)
    (case l15 => k_is)
    (case c15 => k_is)
    (case k15 => k_is)
    (case a16 => k_is)
    (case l16 => k_is)
    (case c16 => k_is)
    (case k16 => k_is)
    (case a17 => k_is)
    (case l17 => k_is)
    (case c17 => k_is)
    (case k17 => k_is)
    (case m0 => k_is)
    (case m1 => k_is)
    (case ca_PayError => k_is)
    (case ca_NoCoins => k_is)
    (case ca_NoPaying => k_is)
    (case ca_NoSum => k_is)
    (case ca_Shared => k_is)
    (case ca_TooMany => k_is)
    (case ca_NoOne => k_is)
    (case ca_NoGaps => k_is)
    (case ca_Unclosed => k_is)
    (case ca_NoChange => k_is)
    (case ca_TooLittle => k_is)
    (case cx_NoSum => k_exc)
    (case e1_NoSum => k_is)
    (case e2_NoSum => k_is)
    (case e3_NoSum => k_is)
    (case e4_NoSum => k_is)
    (case e5_NoSum => k_is)
    (case e6_NoSum => k_is)
    (case et_NoSum => kts_exm)
    (case ev_NoSum => kit_is)
    (case ek_NoSum_PayError => kit_is)
    (case ek_NoSum_NoCoins => kit_is)
    (case ek_NoSum_NoPaying => kit_is)
    (case ek_NoSum_NoSum => kit_is)
    (case ek_NoSum_Shared => kit_is)
    (case ek_NoSum_TooMany => kit_is)
    (case ek_NoSum_NoOne => kit_is)
    (case ek_NoSum_NoGaps => kit_is)
    (case ek_NoSum_Unclosed => kit_is)
    (case ek_NoSum_NoChange => kit_is)
    (case ek_NoSum_TooLittle => kit_is)
    (case cx_TooMany => k_exc)
    (case e1_TooMany => k_is)
    (case e2_TooMany => k_is)
    (case e3_TooMany => k_is)
    (case e4_TooMany => k_is)
    (case e5_TooMany => k_is)
    (case e6_TooMany => k_is)
    (case et_TooMany => kts_exm)
    (case ev_TooMany => kit_is)
    (case ek_TooMany_PayError => kit_is)
    (case ek_TooMany_NoCoins => kit_is)
    (case ek_TooMany_NoPaying => kit_is)
    (case ek_TooMany_NoSum => kit_is)
    (case ek_TooMany_Shared => kit_is)
    (case ek_TooMany_TooMany => kit_is)
    (case ek_TooMany_NoOne => kit_is)
    (case ek_TooMany_NoGaps => kit_is)
    (case ek_TooMany_Unclosed => kit_is)
    (case ek_TooMany_NoChange => kit_is)
    (case ek_TooMany_TooLittle => kit_is)
    (case e1_Unclosed => k_is)
    (case e2_Unclosed => k_is)
    (case e3_Unclosed => k_is)
    (case e4_Unclosed => k_is)
    (case e5_Unclosed => k_is)
    (case e6_Unclosed => k_is)
    (case et_Unclosed => kts_exm)
    (case ev_Unclosed => kit_is)
    (case ek_Unclosed_PayError => kit_is)
    (case ek_Unclosed_NoCoins => kit_is)
    (case ek_Unclosed_NoPaying => kit_is)
    (case ek_Unclosed_NoSum => kit_is)
    (case ek_Unclosed_Shared => kit_is)
    (case ek_Unclosed_TooMany => kit_is)
    (case ek_Unclosed_NoOne => kit_is)
    (case ek_Unclosed_NoGaps => kit_is)
    (case ek_Unclosed_Unclosed => kit_is)
    (case ek_Unclosed_NoChange => kit_is)
    (case ek_Unclosed_TooLittle => kit_is)
    (case cx_PayError => k_exc)
    (case xl_Unclosed => k_is)
    (case xn_Unclosed => k_is)
    (case xo_Unclosed => first | (simp; done) | rfl | kernel_rfl)
    (case a18 => k_is)
    (case l18 => k_is)
    (case c18 => k_is)
    (case k18 => k_is)
    (case i18 => k_is)
    (case xk_Unclosed => k_is)
    (case xs_Unclosed => k_is)
    (case xd_Unclosed => k_is)
    (case xf_Unclosed_one => k_is)
    (case xt_Unclosed_one => k_is)
    (case xf_Unclosed_other => k_is)
    (case xt_Unclosed_other => k_is)
    (case z0 => k_is)
    (case z1 => k_is)
    (case z2 => k_is)
    (case z3 => k_is)
    (case z4 => k_is)
    (case z5 => k_is)
    (case z6 => k_is)
    (case z7 => k_is)
    (case z8 => k_is)
    (case z9 => k_is)
    (case z10 => k_is)
    (case z11 => k_is)
    (case z12 => k_is)
    (case z13 => k_is)
    (case z14 => k_is)
    (case z15 => k_is)
    (case z16 => k_is)
    (case z17 => k_is)
    (case z18 => k_is)
    (case z19 => k_is)
    (case z20 => k_is)
