import PyProof.Rows.All
import Wide.All
import OpenK.AllK
import Wide.FinOn
import Lean
import PyProof.EqAt
import PyProof.EqKinds
import PyProof.TupleCall
import KE.KTryMore
import KE.KRevSl
import KE.RegKIsAll
import KE.RegKTryMore
import PySem.Challenge.RW_paygaps_k72_a_till
set_option Elab.async false
set_option linter.all false
set_option maxRecDepth 100000
/-! THE HAND LAYER, for ints, bools, texts, own classes, LISTS and tuples (index, slices, in, append, pop ..), calls, loops. Paste it whole ahead of your own text; what your proof does not reach may be deleted. -/
namespace L2
open PySem PySem.Spec PyProof.Rows

/-- a key: an int or a str -/
noncomputable abbrev Key := Sum Int Str
noncomputable def keyIs : Key → Value → Bool
  | .inl k, v => Value.isInt k v
  | .inr x, v => Value.isStrOf x v
noncomputable def keyH (w : World) : Key → Int
  | .inl k => hashInt k
  | .inr x => hashStr w x
theorem keyIs_shape : ∀ {k : Key} {v : Value}, keyIs k v = true → (∃ i t, k = Sum.inl i ∧ v = Value.int i t) ∨ (∃ x t, k = Sum.inr x ∧ v = Value.str x t)
  | .inl i, v, h => by
    obtain ⟨t, e⟩ := Value.isInt_shape (k := i) (v := v) h
    exact .inl ⟨i, t, rfl, e⟩
  | .inr x, v, h => by
    obtain ⟨t, e⟩ := Value.isStrOf_shape (x := x) (v := v) h
    exact .inr ⟨x, t, rfl, e⟩
theorem keyIs_int (i : Int) (t : Tok) : keyIs (.inl i) (.int i t) = true := by simp [keyIs, Value.isInt]
theorem keyIs_str (x : Str) (t : Tok) : keyIs (.inr x) (.str x t) = true := by simp [keyIs, Value.isStrOf]
theorem key_ll (a b : Int) : decide ((Sum.inl a : Key) = Sum.inl b) = (a == b) := by
  by_cases e : a = b
  · subst e; simp
  · have h : ¬ (Sum.inl a : Key) = Sum.inl b := fun q => e (Sum.inl.inj q)
    rw [decide_eq_false h]
    exact (beq_eq_false_iff_ne.mpr e).symm
theorem key_rr (a b : Str) : decide ((Sum.inr a : Key) = Sum.inr b) = decide (a = b) := by
  by_cases e : a = b
  · subst e; simp
  · have h : ¬ (Sum.inr a : Key) = Sum.inr b := fun q => e (Sum.inr.inj q)
    rw [decide_eq_false h, decide_eq_false e]
theorem key_lr (a : Int) (b : Str) : decide ((Sum.inl a : Key) = Sum.inr b) = false := decide_eq_false (fun q => nomatch q)
theorem key_rl (a : Str) (b : Int) : decide ((Sum.inr a : Key) = Sum.inl b) = false := decide_eq_false (fun q => nomatch q)

noncomputable def mixKind (prog : Program) (w : World) : PySem.KeyKind prog w Key where
  is := keyIs
  hash := keyH w
  inj := fun v a b ha hb => by
    rcases keyIs_shape ha with ⟨i, t, rfl, rfl⟩ | ⟨x, t, rfl, rfl⟩
    · rcases keyIs_shape hb with ⟨j, u, rfl, e⟩ | ⟨y, u, rfl, e⟩
      · injection e with e1 _; rw [e1]
      · exact nomatch e
    · rcases keyIs_shape hb with ⟨j, u, rfl, e⟩ | ⟨y, u, rfl, e⟩
      · exact nomatch e
      · injection e with e1 _; rw [e1]
  byValue := fun k v h => by
    rcases keyIs_shape h with ⟨i, t, rfl, rfl⟩ | ⟨x, t, rfl, rfl⟩ <;> rfl
  pyHash := fun hv h => by
    rcases keyIs_shape hv with ⟨i, t, rfl, rfl⟩ | ⟨x, t, rfl, rfl⟩
    · exact wpAny_pyHash_int h
    · exact wpAny_pyHash_str h
  eqBool := fun hu hv h => by
    rcases keyIs_shape hu with ⟨i, t, rfl, rfl⟩ | ⟨x, t, rfl, rfl⟩
    · rcases keyIs_shape hv with ⟨j, u, rfl, rfl⟩ | ⟨y, u, rfl, rfl⟩
      · rw [key_ll] at h; exact wpAny_eqBool_int h
      · rw [key_lr] at h; exact SeqAt.EqAt.int_str i t y u _ _ _ _ h
    · rcases keyIs_shape hv with ⟨j, u, rfl, rfl⟩ | ⟨y, u, rfl, rfl⟩
      · rw [key_rl] at h; exact SeqAt.EqAt.str_int x t j u _ _ _ _ h
      · rw [key_rr] at h; exact wpAny_eqBool_str h
  «strs» := fun k x t v h => by
    rcases keyIs_shape h with ⟨i, u, rfl, e⟩ | ⟨y, u, rfl, e⟩
    · exact nomatch e
    · injection e with e1 _
      subst e1
      cases v <;> rfl

theorem mixKind_int (prog : Program) (w : World) (i : Int) (t : Tok) : (mixKind prog w).is (.inl i) (.int i t) = true := keyIs_int i t
theorem mixKind_str (prog : Program) (w : World) (x : Str) (t : Tok) : (mixKind prog w).is (.inr x) (.str x t) = true := keyIs_str x t
end L2

namespace L2
open PySem PySem.Spec PyProof.Rows

/-- a value, without the heap -/
inductive V where
  | non | bl (b : Bool) | int (i : Int) | str (x : Str) | byt (b : Array UInt8) | flt (b : UInt64) | ref (a : Addr) | ty (n : String)
  deriving DecidableEq

noncomputable def RelV : V → Value → Prop
  | .non, u => u = Value.none
  | .bl b, u => u = Value.bool b
  | .int i, u => ∃ t, u = Value.int i t
  | .str x, u => ∃ t, u = Value.str x t
  | .byt b, u => ∃ t, u = Value.bytes b t
  | .flt b, u => ∃ t, u = Value.float b t
  | .ref a, u => u = Value.ref a
  | .ty n, u => u = Value.type n

noncomputable abbrev Vals : List V → List Value → Prop := Paired RelV
theorem Vals.length {xs : List V} {us : List Value} (r : Vals xs us) : xs.length = us.length := Paired.length r
theorem Vals.get : ∀ {xs : List V} {us : List Value} {i : Nat} {x : V}, Vals xs us → xs[i]? = some x → ∃ u, us[i]? = some u ∧ RelV x u
  | _, _, _, _, .nil, e => by simp at e
  | _, _, 0, _, .cons r _, e => by simp at e; subst e; exact ⟨_, rfl, r⟩
  | _, _, i + 1, x, .cons _ t, e => by
    obtain ⟨u, h1, h2⟩ := Vals.get (i := i) (x := x) t (by simpa using e)
    exact ⟨u, by simpa using h1, h2⟩
theorem Vals.set {x : V} {u : Value} (r : RelV x u) : ∀ {xs : List V} {us : List Value} (i : Nat), Vals xs us → Vals (xs.set i x) (us.set i u)
  | _, _, _, .nil => .nil
  | _, _, 0, .cons _ t => .cons r t
  | _, _, i + 1, .cons q t => .cons q (Vals.set r i t)
theorem Vals.append : ∀ {xs ys : List V} {us ws : List Value}, Vals xs us → Vals ys ws → Vals (xs ++ ys) (us ++ ws)
  | _, _, _, _, .nil, s => s
  | _, _, _, _, .cons r t, s => .cons r (Vals.append t s)
theorem Vals.take : ∀ {xs : List V} {us : List Value} (n : Nat), Vals xs us → Vals (xs.take n) (us.take n)
  | _, _, 0, _ => .nil
  | _, _, _ + 1, .nil => .nil
  | _, _, n + 1, .cons r t => .cons r (Vals.take n t)
theorem Vals.drop : ∀ {xs : List V} {us : List Value} (n : Nat), Vals xs us → Vals (xs.drop n) (us.drop n)
  | _, _, 0, r => r
  | _, _, _ + 1, .nil => .nil
  | _, _, n + 1, .cons _ t => Vals.drop n t

noncomputable def RelO : Option V → Option Value → Prop
  | some v, some u => RelV v u
  | none, none => True
  | _, _ => False
noncomputable def KV {κ : Type} : List (κ × V) → List (κ × Value) → Prop := Paired fun (p : κ × V) (q : κ × Value) => p.1 = q.1 ∧ RelV p.2 q.2

/-- a key of a dict (00_mix): an int or a text -/
noncomputable def kV : Key → V
  | .inl i => .int i
  | .inr x => .str x

/-- what stands at a tracked address -/
inductive HO where
  /-- a list -/
  | lst (xs : List V)
  /-- a tuple (never changes) -/
  | tup (xs : List V)
  /-- a dict whose keys are ints and texts; one whose keys are tuples of ints and texts (the empty one is both) -/
  | dK (kvs : List (Key × V)) | dT (kvs : List (List Key × V))
  /-- a set of ints: its members, its size -/
  | set (S : Int → Bool) (n : Nat)
  /-- an instance of the class at C, its dict at dx, its attributes -/
  | ins (C dx : Addr) (fs : List (Str × V))
  /-- the dict of the instance at x -/
  | own (x : Addr)
  /-- the dict of an exception -/
  | xd (fs : List (Str × V))
  /-- a bound method, f of x -/
  | met (f x : Addr)
  /-- a range object lo, lo + 1, .. below hi -/
  | rng (lo hi : Int)
  /-- a thing that is known to the object (the script; a dict while a loop walks it): read, never written while it is so -/
  | frz (o : Obj) (u : HO)
  /-- a code object's table -/
  | tbl (ps : Array Value)
  /-- any other thing, by what is true of its one object (a def of one's own: SetO a S n := HO.ext fun h => ..) -/
  | ext (φ : Heap → Prop)

noncomputable abbrev Hp := Addr → Option HO
noncomputable def upd (H : Hp) (a : Addr) (o : HO) : Hp := fun b => if b = a then some o else H b
theorem upd_same {H : Hp} {a : Addr} {o : HO} : upd H a o a = some o := by unfold upd; rw [if_pos rfl]
theorem upd_ne {H : Hp} {a b : Addr} {o : HO} (h : b ≠ a) : upd H a o b = H b := by unfold upd; rw [if_neg h]
theorem upd_upd {H : Hp} {a : Addr} {o u : HO} : upd (upd H a o) a u = upd H a u := by
  funext b; unfold upd; split <;> rfl
/-- two objects of different content stand apart -/
theorem ne_of {H : Hp} {a b : Addr} {o u : HO} (h : H a = some o) (h' : H b = some u) (d : o ≠ u) : a ≠ b := by
  intro e; subst e; rw [h] at h'; exact d (Option.some.inj h')
theorem ne_of_none {H : Hp} {a b : Addr} {o : HO} (h : H a = some o) (h' : H b = none) : a ≠ b := by
  intro e; subst e; rw [h] at h'; cases h'

section
variable (P : Program) (w : World)
noncomputable def ObjOk (H : Hp) (h : Heap) (a : Addr) : HO → Prop
  | .lst xs => xs.length ≤ sizeLine ∧ ∃ (its : List Value) (n : Nat), Vals xs its ∧ h.get? a = some { cls := .type "list", data := .seq its.toArray n }
  | .tup xs => xs.length ≤ sizeLine ∧ ∃ its : List Value, Vals xs its ∧ IsTup h a its.toArray
  | .dK kvs => kvs.length ≤ sizeLine ∧ (a == sysModules) = false ∧ ∃ vs, KV kvs vs ∧ h.DictOf (mixKind P w) a vs
  | .dT kvs => kvs.length ≤ sizeLine ∧ (a == sysModules) = false ∧ ∃ xs : List (List Key × Addr × Value),
      Paired (fun (p : List Key × V) (q : List Key × Addr × Value) => p.1 = q.1 ∧ H q.2.1 = some (.tup (p.1.map kV)) ∧ RelV p.2 q.2.2) kvs xs ∧
      ∃ o es ep, h.get? a = some o ∧ o.ExactDict ∧ o.data = .dict es ep ∧ es.toList = xs.map (entryOfKey (tupleKind (mixKind P w))) ∧ (xs.map (·.1)).Nodup
  | .set S n => h.SetOf (intKind P w) a S n
  | .ins C dx fs => H dx = some (.own a) ∧ fs.length ≤ 1000 ∧ dx ≠ a ∧ h.get? a = some (PySem.W.instObj C dx) ∧
      ∃ mA, h.Ns1 dx mA ∧ (∀ f, RelO (fs.lookup f) (mA f)) ∧ PySem.Within mA (fs.map (·.1))
  | .own _ => ∃ o, h.get? a = some o
  | .xd fs => ∃ mA, h.Ns1 a mA ∧ ∀ f, RelO (fs.lookup f) (mA f)
  | .rng lo hi => ∃ t u v, h.get? a = some { cls := .type "range", data := .fields #[.int lo t, .int hi u, .int 1 v] }
  | .frz o u => h.get? a = some o ∧ ObjOk H h a u
  | .tbl ps => h.get? a = some { cls := .none, data := .fields ps }
  | .met f x => h.get? a = some (PySem.W.methodObj (.ref f) (.ref x))
  | .ext φ => φ h ∧ (∃ o, h.get? a = some o) ∧ ∀ h1 h2 : Heap, φ h1 → (∀ o, h1.get? a = some o → h2.get? a = some o) → φ h2
/-- the abstract heap is held -/
noncomputable def HOk (H : Hp) (h : Heap) : Prop := ∀ a o, H a = some o → ObjOk P w H h a o
end

section
variable {P : Program} {w : World} {H H' : Hp} {h h' : Heap} {a : Addr} {o : HO}
theorem ObjOk.lt (x : ObjOk P w H h a o) : a < h.objs.size := by
  cases o with
  | lst xs => obtain ⟨_, _, _, _, e⟩ := x; exact Heap.lt_size e
  | tup xs => obtain ⟨_, _, _, p⟩ := x; exact p.lt
  | dK kvs => obtain ⟨_, _, _, _, o, _, _, e, _⟩ := x; exact Heap.lt_size e
  | dT kvs => obtain ⟨_, _, _, _, o, _, _, e, _⟩ := x; exact Heap.lt_size e
  | set S n => obtain ⟨o, _, _, _, e, _⟩ := x; exact Heap.lt_size e
  | ins C dx fs => obtain ⟨_, _, _, e, _⟩ := x; exact Heap.lt_size e
  | own y => obtain ⟨_, e⟩ := x; exact Heap.lt_size e
  | xd fs => obtain ⟨_, ⟨_, _, _, e, _⟩, _⟩ := x; exact Heap.lt_size e
  | rng lo hi => obtain ⟨_, _, _, e⟩ := x; exact Heap.lt_size e
  | frz ob u => obtain ⟨e, _⟩ := x; exact Heap.lt_size e
  | tbl ps => exact Heap.lt_size (show h.get? a = some _ from x)
  | met f y => exact Heap.lt_size (show h.get? a = some _ from x)
  | ext φ => obtain ⟨_, ⟨_, e⟩, _⟩ := x; exact Heap.lt_size e
theorem Paired.mapP {α β : Type} {F G : α → β → Prop} : ∀ {l₁ : List α} {l₂ : List β}, Paired F l₁ l₂ → (∀ a b, F a b → G a b) → Paired G l₁ l₂
  | _, _, .nil, _ => .nil
  | _, _, .cons r t, f => .cons (f _ _ r) (Paired.mapP t f)
/-- what an object's description leans on: its own object, its own dict, the tuples -/
theorem ObjOk.stay (x : ObjOk P w H h a o) (k : ∀ b u, (b = a ∨ H b = some (.own a)) → h.get? b = some u → h'.get? b = some u)
    (ho : ∀ b, H b = some (.own a) → H' b = some (.own a)) (ht : ∀ b xs, H b = some (.tup xs) → H' b = some (.tup xs)) : ObjOk P w H' h' a o := by
  induction o with
  | lst xs => obtain ⟨z, its, n, r, e⟩ := x; exact ⟨z, its, n, r, k _ _ (.inl rfl) e⟩
  | tup xs => obtain ⟨z, its, r, ob, e, c⟩ := x; exact ⟨z, its, r, ob, k _ _ (.inl rfl) e, c⟩
  | dK kvs => obtain ⟨z, y, vs, r, ob, es, ep, e, c⟩ := x; exact ⟨z, y, vs, r, ob, es, ep, k _ _ (.inl rfl) e, c⟩
  | dT kvs =>
    obtain ⟨z, y, xs, r, ob, es, ep, e, c⟩ := x
    exact ⟨z, y, xs, Paired.mapP r fun p q z => ⟨z.1, ht _ _ z.2.1, z.2.2⟩, ob, es, ep, k _ _ (.inl rfl) e, c⟩
  | set S n => obtain ⟨ob, es, ep, t, e, c⟩ := x; exact ⟨ob, es, ep, t, k _ _ (.inl rfl) e, c⟩
  | ins C dx fs =>
    obtain ⟨d, z, ne, e, mA, ⟨od, es, ep, e2, c⟩, r⟩ := x
    exact ⟨ho _ d, z, ne, k _ _ (.inl rfl) e, mA, ⟨od, es, ep, k _ _ (.inr d) e2, c⟩, r⟩
  | own y => obtain ⟨ob, e⟩ := x; exact ⟨ob, k _ _ (.inl rfl) e⟩
  | xd fs => obtain ⟨mA, ⟨od, es, ep, e, c⟩, r⟩ := x; exact ⟨mA, ⟨od, es, ep, k _ _ (.inl rfl) e, c⟩, r⟩
  | rng lo hi => obtain ⟨t, u, v, e⟩ := x; exact ⟨t, u, v, k _ _ (.inl rfl) e⟩
  | frz ob u ih => obtain ⟨e, q⟩ := x; exact ⟨k _ _ (.inl rfl) e, ih q⟩
  | tbl ps =>
    have e : h.get? a = some { cls := .none, data := .fields ps } := x
    show h'.get? a = some { cls := .none, data := .fields ps }
    exact k a _ (.inl rfl) e
  | met f y =>
    have e : h.get? a = some (PySem.W.methodObj (.ref f) (.ref y)) := x
    show h'.get? a = some (PySem.W.methodObj (.ref f) (.ref y))
    exact k a _ (.inl rfl) e
  | ext φ => obtain ⟨p, ⟨o, e⟩, st⟩ := x; exact ⟨st _ _ p fun o q => k _ _ (.inl rfl) q, ⟨o, k _ _ (.inl rfl) e⟩, st⟩
theorem HOk.lt (x : HOk P w H h) (e : H a = some o) : a < h.objs.size := (x a o e).lt
theorem HOk.fresh (x : HOk P w H h) (e : h.objs.size ≤ a) : H a = none := by
  cases q : H a with
  | none => rfl
  | some u => exact absurd (Nat.lt_of_lt_of_le (x.lt q) e) (Nat.lt_irrefl _)
/-- every object of the heap is kept -/
theorem HOk.kept (x : HOk P w H h) (k : ∀ b u, h.get? b = some u → h'.get? b = some u) : HOk P w H h' := fun a o e =>
  (x a o e).stay (fun b u _ q => k b u q) (fun _ q => q) fun _ _ q => q
/-- a new object is laid and tracked -/
theorem HOk.laid (x : HOk P w H h) (k : ∀ b u, h.get? b = some u → h'.get? b = some u) (hp : h.objs.size ≤ a) (new : ObjOk P w (upd H a o) h' a o) : HOk P w (upd H a o) h' := fun b u e => by
  have hn := x.fresh hp
  by_cases hb : b = a
  · subst hb; rw [upd_same] at e; cases e; exact new
  · rw [upd_ne hb] at e
    exact (x b u e).stay (fun c v _ q => k c v q) (fun c q => by rw [upd_ne (ne_of_none q hn)]; exact q) fun c xs q => by rw [upd_ne (ne_of_none q hn)]; exact q
end

/-- what may be read as u: it is u, or a known u -/
noncomputable def Rd (H : Hp) (a : Addr) (u : HO) : Prop := H a = some u ∨ ∃ o, H a = some (.frz o u)
theorem Rd.ok {P : Program} {w : World} {H : Hp} {h : Heap} {a : Addr} {u : HO} (r : Rd H a u) (x : HOk P w H h) : ObjOk P w H h a u := by
  rcases r with r | ⟨o, r⟩
  · exact x a u r
  · obtain ⟨_, q⟩ := x a _ r
    exact q
/-- what may be written -/
noncomputable def Mut : Option HO → Prop
  | some (.lst _) => True
  | some (.dK _) => True
  | some (.dT _) => True
  | some (.set _ _) => True
  | some (.ins _ _ _) => True
  | some (.ext _) => True
  | _ => False
section
variable {P : Program} {w : World} {H : Hp} {h h' : Heap} {x e : Addr} {o' : HO}
/-- the object at e is changed: x itself, or the dict of the instance x -/
theorem HOk.write (ok : HOk P w H h) (mu : Mut (H x)) (he : e = x ∨ H e = some (.own x)) (k : ∀ b u, b ≠ e → h.get? b = some u → h'.get? b = some u) (heo : ∃ u, h'.get? e = some u)
    (new : ObjOk P w (upd H x o') h' x o') : HOk P w (upd H x o') h' := fun b u q => by
  have nown : ∀ c y, H c = some (.own y) → c ≠ x := fun c y r z => by subst z; rw [r] at mu; exact mu
  have ntup : ∀ c xs, H c = some (.tup xs) → c ≠ x := fun c xs r z => by subst z; rw [r] at mu; exact mu
  by_cases hb : b = x
  · subst hb; rw [upd_same] at q; cases q; exact new
  · rw [upd_ne hb] at q
    by_cases hbe : b = e
    · have q' : H b = some (.own x) := by
        rcases he with z | z
        · exact absurd (hbe.trans z) hb
        · rw [hbe]; exact z
      rw [q] at q'; cases q'
      obtain ⟨v, hv⟩ := heo
      exact ⟨v, by rw [hbe]; exact hv⟩
    · refine (ok b u q).stay (fun c v hc r => k c v ?_ r) (fun c r => by rw [upd_ne (nown c b r)]; exact r) fun c xs r => by rw [upd_ne (ntup c xs r)]; exact r
      rcases hc with rfl | hc
      · exact hbe
      · rintro rfl
        rcases he with z | z
        · exact nown c b hc z
        · rw [hc] at z; cases z; exact hb rfl
end

/-! ### kept unless tracked; of the frames at fs (the callers') the slots may change (an exception that passes writes there); of the records at ex (iterators) nothing is said -/
structure Un (fs ex : List Addr) (H H' : Hp) (h h' : Heap) : Prop where
  keep : ∀ b o, h.get? b = some o → H b = none → b ∉ fs → b ∉ ex → h'.get? b = some o
  slot : ∀ b o, h.get? b = some o → H b = none → b ∈ fs → b ∉ ex → ∃ sl, h'.get? b = some { o with slots := sl }
  free : ∀ b o, h.get? b = some o → H b = none → b ∉ ex → H' b = none
  there : ∀ b o, h.get? b = some o → b ∉ ex → ∃ o', h'.get? b = some o'
  tups : ∀ b xs, H b = some (.tup xs) → H' b = some (.tup xs)
  frzs : ∀ b o u, H b = some (.frz o u) → H' b = some (.frz o u)
  tbls : ∀ b ps, H b = some (.tbl ps) → ∃ more, H' b = some (.tbl (ps ++ more))
section
variable {fs fs' ex ex' : List Addr} {H H1 H2 : Hp} {h h1 h2 h' : Heap} {a x e : Addr} {o : HO}
theorem Un.any (u : Un fs ex H H1 h h1) {b : Addr} {ob : Obj} (q : h.get? b = some ob) (n : H b = none) (hx : b ∉ ex) : ∃ sl, h1.get? b = some { ob with slots := sl } := by
  by_cases hb : b ∈ fs
  · exact u.slot b ob q n hb hx
  · exact ⟨ob.slots, u.keep b ob q n hb hx⟩
theorem Un.kept (k : ∀ b u, h.get? b = some u → h'.get? b = some u) : Un fs ex H H h h' :=
  ⟨fun b ob q _ _ _ => k b ob q, fun b ob q _ _ _ => ⟨ob.slots, k b ob q⟩, fun _ _ _ n _ => n, fun b ob q _ => ⟨ob, k b ob q⟩, fun _ _ q => q, fun _ _ _ q => q, fun _ ps q => ⟨#[], by rw [q]; simp⟩⟩
theorem Un.refl : Un fs ex H H h h := Un.kept fun _ _ q => q
theorem Un.laid (k : ∀ b u, h.get? b = some u → h'.get? b = some u) (hp : h.objs.size ≤ a) (hn : H a = none) : Un fs ex H (upd H a o) h h' where
  keep := fun b u q _ _ _ => k b u q
  slot := fun b u q _ _ _ => ⟨u.slots, k b u q⟩
  free := fun b u q n _ => by rw [upd_ne (Nat.ne_of_lt (Nat.lt_of_lt_of_le (Heap.lt_size q) hp))]; exact n
  there := fun b u q _ => ⟨u, k b u q⟩
  tups := fun b xs q => by rw [upd_ne (ne_of_none q hn)]; exact q
  frzs := fun b u xs q => by rw [upd_ne (ne_of_none q hn)]; exact q
  tbls := fun b ps q => ⟨#[], by rw [upd_ne (ne_of_none q hn), q]; simp⟩
theorem Un.write (mu : Mut (H x)) (he : e = x ∨ H e = some (.own x)) (k : ∀ b u, b ≠ e → h.get? b = some u → h'.get? b = some u) (heo : ∃ u, h'.get? e = some u) : Un fs ex H (upd H x o) h h' := by
  have hx : ∀ b, H b = none → b ≠ x := fun b n z => by subst z; rw [n] at mu; exact mu
  have hb : ∀ b, H b = none → b ≠ e := fun b n z => by
    subst z
    rcases he with r | r
    · exact hx b n r
    · rw [n] at r; cases r
  have hm : ∀ b u, H b = some u → ¬ Mut (some u) → b ≠ x := fun b u q nm z => by subst z; rw [q] at mu; exact nm mu
  refine ⟨fun b u q n _ _ => k b u (hb b n) q, fun b u q n _ _ => ⟨u.slots, k b u (hb b n) q⟩, fun b u q n _ => by rw [upd_ne (hx b n)]; exact n, fun b u q _ => ?_,
    fun b xs q => by rw [upd_ne (hm b _ q fun z => z)]; exact q, fun b u xs q => by rw [upd_ne (hm b _ q fun z => z)]; exact q, fun b ps q => ⟨#[], by rw [upd_ne (hm b _ q fun z => z), q]; simp⟩⟩
  by_cases hbe : b = e
  · subst hbe; exact heo
  · exact ⟨u, k b u hbe q⟩
end

/-! ### the heap without what is tracked -/
noncomputable def trk (h : Heap) (H : Hp) : List Addr := (List.range h.objs.size).filter fun a => (H a).isSome
noncomputable def hidT (h : Heap) (H : Hp) : Heap := PySem.W.hideAll h (trk h H)
theorem hidT_size (h : Heap) (H : Hp) : (hidT h H).objs.size = h.objs.size := PySem.W.hideAll_size _ _
theorem hidT_get {h : Heap} {H : Hp} {b : Addr} {o : Obj} (e : h.get? b = some o) (n : H b = none) : (hidT h H).get? b = some o :=
  PySem.W.hideAll_get _ e fun hm => by
    have q : (H b).isSome = true := (List.mem_filter.mp hm).2
    rw [n] at q; simp at q
theorem of_hidT {h : Heap} {H : Hp} {b : Addr} {o : Obj} (e : (hidT h H).get? b = some o) : h.get? b = some o ∧ H b = none := by
  have e' : h.get? b = some o := PySem.W.of_hideAll (trk h H) e
  refine ⟨e', ?_⟩
  cases q : H b with
  | none => rfl
  | some x =>
    have hm : b ∈ trk h H := List.mem_filter.mpr ⟨List.mem_range.mpr (Heap.lt_size e'), by simp [q]⟩
    have z : (hidT h H).get? b = none := PySem.W.hideAll_none (trk h H) hm
    rw [z] at e; cases e

/-! ### OpenK's ledger, filled with every new object but one -/
noncomputable def allNews (g h : Heap) (L : Addr) : List (Addr × Obj) := (List.range h.objs.size).filterMap fun a => if a = L ∨ (g.get? a).isSome = true then none else (h.get? a).map fun o => (a, o)
noncomputable def rest (g h : Heap) (L d : Addr) : List (Addr × Obj) := (allNews g h L).filter fun p => decide (p.1 ≠ d)
end L2

namespace L2
open PySem PySem.Spec PyProof.Rows

/-- the module's facts, over the base: the heap at the law's entry without what is tracked there -/
structure Mod (K : PySem.W.Frag) (mg : Str → Option Value) (base : Heap) : Prop where
  kin : K.In base
  glob : base.Ns mainGlobals mg
  blt : ∃ mb, base.Ns builtinsNs mb ∧ ∀ x : Str, x ≠ "__name__" → mb x = bootBuiltins x
  nolimit : base.NoLimit

/-- the context: a def's body (or a comprehension's block) running. base: fixed through the whole law; s₀, H₀: the entry; outer: the frames whose slots others may change (a def's callers); stack: all frames that run;
   ex: iterators that were made ahead of the entry and are walked here (a comprehension's); fn: the names whose cells were made at the entry (a def: all; a comprehension's block: its own); calm: not within an except suite; pn: pins that every state bears; xe: what is wanted of an exception that leaves the code -/
structure Cx where
  prog : Program
  w : World
  K : PySem.W.Frag
  mg : Str → Option Value
  base : Heap
  A : Around
  N : List Str
  s₀ : Shared
  H₀ : Hp
  env : Env
  outer : List Env
  stack : List Env
  ex : List Addr
  fn : Str → Bool
  calm : Bool
  pn : List (Addr × Obj)
  xe : Value → Shared → Prop
/-- the callers' frames -/
noncomputable def frs (l : List Env) : List Addr := l.filterMap (·.frame)
noncomputable abbrev Cx.fs (X : Cx) : List Addr := frs X.outer

noncomputable def Vis (sc : Scope) (x : Str) : Prop := sc.names.lookup x = some .local ∨ sc.names.lookup x = some .cell ∨ sc.names.lookup x = some .free
noncomputable def Loc (sc : Scope) (x : Str) : Prop := sc.names.lookup x = some .local ∨ sc.names.lookup x = some .cell
noncomputable def Look (env : Env) (h : Heap) (m : Str → Option Value) (x : Str) (u : Value) : Prop :=
  (env.kindOf x = some .local ∧ m x = some u) ∨ ((env.kindOf x = some .cell ∨ env.kindOf x = some .free) ∧ ∃ c, env.cells.lookup x = some c ∧ h.IsCell c (some u))

structure Cx.Ok (X : Cx) : Prop where
  mod : Mod X.K X.mg X.base
  kind : X.env.scope.kind = .function
  glob : X.env.globals = mainGlobals
  blt : X.env.builtins = builtinsNs
  above : X.s₀.heap.objs.size ≤ X.env.locals
  inj : ∀ x y c, X.env.cells.lookup x = some c → X.env.cells.lookup y = some c → x = y
  has : ∀ x, (X.env.kindOf x = some .cell ∨ X.env.kindOf x = some .free) → ∃ c, X.env.cells.lookup x = some c
  cab : ∀ x c, X.fn x = true → X.env.cells.lookup x = some c → X.s₀.heap.objs.size ≤ c
  hd : X.calm = true → X.A.handled = none
  frames : X.A.frames = some X.stack
  stk : X.stack = X.outer ∨ (X.stack = X.env :: X.outer ∧ X.env.frame = some X.env.locals)
  exf : ∀ b ∈ X.ex, b ≠ X.env.locals ∧ ∀ x c, X.env.cells.lookup x = some c → c ≠ b
  bs : ∀ b o, X.base.get? b = some o → X.s₀.heap.get? b = some o ∧ X.H₀ b = none
  bsz : X.base.objs.size ≤ X.s₀.heap.objs.size
  noex : ∀ b o, X.base.get? b = some o → b ∉ X.ex
  exfs : ∀ b ∈ X.ex, b ∉ X.fs
  funs : X.s₀.heap.FunFrames X.base X.outer
  frf : ∀ b ∈ X.fs, X.H₀ b = none

structure Inv (X : Cx) (pins : List (Addr × Obj)) (σ : List (Option V)) (H : Hp) (s : Shared) : Prop where
  ok : X.Ok
  os : s.os = X.s₀.os
  bare : AllBare s.gens
  base : Un X.fs X.ex X.H₀ H X.s₀.heap s.heap
  loc : ∃ m, s.heap.Ns X.env.locals m ∧ ∀ (i : Nat) (x : Str) (v : V), X.N[i]? = some x → σ[i]? = some (some v) → Vis X.env.scope x → ∃ u, RelV v u ∧ Look X.env s.heap m x u
  cell : ∀ x c, X.env.cells.lookup x = some c → ∃ v, s.heap.IsCell c v
  free : H X.env.locals = none
  freeC : ∀ x c, X.env.cells.lookup x = some c → H c = none
  pin : ∀ p ∈ X.pn ++ pins, s.heap.get? p.1 = some p.2 ∧ H p.1 = none ∧ p.1 ≠ X.env.locals ∧ p.1 ∉ X.fs ∧ ∀ v, p.2.data ≠ .cell v
  hok : HOk X.prog X.w H s.heap
  len : σ.length = X.N.length

section
variable {X : Cx} {pins : List (Addr × Obj)} {σ : List (Option V)} {H H' : Hp} {s : Shared} {h' : Heap}

theorem Cx.Ok.nofr (ok : X.Ok) {b : Addr} {o : Obj} (e : X.base.get? b = some o) : b ∉ X.fs := fun hb => by
  have := (ok.funs.mem hb).1
  rw [e] at this; cases this
theorem Inv.bs (I : Inv X pins σ H s) : ∀ b o, X.base.get? b = some o → s.heap.get? b = some o ∧ H b = none := fun b o e =>
  ⟨I.base.keep b o (I.ok.bs b o e).1 (I.ok.bs b o e).2 (I.ok.nofr e) (I.ok.noex b o e), I.base.free b o (I.ok.bs b o e).1 (I.ok.bs b o e).2 (I.ok.noex b o e)⟩
theorem Inv.bk (I : Inv X pins σ H s) : ∀ b o, X.base.get? b = some o → s.heap.get? b = some o := fun b o e => (I.bs b o e).1
theorem Inv.mod (I : Inv X pins σ H s) : Mod X.K X.mg X.base := I.ok.mod
theorem Inv.kIn (I : Inv X pins σ H s) : X.K.In s.heap := I.ok.mod.kin.keeps I.bk
theorem Inv.lt (I : Inv X pins σ H s) : X.env.locals < s.heap.objs.size := let ⟨_, hn, _⟩ := I.loc; hn.lt
theorem Inv.sz (I : Inv X pins σ H s) : X.s₀.heap.objs.size ≤ s.heap.objs.size := Nat.le_trans I.ok.above (Nat.le_of_lt I.lt)
theorem Inv.nofs (I : Inv X pins σ H s) {a : Addr} (h : s.heap.objs.size ≤ a) : a ∉ X.fs := fun hb => by
  obtain ⟨_, o, ho, _⟩ := I.ok.funs.mem hb
  exact absurd (Nat.lt_of_lt_of_le (Heap.lt_size ho) (Nat.le_trans I.sz h)) (Nat.lt_irrefl _)
theorem Inv.cne (I : Inv X pins σ H s) : ∀ x c, X.env.cells.lookup x = some c → c ≠ X.env.locals := fun x c e z => by
  obtain ⟨v, o, ho, hd⟩ := I.cell x c e
  obtain ⟨m, ⟨o', es, ep, ho', hd', _⟩, _⟩ := I.loc
  rw [z, ho'] at ho; cases ho; rw [hd'] at hd; cases hd
theorem Inv.funs (I : Inv X pins σ H s) : s.heap.FunFrames X.base X.outer := by
  have all : ∀ (l : List Env), (∀ b ∈ frs l, b ∈ X.fs) → X.s₀.heap.FunFrames X.base l → s.heap.FunFrames X.base l := by
    intro l
    induction l with
    | nil => intro _ _; trivial
    | cons env r ih =>
      intro hs hl
      obtain ⟨hk, ⟨L, o, hf, hn, ho, hd⟩, hr⟩ := hl
      have hL : L ∈ X.fs := hs L (by unfold frs; rw [List.filterMap_cons, hf]; exact List.mem_cons_self)
      obtain ⟨sl, e⟩ := I.base.slot L o ho (I.ok.frf L hL) hL fun z => I.ok.exfs L z hL
      exact ⟨hk, ⟨L, _, hf, hn, e, hd⟩, ih (fun b hb => hs b (by unfold frs; rw [List.filterMap_cons, hf]; exact List.mem_cons_of_mem _ hb)) hr⟩
  exact all X.outer (fun _ hb => hb) I.ok.funs

/-- the frames that run, for a call -/
theorem Inv.stack (I : Inv X pins σ H s) : s.heap.FunFrames X.base X.stack := by
  rcases I.ok.stk with e | ⟨e, hf⟩
  · rw [e]; exact I.funs
  · rw [e]
    obtain ⟨m, hn, _⟩ := I.loc
    refine .cons (by rw [I.ok.kind]; decide) hf hn ?_ I.funs
    exact Heap.get?_none_of_le (Nat.le_trans I.ok.bsz I.ok.above)
theorem Inv.stkSub (I : Inv X pins σ H s) : ∀ b ∈ frs X.stack, b ∈ X.env.locals :: X.fs := fun b hb => by
  rcases I.ok.stk with e | ⟨e, hf⟩
  · rw [e] at hb; exact List.mem_cons_of_mem _ hb
  · rw [e] at hb
    unfold frs at hb
    rw [List.filterMap_cons, hf] at hb
    exact hb
theorem Inv.stkFree (I : Inv X pins σ H s) : ∀ b ∈ frs X.stack, H b = none := fun b hb => by
  rcases List.mem_cons.mp (I.stkSub b hb) with e | hb
  · rw [e]; exact I.free
  · obtain ⟨_, o, ho, _⟩ := I.ok.funs.mem hb
    exact I.base.free b o ho (I.ok.frf b hb) fun z => I.ok.exfs b z hb

/-- THE STEP: the untracked objects but the frame and the records at ch are kept (the callers' frames up to slots), the frame's map is kept, the new abstract heap is held -/
theorem Inv.step {g' : Array GenState} {t' : Nat} {d' : Drawn} {ch : List Addr} (I : Inv X pins σ H s)
    (hch : ∀ b ∈ ch, (b ∈ X.ex ∨ X.s₀.heap.objs.size ≤ b) ∧ b ≠ X.env.locals ∧ (∀ x c, X.env.cells.lookup x = some c → c ≠ b) ∧ ∀ p ∈ X.pn ++ pins, p.1 ≠ b)
    (keep : ∀ b o, b ≠ X.env.locals → b ∉ X.fs → b ∉ ch → s.heap.get? b = some o → H b = none → h'.get? b = some o)
    (slot : ∀ b o, b ≠ X.env.locals → b ∈ X.fs → b ∉ ch → s.heap.get? b = some o → H b = none → ∃ sl, h'.get? b = some { o with slots := sl }) (free : ∀ b o, b ∉ ch → s.heap.get? b = some o → H b = none → H' b = none)
    (there : ∀ b o, b ∉ ch → s.heap.get? b = some o → ∃ o', h'.get? b = some o')
    (tups : ∀ b xs, H b = some (.tup xs) → H' b = some (.tup xs)) (frzs : ∀ b o u, H b = some (.frz o u) → H' b = some (.frz o u)) (tbls : ∀ b ps, H b = some (.tbl ps) → ∃ more, H' b = some (.tbl (ps ++ more)))
    (ns : ∀ m, s.heap.Ns X.env.locals m → h'.Ns X.env.locals m) (hok : HOk X.prog X.w H' h') (hg : AllBare g') :
    Inv X pins σ H' { s with heap := h', gens := g', drawn := d', toks := t' } := by
  have neL : ∀ b o, X.s₀.heap.get? b = some o → b ≠ X.env.locals := fun b o e => Nat.ne_of_lt (Nat.lt_of_lt_of_le (Heap.lt_size e) I.ok.above)
  have neC : ∀ b o, X.s₀.heap.get? b = some o → b ∉ X.ex → b ∉ ch := fun b o e hx hb => by
    rcases (hch b hb).1 with z | z
    · exact hx z
    · exact absurd (Nat.lt_of_lt_of_le (Heap.lt_size e) z) (Nat.lt_irrefl _)
  have cellK : ∀ x c, X.env.cells.lookup x = some c → ∀ v, s.heap.IsCell c v → h'.IsCell c v := fun x c e v ⟨o, ho, hd⟩ => by
    have nch : c ∉ ch := fun z => (hch c z).2.2.1 x c e rfl
    by_cases hc : c ∈ X.fs
    · obtain ⟨sl, q⟩ := slot c o (I.cne x c e) hc nch ho (I.freeC x c e)
      exact ⟨_, q, hd⟩
    · exact ⟨o, keep c o (I.cne x c e) hc nch ho (I.freeC x c e), hd⟩
  refine ⟨I.ok, I.os, hg, ⟨fun b o e n hb hx => ?_, fun b o e n hb hx => ?_, fun b o e n hx => ?_, fun b o e hx => ?_, fun b xs e => tups b xs (I.base.tups b xs e), fun b o xs e => frzs b o xs (I.base.frzs b o xs e), fun b ps e => ?_⟩, ?_, fun x c e => ?_, ?_, fun x c e => ?_, fun p hp => ?_, hok, I.len⟩
  · exact keep b o (neL b o e) hb (neC b o e hx) (I.base.keep b o e n hb hx) (I.base.free b o e n hx)
  · obtain ⟨sl, e1⟩ := I.base.slot b o e n hb hx
    obtain ⟨sl', e2⟩ := slot b _ (neL b o e) hb (neC b o e hx) e1 (I.base.free b o e n hx)
    exact ⟨sl', e2⟩
  · obtain ⟨o', e1⟩ := I.base.there b o e hx
    exact free b o' (neC b o e hx) e1 (I.base.free b o e n hx)
  · obtain ⟨o', e1⟩ := I.base.there b o e hx
    exact there b o' (neC b o e hx) e1
  · obtain ⟨m1, e1⟩ := I.base.tbls b ps e
    obtain ⟨m2, e2⟩ := tbls b _ e1
    exact ⟨m1 ++ m2, by rw [e2, Array.append_assoc]⟩
  · obtain ⟨m, hn, hl⟩ := I.loc
    refine ⟨m, ns m hn, fun i x v e1 e2 e3 => ?_⟩
    obtain ⟨u, r, l⟩ := hl i x v e1 e2 e3
    refine ⟨u, r, ?_⟩
    rcases l with l | ⟨k, c, e, z⟩
    · exact .inl l
    · exact .inr ⟨k, c, e, cellK x c e _ z⟩
  · obtain ⟨v, z⟩ := I.cell x c e
    exact ⟨v, cellK x c e v z⟩
  · obtain ⟨m, ⟨o, _, _, ho, _⟩, _⟩ := I.loc
    exact free _ o (fun z => (hch _ z).2.1 rfl) ho I.free
  · obtain ⟨v, o, ho, hd⟩ := I.cell x c e
    exact free c o (fun z => (hch c z).2.2.1 x c e rfl) ho (I.freeC x c e)
  · obtain ⟨e, n, ne, nf, d⟩ := I.pin p hp
    have nch : p.1 ∉ ch := fun z => (hch p.1 z).2.2.2 p hp rfl
    exact ⟨keep p.1 p.2 ne nf nch e n, free p.1 p.2 nch e n, ne, nf, d⟩
/-- .. where the frame's own object is kept too -/
theorem Inv.un {t' : Nat} (I : Inv X pins σ H s) (u : Un X.fs [] H H' s.heap h') (hok : HOk X.prog X.w H' h') : Inv X pins σ H' { s with heap := h', toks := t' } := by
  obtain ⟨m, ⟨o, es, ep, ho, r⟩, _⟩ := id I.loc
  obtain ⟨sl, hL⟩ := u.any ho I.free (by simp)
  exact I.step (g' := s.gens) (d' := s.drawn) (ch := []) (fun _ z => nomatch z) (fun b o _ hb _ e n => u.keep b o e n hb (by simp)) (fun b o _ hb _ e n => u.slot b o e n hb (by simp)) (fun b o _ e n => u.free b o e n (by simp)) (fun b o _ e => u.there b o e (by simp)) u.tups u.frzs u.tbls (fun m' hm => by
    obtain ⟨o', es', ep', ho', r'⟩ := hm
    rw [ho] at ho'; cases ho'
    exact ⟨_, es', ep', hL, r'⟩) hok I.bare
/-- behind a call (or a comprehension's block): the slots of this frame may have changed too, the records at ch may have turned -/
theorem Inv.call {g' : Array GenState} {t' : Nat} {d' : Drawn} {ch : List Addr} (I : Inv X pins σ H s) (u : Un (frs X.stack) ch H H' s.heap h') (hok : HOk X.prog X.w H' h') (hg : AllBare g')
    (hch : ∀ b ∈ ch, (b ∈ X.ex ∨ X.s₀.heap.objs.size ≤ b) ∧ b ≠ X.env.locals ∧ (∀ x c, X.env.cells.lookup x = some c → c ≠ b) ∧ ∀ p ∈ X.pn ++ pins, p.1 ≠ b) :
    Inv X pins σ H' { s with heap := h', gens := g', drawn := d', toks := t' } := by
  obtain ⟨m, ⟨o, es, ep, ho, r⟩, _⟩ := id I.loc
  obtain ⟨sl, hL⟩ := u.any ho I.free fun z => (hch _ z).2.1 rfl
  exact I.step (ch := ch) hch (fun b o hL hb hc e n => u.keep b o e n (fun z => (List.mem_cons.mp (I.stkSub b z)).elim hL hb) hc) (fun b o _ _ hc e n => u.any e n hc) (fun b o hc e n => u.free b o e n hc) (fun b o hc e => u.there b o e hc) u.tups u.frzs u.tbls (fun m' hm => by
    obtain ⟨o', es', ep', ho', r'⟩ := hm
    rw [ho] at ho'; cases ho'
    exact ⟨_, es', ep', hL, r'⟩) hok hg
/-- an untracked record of ours (an iterator) has turned -/
theorem Inv.turned {t' : Nat} {it : Addr} (I : Inv X pins σ H s) (k : ∀ b o, b ≠ it → s.heap.get? b = some o → h'.get? b = some o) (hn : H it = none) (hL : it ≠ X.env.locals)
    (h1 : it ∈ X.ex ∨ X.s₀.heap.objs.size ≤ it) (h2 : ∀ x c, X.env.cells.lookup x = some c → c ≠ it) (h3 : ∀ p ∈ X.pn ++ pins, p.1 ≠ it) : Inv X pins σ H { s with heap := h', toks := t' } := by
  have nit : ∀ b u, H b = some u → b ≠ it := fun b u e z => by rw [z, hn] at e; cases e
  refine I.step (g' := s.gens) (d' := s.drawn) (ch := [it]) (fun b hb => ?_) (fun b o _ _ hc e _ => k b o (fun z => hc (by simp [z])) e) (fun b o _ _ hc e _ => ⟨o.slots, k b o (fun z => hc (by simp [z])) e⟩) (fun _ _ _ _ n => n)
    (fun b o hc e => ⟨o, k b o (fun z => hc (by simp [z])) e⟩) (fun _ _ e => e) (fun _ _ _ e => e) (fun b ps e => ⟨#[], by rw [e]; simp⟩) (fun m hm => ?_) (fun b u e => ?_) I.bare
  · have e : b = it := by simpa using hb
    subst e
    exact ⟨h1, hL, h2, h3⟩
  · obtain ⟨o, es, ep, ho, r⟩ := hm
    exact ⟨o, es, ep, k _ o (Ne.symm hL) ho, r⟩
  · refine (I.hok b u e).stay (fun c v hc q => k c v ?_ q) (fun _ q => q) fun _ _ q => q
    rcases hc with z | z
    · rw [z]; exact nit b u e
    · exact nit c _ z
theorem Inv.tok (I : Inv X pins σ H s) (t : Nat) : Inv X pins σ H { s with toks := t } := I.un (h' := s.heap) (t' := t) Un.refl I.hok
/-- all objects kept -/
theorem Inv.kept {t' : Nat} (I : Inv X pins σ H s) (k : ∀ b u, s.heap.get? b = some u → h'.get? b = some u) : Inv X pins σ H { s with heap := h', toks := t' } := I.un (Un.kept k) (I.hok.kept k)
/-- a new object laid and tracked -/
theorem Inv.laid {a : Addr} {o : HO} {t' : Nat} (I : Inv X pins σ H s) (k : ∀ b u, s.heap.get? b = some u → h'.get? b = some u) (hp : s.heap.objs.size ≤ a) (new : ObjOk X.prog X.w (upd H a o) h' a o) :
    Inv X pins σ (upd H a o) { s with heap := h', toks := t' } := I.un (Un.laid k hp (I.hok.fresh hp)) (I.hok.laid k hp new)
/-- an object written -/
theorem Inv.write {x e : Addr} {o : HO} {t' : Nat} (I : Inv X pins σ H s) (mu : Mut (H x)) (he : e = x ∨ H e = some (.own x)) (k : ∀ b u, b ≠ e → s.heap.get? b = some u → h'.get? b = some u) (heo : ∃ u, h'.get? e = some u)
    (new : ObjOk X.prog X.w (upd H x o) h' x o) : Inv X pins σ (upd H x o) { s with heap := h', toks := t' } := I.un (Un.write mu he k heo) (I.hok.write mu he k heo new)
/-- forgetting slots, pins -/
theorem Inv.weak {σ' : List (Option V)} (I : Inv X pins σ H s) (hl : σ'.length = σ.length) (w : ∀ (i : Nat) v, σ'[i]? = some (some v) → σ[i]? = some (some v)) : Inv X pins σ' H s :=
  ⟨I.ok, I.os, I.bare, I.base, let ⟨m, hn, hl'⟩ := I.loc; ⟨m, hn, fun i x v e1 e2 e3 => hl' i x v e1 (w i v e2) e3⟩, I.cell, I.free, I.freeC, I.pin, I.hok, hl.trans I.len⟩
theorem Inv.pins_of {pins' : List (Addr × Obj)} (I : Inv X pins σ H s) (h : ∀ p ∈ pins', s.heap.get? p.1 = some p.2 ∧ H p.1 = none ∧ p.1 ≠ X.env.locals ∧ p.1 ∉ X.fs ∧ ∀ v, p.2.data ≠ .cell v) : Inv X pins' σ H s :=
  ⟨I.ok, I.os, I.bare, I.base, I.loc, I.cell, I.free, I.freeC, fun p hp => (List.mem_append.mp hp).elim (fun z => I.pin p (List.mem_append_left _ z)) (h p), I.hok, I.len⟩

theorem nodup_ix {N : List Str} (hN : N.Nodup) {i j : Nat} {x : Str} (a : N[i]? = some x) (b : N[j]? = some x) : i = j := by
  obtain ⟨h1, e1⟩ := List.getElem?_eq_some_iff.mp a
  obtain ⟨h2, e2⟩ := List.getElem?_eq_some_iff.mp b
  exact (List.getElem_inj hN).mp (e1.trans e2.symm)

/-- a name is stored; what changed -/
theorem store_ok2 {M : Model} {A : Around} {E : Value → Shared → Prop} {i : Nat} {x : Str} {v : V} {u : Value} {Q : Unit → Shared → Prop} (I : Inv X pins σ H s) (hN : X.N.Nodup) (hi : X.N[i]? = some x) (hx : Loc X.env.scope x) (r : RelV v u)
    (h : ∀ s', Inv X pins (σ.set i (some v)) H s' → (∃ a, Heap.SameBut a s.heap s'.heap ∧ (a = X.env.locals ∨ X.env.cells.lookup x = some a)) → Q () s') (hf : X.fn x = true ∨ X.env.scope.names.lookup x = some .local := by first | exact .inl rfl | exact .inr rfl | assumption) : wpAny M A (storeName X.env x u) Q E s := by
  obtain ⟨m, hn, hl⟩ := id I.loc
  have hcls : (X.env.scope.kind == .class || (X.env.scope.kind == .module && X.env.locals != X.env.globals)) = false := by rw [I.ok.kind]; rfl
  have hiσ : i < σ.length := by rw [I.len]; exact (List.getElem?_eq_some_iff.mp hi).1
  have cne := I.cne
  have tracked : ∀ {a : Addr} {h' : Heap}, (∃ o, s.heap.get? a = some o ∧ H a = none) → Heap.SameBut a s.heap h' → HOk X.prog X.w H h' := fun {a h'} ha hs b ob e => by
    obtain ⟨_, _, hfree⟩ := ha
    refine (I.hok b ob e).stay (fun c w' hc q => (hs.2 c ?_).trans q) (fun _ q => q) fun _ _ q => q
    rintro rfl
    rcases hc with rfl | hc
    · rw [hfree] at e; cases e
    · rw [hfree] at hc; cases hc
  rcases hx with hk | hk
  · refine wpAny_storeName_local hk hn (fun h' hn' hs => ?_) hcls
    obtain ⟨oL, _, _, hoL, _⟩ := id hn
    refine h _ ⟨I.ok, I.os, I.bare, ⟨fun b o e n hb hx => ?_, fun b o e n hb hx => ?_, I.base.free, fun b o e hx => ?_, I.base.tups, I.base.frzs, I.base.tbls⟩, ⟨_, hn', fun j y v' e1 e2 e3 => ?_⟩, fun y c e => ?_, I.free, I.freeC, fun p hp => ?_, tracked ⟨oL, hoL, I.free⟩ hs, by simpa using I.len⟩ ⟨_, hs, .inl rfl⟩
    · exact (hs.2 b (Nat.ne_of_lt (Nat.lt_of_lt_of_le (Heap.lt_size e) I.ok.above))).trans (I.base.keep b o e n hb hx)
    · obtain ⟨sl, e1⟩ := I.base.slot b o e n hb hx
      exact ⟨sl, (hs.2 b (Nat.ne_of_lt (Nat.lt_of_lt_of_le (Heap.lt_size e) I.ok.above))).trans e1⟩
    · obtain ⟨o', e1⟩ := I.base.there b o e hx
      exact ⟨o', (hs.2 b (Nat.ne_of_lt (Nat.lt_of_lt_of_le (Heap.lt_size e) I.ok.above))).trans e1⟩
    · by_cases hj : j = i
      · subst hj
        rw [hi] at e1; cases e1
        rw [List.getElem?_set_self hiσ] at e2
        cases e2
        exact ⟨u, r, .inl ⟨hk, by simp⟩⟩
      · rw [List.getElem?_set_ne (Ne.symm hj)] at e2
        obtain ⟨u', r', q⟩ := hl j y v' e1 e2 e3
        refine ⟨u', r', ?_⟩
        rcases q with ⟨k, e⟩ | ⟨k, c, e, z⟩
        · refine .inl ⟨k, ?_⟩
          have : y ≠ x := fun e => hj (nodup_ix hN e1 (e ▸ hi))
          simp [this, e]
        · exact .inr ⟨k, c, e, z.sameBut hs (cne y c e)⟩
    · obtain ⟨w', z⟩ := I.cell y c e
      exact ⟨w', z.sameBut hs (cne y c e)⟩
    · obtain ⟨e, n, ne, nf, d⟩ := I.pin p hp
      exact ⟨(hs.2 p.1 ne).trans e, n, ne, nf, d⟩
  · have hfn : X.fn x = true := by
      rcases hf with z | z
      · exact z
      · rw [z] at hk; cases hk
    obtain ⟨c, hc⟩ := I.ok.has x (.inl hk)
    obtain ⟨w', z⟩ := I.cell x c hc
    refine wpAny_storeName_cell I.ok.kind hk hc z (fun h' hc' hs => ?_)
    obtain ⟨oc, hoc, hocd⟩ := id z
    refine h { s with heap := h' } ⟨I.ok, I.os, I.bare, ⟨fun b o e n hb hx => ?_, fun b o e n hb hx => ?_, I.base.free, fun b o e hx => ?_, I.base.tups, I.base.frzs, I.base.tbls⟩, ⟨m, hn.sameBut hs (Ne.symm (cne x c hc)), fun j y v' e1 e2 e3 => ?_⟩, fun y c' e => ?_, I.free, I.freeC, fun p hp => ?_, tracked ⟨oc, hoc, I.freeC x c hc⟩ hs, by simpa using I.len⟩ ⟨c, hs, .inr hc⟩
    · exact (hs.2 b (Nat.ne_of_lt (Nat.lt_of_lt_of_le (Heap.lt_size e) (I.ok.cab x c hfn hc)))).trans (I.base.keep b o e n hb hx)
    · obtain ⟨sl, e1⟩ := I.base.slot b o e n hb hx
      exact ⟨sl, (hs.2 b (Nat.ne_of_lt (Nat.lt_of_lt_of_le (Heap.lt_size e) (I.ok.cab x c hfn hc)))).trans e1⟩
    · obtain ⟨o', e1⟩ := I.base.there b o e hx
      exact ⟨o', (hs.2 b (Nat.ne_of_lt (Nat.lt_of_lt_of_le (Heap.lt_size e) (I.ok.cab x c hfn hc)))).trans e1⟩
    · by_cases hj : j = i
      · subst hj
        rw [hi] at e1; cases e1
        rw [List.getElem?_set_self hiσ] at e2
        cases e2
        exact ⟨u, r, .inr ⟨.inl hk, c, hc, hc'⟩⟩
      · rw [List.getElem?_set_ne (Ne.symm hj)] at e2
        obtain ⟨u', r', q⟩ := hl j y v' e1 e2 e3
        refine ⟨u', r', ?_⟩
        rcases q with q | ⟨k, c', e, z'⟩
        · exact .inl q
        · refine .inr ⟨k, c', e, z'.sameBut hs ?_⟩
          rintro rfl
          exact hj (nodup_ix hN e1 (I.ok.inj _ _ _ e hc ▸ hi))
    · by_cases hcc : c' = c
      · subst hcc; exact ⟨_, hc'⟩
      · obtain ⟨w2, z2⟩ := I.cell y c' e
        exact ⟨w2, z2.sameBut hs hcc⟩
    · obtain ⟨e, n, ne, nf, d⟩ := I.pin p hp
      refine ⟨(hs.2 p.1 ?_).trans e, n, ne, nf, d⟩
      intro q
      rw [q, hoc] at e
      have q' : oc = p.2 := Option.some.inj e
      exact d w' (by rw [← q']; exact hocd)
theorem store_ok {M : Model} {A : Around} {E : Value → Shared → Prop} {i : Nat} {x : Str} {v : V} {u : Value} {Q : Unit → Shared → Prop} (I : Inv X pins σ H s) (hN : X.N.Nodup) (hi : X.N[i]? = some x) (hx : Loc X.env.scope x) (r : RelV v u)
    (h : ∀ s', Inv X pins (σ.set i (some v)) H s' → Q () s') (hf : X.fn x = true ∨ X.env.scope.names.lookup x = some .local := by first | exact .inl rfl | exact .inr rfl | assumption) : wpAny M A (storeName X.env x u) Q E s :=
  store_ok2 I hN hi hx r (fun s' I' _ => h s' I') hf
/-- behind a call or a block, the state as it is -/
theorem Inv.call' {s' : Shared} {ch : List Addr} (I : Inv X pins σ H s) (ho : s'.os = s.os) (u : Un (frs X.stack) ch H H' s.heap s'.heap) (hok : HOk X.prog X.w H' s'.heap) (hg : AllBare s'.gens)
    (hch : ∀ b ∈ ch, (b ∈ X.ex ∨ X.s₀.heap.objs.size ≤ b) ∧ b ≠ X.env.locals ∧ (∀ x c, X.env.cells.lookup x = some c → c ≠ b) ∧ ∀ p ∈ X.pn ++ pins, p.1 ≠ b) : Inv X pins σ H' s' := by
  obtain ⟨h', g', d', t', o'⟩ := s'
  have e : o' = s.os := ho
  subst e
  exact I.call (g' := g') (t' := t') (d' := d') u hok hg hch
end

/-! ### the judgements -/
/-- an exception: its class, its own dict's address (where it has one), the abstract heap behind it -/
noncomputable abbrev XK := Value → Option Addr → Hp → Prop
noncomputable abbrev St := List (Option V)
noncomputable abbrev VK := V → Hp → Prop
/-- an expression's reading; a test's; an argument list's -/
noncomputable abbrev TE := St → Hp → VK → Prop
noncomputable abbrev TT := St → Hp → (Bool → Hp → Prop) → Prop
noncomputable abbrev TA := St → Hp → (List V → Hp → Prop) → Prop
/-- what is wanted behind a statement -/
structure Ends where
  nx : St → Hp → Prop
  rt : VK
  bk : St → Hp → Prop := fun _ _ => False
  ct : St → Hp → Prop := fun _ _ => False
noncomputable abbrev TS := Ends → St → Hp → Prop

noncomputable def EP (X : Cx) (pins : List (Addr × Obj)) (σ : St) (Q : VK) (u : Value) (s' : Shared) : Prop := ∃ v H', Inv X pins σ H' s' ∧ RelV v u ∧ Q v H'
noncomputable def TP (X : Cx) (pins : List (Addr × Obj)) (σ : St) (Q : Bool → Hp → Prop) (b : Bool) (s' : Shared) : Prop := ∃ H', Inv X pins σ H' s' ∧ Q b H'
noncomputable def AP (X : Cx) (pins : List (Addr × Obj)) (σ : St) (Q : List V → Hp → Prop) (us : List Value) (s' : Shared) : Prop := ∃ vs H', Inv X pins σ H' s' ∧ Vals vs us ∧ Q vs H'
noncomputable def SP (X : Cx) (pins : List (Addr × Obj)) (D : Ends) (f : Flow) (s' : Shared) : Prop :=
  match f with
  | .next => ∃ σ' H', Inv X pins σ' H' s' ∧ D.nx σ' H'
  | .brk => ∃ σ' H', Inv X pins σ' H' s' ∧ D.bk σ' H'
  | .cont => ∃ σ' H', Inv X pins σ' H' s' ∧ D.ct σ' H'
  | .ret u => ∃ v σ' H', Inv X pins σ' H' s' ∧ RelV v u ∧ D.rt v H'

noncomputable def PE (X : Cx) (e : Expr) (t : TE) : Prop :=
  ∀ (pins : List (Addr × Obj)) (s : Shared) (σ : St) (H : Hp) (Q : VK), Inv X pins σ H s → t σ H Q → wpAny (model X.prog X.w) X.A (eval e X.env) (EP X pins σ Q) X.xe s
noncomputable def PT (X : Cx) (e : Expr) (t : TT) : Prop :=
  ∀ (pins : List (Addr × Obj)) (s : Shared) (σ : St) (H : Hp) (Q : Bool → Hp → Prop), Inv X pins σ H s → t σ H Q → wpAny (model X.prog X.w) X.A (isTrue e X.env (eval e X.env)) (TP X pins σ Q) X.xe s
/-- a test whatever its 'whole' is (and, or) -/
noncomputable def PW (X : Cx) (e : Expr) (t : TT) : Prop :=
  ∀ (whole : Sem Value) (pins : List (Addr × Obj)) (s : Shared) (σ : St) (H : Hp) (Q : Bool → Hp → Prop), Inv X pins σ H s → t σ H Q → wpAny (model X.prog X.w) X.A (isTrue e X.env whole) (TP X pins σ Q) X.xe s
theorem PW.pt {X : Cx} {e : Expr} {t : TT} (h : PW X e t) : PT X e t := h _
/-- an argument list (no star), from the left -/
noncomputable def PA (X : Cx) (es : List Expr) (t : TA) : Prop :=
  ∀ (pos : Pos) (pins : List (Addr × Obj)) (s : Shared) (σ : St) (H : Hp) (Q : List V → Hp → Prop), Inv X pins σ H s → t σ H Q → wpAny (model X.prog X.w) X.A (spliced (backTo pos (starEach es X.env))) (AP X pins σ Q) X.xe s
noncomputable def PS (X : Cx) (st : Stmt) (t : TS) : Prop :=
  ∀ (pins : List (Addr × Obj)) (s : Shared) (σ : St) (H : Hp) (D : Ends), Inv X pins σ H s → t D σ H → wpAny (model X.prog X.w) X.A (exec st X.env) (SP X pins D) X.xe s
noncomputable def PSs (X : Cx) (st : List Stmt) (t : TS) : Prop :=
  ∀ (pins : List (Addr × Obj)) (s : Shared) (σ : St) (H : Hp) (D : Ends), Inv X pins σ H s → t D σ H → wpAny (model X.prog X.w) X.A (execs st X.env) (SP X pins D) X.xe s
/-- weaken the end -/
theorem thn {α : Type} {t : Sem α} {Q Q' : α → Shared → Prop} {M : Model} {A : Around} {E : Value → Shared → Prop} {s : Shared} (h : wpAny M A t Q E s) (hQ : ∀ a s, Q a s → Q' a s) : wpAny M A t Q' E s := wpAny_mono h hQ fun _ _ x => x
end L2

namespace L2
open PySem PySem.Spec PyProof.Rows
section
variable {X : Cx}


/-! ### names and constants -/
noncomputable def tVar (i : Nat) : TE := fun σ H Q => ∃ v, σ[i]? = some (some v) ∧ Q v H
noncomputable def tC (v : V) : TE := fun _ H Q => Q v H
theorem pe_var {i : Nat} {x : Str} {pos : Pos} (hN : X.N[i]? = some x) (hv : Vis X.env.scope x) (hd : (x == ("__debug__" : Str)) = false := by decide) (hcd : (x == ("__classdict__" : Str)) = false := by decide) : PE X (.Name x pos) (tVar i) := by
  intro pins s σ H Q I h
  obtain ⟨v, e, h⟩ := h
  obtain ⟨m, hn, hl⟩ := I.loc
  obtain ⟨u, r, l⟩ := hl i x v hN e hv
  have fin : EP X pins σ Q u s := ⟨v, H, I, r, h⟩
  rcases l with ⟨hk, hm⟩ | ⟨hk, c, hc, hcell⟩
  · exact wpAny_Name (wpAny_loadName_local I.ok.kind hk hn hm fin) hd
  · rcases hk with hk | hk
    · exact wpAny_Name (wpAny_loadName_cell I.ok.kind hk hc hcell fin) hd
    · exact wpAny_Name (wpAny_loadName_free I.ok.kind hk hc hcell fin hcd) hd
theorem pe_int {i j pos} : PE X (.Constant (.int i) j pos) (tC (.int i)) := fun _ _ _ H _ I h => wpAny_Constant_int ⟨.int i, H, I.tok _, ⟨_, rfl⟩, h⟩
theorem pe_bl {b j pos} : PE X (.Constant (.bool b) j pos) (tC (.bl b)) := fun _ _ _ H _ I h => Constant_bool ⟨.bl b, H, I, rfl, h⟩
theorem pe_non {j pos} : PE X (.Constant .none j pos) (tC .non) := fun _ _ _ H _ I h => Constant_none ⟨.non, H, I, rfl, h⟩
theorem pe_str {x j pos} : PE X (.Constant (.str x) j pos) (tC (.str x)) := fun _ _ _ H _ I h => Calls.Constant_str ⟨.str x, H, I.tok _, ⟨_, rfl⟩, h⟩

/-- a global name of the def -/
noncomputable def Gl (X : Cx) (x : Str) : Prop := X.env.kindOf x = some .globalImplicit
theorem ld_glob {E : Value → Shared → Prop} {pins : List (Addr × Obj)} {s : Shared} {σ : St} {H : Hp} {x : Str} {u : Value} {pos : Pos} {Q : Value → Shared → Prop} (I : Inv X pins σ H s) (hg : Gl X x) (hm : X.mg x = some u) (h : Q u s)
    (hd : (x == ("__debug__" : Str)) = false := by decide) : wpAny (model X.prog X.w) X.A (eval (.Name x pos) X.env) Q E s :=
  Calls.Name_function_global I.ok.kind hg (Calls.loadGlobal_global (by rw [I.ok.glob]; exact I.mod.glob.keeps I.bk) hm h) hd
theorem ld_blt {E : Value → Shared → Prop} {pins : List (Addr × Obj)} {s : Shared} {σ : St} {H : Hp} {x : Str} {u : Value} {pos : Pos} {Q : Value → Shared → Prop} (I : Inv X pins σ H s) (hg : Gl X x) (hm : X.mg x = none) (hv : bootBuiltins x = some u) (h : Q u s)
    (hn : x ≠ "__name__" := by decide) (hd : (x == ("__debug__" : Str)) = false := by decide) : wpAny (model X.prog X.w) X.A (eval (.Name x pos) X.env) Q E s := by
  obtain ⟨mb, h1, h2⟩ := I.mod.blt
  exact Calls.Name_function_global I.ok.kind hg (Calls.loadGlobal_builtin (by rw [I.ok.glob]; exact I.mod.glob.keeps I.bk) hm (by rw [I.ok.blt]; exact h1.keeps I.bk) ((h2 x hn).trans hv) h) hd
/-- a module's constant, a class, a function, as a value -/
theorem pe_glob {x : Str} {v : V} {u : Value} {pos : Pos} (hg : Gl X x) (hm : X.mg x = some u) (r : RelV v u) (hd : (x == ("__debug__" : Str)) = false := by decide) : PE X (.Name x pos) (tC v) :=
  fun _ _ _ H _ I h => ld_glob I hg hm ⟨v, H, I, r, h⟩ hd
theorem pe_bltn {x : Str} {v : V} {u : Value} {pos : Pos} (hg : Gl X x) (hm : X.mg x = none) (hv : bootBuiltins x = some u) (r : RelV v u) (hn : x ≠ "__name__" := by decide) (hd : (x == ("__debug__" : Str)) = false := by decide) : PE X (.Name x pos) (tC v) :=
  fun _ _ _ H _ I h => ld_blt I hg hm hv ⟨v, H, I, r, h⟩ hn hd

/-! ### arithmetic -/
/-- two ints -/
noncomputable def t2I (ta tb : TE) (k : Int → Int → Hp → Prop) : St → Hp → Prop := fun σ H => ta σ H fun x H1 => tb σ H1 fun y H2 => ∃ i j, x = .int i ∧ y = .int j ∧ k i j H2
noncomputable def tAdd (ta tb : TE) : TE := fun σ H Q => t2I ta tb (fun i j H2 => Q (.int (i + j)) H2) σ H
noncomputable def tSub (ta tb : TE) : TE := fun σ H Q => t2I ta tb (fun i j H2 => Q (.int (i - j)) H2) σ H
/-- the left factor below 2^64 -/
noncomputable def tMul (ta tb : TE) : TE := fun σ H Q => t2I ta tb (fun i j H2 => (-(2 ^ 64) < i ∧ i < 2 ^ 64) ∧ Q (.int (i * j)) H2) σ H
variable {a b : Expr} {ta tb : TE} {pos : Pos}

/-! ### comparisons -/
noncomputable def PC (X : Cx) (op : CmpOp) (a b : Expr) (t : TE) : Prop :=
  ∀ (pins : List (Addr × Obj)) (s : Shared) (σ : St) (H : Hp) (Q : VK), Inv X pins σ H s → t σ H Q →
    wpAny (model X.prog X.w) X.A (eval a X.env) (fun v s₁ => wpAny (model X.prog X.w) X.A (eval b X.env) (fun u s₂ => wpAny (model X.prog X.w) X.A (compareOp op v u) (EP X pins σ Q) X.xe s₂) X.xe s₁) X.xe s
noncomputable def tCmp (p : Int → Int → Bool) (ta tb : TE) : TE := fun σ H Q => t2I ta tb (fun i j H2 => Q (.bl (p i j)) H2) σ H
noncomputable abbrev tLt : TE → TE → TE := tCmp fun i j => decide (i < j)
noncomputable abbrev tLe : TE → TE → TE := tCmp fun i j => decide (i ≤ j)
noncomputable abbrev tGt : TE → TE → TE := tCmp fun i j => decide (j < i)
noncomputable abbrev tGe : TE → TE → TE := tCmp fun i j => decide (j ≤ i)
noncomputable abbrev tEqI : TE → TE → TE := tCmp fun i j => decide (i = j)
noncomputable abbrev tNeI : TE → TE → TE := tCmp fun i j => !decide (i = j)
/-- is None -/
noncomputable def tIsN (ta : TE) : TE := fun σ H Q => ta σ H fun x H1 => Q (.bl (decide (x = .non))) H1
noncomputable def tNotN (ta : TE) : TE := fun σ H Q => ta σ H fun x H1 => Q (.bl (!decide (x = .non))) H1
/-- a comparison as a value, as a test -/
noncomputable def tB (t : TE) : TT := fun σ H Q => t σ H fun x H1 => ∃ c, x = .bl c ∧ Q c H1

/-! ### and, or, not -/
variable {tA tB' : TT} {rest : List Expr}
noncomputable def tAnd (t u : TT) : TT := fun σ H Q => t σ H fun c H1 => if c = true then u σ H1 Q else Q false H1
noncomputable def tOr (t u : TT) : TT := fun σ H Q => t σ H fun c H1 => if c = true then Q true H1 else u σ H1 Q
noncomputable def tNot (t : TT) : TT := fun σ H Q => t σ H fun c H1 => Q (!c) H1
theorem pw_and1 (ha : PT X a tA) : PW X (.BoolOp .And [a] pos) tA := by
  intro wh pins s σ H Q I h
  refine isTrue_and (thn (ha pins s σ H Q I h) fun c s1 e => ?_)
  cases c with
  | true => exact isTrue_and_nil e
  | false => exact e
theorem pw_or1 (ha : PT X a tA) : PW X (.BoolOp .Or [a] pos) tA := by
  intro wh pins s σ H Q I h
  refine isTrue_or (thn (ha pins s σ H Q I h) fun c s1 e => ?_)
  cases c with
  | false => exact isTrue_or_nil e
  | true => exact e
theorem pw_and (ha : PT X a tA) (hb : PW X (.BoolOp .And (b :: rest) pos) tB') : PW X (.BoolOp .And (a :: b :: rest) pos) (tAnd tA tB') := by
  intro wh pins s σ H Q I h
  refine isTrue_and (thn (ha pins s σ H _ I h) fun c s1 ⟨H1, I1, q1⟩ => ?_)
  cases c with
  | true => exact hb wh pins s1 σ H1 Q I1 q1
  | false => exact ⟨H1, I1, q1⟩
theorem pw_or (ha : PT X a tA) (hb : PW X (.BoolOp .Or (b :: rest) pos) tB') : PW X (.BoolOp .Or (a :: b :: rest) pos) (tOr tA tB') := by
  intro wh pins s σ H Q I h
  refine isTrue_or (thn (ha pins s σ H _ I h) fun c s1 ⟨H1, I1, q1⟩ => ?_)
  cases c with
  | true => exact ⟨H1, I1, q1⟩
  | false => exact hb wh pins s1 σ H1 Q I1 q1
theorem pt_not (ha : PT X a tA) : PT X (.UnaryOp .Not a pos) (tNot tA) := by
  intro pins s σ H Q I h
  exact isTrue_not (ha pins s σ H (fun c H1 => Q (!c) H1) I h)
/-- .. as values (bools) -/
noncomputable def tAndV (ta tb : TE) : TE := fun σ H Q => ta σ H fun x H1 => ∃ c, x = .bl c ∧ if c = true then tb σ H1 Q else Q (.bl false) H1
noncomputable def tOrV (ta tb : TE) : TE := fun σ H Q => ta σ H fun x H1 => ∃ c, x = .bl c ∧ if c = true then Q (.bl true) H1 else tb σ H1 Q
noncomputable def tNotV (ta : TE) : TE := fun σ H Q => ta σ H fun x H1 => ∃ c, x = .bl c ∧ Q (.bl (!c)) H1
theorem pe_one {op} {t : TE} (h : PE X a t) : PE X (.BoolOp op [a] pos) t := fun pins s σ H Q I hw => BoolOp_one (h pins s σ H Q I hw)
/-- a if t else b -/
noncomputable def tIf (t : TT) (ta tb : TE) : TE := fun σ H Q => t σ H fun c H1 => if c = true then ta σ H1 Q else tb σ H1 Q
end
end L2

namespace L2
open PySem PySem.Spec PyProof.Rows

/-! ### a list, a tuple that is read: tracked, frozen, or an object of the module -/
noncomputable def SqL (K : PySem.W.Frag) (H : Hp) (a : Addr) (xs : List V) : Prop :=
  Rd H a (.lst xs) ∨
    ∃ (o : Obj) (its : Array Value) (n : Nat), K.lookup a = some o ∧ o.cls = .type "list" ∧ o.dict = none ∧ o.data = .seq its n ∧ its.size ≤ sizeLine ∧ Vals xs its.toList
noncomputable def SqT (K : PySem.W.Frag) (H : Hp) (a : Addr) (xs : List V) : Prop :=
  Rd H a (.tup xs) ∨
    ∃ (o : Obj) (its : Array Value) (n : Nat), K.lookup a = some o ∧ o.cls = .type "tuple" ∧ o.data = .seq its n ∧ its.size ≤ sizeLine ∧ Vals xs its.toList
noncomputable def absV : Value → Option V
  | .none => some .non
  | .bool b => some (.bl b)
  | .int i _ => some (.int i)
  | .str x _ => some (.str x)
  | .bytes b _ => some (.byt b)
  | .float b _ => some (.flt b)
  | .ref a => some (.ref a)
  | .type n => some (.ty n)
  | _ => none
theorem RelV.abs {x : V} {u : Value} (r : RelV x u) : absV u = some x := by
  cases x with
  | non => cases r; rfl
  | bl _ => cases r; rfl
  | int _ => obtain ⟨t, rfl⟩ := r; rfl
  | str _ => obtain ⟨t, rfl⟩ := r; rfl
  | byt _ => obtain ⟨t, rfl⟩ := r; rfl
  | flt _ => obtain ⟨t, rfl⟩ := r; rfl
  | ref _ => cases r; rfl
  | ty _ => cases r; rfl
theorem RelV.inj {x y : V} {u : Value} (r : RelV x u) (q : RelV y u) : x = y := Option.some.inj (r.abs.symm.trans q.abs)
theorem Vals.inj : ∀ {xs ys : List V} {us : List Value}, Vals xs us → Vals ys us → xs = ys
  | _, _, _, .nil, .nil => rfl
  | _, _, _, .cons r t, .cons r' t' => by rw [r.inj r', Vals.inj t t']
section
variable {X : Cx} {pins : List (Addr × Obj)} {σ : St} {H : Hp} {s : Shared} {a : Addr} {xs ys : List V}
theorem SqL.of {K : PySem.W.Frag} (h : H a = some (.lst xs)) : SqL K H a xs := .inl (.inl h)
theorem SqT.of {K : PySem.W.Frag} (h : H a = some (.tup xs)) : SqT K H a xs := .inl (.inl h)
theorem Inv.list (I : Inv X pins σ H s) (h : SqL X.K H a xs) : ∃ its : List Value, Vals xs its ∧ PlainL s.heap a its.toArray ∧ xs.length ≤ sizeLine := by
  rcases h with h | ⟨o, its, n, hk, hc, hd, hs, hz, r⟩
  · obtain ⟨z, its, n, r, e⟩ := h.ok I.hok
    exact ⟨its, r, ⟨_, n, e, rfl, rfl, rfl⟩, z⟩
  · refine ⟨its.toList, r, ⟨o, n, I.kIn a o hk, hc, hd, by simpa using hs⟩, ?_⟩
    have e := r.length
    simp only [Array.length_toList] at e
    omega
theorem Inv.tuple (I : Inv X pins σ H s) (h : SqT X.K H a xs) : ∃ its : List Value, Vals xs its ∧ IsTup s.heap a its.toArray ∧ xs.length ≤ sizeLine := by
  rcases h with h | ⟨o, its, n, hk, hc, hs, hz, r⟩
  · obtain ⟨z, its, r, p⟩ := h.ok I.hok
    exact ⟨its, r, p, z⟩
  · refine ⟨its.toList, r, ⟨o, I.kIn a o hk, hc, n, by simpa using hs⟩, ?_⟩
    have e := r.length
    simp only [Array.length_toList] at e
    omega
theorem Inv.list_inj (I : Inv X pins σ H s) (h : SqL X.K H a xs) (h' : SqL X.K H a ys) : xs = ys := by
  obtain ⟨its, r, ⟨o, n, e, _, _, d⟩, _⟩ := I.list h
  obtain ⟨its', r', ⟨o', n', e', _, _, d'⟩, _⟩ := I.list h'
  rw [e] at e'; cases e'
  rw [d] at d'
  injection d' with d1 _
  have : its = its' := by simpa using congrArg Array.toList d1
  subst this
  exact r.inj r'
theorem Inv.tuple_inj (I : Inv X pins σ H s) (h : SqT X.K H a xs) (h' : SqT X.K H a ys) : xs = ys := by
  obtain ⟨its, r, ⟨o, e, _, n, d⟩, _⟩ := I.tuple h
  obtain ⟨its', r', ⟨o', e', _, n', d'⟩, _⟩ := I.tuple h'
  rw [e] at e'; cases e'
  rw [d] at d'
  injection d' with d1 _
  have : its = its' := by simpa using congrArg Array.toList d1
  subst this
  exact r.inj r'
end

/-! ### another wish about exceptions -/
noncomputable abbrev Cx.wish (X : Cx) (E : Value → Shared → Prop) : Cx := { X with xe := E }
/-- no exception leaves -/
noncomputable abbrev Cx.nox (X : Cx) : Cx := X.wish fun _ _ => False
theorem Cx.Ok.wish {X : Cx} (ok : X.Ok) (E : Value → Shared → Prop) : (X.wish E).Ok :=
  ⟨ok.mod, ok.kind, ok.glob, ok.blt, ok.above, ok.inj, ok.has, ok.cab, ok.hd, ok.frames, ok.stk, ok.exf, ok.bs, ok.bsz, ok.noex, ok.exfs, ok.funs, ok.frf⟩
theorem Cx.Ok.unwish {X : Cx} {E : Value → Shared → Prop} (ok : (X.wish E).Ok) : X.Ok :=
  ⟨ok.mod, ok.kind, ok.glob, ok.blt, ok.above, ok.inj, ok.has, ok.cab, ok.hd, ok.frames, ok.stk, ok.exf, ok.bs, ok.bsz, ok.noex, ok.exfs, ok.funs, ok.frf⟩
section
variable {X : Cx} {pins : List (Addr × Obj)} {σ : St} {H : Hp} {s : Shared} {E : Value → Shared → Prop}
theorem Inv.wish (I : Inv X pins σ H s) (E : Value → Shared → Prop) : Inv (X.wish E) pins σ H s := ⟨I.ok.wish E, I.os, I.bare, I.base, I.loc, I.cell, I.free, I.freeC, I.pin, I.hok, I.len⟩
theorem Inv.unwish (I : Inv (X.wish E) pins σ H s) : Inv X pins σ H s := ⟨I.ok.unwish, I.os, I.bare, I.base, I.loc, I.cell, I.free, I.freeC, I.pin, I.hok, I.len⟩
theorem SP.unwish {D : Ends} {f : Flow} {s' : Shared} (h : SP (X.wish E) pins D f s') : SP X pins D f s' := by
  cases f with
  | next => obtain ⟨σ', H', I, q⟩ := h; exact ⟨σ', H', I.unwish, q⟩
  | brk => obtain ⟨σ', H', I, q⟩ := h; exact ⟨σ', H', I.unwish, q⟩
  | cont => obtain ⟨σ', H', I, q⟩ := h; exact ⟨σ', H', I.unwish, q⟩
  | ret u => obtain ⟨v, σ', H', I, r, q⟩ := h; exact ⟨v, σ', H', I.unwish, r, q⟩
theorem PSs.nox {st : List Stmt} {t : TS} (h : PSs X.nox st t) : PSs X st t := fun pins s σ H D I hw =>
  wpAny_mono (h pins s σ H D (I.wish _) hw) (fun _ _ q => q.unwish) fun _ _ z => False.elim z
end

/-! ### blocks and small statements -/
section
variable {X : Cx} {st : Stmt} {rest : List Stmt} {t u : TS} {e : Expr} {te : TE} {pos : Pos}
noncomputable def tNext : TS := fun D σ H => D.nx σ H
noncomputable def tSeq (t u : TS) : TS := fun D σ H => t { D with nx := u D } σ H
theorem pss_nil : PSs X [] tNext := fun _ _ σ H _ I h => wpAny_execs_nil ⟨σ, H, I, h⟩
theorem pss_cons (h1 : PS X st t) (h2 : PSs X rest u) : PSs X (st :: rest) (tSeq t u) := by
  intro pins s σ H D I h
  refine wpAny_execs_cons (thn (h1 pins s σ H { D with nx := u D } I h) fun f s1 q => ?_)
  cases f with
  | next =>
    obtain ⟨σ', H', I', q⟩ := q
    exact h2 pins s1 σ' H' D I' q
  | ret v => exact q
  | brk => exact q
  | cont => exact q
theorem pss_one (h1 : PS X st t) : PSs X [st] t := by
  intro pins s σ H D I h
  refine wpAny_execs_cons (thn (h1 pins s σ H D I h) fun f s1 q => ?_)
  cases f with
  | next => exact wpAny_execs_nil q
  | ret v => exact q
  | brk => exact q
  | cont => exact q
noncomputable def tBreak : TS := fun D σ H => D.bk σ H
noncomputable def tCont : TS := fun D σ H => D.ct σ H
/-- in a def's body nothing is shown -/
theorem Inv.quiet {pins : List (Addr × Obj)} {σ : St} {H : Hp} {s : Shared} (I : Inv X pins σ H s) : interactive X.env = false := by simp [interactive, I.ok.kind]
/-- an expression whose value is dropped -/
noncomputable def tDrop (te : TE) : TS := fun D σ H => te σ H fun _ H1 => D.nx σ H1
theorem ps_expr (he : PE X e te) (hs : swapsWith e none pos.line X.env = pure false := by rfl) : PS X (.Expr e pos) (tDrop te) := by
  intro pins s σ H D I h
  exact wpAny_Expr_any (thn (he pins s σ H _ I h) fun v s1 ⟨x, H1, I1, r1, q1⟩ => ⟨σ, H1, I1, q1⟩) I.quiet hs
noncomputable def tRet (te : TE) : TS := fun D σ H => te σ H D.rt
theorem ps_ret (he : PE X e te) : PS X (.Return (some e) pos) (tRet te) := by
  intro pins s σ H D I h
  exact wpAny_Return_some (thn (he pins s σ H _ I h) fun v s1 ⟨x, H1, I1, r1, q1⟩ => ⟨x, σ, H1, I1, r1, q1⟩)
noncomputable def tRetN : TS := fun D _ H => D.rt .non H
noncomputable def tIfS (c : TT) (t u : TS) : TS := fun D σ H => c σ H fun b H1 => if b = true then t D σ H1 else u D σ H1
theorem ps_if {c : Expr} {a b : List Stmt} {tc : TT} (hc : PT X c tc) (ha : PSs X a t) (hb : PSs X b u) : PS X (.If c a b pos) (tIfS tc t u) := by
  intro pins s σ H D I h
  refine wpAny_If (thn (hc pins s σ H _ I h) fun d s1 ⟨H1, I1, q1⟩ => ?_)
  cases d with
  | true => exact ha pins s1 σ H1 D I1 q1
  | false => exact hb pins s1 σ H1 D I1 q1
/-- code that the proof never comes to -/
noncomputable def tNever : TS := fun _ _ _ => False
theorem ps_never : PS X st tNever := fun _ _ _ _ _ _ h => h.elim
end

/-! ### targets -/
noncomputable abbrev TG := V → St → Hp → (St → Hp → Prop) → Prop
noncomputable abbrev TGs := List V → St → Hp → (St → Hp → Prop) → Prop
noncomputable def PG (X : Cx) (target : Expr) (t : TG) : Prop :=
  ∀ (pins : List (Addr × Obj)) (s : Shared) (σ : St) (H : Hp) (v : V) (u : Value) (Q : St → Hp → Prop), Inv X pins σ H s → RelV v u → t v σ H Q →
    wpAny (model X.prog X.w) X.A (assign target X.env u) (fun _ s' => ∃ σ' H', Inv X pins σ' H' s' ∧ Q σ' H') X.xe s
/-- several targets, one after another -/
noncomputable def PGs (X : Cx) (ts : List Expr) (t : TGs) : Prop :=
  ∀ (pins : List (Addr × Obj)) (s : Shared) (σ : St) (H : Hp) (vs : List V) (us : List Value) (Q : St → Hp → Prop), Inv X pins σ H s → Vals vs us → t vs σ H Q →
    wpAny (model X.prog X.w) X.A (assignInOrder ((assignEach ts X.env).map (·.2)) us) (fun _ s' => ∃ σ' H', Inv X pins σ' H' s' ∧ Q σ' H') X.xe s
/-- o[i] = v, by values -/
noncomputable abbrev TSet := V → V → V → Hp → (Hp → Prop) → Prop
noncomputable def PSet (X : Cx) (t : TSet) : Prop :=
  ∀ (pins : List (Addr × Obj)) (s : Shared) (σ : St) (H : Hp) (o i v : V) (ov iv u : Value) (Q : Hp → Prop), Inv X pins σ H s → RelV o ov → RelV i iv → RelV v u → t o i v H Q →
    wpAny (model X.prog X.w) X.A (setItem ov iv u) (fun _ s' => ∃ H', Inv X pins σ H' s' ∧ Q H') X.xe s
/-- a op= b, by values -/
noncomputable abbrev TIp := V → V → Hp → VK → Prop
noncomputable def PIp (X : Cx) (op : Operator) (t : TIp) : Prop :=
  ∀ (pins : List (Addr × Obj)) (s : Shared) (σ : St) (H : Hp) (x y : V) (v u : Value) (Q : VK), Inv X pins σ H s → RelV x v → RelV y u → t x y H Q →
    wpAny (model X.prog X.w) X.A (inplaceOp op v u) (EP X pins σ Q) X.xe s
section
variable {X : Cx} {pos : Pos}
noncomputable def gName (i : Nat) : TG := fun v σ H Q => Q (σ.set i (some v)) H
theorem pg_name {i : Nat} {x : Str} (hN : X.N.Nodup) (hi : X.N[i]? = some x) (hx : Loc X.env.scope x) (hf : X.fn x = true ∨ X.env.scope.names.lookup x = some .local := by first | exact .inl rfl | exact .inr rfl | assumption) : PG X (.Name x pos) (gName i) := by
  intro pins s σ H v u Q I r h
  exact wpAny_assign_Name (store_ok I hN hi hx r (fun s' I' => ⟨_, H, I', h⟩) hf)
noncomputable def gNil : TGs := fun vs σ H Q => vs = [] ∧ Q σ H
noncomputable def gCons (t : TG) (u : TGs) : TGs := fun vs σ H Q => ∃ v r, vs = v :: r ∧ t v σ H fun σ' H' => u r σ' H' Q
theorem pgs_nil : PGs X [] gNil := by
  intro pins s σ H vs us Q I r h
  obtain ⟨e, h⟩ := h
  subst e
  cases r
  exact assignInOrder_nil ⟨σ, H, I, h⟩
theorem pgs_cons {e : Expr} {es : List Expr} {t : TG} {u : TGs} (h1 : PG X e t) (h2 : PGs X es u)
    (hs : (assignEach (e :: es) X.env).map (·.2) = assign e X.env :: (assignEach es X.env).map (·.2) := by rfl) : PGs X (e :: es) (gCons t u) := by
  intro pins s σ H vs us Q I r h
  obtain ⟨v, vr, e1, h⟩ := h
  subst e1
  cases r with
  | cons r rr =>
    rw [hs]
    refine assignInOrder_cons (thn (h1 pins s σ H _ _ _ I r h) fun _ s1 ⟨σ1, H1, I1, q1⟩ => ?_)
    exact h2 pins s1 σ1 H1 _ _ Q I1 rr q1
/-- (a, b, ..) = a tuple of that length -/
noncomputable def gTup (K : PySem.W.Frag) (n : Nat) (t : TGs) : TG := fun v σ H Q => ∃ a xs, v = .ref a ∧ SqT K H a xs ∧ xs.length = n ∧ t xs σ H Q
theorem pg_tup {es : List Expr} {k : Nat} {t : TGs} {n : Nat} (hc : X.calm = true) (h : PGs X es t)
    (hn : (assignEach es X.env).length = n := by rfl) (hst : (assignEach es X.env).findIdx? (·.1) = none := by rfl) : PG X (.Tuple es k pos) (gTup X.K n t) := by
  intro pins s σ H v u Q I r hw
  obtain ⟨a, xs, e1, hq, hl, hw⟩ := hw
  subst e1
  cases r
  obtain ⟨its, rv, ht, hz⟩ := I.tuple hq
  refine assign_Tuple_tuple (I.ok.hd hc) ht (by simp [hn, ← hl, rv.length]) hst fun h' hx => ?_
  have I1 : Inv X pins σ H { s with heap := h' } := I.kept (t' := s.toks) fun b o e => hx b o (Nat.ne_of_lt (Heap.lt_size e)) e
  exact h pins _ σ H xs _ Q I1 (by simpa using rv) hw
/-- o[i] = .. -/
noncomputable def gSub (to ti : TE) (t : TSet) : TG := fun v σ H Q => to σ H fun o H1 => ti σ H1 fun i H2 => t o i v H2 fun H3 => Q σ H3
theorem pg_sub {o i : Expr} {to ti : TE} {t : TSet} (ho : PE X o to) (hi : PE X i ti) (hs : PSet X t)
    (ha : ∀ v, assign (.Subscript o i pos) X.env v = (do
      let ov ← holding [v] (eval o X.env)
      let iv ← holding [v, ov] (eval i X.env)
      standAt pos
      holding [v, ov, iv] (setItem ov iv v)
      release [v, ov, iv] []) := by intro _; rfl) : PG X (.Subscript o i pos) (gSub to ti t) := by
  intro pins s σ H v u Q I r h
  rw [ha]
  refine wpAny_bind (wpAny_holding (thn (ho pins s σ H _ I h) fun ov s1 ⟨x, H1, I1, r1, q1⟩ => ?_))
  refine wpAny_bind (wpAny_holding (thn (hi pins s1 σ H1 _ I1 q1) fun iv s2 ⟨y, H2, I2, r2, q2⟩ => ?_))
  refine wpAny_bind (wpAny_standAt (wpAny_bind (wpAny_holding (thn (hs pins s2 σ H2 x y v ov iv u _ I2 r1 r2 r q2) fun _ s3 ⟨H3, I3, q3⟩ => ?_))))
  exact wpAny_release ⟨σ, H3, I3, q3⟩
/-- target = value -/
noncomputable def tAsg (te : TE) (g : TG) : TS := fun D σ H => te σ H fun x H1 => g x σ H1 D.nx
theorem ps_asg {tg e : Expr} {te : TE} {g : TG} (he : PE X e te) (hg : PG X tg g) (hs : swapsWithSole [tg] e pos.line X.env = pure false := by rfl) (hw : swappedStores [tg] e X.env = pure none := by rfl)
    (h1 : (assignEach [tg] X.env).map (·.2) = [assign tg X.env] := by rfl) : PS X (.Assign [tg] e pos) (tAsg te g) := by
  intro pins s σ H D I h
  refine wpAny_Assign_stores (thn (he pins s σ H _ I h) fun v s1 ⟨x, H1, I1, r1, q1⟩ => ?_) hs hw
  rw [h1]
  exact thn (hg pins s1 σ H1 x v _ I1 r1 q1) fun _ s2 q => q
/-- name = value -/
theorem ps_set {i : Nat} {x : Str} {e : Expr} {te : TE} {pos' : Pos} (hN : X.N.Nodup) (hi : X.N[i]? = some x) (hx : Loc X.env.scope x) (he : PE X e te) (hs : swapsWith e (some (.Name x pos')) pos.line X.env = pure false := by rfl) (hf : X.fn x = true ∨ X.env.scope.names.lookup x = some .local := by first | exact .inl rfl | exact .inr rfl | assumption) :
    PS X (.Assign [.Name x pos'] e pos) (tAsg te (gName i)) := by
  intro pins s σ H D I h
  refine wpAny_Assign_Name (thn (he pins s σ H _ I h) fun v s1 ⟨y, H1, I1, r1, q1⟩ => ?_) hs
  exact store_ok I1 hN hi hx r1 (fun s2 I2 => ⟨_, H1, I2, q1⟩) hf
/-- a, b = x, y with plain local names: stored from the right; the pair itself is not tracked (the opening rows as in PyProof/Rows/TupAssign.lean:23) -/
noncomputable def tPar (i j : Nat) (ta : TA) : TS := fun D σ H => ta σ H fun vs H1 => ∃ v w, vs = [v, w] ∧ D.nx ((σ.set i (some v)).set j (some w)) H1
/-- name op= e -/
noncomputable def tAug (i : Nat) (te : TE) (ti : TIp) : TS := fun D σ H => ∃ x, σ[i]? = some (some x) ∧ te σ H fun y H1 => ti x y H1 fun z H2 => D.nx (σ.set i (some z)) H2
/-- o[i] op= e -/
noncomputable def tAugS (to ti te : TE) (tget : V → V → Hp → VK → Prop) (tip : TIp) (tset : TSet) : TS := fun D σ H => to σ H fun o H1 => ti σ H1 fun i H2 => tget o i H2 fun x H3 => te σ H3 fun y H4 => tip x y H4 fun z H5 => tset o i z H5 fun H6 => D.nx σ H6
/-- o[i], by values -/
noncomputable def PGet (X : Cx) (t : V → V → Hp → VK → Prop) : Prop :=
  ∀ (pins : List (Addr × Obj)) (s : Shared) (σ : St) (H : Hp) (o i : V) (ov iv : Value) (Q : VK), Inv X pins σ H s → RelV o ov → RelV i iv → t o i H Q →
    wpAny (model X.prog X.w) X.A (getItem ov iv) (EP X pins σ Q) X.xe s
/-- ints -/
noncomputable def ipI (f : Int → Int → Int) : TIp := fun x y H Q => ∃ i j, x = .int i ∧ y = .int j ∧ Q (.int (f i j)) H
end

/-! ### while -/
section
variable {X : Cx} {pos : Pos}
/-- the invariant W with its measure -/
noncomputable def tWhile (c : TT) (tb : TS) : TS := fun D σ H => ∃ W : Nat → St → Hp → Prop, (∃ m, W m σ H) ∧ ∀ m σ H, W m σ H →
  c σ H fun b H1 => if b = true then ∃ N : St → Hp → Prop, (∀ σ' H', N σ' H' → ∃ m', m' < m ∧ W m' σ' H') ∧ tb { D with nx := N, ct := N, bk := D.nx } σ H1 else D.nx σ H1
theorem ps_while {c : Expr} {body : List Stmt} {tc : TT} {tb : TS} (hp : PassesOwn (model X.prog X.w) X.A X.env X.xe) (hc : PT X c tc) (hb : PSs X body tb) : PS X (.While c body [] pos) (tWhile tc tb) := by
  intro pins s σ H D I h
  obtain ⟨W, ⟨m0, w0⟩, turn⟩ := h
  refine wpAny_While (codeAny_whileLoop (fun n s' => ∃ σ' H', Inv X pins σ' H' s' ∧ W n σ' H') ?_ m0 ⟨σ, H, I, w0⟩)
  rintro n s1 ⟨σ1, H1, I1, w1⟩
  refine wpAny_passesOwn hp (thn (hc pins s1 σ1 H1 _ I1 (turn n σ1 H1 w1)) fun b s2 ⟨H2, I2, q2⟩ => ?_)
  cases b with
  | true =>
    obtain ⟨N, hN, q2⟩ := q2
    rw [if_pos rfl]
    refine wpAny_passesOwn hp (thn (hb pins s2 σ1 H2 _ I2 q2) fun f s3 q3 => ?_)
    cases f with
    | next =>
      obtain ⟨σ3, H3, I3, n3⟩ := q3
      obtain ⟨m', hm, w3⟩ := hN σ3 H3 n3
      exact ⟨m', hm, σ3, H3, I3, w3⟩
    | cont =>
      obtain ⟨σ3, H3, I3, n3⟩ := q3
      obtain ⟨m', hm, w3⟩ := hN σ3 H3 n3
      exact ⟨m', hm, σ3, H3, I3, w3⟩
    | brk => exact q3
    | ret v => exact q3
  | false =>
    rw [if_neg Bool.false_ne_true]
    exact wpAny_execs_nil ⟨σ1, H2, I2, q2⟩
end

/-! ### what a loop or a comprehension walks -/
/-- at turn i: it yields x (the heap may grow), or it stops -/
structure It where
  go : Nat → Hp → Prop
  yld : Nat → Hp → V → Hp → Prop
  stop : Nat → Hp → Prop
/-- the iterator's own objects may turn: they are not the frame's, not pinned, younger than the entry (or a comprehension's own) -/
noncomputable def FpOk (X : Cx) (pins : List (Addr × Obj)) (H : Hp) (b : Addr) : Prop :=
  H b = none ∧ b ≠ X.env.locals ∧ b ∉ X.fs ∧ (b ∈ X.ex ∨ X.s₀.heap.objs.size ≤ b) ∧ (∀ x c, X.env.cells.lookup x = some c → c ≠ b) ∧ ∀ p ∈ X.pn ++ pins, p.1 ≠ b
theorem Inv.fpOk {X : Cx} {pins : List (Addr × Obj)} {σ : St} {H H' : Hp} {s : Shared} {b : Addr} (I : Inv X pins σ H s) (hb : s.heap.objs.size ≤ b) (hn : H' b = none) : FpOk X pins H' b := by
  refine ⟨hn, Nat.ne_of_gt (Nat.lt_of_lt_of_le I.lt hb), I.nofs hb, .inr (Nat.le_trans I.sz hb), fun x c e z => ?_, fun p hp z => ?_⟩
  · obtain ⟨v, q⟩ := I.cell x c e
    exact absurd (Nat.lt_of_lt_of_le q.lt (by rw [z]; exact hb)) (Nat.lt_irrefl _)
  · exact absurd (Nat.lt_of_lt_of_le (Heap.lt_size (I.pin p hp).1) (by rw [z]; exact hb)) (Nat.lt_irrefl _)
structure Turn (P : Program) (w : World) (K : PySem.W.Frag) (tg : Expr) (J : It) (fp : List Addr) (it : Addr) (tn : Nat → Heap → Prop) : Prop where
  mem : it ∈ fp
  obj : ∀ i h, tn i h → ∀ b ∈ fp, ∃ o, h.get? b = some o ∧ ∀ v, o.data ≠ .cell v
  keep : ∀ i h h', tn i h → (∀ b ∈ fp, ∀ o, h.get? b = some o → h'.get? b = some o) → tn i h'
  item : ∀ (X : Cx), X.prog = P → X.w = w → X.K = K → X.calm = true → ∀ (i : Nat) (pins : List (Addr × Obj)) (s : Shared) (σ : St) (H : Hp) (E : Value → Shared → Prop), Inv X pins σ H s → (∀ b ∈ fp, FpOk X pins H b) → tn i s.heap → J.go i H →
    wpAny (model P w) X.A (pyNext (.ref it)) (fun r s1 => ∃ u, r = some u ∧
      wpAny (model P w) X.A (letOwnedTupleGo tg (.ref it) u) (fun _ s2 => ∃ x H', Inv X pins σ H' s2 ∧ RelV x u ∧ J.yld i H x H' ∧ tn (i + 1) s2.heap ∧ ∀ b ∈ fp, H' b = none) E s1) E s
  done : ∀ (X : Cx), X.prog = P → X.w = w → X.K = K → X.calm = true → ∀ (i : Nat) (pins : List (Addr × Obj)) (s : Shared) (σ : St) (H : Hp) (E : Value → Shared → Prop), Inv X pins σ H s → (∀ b ∈ fp, FpOk X pins H b) → tn i s.heap → J.stop i H →
    wpAny (model P w) X.A (pyNext (.ref it)) (fun r s1 => r = none ∧ Inv X pins σ H s1) E s
  self : ∀ (A : Around) (i : Nat) (s : Shared) (Q : Value → Shared → Prop) (E : Value → Shared → Prop), tn i s.heap → Q (.ref it) s → wpAny (model P w) A (pyIter (.ref it)) Q E s
noncomputable abbrev TI := St → Hp → (It → Hp → Prop) → Prop
/-- an iterator has come -/
noncomputable def PIE (X : Cx) (pins : List (Addr × Obj)) (σ : St) (tg : Expr) (R : It → Hp → Prop) (itv : Value) (s2 : Shared) : Prop :=
  ∃ (it : Addr) (fp : List Addr) (tn : Nat → Heap → Prop) (J : It) (H' : Hp), itv = .ref it ∧ Inv X pins σ H' s2 ∧ Turn X.prog X.w X.K tg J fp it tn ∧ tn 0 s2.heap ∧ (∀ b ∈ fp, FpOk X pins H' b) ∧ R J H'
noncomputable def PI (X : Cx) (tg iter : Expr) (wi : TI) : Prop :=
  ∀ (pins : List (Addr × Obj)) (s : Shared) (σ : St) (H : Hp) (R : It → Hp → Prop), Inv X pins σ H s → wi σ H R →
    wpAny (model X.prog X.w) X.A (eval iter X.env) (fun v s1 => wpAny (model X.prog X.w) X.A (pyIter v) (PIE X pins σ tg R) X.xe s1) X.xe s

/-- the step ahead of the store is nothing for an iterator that keeps no tuple -/
theorem go_of {M : Model} {A : Around} {E : Value → Shared → Prop} {s : Shared} {tg : Expr} {it : Addr} {u : Value} {o : Obj} {n : String} {vs : Array Value} {Q : Unit → Shared → Prop} (ho : s.heap.get? it = some o) (hc : o.cls = .type n) (hd : o.data = .fields vs)
    (hn : ["enumerate", "zip", "dict_itemiterator", "dict_reverseitemiterator", "odict_iterator", "itertools.zip_longest", "itertools.pairwise"].contains n = false) (hQ : Q () s) : wpAny M A (letOwnedTupleGo tg (.ref it) u) Q E s := by
  unfold letOwnedTupleGo
  cases tg <;> first
    | exact wpAny_pure hQ
    | (cases u <;> first
        | exact wpAny_pure hQ
        | (refine wpAny_bind (wpAny_load ho ?_)
           rw [hc, hd]
           show wpAny M A (if (["enumerate", "zip", "dict_itemiterator", "dict_reverseitemiterator", "odict_iterator", "itertools.zip_longest", "itertools.pairwise"].contains n && vs[0]? == some (rawInt _)) = true then _ else _) Q E s
           rw [if_neg (by intro h; rw [hn, Bool.false_and] at h; cases h)]
           exact wpAny_pure hQ))

/-- the list at a, as it stands at each turn (a loop may append to it) -/
noncomputable def Itl (K : PySem.W.Frag) (a : Addr) : It :=
  ⟨fun i H => ∃ xs x, SqL K H a xs ∧ xs[i]? = some x, fun i H x H' => H' = H ∧ ∀ xs, SqL K H a xs → xs[i]? = some x, fun i H => ∃ xs, SqL K H a xs ∧ xs.length ≤ i⟩
noncomputable def Itt (K : PySem.W.Frag) (a : Addr) : It :=
  ⟨fun i H => ∃ xs x, SqT K H a xs ∧ xs[i]? = some x, fun i H x H' => H' = H ∧ ∀ xs, SqT K H a xs → xs[i]? = some x, fun i H => ∃ xs, SqT K H a xs ∧ xs.length ≤ i⟩
/-- lo, lo + 1, .. (n of them) -/
noncomputable def Itr (lo : Int) (n : Nat) : It := ⟨fun i _ => i < n, fun i H x H' => H' = H ∧ x = .int (lo + i), fun i _ => n ≤ i⟩
theorem turn_list {P : Program} {w : World} {K : PySem.W.Frag} {tg : Expr} (a it : Addr) : Turn P w K tg (Itl K a) [it] it (fun i h => h.IsListIter it a i) where
  mem := by simp
  obj := fun i h st b hb => by
    have e : b = it := by simpa using hb
    subst e
    obtain ⟨o, e, c, d⟩ := st
    exact ⟨o, e, fun v z => by rw [d] at z; cases z⟩
  keep := fun i h h' st k => st.at fun o e => k it (by simp) o e
  item := by
    intro X hP hw hK hc i pins s σ H E I hf st hg
    subst hP hw hK
    obtain ⟨xs, x, hq, hx⟩ := hg
    obtain ⟨its, rv, p, hz⟩ := I.list hq
    obtain ⟨u, hu, ru⟩ := rv.get hx
    obtain ⟨f0, f1, f2, f3, f4, f5⟩ := hf it (by simp)
    refine wpAny_pyNext_list_item st p.isList (x := u) (by simpa using hu) fun h' st' sb => ?_
    have I1 : Inv X pins σ H { s with heap := h' } := I.turned (t' := s.toks) (fun b o hb e => (sb.2 b hb).trans e) f0 f1 f3 f4 f5
    obtain ⟨o, e, c, d⟩ := id st'
    exact ⟨u, rfl, go_of (s := { s with heap := h' }) e c d (by decide) ⟨x, H, I1, ru, ⟨rfl, fun ys hy => by rw [I.list_inj hy hq]; exact hx⟩, st', fun b hb => (hf b hb).1⟩⟩
  done := by
    intro X hP hw hK hc i pins s σ H E I hf st hg
    subst hP hw hK
    obtain ⟨xs, hq, hx⟩ := hg
    obtain ⟨its, rv, p, hz⟩ := I.list hq
    obtain ⟨f0, f1, f2, f3, f4, f5⟩ := hf it (by simp)
    have hl := rv.length
    exact wpAny_pyNext_list_end (I.ok.hd hc) st p.isList (by simp; omega) fun h' eb => ⟨rfl, I.turned (t' := s.toks) (fun b o hb e => eb b o hb e) f0 f1 f3 f4 f5⟩
  self := fun _ _ _ _ _ st h => wpAny_pyIter_listiter st h
theorem turn_tuple {P : Program} {w : World} {K : PySem.W.Frag} {tg : Expr} (a it : Addr) : Turn P w K tg (Itt K a) [it] it (fun i h => h.IsTupleIter it a i) where
  mem := by simp
  obj := fun i h st b hb => by
    have e : b = it := by simpa using hb
    subst e
    obtain ⟨o, e, c, d⟩ := st
    exact ⟨o, e, fun v z => by rw [d] at z; cases z⟩
  keep := fun i h h' st k => st.at fun o e => k it (by simp) o e
  item := by
    intro X hP hw hK hc i pins s σ H E I hf st hg
    subst hP hw hK
    obtain ⟨xs, x, hq, hx⟩ := hg
    obtain ⟨its, rv, p, hz⟩ := I.tuple hq
    obtain ⟨u, hu, ru⟩ := rv.get hx
    obtain ⟨f0, f1, f2, f3, f4, f5⟩ := hf it (by simp)
    refine wpAny_pyNext_tuple_item st (show s.heap.IsTuple a its.toArray from p) (x := u) (by simpa using hu) fun h' st' sb => ?_
    have I1 : Inv X pins σ H { s with heap := h' } := I.turned (t' := s.toks) (fun b o hb e => (sb.2 b hb).trans e) f0 f1 f3 f4 f5
    obtain ⟨o, e, c, d⟩ := id st'
    exact ⟨u, rfl, go_of (s := { s with heap := h' }) e c d (by decide) ⟨x, H, I1, ru, ⟨rfl, fun ys hy => by rw [I.tuple_inj hy hq]; exact hx⟩, st', fun b hb => (hf b hb).1⟩⟩
  done := by
    intro X hP hw hK hc i pins s σ H E I hf st hg
    subst hP hw hK
    obtain ⟨xs, hq, hx⟩ := hg
    obtain ⟨its, rv, p, hz⟩ := I.tuple hq
    obtain ⟨f0, f1, f2, f3, f4, f5⟩ := hf it (by simp)
    have hl := rv.length
    exact wpAny_pyNext_tuple_end (I.ok.hd hc) st (show s.heap.IsTuple a its.toArray from p) (by simp; omega) fun h' eb => ⟨rfl, I.turned (t' := s.toks) (fun b o hb e => eb b o hb e) f0 f1 f3 f4 f5⟩
  self := fun _ _ _ _ _ st h => wpAny_pyIter_tupleiter st h
theorem turn_range {P : Program} {w : World} {K : PySem.W.Frag} {tg : Expr} (it : Addr) (lo : Int) (n : Nat) : Turn P w K tg (Itr lo n) [it] it (fun i h => IsRangeIter h it (lo + (i : Nat) * 1) ((n : Int) - (i : Nat)) 1) where
  mem := by simp
  obj := fun i h st b hb => by
    have e : b = it := by simpa using hb
    subst e
    exact ⟨_, st, fun v z => by
      have z' : Data.fields _ = Data.cell v := z
      cases z'⟩
  keep := fun i h h' st k => k it (by simp) _ st
  item := by
    intro X hP hw hK hc i pins s σ H E I hf st hg
    subst hP hw hK
    obtain ⟨f0, f1, f2, f3, f4, f5⟩ := hf it (by simp)
    have W := Walks.range (prog := X.prog) (w := X.w) (I.ok.hd hc) it lo 1 n
    refine W.item i s _ _ hg st fun v h' tk hv st' kk => ?_
    obtain ⟨t, rfl⟩ := hv
    have I1 : Inv X pins σ H { s with heap := h', toks := tk } := I.turned (fun b o hb e => kk b o (by simpa using hb) e) f0 f1 f3 f4 f5
    refine ⟨_, rfl, go_of (s := { s with heap := h', toks := tk }) (n := "range_iterator") st' rfl rfl (by decide) ⟨.int (lo + i), H, I1, ⟨t, ?_⟩, ⟨rfl, rfl⟩, st', fun b hb => (hf b hb).1⟩⟩
    rw [Int.mul_one]
  done := by
    intro X hP hw hK hc i pins s σ H E I hf st hg
    subst hP hw hK
    obtain ⟨f0, f1, f2, f3, f4, f5⟩ := hf it (by simp)
    exact wpAny_pyNext_range_end (I.ok.hd hc) st (by have : n ≤ i := hg; omega) fun h' eb => ⟨rfl, I.turned (t' := s.toks) (fun b o hb e => eb b o hb e) f0 f1 f3 f4 f5⟩
  self := fun _ _ _ _ _ st h => wpAny_pyIter_rangeiter st h
end L2

namespace L2
open PySem PySem.Spec PyProof.Rows
section
variable {X : Cx} {tg : Expr}
noncomputable def iList (K : PySem.W.Frag) (tl : TE) : TI := fun σ H R => tl σ H fun x H1 => ∃ a, x = .ref a ∧ (∃ xs, SqL K H1 a xs) ∧ R (Itl K a) H1
noncomputable def iTup (K : PySem.W.Frag) (tl : TE) : TI := fun σ H R => tl σ H fun x H1 => ∃ a, x = .ref a ∧ (∃ xs, SqT K H1 a xs) ∧ R (Itt K a) H1
/-- a range object just made, walked -/
theorem range_it {pins : List (Addr × Obj)} {σ : St} {H : Hp} {s : Shared} {R : It → Hp → Prop} {E : Value → Shared → Prop} {lo hi : Int} {t u v : Tok} {tk : Nat} (I : Inv X pins σ H s) (h1 : -(2 ^ 62) ≤ lo) (h2 : lo < 2 ^ 62) (h3 : -(2 ^ 62) ≤ hi) (h4 : hi < 2 ^ 62)
    (q : R (Itr lo (hi - lo).toNat) H) : wpAny (model X.prog X.w) X.A (pyIter (.ref s.heap.objs.size)) (PIE X pins σ tg R) E { s with heap := s.heap.push { cls := .type "range", data := .fields #[.int lo t, .int hi u, .int 1 v] }, toks := tk } := by
  refine wpAny_pyIter_range (IsRange.new ..) (small_one h1 h2 h3 h4) ?_
  have I1 : Inv X pins σ H { s with heap := s.heap.push { cls := .type "range", data := .fields #[.int lo t, .int hi u, .int 1 v] }, toks := tk } := I.kept fun b o e => Heap.get?_push_of_some _ e
  refine ⟨(s.heap.push { cls := .type "range", data := .fields #[.int lo t, .int hi u, .int 1 v] }).objs.size, [(s.heap.push { cls := .type "range", data := .fields #[.int lo t, .int hi u, .int 1 v] }).objs.size], _, _, H, rfl,
    I1.kept (t' := tk) fun b o e => Heap.get?_push_of_some _ e, turn_range _ lo (hi - lo).toNat, ?_, fun b hb => ?_, q⟩
  · have e1 : lo + ((0 : Nat) : Int) * 1 = lo := by simp
    have e2 : (((hi - lo).toNat : Nat) : Int) - ((0 : Nat) : Int) = Builtin.Range.rangeSize lo hi 1 := by rw [rangeSize_one]; split <;> omega
    show IsRangeIter _ _ (lo + ((0 : Nat) : Int) * 1) ((((hi - lo).toNat : Nat) : Int) - ((0 : Nat) : Int)) 1
    rw [e1, e2]
    exact Heap.get?_push_size _ rfl
  · have e : b = (s.heap.push { cls := .type "range", data := .fields #[.int lo t, .int hi u, .int 1 v] }).objs.size := by simpa using hb
    subst e
    exact I1.fpOk (Nat.le_refl _) (I1.hok.fresh (Nat.le_refl _))
noncomputable def iRng1 (ta : TA) : TI := fun σ H R => ta σ H fun vs H1 => ∃ j : Int, vs = [.int j] ∧ -(2 ^ 62) ≤ j ∧ j < 2 ^ 62 ∧ R (Itr 0 j.toNat) H1
noncomputable def iRng2 (ta : TA) : TI := fun σ H R => ta σ H fun vs H1 => ∃ i j : Int, vs = [.int i, .int j] ∧ (-(2 ^ 62) ≤ i ∧ i < 2 ^ 62 ∧ -(2 ^ 62) ≤ j ∧ j < 2 ^ 62) ∧ R (Itr i (j - i).toNat) H1

/-! ### for -/
/-- W: the invariant by the turn and a measure; N: what the body is to reach -/
noncomputable def tFor (wi : TI) (g : TG) (tb : TS) : TS := fun D σ H => wi σ H fun J H1 => ∃ W : Nat → Nat → St → Hp → Prop, (∃ m, W 0 m σ H1) ∧ ∀ i m σ H, W i m σ H →
  (J.stop i H ∧ D.nx σ H) ∨ (J.go i H ∧ ∃ N : St → Hp → Prop, (∀ σ' H', N σ' H' → ∃ m', m' < m ∧ W (i + 1) m' σ' H') ∧ ∀ x H', J.yld i H x H' → g x σ H' fun σ2 H2 => tb { D with nx := N, ct := N, bk := D.nx } σ2 H2)
/-- the records at fp as they stand -/
noncomputable def pinsAt (fp : List Addr) (h : Heap) : List (Addr × Obj) := fp.filterMap fun b => (h.get? b).map fun o => (b, o)
theorem mem_pinsAt {fp : List Addr} {h : Heap} {b : Addr} {o : Obj} (hb : b ∈ fp) (e : h.get? b = some o) : (b, o) ∈ pinsAt fp h := List.mem_filterMap.mpr ⟨b, hb, by rw [e]; rfl⟩
theorem of_pinsAt {fp : List Addr} {h : Heap} {p : Addr × Obj} (hp : p ∈ pinsAt fp h) : p.1 ∈ fp ∧ h.get? p.1 = some p.2 := by
  obtain ⟨b, hb, e⟩ := List.mem_filterMap.mp hp
  cases q : h.get? b with
  | none => rw [q] at e; cases e
  | some o =>
    rw [q] at e
    have e' : (b, o) = p := Option.some.inj e
    subst e'
    exact ⟨hb, q⟩
theorem Inv.pinned {pins : List (Addr × Obj)} {σ : St} {H : Hp} {s : Shared} {fp : List Addr} (I : Inv X pins σ H s) (hf : ∀ b ∈ fp, FpOk X pins H b) (ho : ∀ b ∈ fp, ∃ o, s.heap.get? b = some o ∧ ∀ v, o.data ≠ .cell v) : Inv X (pins ++ pinsAt fp s.heap) σ H s :=
  I.pins_of fun p hp => (List.mem_append.mp hp).elim (fun z => I.pin p (List.mem_append_right _ z)) fun z => by
    obtain ⟨hb, e⟩ := of_pinsAt z
    obtain ⟨f0, f1, f2, _⟩ := hf p.1 hb
    obtain ⟨o, e', d⟩ := ho p.1 hb
    rw [e] at e'; cases e'
    exact ⟨e, f0, f1, f2, d⟩
theorem Inv.unpinned {pins pl : List (Addr × Obj)} {σ : St} {H : Hp} {s : Shared} (I : Inv X (pins ++ pl) σ H s) : Inv X pins σ H s := I.pins_of fun p hp => I.pin p (List.mem_append_right _ (List.mem_append_left _ hp))
theorem ps_for {iter : Expr} {body : List Stmt} {wi : TI} {g : TG} {tb : TS} {pos : Pos} (hp : PassesOwn (model X.prog X.w) X.A X.env X.xe) (hc : X.calm = true) (hi : PI X tg iter wi) (hg : PG X tg g) (hb : PSs X body tb)
    (hs : ∀ x, foldedSetIterable iter X.env x = pure x := by intro _; rfl) : PS X (.For tg iter body [] pos) (tFor wi g tb) := by
  intro pins s σ H D I h
  refine wpAny_For (thn (hi pins s σ H _ I h) fun v s1 h1 => thn h1 fun itv s2 h2 => ?_) hs
  obtain ⟨it, fp, tn, J, H2, e, I2, T, st2, f2, W, ⟨m0, w0⟩, turn⟩ := h2
  subst e
  -- what stays true of the iterator's objects through the loop
  have stat : ∀ {H' : Hp}, (∀ b ∈ fp, H' b = none) → ∀ b ∈ fp, FpOk X pins H' b := fun hn b hb => ⟨hn b hb, (f2 b hb).2⟩
  refine codeAny_forLoop_any (fun n s' => ∃ i σ' H', Inv X pins σ' H' s' ∧ tn i s'.heap ∧ (∀ b ∈ fp, H' b = none) ∧ W i n σ' H') ?_ m0 ⟨0, σ, H2, I2, st2, fun b hb => (f2 b hb).1, w0⟩
  rintro n s3 ⟨i, σ3, H3, I3, st3, fr3, w3⟩
  rcases turn i n σ3 H3 w3 with ⟨stop, qn⟩ | ⟨go, N, hN, step⟩
  · refine wpAny_passesOwn hp (thn (T.done X rfl rfl rfl hc i pins s3 σ3 H3 X.xe I3 (stat fr3) st3 stop) fun r s4 ⟨hr, I4⟩ => ?_)
    subst hr
    exact wpAny_execs_nil ⟨σ3, H3, I4, qn⟩
  · refine wpAny_passesOwn hp (thn (T.item X rfl rfl rfl hc i pins s3 σ3 H3 X.xe I3 (stat fr3) st3 go) fun r s4 ⟨u, hr, h4⟩ => ?_)
    subst hr
    refine wpAny_passesOwn hp (thn h4 fun _ s5 ⟨x, H5, I5, r5, y5, st5, fr5⟩ => ?_)
    have I5' := I5.pinned (stat fr5) (T.obj _ _ st5)
    refine wpAny_passesOwn hp (thn (hg _ s5 σ3 H5 x u _ I5' r5 (step x H5 y5)) fun _ s6 ⟨σ6, H6, I6, q6⟩ => ?_)
    refine wpAny_passesOwn hp (thn (hb _ s6 σ6 H6 _ I6 q6) fun f s7 q7 => ?_)
    have again : ∀ {σ7 : St} {H7 : Hp}, Inv X (pins ++ pinsAt fp s5.heap) σ7 H7 s7 → N σ7 H7 → ∃ m, m < n ∧ ∃ i σ' H', Inv X pins σ' H' s7 ∧ tn i s7.heap ∧ (∀ b ∈ fp, H' b = none) ∧ W i m σ' H' := fun {σ7 H7} I7 n7 => by
      obtain ⟨m', hm, w7⟩ := hN σ7 H7 n7
      refine ⟨m', hm, i + 1, σ7, H7, I7.unpinned, T.keep _ _ _ st5 fun b hb o e => (I7.pin (b, o) (List.mem_append_right _ (List.mem_append_right _ (mem_pinsAt hb e)))).1, fun b hb => ?_, w7⟩
      obtain ⟨o, e, d⟩ := T.obj _ _ st5 b hb
      exact (I7.pin (b, o) (List.mem_append_right _ (List.mem_append_right _ (mem_pinsAt hb e)))).2.1
    cases f with
    | next => obtain ⟨σ7, H7, I7, n7⟩ := q7; exact again I7 n7
    | cont => obtain ⟨σ7, H7, I7, n7⟩ := q7; exact again I7 n7
    | brk => obtain ⟨σ7, H7, I7, q7⟩ := q7; exact ⟨σ7, H7, I7.unpinned, q7⟩
    | ret v => obtain ⟨x7, σ7, H7, I7, r7, q7⟩ := q7; exact ⟨x7, σ7, H7, I7.unpinned, r7, q7⟩
end

/-! ### the forms one uses -/
/-- over a list that the body leaves as it is -/
theorem for_list {K : PySem.W.Frag} {a : Addr} {xs : List V} {g : TG} {tb : TS} {D : Ends} {σ : St} {H : Hp} (Pv : Nat → St → Hp → Prop) (h0 : Pv 0 σ H) (hl : ∀ i σ H, i ≤ xs.length → Pv i σ H → SqL K H a xs)
    (hs : ∀ i x σ H, xs[i]? = some x → Pv i σ H → g x σ H fun σ2 H2 => tb { D with nx := Pv (i + 1), ct := Pv (i + 1), bk := D.nx } σ2 H2) (hd : ∀ σ H, Pv xs.length σ H → D.nx σ H) :
    ∃ W : Nat → Nat → St → Hp → Prop, (∃ m, W 0 m σ H) ∧ ∀ i m σ H, W i m σ H →
      ((Itl K a).stop i H ∧ D.nx σ H) ∨ ((Itl K a).go i H ∧ ∃ N : St → Hp → Prop, (∀ σ' H', N σ' H' → ∃ m', m' < m ∧ W (i + 1) m' σ' H') ∧ ∀ x H', (Itl K a).yld i H x H' → g x σ H' fun σ2 H2 => tb { D with nx := N, ct := N, bk := D.nx } σ2 H2) := by
  refine ⟨fun i m σ H => m = xs.length - i ∧ i ≤ xs.length ∧ Pv i σ H, ⟨xs.length, by simp, Nat.zero_le _, h0⟩, ?_⟩
  rintro i m σ H ⟨rfl, hi, p⟩
  have q := hl i σ H hi p
  by_cases hlt : i < xs.length
  · refine .inr ⟨⟨xs, xs[i], q, by simp [hlt]⟩, Pv (i + 1), fun σ' H' p' => ⟨xs.length - (i + 1), by omega, rfl, hlt, p'⟩, fun x H' y => ?_⟩
    obtain ⟨e, y⟩ := y
    subst e
    exact hs i x σ _ (y xs q) p
  · have e : i = xs.length := by omega
    subst e
    exact .inl ⟨⟨xs, q, Nat.le_refl _⟩, hd σ H p⟩
theorem for_range {lo : Int} {n : Nat} {g : TG} {tb : TS} {D : Ends} {σ : St} {H : Hp} (Pv : Nat → St → Hp → Prop) (h0 : Pv 0 σ H)
    (hs : ∀ i σ H, i < n → Pv i σ H → g (.int (lo + i)) σ H fun σ2 H2 => tb { D with nx := Pv (i + 1), ct := Pv (i + 1), bk := D.nx } σ2 H2) (hd : ∀ σ H, Pv n σ H → D.nx σ H) :
    ∃ W : Nat → Nat → St → Hp → Prop, (∃ m, W 0 m σ H) ∧ ∀ i m σ H, W i m σ H →
      ((Itr lo n).stop i H ∧ D.nx σ H) ∨ ((Itr lo n).go i H ∧ ∃ N : St → Hp → Prop, (∀ σ' H', N σ' H' → ∃ m', m' < m ∧ W (i + 1) m' σ' H') ∧ ∀ x H', (Itr lo n).yld i H x H' → g x σ H' fun σ2 H2 => tb { D with nx := N, ct := N, bk := D.nx } σ2 H2) := by
  refine ⟨fun i m σ H => m = n - i ∧ i ≤ n ∧ Pv i σ H, ⟨n, by simp, Nat.zero_le _, h0⟩, ?_⟩
  rintro i m σ H ⟨rfl, hi, p⟩
  by_cases hlt : i < n
  · refine .inr ⟨hlt, Pv (i + 1), fun σ' H' p' => ⟨n - (i + 1), by omega, rfl, hlt, p'⟩, fun x H' y => ?_⟩
    obtain ⟨e, y⟩ := y
    subst e y
    exact hs i σ _ hlt p
  · have e : i = n := by omega
    subst e
    exact .inl ⟨Nat.le_refl _, hd σ H p⟩
end L2

namespace L2
open PySem PySem.Spec PyProof.Rows

noncomputable abbrev R2 := V → V → Hp → VK → Prop
/-- a two-place operation on values: f is binaryOp op, inplaceOp op or compareOp op -/
noncomputable def OpR (X : Cx) (f : Value → Value → Sem Value) (r : R2) : Prop :=
  ∀ (pins : List (Addr × Obj)) (s : Shared) (σ : St) (H : Hp) (x y : V) (v u : Value) (Q : VK), Inv X pins σ H s → RelV x v → RelV y u → r x y H Q →
    wpAny (model X.prog X.w) X.A (f v u) (EP X pins σ Q) X.xe s
/-- a one-place operation -/
noncomputable def UnR (X : Cx) (f : Value → Sem Value) (r : V → Hp → VK → Prop) : Prop :=
  ∀ (pins : List (Addr × Obj)) (s : Shared) (σ : St) (H : Hp) (x : V) (v : Value) (Q : VK), Inv X pins σ H s → RelV x v → r x H Q →
    wpAny (model X.prog X.w) X.A (f v) (EP X pins σ Q) X.xe s
/-- a call of a value that is known (a builtin, a type) with values -/
noncomputable def CallR (X : Cx) (f : Value) (r : List V → Hp → VK → Prop) : Prop :=
  ∀ (pins : List (Addr × Obj)) (s : Shared) (σ : St) (H : Hp) (xs : List V) (us : List Value) (Q : VK), Inv X pins σ H s → Vals xs us → r xs H Q →
    wpAny (model X.prog X.w) X.A (call f us) (EP X pins σ Q) X.xe s
/-- a value's truth -/
noncomputable def TruR (X : Cx) (r : V → Hp → (Bool → Hp → Prop) → Prop) : Prop :=
  ∀ (pins : List (Addr × Obj)) (s : Shared) (σ : St) (H : Hp) (x : V) (v : Value) (Q : Bool → Hp → Prop), Inv X pins σ H s → RelV x v → r x H Q →
    wpAny (model X.prog X.w) X.A (truthy v) (TP X pins σ Q) X.xe s

noncomputable def tOp (r : R2) (ta tb : TE) : TE := fun σ H Q => ta σ H fun x H1 => tb σ H1 fun y H2 => r x y H2 Q
noncomputable def tUn (r : V → Hp → VK → Prop) (ta : TE) : TE := fun σ H Q => ta σ H fun x H1 => r x H1 Q
/-- ints in, under C, and a value out -/
noncomputable def rI (C : Int → Int → Prop) (g : Int → Int → V) : R2 := fun x y H Q => ∃ i j, x = .int i ∧ y = .int j ∧ C i j ∧ Q (g i j) H
noncomputable def rI0 (g : Int → Int → V) : R2 := fun x y H Q => ∃ i j, x = .int i ∧ y = .int j ∧ Q (g i j) H
noncomputable def rU (g : Int → V) : V → Hp → VK → Prop := fun x H Q => ∃ i, x = .int i ∧ Q (g i) H

section
variable {X : Cx} {a b c : Expr} {ta tb tc : TE} {pos : Pos}

theorem binT (ha : PE X a ta) (hb : PE X b tb) {pins : List (Addr × Obj)} {s : Shared} {σ : St} {H : Hp} {R : V → V → Hp → Prop} (I : Inv X pins σ H s)
    (h : ta σ H fun x H1 => tb σ H1 fun y H2 => R x y H2) {Q : Value → Shared → Prop} {f : Value → Value → Sem Value}
    (hf : ∀ v u s2 x y H2, Inv X pins σ H2 s2 → RelV x v → RelV y u → R x y H2 → wpAny (model X.prog X.w) X.A (f v u) Q X.xe s2) :
    wpAny (model X.prog X.w) X.A (eval a X.env) (fun v s₁ => wpAny (model X.prog X.w) X.A (eval b X.env) (fun u s₂ => wpAny (model X.prog X.w) X.A (f v u) Q X.xe s₂) X.xe s₁) X.xe s := by
  refine thn (ha pins s σ H _ I h) fun v s1 ⟨x, H1, I1, r1, q1⟩ => ?_
  refine thn (hb pins s1 σ H1 _ I1 q1) fun u s2 ⟨y, H2, I2, r2, q2⟩ => ?_
  exact hf v u s2 x y H2 I2 r1 r2 q2

theorem pe_op {op : Operator} {r : R2} (ho : OpR X (binaryOp op) r) (ha : PE X a ta) (hb : PE X b tb) : PE X (.BinOp a op b pos) (tOp r ta tb) := by
  intro pins s σ H Q I h
  exact wpAny_BinOp (binT ha hb I h fun v u s2 x y H2 I2 rx ry q => ho pins s2 σ H2 x y v u Q I2 rx ry q)
theorem pe_un {op : UnaryOp} {r : V → Hp → VK → Prop} (ho : UnR X (unaryOp op) r) (ha : PE X a ta) : PE X (.UnaryOp op a pos) (tUn r ta) := by
  intro pins s σ H Q I h
  exact UnaryOp_ (thn (ha pins s σ H _ I h) fun v s1 ⟨x, H1, I1, r1, q1⟩ => ho pins s1 σ H1 x v Q I1 r1 q1)

/-! ### ints -/
theorem opI {f : Value → Value → Sem Value} {C : Int → Int → Prop} {g : Int → Int → Int}
    (rule : ∀ (i j : Int) (t u : Tok) (s : Shared) (Q : Value → Shared → Prop) (E : Value → Shared → Prop), C i j → Q (.int (g i j) s.toks) { s with toks := s.toks + 1 } → wpAny (model X.prog X.w) X.A (f (.int i t) (.int j u)) Q E s) :
    OpR X f (rI C fun i j => .int (g i j)) := by
  intro pins s σ H x y v u Q I rx ry h
  obtain ⟨i, j, rfl, rfl, hc, q⟩ := h
  obtain ⟨t, rfl⟩ := rx
  obtain ⟨t', rfl⟩ := ry
  exact rule i j t t' s _ _ hc ⟨.int (g i j), H, I.tok _, ⟨_, rfl⟩, q⟩
theorem opI0 {f : Value → Value → Sem Value} {g : Int → Int → Int}
    (rule : ∀ (i j : Int) (t u : Tok) (s : Shared) (Q : Value → Shared → Prop) (E : Value → Shared → Prop), Q (.int (g i j) s.toks) { s with toks := s.toks + 1 } → wpAny (model X.prog X.w) X.A (f (.int i t) (.int j u)) Q E s) :
    OpR X f (rI0 fun i j => .int (g i j)) := by
  intro pins s σ H x y v u Q I rx ry h
  obtain ⟨i, j, rfl, rfl, q⟩ := h
  obtain ⟨t, rfl⟩ := rx
  obtain ⟨t', rfl⟩ := ry
  exact rule i j t t' s _ _ ⟨.int (g i j), H, I.tok _, ⟨_, rfl⟩, q⟩
theorem opB0 {f : Value → Value → Sem Value} {g : Int → Int → Bool}
    (rule : ∀ (i j : Int) (t u : Tok) (s : Shared) (Q : Value → Shared → Prop) (E : Value → Shared → Prop), Q (.bool (g i j)) s → wpAny (model X.prog X.w) X.A (f (.int i t) (.int j u)) Q E s) :
    OpR X f (rI0 fun i j => .bl (g i j)) := by
  intro pins s σ H x y v u Q I rx ry h
  obtain ⟨i, j, rfl, rfl, q⟩ := h
  obtain ⟨t, rfl⟩ := rx
  obtain ⟨t', rfl⟩ := ry
  exact rule i j t t' s _ _ ⟨.bl (g i j), H, I, rfl, q⟩

noncomputable def CDiv (i j : Int) : Prop := 0 < j ∧ j < 1073741824
noncomputable def CDivN (i j : Int) : Prop := j ≠ 0 ∧ j.natAbs < 1073741824
noncomputable def CPow (i j : Int) : Prop := 0 ≤ j ∧ j ≤ 1000000 ∧ i.natAbs < 2 ^ 64
noncomputable def CMul (i j : Int) : Prop := (-(2 ^ 64) < i ∧ i < 2 ^ 64) ∨ (-(2 ^ 64) < j ∧ j < 2 ^ 64)
theorem CMul.ok {i j : Int} (h : CMul i j) : IntMulOk i j := by
  rcases h with ⟨h1, h2⟩ | ⟨h1, h2⟩
  · exact .of_left (intBits_le_64 h1 h2)
  · exact .of_right (intBits_le_64 h1 h2)

theorem op_add : OpR X (binaryOp .Add) (rI0 fun i j => .int (i + j)) := opI0 fun _ _ _ _ _ _ _ q => add_int q
theorem op_sub : OpR X (binaryOp .Sub) (rI0 fun i j => .int (i - j)) := opI0 fun _ _ _ _ _ _ _ q => sub_int q
theorem op_mul : OpR X (binaryOp .Mult) (rI CMul fun i j => .int (i * j)) := opI fun _ _ _ _ _ _ _ hc q => mul_int q hc.ok
/-- // by a positive divisor -/
theorem op_fdiv : OpR X (binaryOp .FloorDiv) (rI CDiv fun i j => .int (i / j)) := opI fun i j _ _ _ _ _ hc q => by
  have h1 : (0 : Int) < j := hc.1
  have h2 : j < 1073741824 := hc.2
  exact floordiv_int (by omega) (by rw [Int.fdiv_eq_ediv_of_nonneg i (by omega)]; exact q) (.inl (PyProof.noPylong_small (by omega)))
/-- % by a positive divisor of any size -/
theorem op_mod : OpR X (binaryOp .Mod) (rI (fun _ j => 0 < j) fun i j => .int (i % j)) := opI fun i j _ _ _ _ _ hc q => by
  have h1 : (0 : Int) < j := hc
  exact mod_int' (by omega) (by rw [Int.fmod_eq_emod_of_nonneg i (by omega)]; exact q)


theorem unI {f : Value → Sem Value} {g : Int → Int}
    (rule : ∀ (i : Int) (t : Tok) (s : Shared) (Q : Value → Shared → Prop) (E : Value → Shared → Prop), Q (.int (g i) s.toks) { s with toks := s.toks + 1 } → wpAny (model X.prog X.w) X.A (f (.int i t)) Q E s) :
    UnR X f (rU fun i => .int (g i)) := by
  intro pins s σ H x v Q I rx h
  obtain ⟨i, rfl, q⟩ := h
  obtain ⟨t, rfl⟩ := rx
  exact rule i t s _ _ ⟨.int (g i), H, I.tok _, ⟨_, rfl⟩, q⟩
theorem un_neg : UnR X (unaryOp .USub) (rU fun i => .int (-i)) := unI fun _ _ _ _ _ q => neg_int q

/-! ### bools among ints: n += (a < b) -/
end

/-! ### comparisons -/
/-- the scalars that == tells apart as data does -/
noncomputable def scal : V → V → Bool
  | .non, .non => true | .non, .int _ => true | .int _, .non => true | .non, .bl _ => true | .bl _, .non => true | .non, .str _ => true | .str _, .non => true
  | .int _, .int _ => true | .bl _, .bl _ => true | .str _, .str _ => true | .byt _, .byt _ => true
  | .int _, .str _ => true | .str _, .int _ => true | .bl _, .str _ => true | .str _, .bl _ => true
  | _, _ => false
noncomputable def rEq : R2 := fun x y H Q => scal x y = true ∧ Q (.bl (decide (x = y))) H
noncomputable def rNe : R2 := fun x y H Q => scal x y = true ∧ Q (.bl (!decide (x = y))) H

theorem dec_int {i j : Int} : decide (V.int i = V.int j) = (i == j) := by
  rw [Bool.eq_iff_iff]
  simp
theorem dec_bl {i j : Bool} : decide (V.bl i = V.bl j) = (i == j) := by
  rw [Bool.eq_iff_iff]
  simp
theorem dec_str {i j : Str} : decide (V.str i = V.str j) = (i == j) := by
  rw [Bool.eq_iff_iff]
  simp
theorem dec_byt {i j : Array UInt8} : decide (V.byt i = V.byt j) = (i.toList == j.toList) := by
  rw [Bool.eq_iff_iff]
  cases i
  cases j
  simp

section
variable {X : Cx} {a b c : Expr} {ta tb tc : TE} {pos : Pos}
theorem fin_bl {pins : List (Addr × Obj)} {σ : St} {H : Hp} {s : Shared} {Q : VK} {k k' : Bool} (I : Inv X pins σ H s) (q : Q (.bl k) H) (e : k = k') : EP X pins σ Q (.bool k') s := by
  subst e
  exact ⟨.bl k, H, I, rfl, q⟩
theorem op_eq : OpR X (compareOp .Eq) rEq := by
  intro pins s σ H x y v u Q I rx ry h
  obtain ⟨hs, q⟩ := h
  cases x with
  | non =>
    cases rx
    cases y with
    | non => cases ry; exact PySem.EqNone.eq_none_none (fin_bl I q (by simp))
    | bl j => cases ry; exact PySem.EqNone.eq_none_bool (fin_bl I q (by simp))
    | int j => obtain ⟨t', rfl⟩ := ry; exact PySem.EqNone.eq_none_int (fin_bl I q (by simp))
    | str j => obtain ⟨t', rfl⟩ := ry; exact PySem.EqNone.eq_none_str (fin_bl I q (by simp))
    | _ => exact absurd (show false = true from hs) Bool.false_ne_true
  | bl i =>
    cases rx
    cases y with
    | non => cases ry; exact PySem.EqNone.eq_bool_none (fin_bl I q (by simp))
    | bl j => cases ry; exact eq_bool (fin_bl I q dec_bl)
    | str j => obtain ⟨t', rfl⟩ := ry; exact PySem.EqMixed.eq_bool_str (fin_bl I q (by simp))
    | _ => exact absurd (show false = true from hs) Bool.false_ne_true
  | int i =>
    obtain ⟨t, rfl⟩ := rx
    cases y with
    | non => cases ry; exact PySem.EqNone.eq_int_none (fin_bl I q (by simp))
    | int j => obtain ⟨t', rfl⟩ := ry; exact eq_int (fin_bl I q dec_int)
    | str j => obtain ⟨t', rfl⟩ := ry; exact PySem.EqMixed.eq_int_str (fin_bl I q (by simp))
    | _ => exact absurd (show false = true from hs) Bool.false_ne_true
  | str i =>
    obtain ⟨t, rfl⟩ := rx
    cases y with
    | non => cases ry; exact PySem.EqNone.eq_str_none (fin_bl I q (by simp))
    | bl j => cases ry; exact PySem.EqMixed.eq_str_bool (fin_bl I q (by simp))
    | int j => obtain ⟨t', rfl⟩ := ry; exact PySem.EqMixed.eq_str_int (fin_bl I q (by simp))
    | str j => obtain ⟨t', rfl⟩ := ry; exact eq_str (fin_bl I q dec_str)
    | _ => exact absurd (show false = true from hs) Bool.false_ne_true
  | byt i =>
    obtain ⟨t, rfl⟩ := rx
    cases y with
    | byt j => obtain ⟨t', rfl⟩ := ry; exact PySem.W.eq_bytes (fin_bl I q dec_byt)
    | _ => exact absurd (show false = true from hs) Bool.false_ne_true
  | _ => cases y <;> exact absurd (show false = true from hs) Bool.false_ne_true
theorem op_ne : OpR X (compareOp .NotEq) rNe := by
  intro pins s σ H x y v u Q I rx ry h
  obtain ⟨hs, q⟩ := h
  cases x with
  | non =>
    cases rx
    cases y with
    | non => cases ry; exact PySem.EqNone.ne_none_none (fin_bl I q (by simp))
    | bl j => cases ry; exact PySem.EqNone.ne_none_bool (fin_bl I q (by simp))
    | int j => obtain ⟨t', rfl⟩ := ry; exact PySem.EqNone.ne_none_int (fin_bl I q (by simp))
    | str j => obtain ⟨t', rfl⟩ := ry; exact PySem.EqNone.ne_none_str (fin_bl I q (by simp))
    | _ => exact absurd (show false = true from hs) Bool.false_ne_true
  | bl i =>
    cases rx
    cases y with
    | non => cases ry; exact PySem.EqNone.ne_bool_none (fin_bl I q (by simp))
    | bl j => cases ry; exact ne_bool (fin_bl I q (congrArg not dec_bl))
    | str j => obtain ⟨t', rfl⟩ := ry; exact PySem.EqMixed.ne_bool_str (fin_bl I q (by simp))
    | _ => exact absurd (show false = true from hs) Bool.false_ne_true
  | int i =>
    obtain ⟨t, rfl⟩ := rx
    cases y with
    | non => cases ry; exact PySem.EqNone.ne_int_none (fin_bl I q (by simp))
    | int j => obtain ⟨t', rfl⟩ := ry; exact ne_int (fin_bl I q (congrArg not dec_int))
    | str j => obtain ⟨t', rfl⟩ := ry; exact PySem.EqMixed.ne_int_str (fin_bl I q (by simp))
    | _ => exact absurd (show false = true from hs) Bool.false_ne_true
  | str i =>
    obtain ⟨t, rfl⟩ := rx
    cases y with
    | non => cases ry; exact PySem.EqNone.ne_str_none (fin_bl I q (by simp))
    | bl j => cases ry; exact PySem.EqMixed.ne_str_bool (fin_bl I q (by simp))
    | int j => obtain ⟨t', rfl⟩ := ry; exact PySem.EqMixed.ne_str_int (fin_bl I q (by simp))
    | str j => obtain ⟨t', rfl⟩ := ry; exact ne_str (fin_bl I q (congrArg not dec_str))
    | _ => exact absurd (show false = true from hs) Bool.false_ne_true
  | byt i =>
    obtain ⟨t, rfl⟩ := rx
    cases y with
    | byt j => obtain ⟨t', rfl⟩ := ry; exact PySem.W.ne_bytes (fin_bl I q (congrArg not dec_byt))
    | _ => exact absurd (show false = true from hs) Bool.false_ne_true
  | _ => cases y <;> exact absurd (show false = true from hs) Bool.false_ne_true

theorem op_lt : OpR X (compareOp .Lt) (rI0 fun i j => .bl (decide (i < j))) := opB0 fun _ _ _ _ _ _ _ q => lt_int q
theorem op_le : OpR X (compareOp .LtE) (rI0 fun i j => .bl (decide (i ≤ j))) := opB0 fun _ _ _ _ _ _ _ q => le_int q
theorem op_gt : OpR X (compareOp .Gt) (rI0 fun i j => .bl (decide (j < i))) := opB0 fun _ _ _ _ _ _ _ q => gt_int q
theorem op_ge : OpR X (compareOp .GtE) (rI0 fun i j => .bl (decide (j ≤ i))) := opB0 fun _ _ _ _ _ _ _ q => ge_int q

/-- is None, is not None: the right side a value none -/
theorem op_isN : OpR X (compareOp .Is) (fun x y H Q => y = .non ∧ Q (.bl (decide (x = .non))) H) := by
  intro pins s σ H x y v u Q I rx ry h
  obtain ⟨rfl, q⟩ := h
  cases ry
  refine is_none_gen (fin_bl I q ?_)
  cases x <;> first
    | (cases rx; rfl)
    | (obtain ⟨t, rfl⟩ := rx; rfl)

/-- is, is not of two objects that are tracked lists or instances -/
noncomputable def isObj : HO → Bool
  | .lst _ => true
  | .ins _ _ _ => true
  | _ => false

/-- two rules for one operation: by cases -/
theorem OpR.or {f : Value → Value → Sem Value} {r r' : R2} (h : OpR X f r) (h' : OpR X f r') : OpR X f (fun x y H Q => r x y H Q ∨ r' x y H Q) := by
  intro pins s σ H x y v u Q I rx ry q
  rcases q with q | q
  · exact h pins s σ H x y v u Q I rx ry q
  · exact h' pins s σ H x y v u Q I rx ry q

theorem nomark (b : Expr) {op : CmpOp} (h : op ≠ .In := by decide) (h2 : op ≠ .NotIn := by decide) : behindInMarks op b = false := by
  have e1 : (op == CmpOp.In) = false := by cases op <;> first | rfl | exact absurd rfl h
  have e2 : (op == CmpOp.NotIn) = false := by cases op <;> first | rfl | exact absurd rfl h2
  cases b <;> simp [behindInMarks, e1, e2]
/-- a comparison as a value; hm: nomark b, or (for in, not in) by with_unfolding_all rfl -/
theorem pe_cmpR {op : CmpOp} {r : R2} (ho : OpR X (compareOp op) r) (ha : PE X a ta) (hb : PE X b tb) (hm : behindInMarks op b = false) : PE X (.Compare a [op] [b] pos) (tOp r ta tb) := by
  intro pins s σ H Q I h
  exact wpAny_Compare1 (binT ha hb I h fun v u s2 x y H2 I2 rx ry q => ho pins s2 σ H2 x y v u Q I2 rx ry q) hm
/-- a reading of a value as a test -/
noncomputable def tTest (t : TE) : TT := fun σ H Q => t σ H fun x H' => ∃ k, x = .bl k ∧ Q k H'
/-- a op1 b op2 c -/
noncomputable def tChain (r r' : R2) (ta tb tc : TE) : TE := fun σ H Q => ta σ H fun x H1 => tb σ H1 fun y H2 => r x y H2 fun z H3 => ∃ k, z = .bl k ∧
  (if k = true then tc σ H3 fun w' H4 => r' y w' H4 Q else Q (.bl false) H3)

/-! ### truth -/
/-- a value's truth by the abstract heap -/
noncomputable def TruV (K : PySem.W.Frag) (x : V) (H : Hp) (k : Bool) : Prop :=
  match x with
  | .non => k = false
  | .bl b => k = b
  | .int i => k = (i != 0)
  | .str y => y.length ≤ sizeLine ∧ k = ((y.length : Int) != 0)
  | .byt y => y.size ≤ sizeLine ∧ k = ((y.size : Int) != 0)
  | .ref p => (∃ xs, SqL K H p xs ∧ k = !xs.isEmpty) ∨ (∃ xs, SqT K H p xs ∧ k = !xs.isEmpty) ∨ ∃ kvs, H p = some (.dK kvs) ∧ k = !kvs.isEmpty
  | _ => False
theorem isEmpty_kv {κ : Type} {kvs : List (κ × V)} {vs : List (κ × Value)} (r : KV kvs vs) : (!vs.isEmpty) = !kvs.isEmpty := by
  cases r <;> rfl
theorem isEmpty_of {xs : List V} {its : List Value} (r : Vals xs its) : (!its.toArray.isEmpty) = !xs.isEmpty := by
  cases r <;> simp
theorem line63 : (sizeLine : Nat) < 2 ^ 63 := by rw [sizeLine_eq]; decide
theorem tru_ok : TruR X (fun x H Q => ∃ k, TruV X.K x H k ∧ Q k H) := by
  intro pins s σ H x v Q I rx h
  obtain ⟨k, e, q⟩ := h
  have hl := line63
  have hs : sizeLine = 16777216 := sizeLine_eq
  cases x with
  | non =>
    cases rx
    have e' : k = false := e
    subst e'
    exact truthy_none ⟨H, I, q⟩
  | bl b =>
    cases rx
    have e' : k = b := e
    subst e'
    exact wpAny_truthy_bool ⟨H, I, q⟩
  | int i =>
    obtain ⟨t, rfl⟩ := rx
    have e' : k = (i != 0) := e
    subst e'
    exact PySem.P.truthy_int ⟨H, I, q⟩
  | str y =>
    obtain ⟨t, rfl⟩ := rx
    obtain ⟨hy, e'⟩ : y.length ≤ sizeLine ∧ k = ((y.length : Int) != 0) := e
    subst e'
    exact PySem.P.truthy_str (by omega) ⟨H, I.tok _, q⟩
  | byt y =>
    obtain ⟨t, rfl⟩ := rx
    obtain ⟨hy, e'⟩ : y.size ≤ sizeLine ∧ k = ((y.size : Int) != 0) := e
    subst e'
    exact PySem.W.truthy_bytes (by omega) ⟨H, I.tok _, q⟩
  | ref p =>
    cases rx
    have e' : (∃ xs, SqL X.K H p xs ∧ k = !xs.isEmpty) ∨ (∃ xs, SqT X.K H p xs ∧ k = !xs.isEmpty) ∨ ∃ kvs, H p = some (.dK kvs) ∧ k = !kvs.isEmpty := e
    rcases e' with ⟨xs, hx, e'⟩ | ⟨xs, hx, e'⟩ | ⟨kvs, hx, e'⟩
    · subst e'
      obtain ⟨its, r, pl, hz⟩ := I.list hx
      have hlen := r.length
      exact wpAny_truthy_list pl.isList (by simp only [List.size_toArray]; omega) ⟨H, I.tok _, by rw [isEmpty_of r]; exact q⟩
    · subst e'
      obtain ⟨its, r, pl, hz⟩ := I.tuple hx
      have hlen := r.length
      exact truthy_tuple pl (by simp only [List.size_toArray]; omega) ⟨H, I.tok _, by rw [isEmpty_of r]; exact q⟩
    · subst e'
      obtain ⟨hz, hS, vs, r, m⟩ : kvs.length ≤ sizeLine ∧ (p == sysModules) = false ∧ ∃ vs, KV kvs vs ∧ s.heap.DictOf (mixKind X.prog X.w) p vs := I.hok p _ hx
      have hlen : kvs.length = vs.length := Paired.length r
      exact wpAny_truthy_dict hS m (by omega) ⟨H, I.tok _, by rw [isEmpty_kv r]; exact q⟩
  | _ => exact (show False from e).elim

/-! ### strs and bytes -/

noncomputable def PlainIxT (b : Expr) : Prop := ∀ o i, subscripted b false o i = operate [o, i] (getItem o i)

/-! ### scalar builtins, by CallR -/
theorem vals1 {x : V} {us : List Value} (r : Vals [x] us) : ∃ u, us = [u] ∧ RelV x u := by
  cases r with
  | cons r1 r2 => cases r2; exact ⟨_, rfl, r1⟩
theorem vals2 {x y : V} {us : List Value} (r : Vals [x, y] us) : ∃ u w', us = [u, w'] ∧ RelV x u ∧ RelV y w' := by
  cases r with
  | cons r1 r2 =>
    cases r2 with
    | cons r3 r4 => cases r4; exact ⟨_, _, rfl, r1, r3⟩
theorem call_max2 (hc : X.calm = true) : CallR X (.builtin "max") (fun xs H Q => ∃ i j, xs = [.int i, .int j] ∧ Q (.int (if j > i then j else i)) H) := by
  intro pins s σ H xs us Q I r h
  obtain ⟨i, j, rfl, q⟩ := h
  obtain ⟨u, w', rfl, ⟨t, rfl⟩, ⟨t', rfl⟩⟩ := vals2 r
  refine max_two_ints (I.ok.hd hc) fun h' tk k => ⟨_, H, I.kept k, ?_, q⟩
  by_cases hj : j > i
  · rw [if_pos hj, if_pos hj]; exact ⟨_, rfl⟩
  · rw [if_neg hj, if_neg hj]; exact ⟨_, rfl⟩
theorem call_min2 (hc : X.calm = true) : CallR X (.builtin "min") (fun xs H Q => ∃ i j, xs = [.int i, .int j] ∧ Q (.int (if j < i then j else i)) H) := by
  intro pins s σ H xs us Q I r h
  obtain ⟨i, j, rfl, q⟩ := h
  obtain ⟨u, w', rfl, ⟨t, rfl⟩, ⟨t', rfl⟩⟩ := vals2 r
  refine min_two_ints (I.ok.hd hc) fun h' tk k => ⟨_, H, I.kept k, ?_, q⟩
  by_cases hj : j < i
  · rw [if_pos hj, if_pos hj]; exact ⟨_, rfl⟩
  · rw [if_neg hj, if_neg hj]; exact ⟨_, rfl⟩
theorem call_int1 : CallR X (.type "int") (fun xs H Q => (∃ i, xs = [.int i] ∧ Q (.int i) H) ∨ ∃ k, xs = [.bl k] ∧ Q (.int (if k then 1 else 0)) H) := by
  intro pins s σ H xs us Q I r h
  rcases h with ⟨i, rfl, q⟩ | ⟨k, rfl, q⟩
  · obtain ⟨u, rfl, t, rfl⟩ := vals1 r
    exact call_int_int ⟨.int i, H, I, ⟨_, rfl⟩, q⟩
  · obtain ⟨u, rfl, r1⟩ := vals1 r
    cases r1
    exact call_int_bool ⟨.int (if k then 1 else 0), H, I.tok _, ⟨_, rfl⟩, q⟩
/-- len of a str, a bytes, a list, a tuple -/
noncomputable def LenV (K : PySem.W.Frag) (x : V) (H : Hp) (n : Nat) : Prop :=
  match x with
  | .str y => y.length ≤ sizeLine ∧ n = y.length
  | .byt y => y.size ≤ sizeLine ∧ n = y.size
  | .ref p => (∃ xs, SqL K H p xs ∧ n = xs.length) ∨ ∃ xs, SqT K H p xs ∧ n = xs.length
  | _ => False
end
end L2

namespace L2
open PySem PySem.Spec PyProof.Rows

/-! ### an instance, its attributes a map -/
structure ObjM (h : Heap) (x dx C : Addr) (mA : Str → Option Value) : Prop where
  obj : h.get? x = some (PySem.W.instObj C dx)
  ns : h.Ns1 dx mA
  ne : dx ≠ x

theorem lookIn_ns {h : Heap} {dx : Addr} {mA : Str → Option Value} (n : h.Ns1 dx mA) : ∃ od, h.get? dx = some od ∧ ∀ name, PySem.W.lookIn name od = some (mA name) := by
  obtain ⟨o, es, ep, ho, hd, hk, _, hm⟩ := n
  refine ⟨o, ho, fun name => ?_⟩
  have e := hm name
  unfold nsFind findBy at e
  rw [← Array.find?_toList] at e
  unfold PySem.W.lookIn
  rw [hd]
  dsimp only
  split
  · rename_i y q
    rw [q] at e
    exact congrArg some e
  · rename_i q
    rw [q] at e
    have a : es.toList.any (·.refKey) = false := by
      rw [List.any_eq_false]
      intro y hy
      obtain ⟨z, t, hkey⟩ := hk y (Array.mem_toList_iff.mp hy)
      simp [DictEntry.refKey, hkey]
    have a' : ¬ es.toList.any (·.refKey) = true := by rw [a]; exact Bool.false_ne_true
    rw [if_neg a']
    exact congrArg some e

theorem ObjM.look {h : Heap} {x dx C : Addr} {mA : Str → Option Value} (I : ObjM h x dx C mA) : ∃ od, PySem.W.InstAt h x (PySem.W.instObj C dx) C (some od) ∧ ∀ name, PySem.W.lookIn name od = some (mA name) :=
  let ⟨od, ho, hl⟩ := lookIn_ns I.ns
  ⟨od, ⟨I.obj, rfl, rfl, ho⟩, hl⟩

section
variable {prog : Program} {w : World} {A : Around} {E : Value → Shared → Prop} {s : Shared} {K : PySem.W.Frag} {x dx C f : Addr} {mA : Str → Option Value} {name : Str} {v : Value}

theorem get_map {expr : Bool} {Q : Value → Shared → Prop} (X : K.In s.heap) (I : ObjM s.heap x dx C mA) (hg : PySem.W.plainGet K C name = true) (hh : PySem.W.hasDictIn K C = true)
    (ha : PySem.W.findIn K (.ref C) name = some none) (hv : mA name = some v) (hv' : PySem.W.handedIn v = true) (h : Q v { s with toks := s.toks + 1 }) :
    wpAny (model prog w) A (getAttr (.ref x) name expr) Q E s := by
  obtain ⟨od, J, hl⟩ := I.look
  exact PySem.W.get_value X J (PySem.W.plainGet_of hg).1 (PySem.W.findObj_own hh ha rfl (by rw [hl, hv])) hv' h


theorem get_meth {pl : Sem Bool} {Q : Value × List Value → Shared → Prop} (X : K.In s.heap) (I : ObjM s.heap x dx C mA) (hg : PySem.W.plainGet K C name = true)
    (hf : PySem.W.findIn K (.ref C) name = some (some (.ref f))) (ht : PySem.W.isFn K (.ref f) = true) (hv : mA name = none) (h : Q (.ref f, [.ref x]) s) :
    wpAny (model prog w) A (getMethod (.ref x) name pl) Q E s := by
  obtain ⟨od, J, hl⟩ := I.look
  exact PySem.W.method_fn X J (PySem.W.plainGet_of hg).1 (PySem.W.plainGet_of hg).2 hf (beq_iff_eq.mp ht) (by show (PySem.W.lookIn name od).map (·.isSome) = some false; rw [hl, hv]; rfl) h

theorem set_map {ns : List Str} {Q : Unit → Shared → Prop} (X : K.In s.heap) (I : ObjM s.heap x dx C mA)
    (hs : PySem.W.findIn K (.ref C) "__setattr__" = some (some (.builtin "object.__setattr__"))) (hp : PySem.W.plainOver K C = true) (ht : PySem.W.takerIn K C name = some none) (hh : PySem.W.hasDictIn K C = true)
    (hw : PySem.Within mA ns) (hsz : ns.length ≤ sizeLine)
    (h : ∀ h', ObjM h' x dx C (fun y => if y = name then some v else mA y) → Heap.SameBut dx s.heap h' → Q () { s with heap := h', toks := s.toks + 2 }) :
    wpAny (model prog w) A (setAttr (.ref x) name v) Q E s := by
  obtain ⟨od, J, hl⟩ := I.look
  refine PySem.W.set_plain X J hs (PySem.W.osa_open (s := { s with toks := s.toks + 1 }) (r := none) X J hp ht fun b => ?_)
  obtain ⟨cd, hc, hd'⟩ := PySem.W.any_some hh
  have hx : s.heap.get? x = some ⟨.ref C, some dx, .plain, #[]⟩ := I.obj
  refine wpAny_bind (wpAny_pure (wpAny_bind (wpAny_bind (wpAny_loadPart hx (wpAny_bind (PySem.W.Looks.here (s := { s with toks := s.toks + 1 }) (PySem.W.looks_clsIn X hc) ?_))))))
  rw [hd']
  refine wpAny_pure (a := some dx) (wpAny_bind (wpAny_pure (wpAny_bind ?_)))
  refine wpAny_nsSet1 (s := { s with toks := s.toks + 1 }) I.ns fun h' hn2 hs2 => ?_
  obtain ⟨oD, esD, epD, hoD, hdD, hcD⟩ := hn2.count (PySem.Within.cons name v hw)
  refine wpAny_bind (wpAny_lookBehind hoD (by rw [hdD]; exact pastItsLine_dict (Nat.le_trans hcD (by rw [List.length_cons]; omega))) ?_)
  exact wpAny_pure (h _ ⟨(hs2.2 _ (Ne.symm I.ne)).trans I.obj, hn2, I.ne⟩ hs2)

/-- C(..): the dict at the heap's end, the instance behind it; then its __init__ -/
theorem make_map {R : Result → Shared → Prop} {vs : List Value} {kw : List (Str × Value)} (X : K.In s.heap) (hm : PySem.W.makesIn K C = true)
    (hi : PySem.W.findIn K (.ref C) "__init__" = some (some (.ref f))) (hf : PySem.W.typeIn K (.ref f) = some (.type "function"))
    (h : codeAny (model prog w) (A.under (.builtin "type.__call__" ⟨.ref C :: vs, kw⟩)) (.call (.ref f) ⟨.ref (s.heap.objs.size + 1) :: vs, kw⟩) (PySem.W.InitBack (s.heap.objs.size + 1) R)
      { s with heap := (s.heap.push PySem.W.emptyDict).push (PySem.W.instObj C s.heap.objs.size) }) :
    codeAny (model prog w) A (.call (.ref C) ⟨vs, kw⟩) R s := by
  obtain ⟨hh, g, d, t, os⟩ := s
  exact PySem.W.make_core (PySem.W.makes_of X hm) (PySem.W.looks_findIn X hi) (fun self => PySem.W.bind_fn X self hf) (.inl rfl) h
end

/-! ### the attributes as a list of pairs -/
noncomputable def putF (f : Str) (v : V) : List (Str × V) → List (Str × V)
  | [] => [(f, v)]
  | (g, x) :: r => if g = f then (g, v) :: r else (g, x) :: putF f v r
theorem lookup_putF (f g : Str) (v : V) : ∀ fs : List (Str × V), (putF f v fs).lookup g = if g = f then some v else fs.lookup g
  | [] => by
    show List.lookup g [(f, v)] = _
    by_cases h : g = f
    · have hb : (g == f) = true := beq_iff_eq.mpr h
      simp only [List.lookup, hb, if_pos h]
    · have hb : (g == f) = false := beq_eq_false_iff_ne.mpr h
      simp only [List.lookup, hb, if_neg h]
  | (k, x) :: r => by
    have ih := lookup_putF f g v r
    rw [show putF f v ((k, x) :: r) = (if k = f then (k, v) :: r else (k, x) :: putF f v r) from rfl]
    by_cases hk : k = f
    · rw [if_pos hk]
      by_cases h : g = k
      · have hb : (g == k) = true := beq_iff_eq.mpr h
        simp only [List.lookup, hb, if_pos (h.trans hk)]
      · have hb : (g == k) = false := beq_eq_false_iff_ne.mpr h
        simp only [List.lookup, hb, if_neg (fun e : g = f => h (e.trans hk.symm))]
    · rw [if_neg hk]
      by_cases h : g = k
      · have hb : (g == k) = true := beq_iff_eq.mpr h
        simp only [List.lookup, hb, if_neg (fun e : g = f => hk (h.symm.trans e))]
      · have hb : (g == k) = false := beq_eq_false_iff_ne.mpr h
        simp only [List.lookup, hb]
        exact ih
theorem keys_putF (f : Str) (v : V) : ∀ fs : List (Str × V), f ∈ (putF f v fs).map (·.1) ∧ ∀ g, g ∈ fs.map (·.1) → g ∈ (putF f v fs).map (·.1)
  | [] => ⟨by simp [putF], fun g h => by simp at h⟩
  | (k, x) :: r => by
    obtain ⟨i1, i2⟩ := keys_putF f v r
    rw [show putF f v ((k, x) :: r) = (if k = f then (k, v) :: r else (k, x) :: putF f v r) from rfl]
    by_cases hk : k = f
    · rw [if_pos hk]
      subst hk
      exact ⟨by simp, fun g h => by simpa using h⟩
    · rw [if_neg hk]
      refine ⟨?_, fun g h => ?_⟩
      · rw [List.map_cons]
        exact List.mem_cons_of_mem _ i1
      · rw [List.map_cons] at h ⊢
        rcases List.mem_cons.mp h with e | e
        · exact List.mem_cons.mpr (.inl e)
        · exact List.mem_cons_of_mem _ (i2 g e)
theorem length_putF (f : Str) (v : V) : ∀ fs : List (Str × V), (putF f v fs).length ≤ fs.length + 1
  | [] => by simp [putF]
  | (k, x) :: r => by
    have ih := length_putF f v r
    rw [show putF f v ((k, x) :: r) = (if k = f then (k, v) :: r else (k, x) :: putF f v r) from rfl]
    by_cases hk : k = f
    · rw [if_pos hk, List.length_cons, List.length_cons]; omega
    · rw [if_neg hk, List.length_cons, List.length_cons]; omega

theorem RelO.some_of {v : V} {o : Option Value} (r : RelO (some v) o) : ∃ u, o = some u ∧ RelV v u := by
  cases o with
  | none => exact (show False from r).elim
  | some u => exact ⟨u, rfl, r⟩
theorem RelO.none_of {o : Option Value} (r : RelO none o) : o = none := by
  cases o with
  | none => rfl
  | some u => exact (show False from r).elim
theorem handed_of {v : V} {u : Value} (r : RelV v u) : PySem.W.handedIn u = true := by
  cases v with
  | non => cases (show u = Value.none from r); rfl
  | bl b => cases (show u = Value.bool b from r); rfl
  | int i => obtain ⟨t, e⟩ := (show ∃ t, u = Value.int i t from r); cases e; rfl
  | str x => obtain ⟨t, e⟩ := (show ∃ t, u = Value.str x t from r); cases e; rfl
  | byt b => obtain ⟨t, e⟩ := (show ∃ t, u = Value.bytes b t from r); cases e; rfl
  | flt b => obtain ⟨t, e⟩ := (show ∃ t, u = Value.float b t from r); cases e; rfl
  | ref a => cases (show u = Value.ref a from r); rfl
  | ty n => cases (show u = Value.type n from r); rfl

section
variable {P : Program} {w : World} {H H' : Hp} {h h' : Heap} {a C dx : Addr} {fs fs' : List (Str × V)}
theorem ins_get (hok : HOk P w H h) (e : H a = some (.ins C dx fs)) : ∃ mA, ObjM h a dx C mA ∧ (∀ f, RelO (fs.lookup f) (mA f)) ∧ PySem.Within mA (fs.map (·.1)) ∧ fs.length ≤ 1000 ∧ H dx = some (.own a) := by
  obtain ⟨d, z, ne, ob, mA, n, r, q⟩ := (show ObjOk P w H h a (.ins C dx fs) from hok a _ e)
  exact ⟨mA, ⟨ob, n, ne⟩, r, q, z, d⟩
end

/-! ### what of the text a class must have -/
structure Cls (K : PySem.W.Frag) (C : Addr) : Prop where
  pg : PySem.W.plainGet K C Str.empty = true
  hd : PySem.W.hasDictIn K C = true
  po : PySem.W.plainOver K C = true
  sa : PySem.W.findIn K (.ref C) "__setattr__" = some (some (.builtin "object.__setattr__"))
theorem Cls.get {K : PySem.W.Frag} {C : Addr} (c : Cls K C) (f : Str) : PySem.W.plainGet K C f = true := c.pg
/-- no class of it has the name -/
noncomputable def NoAttr (K : PySem.W.Frag) (C : Addr) (f : Str) : Prop := PySem.W.findIn K (.ref C) f = some none
theorem NoAttr.taker {K : PySem.W.Frag} {C : Addr} {f : Str} (n : NoAttr K C f) : PySem.W.takerIn K C f = some none := by
  unfold PySem.W.takerIn
  rw [show PySem.W.findIn K (.ref C) f = some none from n]
  rfl
/-- a constant of the class -/
structure Con (K : PySem.W.Frag) (C : Addr) (f : Str) (v : V) (u : Value) : Prop where
  at_ : PySem.W.findIn K (.ref C) f = some (some u)
  rel : RelV v u
  get : PySem.W.specialIn K u "__get__" = some none
  cp : PySem.W.copiedNames.contains f = false
/-- a method: a plain def of the class or of one above it -/
structure Meth (K : PySem.W.Frag) (C : Addr) (m : Str) (f : Addr) : Prop where
  at_ : PySem.W.findIn K (.ref C) m = some (some (.ref f))
  fn : PySem.W.isFn K (.ref f) = true
  kp : PySem.W.keepIn K (.ref f) = true

section
variable {X : Cx} {pins : List (Addr × Obj)} {σ : St} {H : Hp} {s : Shared} {a C dx : Addr} {fs : List (Str × V)} {f : Str} {v : V} {A : Around} {E : Value → Shared → Prop}

theorem getattr_ok {b : Bool} {Q : Value → Shared → Prop} (I : Inv X pins σ H s) (e : H a = some (.ins C dx fs)) (c : Cls X.K C) (n : NoAttr X.K C f) (l : fs.lookup f = some v)
    (h : ∀ u s', Inv X pins σ H s' → RelV v u → Q u s') : wpAny (model X.prog X.w) A (getAttr (.ref a) f b) Q E s := by
  obtain ⟨mA, O, r, _, _, _⟩ := ins_get I.hok e
  obtain ⟨u, hu, ru⟩ := RelO.some_of (v := v) (o := mA f) (by rw [← l]; exact r f)
  exact get_map I.kIn O (c.get f) c.hd n hu (handed_of ru) (h u _ (I.tok _) ru)


theorem getmeth_ok {m : Str} {g : Addr} {pl : Sem Bool} {Q : Value × List Value → Shared → Prop} (I : Inv X pins σ H s) (e : H a = some (.ins C dx fs)) (c : Cls X.K C) (k : Meth X.K C m g) (l : fs.lookup m = none)
    (h : Q (.ref g, [.ref a]) s) : wpAny (model X.prog X.w) A (getMethod (.ref a) m pl) Q E s := by
  obtain ⟨mA, O, r, _, _, _⟩ := ins_get I.hok e
  have hn : mA m = none := RelO.none_of (by rw [← l]; exact r m)
  exact get_meth I.kIn O (c.get m) k.at_ k.fn hn h

theorem setattr_ok {y : V} {u : Value} {Q : Unit → Shared → Prop} (I : Inv X pins σ H s) (e : H a = some (.ins C dx fs)) (c : Cls X.K C) (n : NoAttr X.K C f) (hl : fs.length < 1000) (ry : RelV y u)
    (h : ∀ s', Inv X pins σ (upd H a (.ins C dx (putF f y fs))) s' → Q () s') : wpAny (model X.prog X.w) A (setAttr (.ref a) f u) Q E s := by
  obtain ⟨mA, O, r, wi, _, ho⟩ := ins_get I.hok e
  have hz : (fs.map (·.1)).length ≤ sizeLine := by rw [List.length_map, sizeLine_eq]; omega
  refine set_map I.kIn O c.sa c.po n.taker c.hd wi hz fun h' O' sb => h _ ?_
  have hd : ∃ o, h'.get? dx = some o := let ⟨o, _, _, e', _⟩ := O'.ns; ⟨o, e'⟩
  refine I.write (x := a) (e := dx) (by rw [e]; exact True.intro) (.inr ho) (fun b q hb z => (sb.2 b hb).trans z) hd ?_
  refine ⟨by rw [upd_ne O.ne]; exact ho, ?_, O.ne, O'.obj, _, O'.ns, fun g => ?_, fun g hg => ?_⟩
  · have := length_putF f y fs; omega
  · show RelO ((putF f y fs).lookup g) (if g = f then some u else mA g)
    rw [lookup_putF]
    by_cases q : g = f
    · rw [if_pos q, if_pos q]; exact ry
    · rw [if_neg q, if_neg q]; exact r g
  · by_cases q : g = f
    · rw [q]; exact (keys_putF f y fs).1
    · refine (keys_putF f y fs).2 g (wi g fun z => hg ?_)
      show (if g = f then some u else mA g) = none
      rw [if_neg q]; exact z

/-- a new instance, tracked, without attributes -/
theorem Inv.made (I : Inv X pins σ H s) : Inv X pins σ (upd (upd H s.heap.objs.size (.own (s.heap.objs.size + 1))) (s.heap.objs.size + 1) (.ins C s.heap.objs.size []))
    { s with heap := (s.heap.push PySem.W.emptyDict).push (PySem.W.instObj C s.heap.objs.size) } := by
  have e1 : (s.heap.push PySem.W.emptyDict).get? s.heap.objs.size = some PySem.W.emptyDict := Heap.get?_push_size s.heap rfl
  have e2 : ((s.heap.push PySem.W.emptyDict).push (PySem.W.instObj C s.heap.objs.size)).get? (s.heap.objs.size + 1) = some (PySem.W.instObj C s.heap.objs.size) := by
    have := Heap.get?_push_size (s.heap.push PySem.W.emptyDict) (o := PySem.W.instObj C s.heap.objs.size) rfl
    rwa [Heap.size_push] at this
  have e3 : (s.heap.push PySem.W.emptyDict).Ns s.heap.objs.size (fun _ => none) := ⟨PySem.W.emptyDict, #[], _, e1, rfl, (fun e he => absurd he (by simp)), fun _ => rfl⟩
  have I1 := I.laid (a := s.heap.objs.size) (o := .own (s.heap.objs.size + 1)) (h' := s.heap.push PySem.W.emptyDict) (t' := s.toks) (fun b u q => Heap.get?_push_of_some _ q) (Nat.le_refl _) ⟨_, e1⟩
  refine I1.laid (a := s.heap.objs.size + 1) (o := .ins C s.heap.objs.size []) (t' := s.toks) (fun b u q => Heap.get?_push_of_some _ q) (Nat.le_of_eq (Heap.size_push _ _)) ?_
  have ne : s.heap.objs.size ≠ s.heap.objs.size + 1 := Nat.ne_of_lt (Nat.lt_succ_self _)
  refine ⟨by rw [upd_ne ne, upd_same], Nat.zero_le _, ne, e2, fun _ => none, (Heap.Ns1.of_empty e3).at fun o q => Heap.get?_push_of_some _ q, fun _ => True.intro, fun y hy => absurd rfl hy⟩

/-- e.f where nothing but the object is asked: through attributeBase (super) and the last hold -/
theorem attr_of {prog : Program} {w : World} {env : Env} {e : Expr} {f : Str} {pos : Pos} {s : Shared} {Q : Value → Shared → Prop} (hb : attributeBase e f env (eval e env) = eval e env)
    (h : wpAny (model prog w) A (eval e env) (fun o s₁ => wpAny (model prog w) A (getAttr o f true) Q E s₁) E s) : wpAny (model prog w) A (eval (.Attribute e f pos) env) Q E s :=
  Attribute_any_ h (by rw [arm_eval_Attribute, hb])
end

/-! ### readings and rules -/
/-- e.f, an attribute of the instance -/
noncomputable def tFld (K : PySem.W.Frag) (ta : TE) (f : Str) : TE := fun σ H Q => ta σ H fun x H1 => ∃ a C dx fs v, x = .ref a ∧ H1 a = some (.ins C dx fs) ∧ Cls K C ∧ NoAttr K C f ∧ fs.lookup f = some v ∧ Q v H1
/-- e.f, a constant of the class -/
noncomputable def tCon (K : PySem.W.Frag) (ta : TE) (f : Str) : TE := fun σ H Q => ta σ H fun x H1 => ∃ a C dx fs v u, x = .ref a ∧ H1 a = some (.ins C dx fs) ∧ Cls K C ∧ Con K C f v u ∧ fs.lookup f = none ∧ Q v H1
/-- e.f = value -/
noncomputable def sFld (K : PySem.W.Frag) (ta tv : TE) (f : Str) : TS := fun D σ H => tv σ H fun y H1 => ta σ H1 fun x H2 => ∃ a C dx fs, x = .ref a ∧ H2 a = some (.ins C dx fs) ∧ Cls K C ∧ NoAttr K C f ∧ fs.length < 1000 ∧
  D.nx σ (upd H2 a (.ins C dx (putF f y fs)))
/-- an augmented operator on two values -/
noncomputable def InOp (X : Cx) (op : Operator) (rd : V → V → Hp → VK → Prop) : Prop :=
  ∀ (pins : List (Addr × Obj)) (s : Shared) (σ : St) (H : Hp) (x y : V) (u v : Value) (Q : VK), Inv X pins σ H s → RelV x u → RelV y v → rd x y H Q → wpAny (model X.prog X.w) X.A (inplaceOp op u v) (EP X pins σ Q) X.xe s
/-- e.f op= value -/
noncomputable def sFldAug (K : PySem.W.Frag) (ta tv : TE) (rd : V → V → Hp → VK → Prop) (f : Str) : TS := fun D σ H => ta σ H fun x H1 => ∃ a C dx fs v, x = .ref a ∧ H1 a = some (.ins C dx fs) ∧ Cls K C ∧ NoAttr K C f ∧ fs.lookup f = some v ∧
  tv σ H1 fun y H2 => rd v y H2 fun z H3 => ∃ dx' fs', H3 a = some (.ins C dx' fs') ∧ fs'.length < 1000 ∧ D.nx σ (upd H3 a (.ins C dx' (putF f z fs')))

section
variable {X : Cx} {o e value : Expr} {f : Str} {pos pos' tpos : Pos} {ta tv : TE}
theorem pe_fld (he : PE X e ta) (hb : attributeBase e f X.env (eval e X.env) = eval e X.env) : PE X (.Attribute e f pos) (tFld X.K ta f) := by
  intro pins s σ H Q I h
  refine attr_of hb (thn (he pins s σ H _ I h) fun u s1 ⟨x, H1, I1, rx, a, C, dx, fs, v, ex, ea, c, n, l, q⟩ => ?_)
  subst ex
  obtain rfl : u = Value.ref a := rx
  exact getattr_ok I1 ea c n l fun u' s2 I2 ru => ⟨v, H1, I2, ru, q⟩
theorem ps_fld (ha : PE X o ta) (hv : PE X value tv) (hs : swapsWith value (some (.Attribute o f pos')) pos.line X.env = pure false) : PS X (.Assign [.Attribute o f pos'] value pos) (sFld X.K ta tv f) := by
  intro pins s σ H D I h
  refine plainObj_wpAny_Assign_Attribute (thn (hv pins s σ H _ I h) fun u s1 ⟨y, H1, I1, ry, q⟩ => thn (ha pins s1 σ H1 _ I1 q) fun ov s2 ⟨x, H2, I2, rx, a, C, dx, fs, ex, ea, c, n, l, q2⟩ => ?_) hs
  subst ex
  obtain rfl : ov = Value.ref a := rx
  exact setattr_ok I2 ea c n l ry fun s3 I3 => ⟨σ, _, I3, q2⟩
noncomputable def rAdd : V → V → Hp → VK → Prop := fun x y H Q => ∃ i j, x = .int i ∧ y = .int j ∧ Q (.int (i + j)) H
noncomputable def rSub : V → V → Hp → VK → Prop := fun x y H Q => ∃ i j, x = .int i ∧ y = .int j ∧ Q (.int (i - j)) H

end

/-! ### isinstance -/
section
variable {X : Cx} {pins : List (Addr × Obj)} {σ : St} {H : Hp} {s : Shared} {A : Around} {E : Value → Shared → Prop} {Q : Value → Shared → Prop} {c : Value} {b : Bool}
/-- the type of a value, as the fragment's deciders take it; for an instance its class -/
inductive TyOf (K : PySem.W.Frag) (H : Hp) : V → Value → Prop where
  | non : TyOf K H .non (.type "NoneType")
  | bl (x : Bool) : TyOf K H (.bl x) (.type "bool")
  | int (i : Int) : TyOf K H (.int i) (.type "int")
  | str (x : Str) : TyOf K H (.str x) (.type "str")
  | flt (x : UInt64) : TyOf K H (.flt x) (.type "float")
  | lst {a : Addr} {xs : List V} (e : H a = some (.lst xs)) : TyOf K H (.ref a) (.type "list")
  | frz {a : Addr} {o : Obj} {xs : List V} (e : H a = some (.frz o (.lst xs))) : TyOf K H (.ref a) (.type "list")
  | tup {a : Addr} {xs : List V} (e : H a = some (.tup xs)) : TyOf K H (.ref a) (.type "tuple")
  | dK {a : Addr} {kvs : List (Key × V)} (e : H a = some (.dK kvs)) : TyOf K H (.ref a) (.type "dict")
  | dT {a : Addr} {kvs : List (List Key × V)} (e : H a = some (.dT kvs)) : TyOf K H (.ref a) (.type "dict")
  | ins {a C dx : Addr} {fs : List (Str × V)} (e : H a = some (.ins C dx fs)) (cl : Cls K C) (ha : PySem.W.findIn K (.ref C) "__class__" = some (some (.builtin "object.__class__")))
      (hn : PySem.W.specialIn K (.builtin "object.__class__") "__get__" = some (some (.builtin "getset_descriptor.__get__"))) (htk : PySem.W.takesIn K (.builtin "object.__class__") = some true)
      (hm : PySem.W.mroIn K C (.type "object") = some true) : TyOf K H (.ref a) (.ref C)
/-- isinstance(x, c) for one class c, a built-in or an own one: kitOne's answer -/
theorem isinst_ok {x : V} {u t : Value} (I : Inv X pins σ H s) (rx : RelV x u) (ty : TyOf X.K H x t) (e : PySem.W.kitOne X.K t c = some b) (h : ∀ tk, Q (.bool b) { s with toks := tk }) :
    wpAny (model X.prog X.w) A (call (.builtin "isinstance") [u, c]) Q E s := by
  cases ty with
  | non => cases (show u = Value.none from rx); exact PySem.W.kia_one PySem.W.kitx_none I.kIn True.intro e (fun z => nomatch z) h
  | bl y => cases (show u = Value.bool y from rx); exact PySem.W.kia_one PySem.W.kitx_bool I.kIn True.intro e (fun z => nomatch z) h
  | int i => obtain ⟨t, q⟩ := (show ∃ t, u = Value.int i t from rx); cases q; exact PySem.W.kia_one PySem.W.kitx_int I.kIn True.intro e (fun z => nomatch z) h
  | str y => obtain ⟨t, q⟩ := (show ∃ t, u = Value.str y t from rx); cases q; exact PySem.W.kia_one PySem.W.kitx_str I.kIn True.intro e (fun z => nomatch z) h
  | flt y => obtain ⟨t, q⟩ := (show ∃ t, u = Value.float y t from rx); cases q; exact PySem.W.kia_one PySem.W.kitx_float I.kIn True.intro e (fun z => nomatch z) h
  | @lst a xs ea =>
    cases (show u = Value.ref a from rx)
    obtain ⟨_, _, n, _, h1⟩ := (show ObjOk X.prog X.w H s.heap a (.lst xs) from I.hok a _ ea)
    exact PySem.W.kia_one PySem.W.kitx_list I.kIn ⟨_, h1, rfl⟩ e (fun z => nomatch z) h
  | @frz a ob xs ea =>
    cases (show u = Value.ref a from rx)
    obtain ⟨_, _, _, n, _, h1⟩ := (show ObjOk X.prog X.w H s.heap a (.frz ob (.lst xs)) from I.hok a _ ea)
    exact PySem.W.kia_one PySem.W.kitx_list I.kIn ⟨_, h1, rfl⟩ e (fun z => nomatch z) h
  | @tup a xs ea =>
    cases (show u = Value.ref a from rx)
    obtain ⟨_, _, _, p⟩ := (show ObjOk X.prog X.w H s.heap a (.tup xs) from I.hok a _ ea)
    obtain ⟨o, h1, h2, _⟩ := p
    exact PySem.W.kia_one PySem.W.kitx_tuple I.kIn ⟨o, h1, h2⟩ e (fun z => nomatch z) h
  | @dK a kvs ea =>
    cases (show u = Value.ref a from rx)
    obtain ⟨_, _, vs, _, p⟩ := (show ObjOk X.prog X.w H s.heap a (.dK kvs) from I.hok a _ ea)
    obtain ⟨o, es, ep, h1, h2, _⟩ := p
    exact PySem.W.kia_one PySem.W.kitx_dict I.kIn ⟨o, h1, h2.1⟩ e (fun z => nomatch z) h
  | @dT a kvs ea =>
    cases (show u = Value.ref a from rx)
    obtain ⟨_, _, xs, _, o, es, ep, h1, h2, _⟩ := (show ObjOk X.prog X.w H s.heap a (.dT kvs) from I.hok a _ ea)
    exact PySem.W.kia_one PySem.W.kitx_dict I.kIn ⟨o, h1, h2.1⟩ e (fun z => nomatch z) h
  | @ins a C dx fs ea cl ha hn htk hm =>
    cases (show u = Value.ref a from rx)
    obtain ⟨mA, O, _⟩ := ins_get I.hok ea
    obtain ⟨od, J, _⟩ := O.look
    exact PySem.W.kia_one (PySem.W.kitx_own (cl.get _) cl.hd ha hn htk hm) I.kIn J e (fun z => nomatch z) h
end
end L2

namespace L2
open PySem PySem.Spec PyProof.Rows

/-! ### room -/
structure Room (k : Nat) (A : Around) : Prop where
  hd : A.handled = none
  dp : A.depth + 3 * k + 5 < recursionLimit
  un : A.units + 16 * k + 200 < cLine
theorem Room.mono {j k : Nat} {A : Around} (r : Room k A) (h : j ≤ k) : Room j A := ⟨r.hd, by have := r.dp; omega, by have := r.un; omega⟩
theorem Room.deeper {k : Nat} {A : Around} (r : Room (k + 1) A) (env : Env) : Room k (A.deeper env) :=
  ⟨r.hd, by have := r.dp; show A.depth + 1 + 3 * k + 5 < _; omega, by have := r.un; show A.units + 3 + 16 * k + 200 < _; omega⟩
theorem make_depth {A : Around} {C : Addr} {us : List Value} {kw : List (Str × Value)} : (A.under (.builtin "type.__call__" ⟨.ref C :: us, kw⟩)).depth = A.depth + 1 := by
  first | rfl | simp [Around.under, Code.weight, Code.isCreation, Code.isGuard, Code.isCaller, Code.frames, Code.isFrame, guardIds]
theorem make_units {A : Around} {C : Addr} {us : List Value} {kw : List (Str × Value)} : (A.under (.builtin "type.__call__" ⟨.ref C :: us, kw⟩)).units = A.units + 1 := by
  first | rfl | simp [Around.under, Code.cUnits, Code.frames, Code.isFrame]
theorem Room.make {k : Nat} {A : Around} (r : Room (k + 1) A) (C : Addr) (us : List Value) (kw : List (Str × Value)) : Room k (A.under (.builtin "type.__call__" ⟨.ref C :: us, kw⟩)) :=
  ⟨r.hd, by have := r.dp; rw [make_depth]; omega, by have := r.un; rw [make_units]; omega⟩
theorem Room.depth {k : Nat} {A : Around} (r : Room k A) : A.depth < recursionLimit := by have := r.dp; omega

/-! ### argument lists and displays -/
noncomputable def tNil : TA := fun _ H Q => Q [] H
noncomputable def tCons (ta : TE) (tr : TA) : TA := fun σ H Q => ta σ H fun x H1 => tr σ H1 fun xs H2 => Q (x :: xs) H2
section
variable {X : Cx} {e : Expr} {es : List Expr} {te : TE} {t : TA} {pos : Pos}
theorem pa_nil : PA X [] tNil := fun _ _ _ _ H Q I h => Calls.spliced_nil ⟨[], H, I, .nil, h⟩
theorem pa_cons (ha : PE X e te) (hr : PA X es t) (hs : starEach (e :: es) X.env = (false, eval e X.env) :: starEach es X.env := by rfl) : PA X (e :: es) (tCons te t) := by
  intro pos pins s σ H Q I h
  rw [hs]
  show wpAny _ _ (spliced ((false, eval e X.env) :: backTo pos (starEach es X.env))) _ _ s
  refine Calls.spliced_cons (thn (ha pins s σ H _ I h) fun u s1 ⟨x, H1, I1, r1, q1⟩ => ?_)
  exact thn (hr pos pins s1 σ H1 _ I1 q1) fun us s2 ⟨xs, H2, I2, r2, q2⟩ => ⟨x :: xs, H2, I2, .cons r1 r2, q2⟩

/-- a tuple, a list of written items -/
noncomputable def tTup (t : TA) : TE := fun σ H Q => t σ H fun xs H1 => xs.length ≤ sizeLine ∧ ∀ p, H1 p = none → Q (.ref p) (upd H1 p (.tup xs))
noncomputable def tLst (t : TA) : TE := fun σ H Q => t σ H fun xs H1 => xs.length ≤ sizeLine ∧ ∀ p, H1 p = none → Q (.ref p) (upd H1 p (.lst xs))
theorem pe_tup {x1} (h : PA X es t) : PE X (.Tuple es x1 pos) (tTup t) := by
  intro pins s σ H Q I hq
  refine wpAny_Tuple_spliced (thn (h pos pins s σ H _ I hq) fun us s1 ⟨xs, H1, I1, r, z, q⟩ => ⟨by rw [← r.length]; exact z, ?_⟩)
  have hf : H1 s1.heap.objs.size = none := I1.hok.fresh (Nat.le_refl _)
  refine ⟨.ref s1.heap.objs.size, upd H1 s1.heap.objs.size (.tup xs), I1.laid (t' := s1.toks) (fun b u e => Heap.get?_push_of_some _ e) (Nat.le_refl _) ?_, rfl, q _ hf⟩
  exact ⟨z, us, r, ⟨_, Heap.get?_push_size _ rfl, rfl, _, rfl⟩⟩
theorem pe_lst (h : PA X es t) : PE X (.List es pos) (tLst t) := by
  intro pins s σ H Q I hq
  refine wpAny_List_spliced (thn (h pos pins s σ H _ I hq) fun us s1 ⟨xs, H1, I1, r, z, q⟩ => ⟨by rw [← r.length]; exact z, ?_⟩)
  have hf : H1 s1.heap.objs.size = none := I1.hok.fresh (Nat.le_refl _)
  refine ⟨.ref s1.heap.objs.size, upd H1 s1.heap.objs.size (.lst xs), I1.laid (t' := s1.toks) (fun b u e => Heap.get?_push_of_some _ e) (Nat.le_refl _) ?_, rfl, q _ hf⟩
  exact ⟨z, us, 0, r, Heap.get?_push_size _ rfl⟩
end

/-! ### what a def promises -/
/-- a def's promise: the bound arguments in the parameters' order, the heap, the wanted end, the wanted exception -/
noncomputable abbrev Sp := List V → Hp → VK → XK → Prop
/-- how an exception lies behind a call (file 08 gives it): the callers' frames, abstract heap and state ahead of the call, the wish, the exception, the state -/
noncomputable abbrev CXT := List Env → Hp → Shared → XK → Value → Shared → Prop

/-- the state at a call -/
structure Env0 (P : Program) (w : World) (K : PySem.W.Frag) (mg : Str → Option Value) (base : Heap) (A : Around) (outer : List Env) (s : Shared) (H : Hp) : Prop where
  frames : A.frames = some outer
  mod : Mod K mg base
  bs : ∀ b o, base.get? b = some o → s.heap.get? b = some o ∧ H b = none
  bsz : base.objs.size ≤ s.heap.objs.size
  funs : s.heap.FunFrames base outer
  frf : ∀ b ∈ frs outer, H b = none
  hok : HOk P w H s.heap
  bare : AllBare s.gens
/-- a call's end -/
noncomputable def CE (outer : List Env) (P : Program) (w : World) (H : Hp) (s : Shared) (Q : VK) (u : Value) (s' : Shared) : Prop :=
  ∃ v H', s'.os = s.os ∧ AllBare s'.gens ∧ Un (frs outer) [] H H' s.heap s'.heap ∧ HOk P w H' s'.heap ∧ RelV v u ∧ Q v H'
noncomputable def CR (CX : CXT) (outer : List Env) (P : Program) (w : World) (H : Hp) (s : Shared) (Q : VK) (E : XK) (r : Result) (s' : Shared) : Prop :=
  match r with
  | .ok (.ret u) => CE outer P w H s Q u s'
  | .ok _ => False
  | .error e => CX outer H s E e s'
structure FnOk (P : Program) (w : World) (K : PySem.W.Frag) (mg : Str → Option Value) (base : Heap) (CX : CXT) (k : Nat) (f : Addr) (fd : FuncData) (ps : List Str) (sp : Sp) : Prop where
  len : ∀ vs H Q E, sp vs H Q E → vs.length = ps.length
  run : ∀ (A : Around) (outer : List Env) (s : Shared) (H : Hp) (args : Args) (us : List Value) (vs : List V) (Q : VK) (E : XK), Room k A → Env0 P w K mg base A outer s H → BindsTo s fd args (ps.zip us) → Vals vs us → sp vs H Q E →
    codeAny (model P w) A (.call (.ref f) args) (CR CX outer P w H s Q E) s

theorem Env0.make {P : Program} {w : World} {K : PySem.W.Frag} {mg : Str → Option Value} {base : Heap} {A : Around} {outer : List Env} {s : Shared} {H : Hp} (e : Env0 P w K mg base A outer s H) (C : Addr) (us : List Value) (kw : List (Str × Value)) :
    Env0 P w K mg base (A.under (.builtin "type.__call__" ⟨.ref C :: us, kw⟩)) outer s H := ⟨by first | exact e.frames | (simpa [Around.under, Code.envs, Code.isFrame, pushEnvs] using e.frames), e.mod, e.bs, e.bsz, e.funs, e.frf, e.hok, e.bare⟩

section
variable {X : Cx} {pins : List (Addr × Obj)} {σ : St} {H : Hp} {s s' : Shared}
/-- from a body: what a callee wants -/
theorem Inv.env0 (I : Inv X pins σ H s) : Env0 X.prog X.w X.K X.mg X.base X.A X.stack s H :=
  ⟨I.ok.frames, I.ok.mod, I.bs, Nat.le_trans I.ok.bsz I.sz, I.stack, I.stkFree, I.hok, I.bare⟩
/-- behind a call -/
theorem Inv.after {Q : VK} {u : Value} (I : Inv X pins σ H s) (h : CE X.stack X.prog X.w H s Q u s') : EP X pins σ Q u s' := by
  obtain ⟨v, H', os, bare, un, hok, r, q⟩ := h
  obtain ⟨hh, g, d, t, os'⟩ := s'
  obtain rfl : os' = s.os := os
  exact ⟨v, H', I.call (h' := hh) (g' := g) (d' := d) (t' := t) (ch := []) un hok bare (fun b z => absurd z (by simp)), r, q⟩
end

/-! ### calls -/
/-- f(..): the written arguments, then the defaults dvs; E: what is wanted of an exception -/
noncomputable def tCall (sp : Sp) (dvs : List V) (E : XK) (t : TA) : TE := fun σ H Q => t σ H fun vs H1 => sp (vs ++ dvs) H1 Q E
/-- o.m(..) of an instance of the class at C -/
noncomputable def tMeth (C : Addr) (m : Str) (sp : Sp) (dvs : List V) (E : XK) (ta : TE) (t : TA) : TE := fun σ H Q => ta σ H fun x H1 => ∃ a dx fs, x = .ref a ∧ H1 a = some (.ins C dx fs) ∧ fs.lookup m = none ∧
  t σ H1 fun vs H2 => sp (x :: (vs ++ dvs)) H2 Q E
/-- C(..): a new instance and its dict, then __init__ -/
noncomputable def tMake (C : Addr) (sp : Sp) (dvs : List V) (E : XK) (t : TA) : TE := fun σ H Q => t σ H fun vs H1 => ∀ x dx, H1 x = none → H1 dx = none → dx ≠ x →
  sp (.ref x :: (vs ++ dvs)) (upd (upd H1 dx (.own x)) x (.ins C dx [])) (fun v H2 => v = .non ∧ Q (.ref x) H2) E

/-- how the parameters are bound: us the positional arguments, kw the keywords' values by name, ds the defaults that fill up -/
noncomputable def Binds (K : PySem.W.Frag) (fd : FuncData) (ps : List Str) (ds : List Value) : Prop :=
  ∀ (s : Shared) (us : List Value), K.In s.heap → (us ++ ds).length = ps.length → BindsTo s fd ⟨us, []⟩ (ps.zip (us ++ ds))
/-- every parameter is given -/
theorem Binds.all {K : PySem.W.Frag} {fd : FuncData} {ps : List Str} (h : ∀ us : List Value, us.length = ps.length → bindArgs fd ⟨us, []⟩ = pure (ps.zip us)) : Binds K fd ps [] := fun s us _ hl => by
  rw [List.append_nil] at hl ⊢
  exact .of_eq (h us hl)

/-- an exception of a callee reaches what this body wants of exceptions -/
noncomputable def Passes (CX : CXT) (X : Cx) (E : XK) : Prop := ∀ (pins : List (Addr × Obj)) (σ : St) (H : Hp) (s : Shared) (e : Value) (s' : Shared), Inv X pins σ H s → CX X.stack H s E e s' → X.xe e s'

section
variable {X : Cx} {CX : CXT} {k : Nat} {f C : Addr} {fd : FuncData} {ps : List Str} {sp : Sp} {dvs : List V} {ds : List Value} {E : XK} {x m : Str} {p pos apos : Pos} {e o : Expr} {es : List Expr} {ta : TE} {t : TA}

/-- the callee runs -/
theorem run_fn {pins : List (Addr × Obj)} {σ : St} {H : Hp} {s : Shared} {Q : VK} {us : List Value} {vs : List V} (F : FnOk X.prog X.w X.K X.mg X.base CX k f fd ps sp) (hr : Room k X.A) (hb : Binds X.K fd ps ds) (hd : Vals dvs ds) (hx : Passes CX X E)
    (I : Inv X pins σ H s) (r : Vals vs us) (h : sp (vs ++ dvs) H Q E) : wpAny (model X.prog X.w) X.A (call (.ref f) us) (EP X pins σ Q) X.xe s := by
  have r2 : Vals (vs ++ dvs) (us ++ ds) := r.append hd
  have hl : (us ++ ds).length = ps.length := by rw [← r2.length]; exact F.len _ _ _ _ h
  refine wpAny_call (codeAny_mono (F.run X.A X.stack s H ⟨us, []⟩ (us ++ ds) (vs ++ dvs) Q E hr I.env0 (hb s us I.kIn hl) r2 h) fun r s' hq => ?_)
  cases r with
  | error e => exact hx pins σ H s e s' I hq
  | ok fl =>
    cases fl with
    | ret u => exact I.after hq
    | next => exact False.elim hq
    | brk => exact False.elim hq
    | cont => exact False.elim hq

theorem pe_call (F : FnOk X.prog X.w X.K X.mg X.base CX k f fd ps sp) (hr : Room k X.A) (hg : Gl X x) (hm : X.mg x = some (.ref f)) (hk : PySem.W.keepIn X.K (.ref f) = true) (hb : Binds X.K fd ps ds) (hd : Vals dvs ds) (hx : Passes CX X E)
    (ha : PA X (e :: es) t) (hdb : (x == ("__debug__" : Str)) = false := by decide) (he : starEach (e :: es) X.env = (false, eval e X.env) :: starEach es X.env := by rfl) (hpl : (backTo pos (starEach es X.env)).any (·.1) = false := by rfl) :
    PE X (.Call (.Name x p) (e :: es) [] pos) (tCall sp dvs E t) := by
  intro pins s σ H Q I h
  refine wpAny_Call_Name_kw (ld_glob I hg hm ?_ hdb)
  refine PySem.W.callWith_K (h₀ := X.base) I.ok.mod.kin hk (thn (ha pos pins s σ H _ I h) fun us s1 ⟨vs, H1, I1, r, q⟩ => ⟨I1.kIn, ?_⟩) he hpl
  exact run_fn F hr hb hd hx I1 r q

/-- o.m(e, ..) -/
theorem pe_meth {pl : Sem Bool} (he : PE X o ta) (c : Cls X.K C) (hm : Meth X.K C m f) (F : FnOk X.prog X.w X.K X.mg X.base CX k f fd ps sp) (hr : Room k X.A) (hb : Binds X.K fd ps ds) (hd : Vals dvs ds) (hx : Passes CX X E) (ha : PA X (e :: es) t)
    (hst : starEach (e :: es) X.env = (false, eval e X.env) :: starEach es X.env := by rfl) (hpl : (backTo pos (starEach es X.env)).any (·.1) = false := by rfl)
    (ht : eval (.Call (.Attribute o m apos) (e :: es) [] pos) X.env = (do
      let ov ← eval o X.env
      standAt apos.atName
      let (f, first) ← holding [ov] (getMethod ov m pl)
      callWith pos f first (backTo pos (starEach (e :: es) X.env)) (backToKw pos (keywordEach [] X.env))) := by rfl) :
    PE X (.Call (.Attribute o m apos) (e :: es) [] pos) (tMeth C m sp dvs E ta t) := by
  intro pins s σ H Q I h
  refine PySem.W.methodCall_KW (pl := pl) (thn (he pins s σ H _ I h) fun u s1 ⟨x, H1, I1, rx, a, dx, fs, ex, ea, l, q⟩ => ?_) ht
  subst ex
  obtain rfl : u = Value.ref a := rx
  refine getmeth_ok I1 ea c hm l ?_
  refine PySem.W.callWith_K (first := [.ref a]) (h₀ := X.base) I.ok.mod.kin hm.kp (thn (ha pos pins s1 σ H1 _ I1 q) fun us s2 ⟨vs, H2, I2, r, q2⟩ => ⟨I2.kIn, ?_⟩) hst hpl
  exact run_fn (us := .ref a :: us) (vs := .ref a :: vs) F hr hb hd hx I2 (.cons rfl r) q2
/-- o.m() -/
theorem pe_meth0 {pl : Sem Bool} (he : PE X o ta) (c : Cls X.K C) (hm : Meth X.K C m f) (F : FnOk X.prog X.w X.K X.mg X.base CX k f fd ps sp) (hr : Room k X.A) (hb : Binds X.K fd ps ds) (hd : Vals dvs ds) (hx : Passes CX X E)
    (ht : eval (.Call (.Attribute o m apos) [] [] pos) X.env = (do
      let ov ← eval o X.env
      standAt apos.atName
      let (f, first) ← holding [ov] (getMethod ov m pl)
      callWith pos f first (backTo pos (starEach [] X.env)) (backToKw pos (keywordEach [] X.env))) := by rfl) :
    PE X (.Call (.Attribute o m apos) [] [] pos) (tMeth C m sp dvs E ta tNil) := by
  intro pins s σ H Q I h
  refine PySem.W.methodCall_KW (pl := pl) (thn (he pins s σ H _ I h) fun u s1 ⟨x, H1, I1, rx, a, dx, fs, ex, ea, l, q⟩ => ?_) ht
  subst ex
  obtain rfl : u = Value.ref a := rx
  refine getmeth_ok I1 ea c hm l ?_
  exact PySem.W.callWith_K0 (first := [.ref a]) I1.kIn hm.kp (run_fn (us := [.ref a]) (vs := [.ref a]) F hr hb hd hx I1 (.cons rfl .nil) q)

/-- what a class must have to be made -/
structure Mk (K : PySem.W.Frag) (C f : Addr) : Prop where
  makes : PySem.W.makesIn K C = true
  init : PySem.W.findIn K (.ref C) "__init__" = some (some (.ref f))
  fn : PySem.W.isFn K (.ref f) = true
  kp : PySem.W.keepIn K (.ref C) = true

theorem run_make {pins : List (Addr × Obj)} {σ : St} {H : Hp} {s : Shared} {Q : VK} {us : List Value} {vs : List V} (M : Mk X.K C f) (F : FnOk X.prog X.w X.K X.mg X.base CX k f fd ps sp) (hr : Room (k + 1) X.A) (hb : Binds X.K fd ps ds) (hd : Vals dvs ds)
    (hx : Passes CX X E) (I : Inv X pins σ H s) (r : Vals vs us)
    (h : ∀ x dx, H x = none → H dx = none → dx ≠ x → sp (.ref x :: (vs ++ dvs)) (upd (upd H dx (.own x)) x (.ins C dx [])) (fun v H2 => v = .non ∧ Q (.ref x) H2) E) :
    wpAny (model X.prog X.w) X.A (call (.ref C) us) (EP X pins σ Q) X.xe s := by
  have hq := h (s.heap.objs.size + 1) s.heap.objs.size (I.hok.fresh (Nat.le_succ _)) (I.hok.fresh (Nat.le_refl _)) (Nat.ne_of_lt (Nat.lt_succ_self _))
  have I2 := Inv.made (C := C) I
  have r2 : Vals (V.ref (s.heap.objs.size + 1) :: (vs ++ dvs)) (Value.ref (s.heap.objs.size + 1) :: (us ++ ds)) := .cons rfl (r.append hd)
  have hl : (Value.ref (s.heap.objs.size + 1) :: us ++ ds).length = ps.length := by
    have e := r2.length
    rw [F.len _ _ _ _ hq] at e
    exact e.symm
  refine wpAny_call (make_map (f := f) I.kIn M.makes M.init (beq_iff_eq.mp M.fn) (codeAny_mono (F.run _ X.stack _ _ ⟨Value.ref (s.heap.objs.size + 1) :: us, []⟩ (Value.ref (s.heap.objs.size + 1) :: (us ++ ds)) _ _ E (hr.make C us [])
    (I2.env0.make C us []) (hb _ (Value.ref (s.heap.objs.size + 1) :: us) I2.kIn hl) r2 hq) fun r s' hq' => ?_))
  cases r with
  | error e => exact hx pins σ _ _ e s' I2 hq'
  | ok fl =>
    cases fl with
    | ret u =>
      obtain ⟨v, H', I3, rv, ev, q3⟩ := I2.after hq'
      subst ev
      exact ⟨rv, ⟨V.ref (s.heap.objs.size + 1), H', I3, rfl, q3⟩⟩
    | next => exact False.elim hq'
    | brk => exact False.elim hq'
    | cont => exact False.elim hq'
theorem pe_make (M : Mk X.K C f) (F : FnOk X.prog X.w X.K X.mg X.base CX k f fd ps sp) (hr : Room (k + 1) X.A) (hg : Gl X x) (hm : X.mg x = some (.ref C)) (hb : Binds X.K fd ps ds) (hd : Vals dvs ds) (hx : Passes CX X E)
    (ha : PA X (e :: es) t) (hdb : (x == ("__debug__" : Str)) = false := by decide) (he : starEach (e :: es) X.env = (false, eval e X.env) :: starEach es X.env := by rfl) (hpl : (backTo pos (starEach es X.env)).any (·.1) = false := by rfl) :
    PE X (.Call (.Name x p) (e :: es) [] pos) (tMake C sp dvs E t) := by
  intro pins s σ H Q I h
  refine wpAny_Call_Name_kw (ld_glob I hg hm ?_ hdb)
  refine PySem.W.callWith_K (h₀ := X.base) I.ok.mod.kin M.kp (thn (ha pos pins s σ H _ I h) fun us s1 ⟨vs, H1, I1, r, q⟩ => ⟨I1.kIn, ?_⟩) he hpl
  exact run_make M F hr hb hd hx I1 r q
end

/-! ### keywords -/
/-- the values of the keywords, from the left -/
noncomputable def PK (X : Cx) (kws : List Keyword) (t : TA) : Prop :=
  ∀ (pos : Pos) (pins : List (Addr × Obj)) (s : Shared) (σ : St) (H : Hp) (Q : List V → Hp → Prop), Inv X pins σ H s → t σ H Q → wpAny (model X.prog X.w) X.A (evalAll ((backToKw pos (keywordEach kws X.env)).map (·.2))) (AP X pins σ Q) X.xe s
section
variable {X : Cx} {CX : CXT} {k : Nat} {f C : Addr} {fd : FuncData} {ps ks : List Str} {sp : Sp} {E : XK} {x m : Str} {p pos apos kpos : Pos} {e o : Expr} {es : List Expr} {kws : List Keyword} {te ta : TE} {t tk : TA} {nm : Option Str}

/-- how a call with keywords binds: g puts the positional values us and the keywords' values ws (names ks) in the parameters' order, defaults among them -/
structure KBinds (K : PySem.W.Frag) (fd : FuncData) (ps ks : List Str) (g : List Value → List Value → List Value) (gV : List V → List V → List V) : Prop where
  to : ∀ (s : Shared) (us ws : List Value), K.In s.heap → (g us ws).length = ps.length → BindsTo s fd ⟨us, ks.zip ws⟩ (ps.zip (g us ws))
  rel : ∀ {vs : List V} {us : List Value} {zs : List V} {ws : List Value}, Vals vs us → Vals zs ws → Vals (gV vs zs) (g us ws)
noncomputable def tCallK (sp : Sp) (gV : List V → List V → List V) (E : XK) (t tk : TA) : TE := fun σ H Q => t σ H fun vs H1 => tk σ H1 fun zs H2 => sp (gV vs zs) H2 Q E
variable {g : List Value → List Value → List Value} {gV : List V → List V → List V}
end

/-! ### a def's body keeps its promise -/
/-- names: the parameters first -/
structure FnScope (N P : List Str) (sc : Scope) : Prop where
  kind : sc.kind = .function
  co : sc.isCoroutine = false
  gen : sc.isGenerator = false
  nd : N.Nodup
  pre : N.take P.length = P
  par : ∀ x ∈ P, sc.names.lookup x = some .local ∨ sc.names.lookup x = some .cell
  nofree : ∀ y ∈ sc.names, y.2 ≠ .free

theorem bindL_out {kindOf : Str → Option NameKind} {x : Str} : ∀ {binds : List (Str × Value)} {m : Str → Option Value}, (∀ v, (x, v) ∉ binds) → bindL kindOf binds m x = m x
  | [], _, _ => rfl
  | (n, v) :: r, m, h => by
    unfold bindL
    rw [bindL_out fun w hw => h w (List.mem_cons_of_mem _ hw)]
    split
    · have : x ≠ n := by rintro rfl; exact h v List.mem_cons_self
      simp [this]
    · rfl
theorem bindC_out {kindOf : Str → Option NameKind} {x : Str} : ∀ {binds : List (Str × Value)} {m : Str → Option Value}, (∀ v, (x, v) ∉ binds) → bindC kindOf binds m x = m x
  | [], _, _ => rfl
  | (n, v) :: r, m, h => by
    unfold bindC
    rw [bindC_out fun w hw => h w (List.mem_cons_of_mem _ hw)]
    split
    · rfl
    · have : x ≠ n := by rintro rfl; exact h v List.mem_cons_self
      simp [this]
theorem bindL_get {kindOf : Str → Option NameKind} {x : Str} {v : Value} : ∀ {P : List Str} {vs : List Value} {i : Nat} {m : Str → Option Value}, P.Nodup → P[i]? = some x → vs[i]? = some v → kindOf x = some .local →
    bindL kindOf (P.zip vs) m x = some v
  | [], _, _, _, _, h, _, _ => by simp at h
  | _ :: _, [], _, _, _, _, h, _ => by simp at h
  | p :: P, w :: vs, 0, m, nd, h1, h2, hk => by
    simp at h1 h2; subst h1; subst h2
    show bindL kindOf ((p, w) :: P.zip vs) m p = _
    unfold bindL
    rw [bindL_out fun v hv => (List.nodup_cons.mp nd).1 (List.of_mem_zip hv).1, if_pos hk]
    simp
  | p :: P, w :: vs, i + 1, m, nd, h1, h2, hk => by
    show bindL kindOf ((p, w) :: P.zip vs) m x = _
    unfold bindL
    exact bindL_get (i := i) (List.nodup_cons.mp nd).2 (by simpa using h1) (by simpa using h2) hk
theorem bindC_get {kindOf : Str → Option NameKind} {x : Str} {v : Value} : ∀ {P : List Str} {vs : List Value} {i : Nat} {m : Str → Option Value}, P.Nodup → P[i]? = some x → vs[i]? = some v → kindOf x ≠ some .local →
    bindC kindOf (P.zip vs) m x = some v
  | [], _, _, _, _, h, _, _ => by simp at h
  | _ :: _, [], _, _, _, _, h, _ => by simp at h
  | p :: P, w :: vs, 0, m, nd, h1, h2, hk => by
    simp at h1 h2; subst h1; subst h2
    show bindC kindOf ((p, w) :: P.zip vs) m p = _
    unfold bindC
    rw [bindC_out fun v hv => (List.nodup_cons.mp nd).1 (List.of_mem_zip hv).1, if_neg hk]
    simp
  | p :: P, w :: vs, i + 1, m, nd, h1, h2, hk => by
    show bindC kindOf ((p, w) :: P.zip vs) m x = _
    unfold bindC
    exact bindC_get (i := i) (List.nodup_cons.mp nd).2 (by simpa using h1) (by simpa using h2) hk

/-- the names' values at the entry -/
noncomputable def start (N : List Str) (vs : List V) : St := vs.map some ++ List.replicate (N.length - vs.length) none

/-- the context of a def's body, at its entry; an exception leaves the frame, then lies as CX says -/
noncomputable def cxOf (CX : CXT) (P : Program) (w : World) (K : PySem.W.Frag) (mg : Str → Option Value) (base : Heap) (N : List Str) (qual : Str) (scope : Scope) (f : Addr) (cd : Value) (A : Around) (outer : List Env) (s : Shared) (H : Hp) (E : XK) : Cx where
  prog := P
  w := w
  K := K
  mg := mg
  base := base
  A := A.deeper (envOfC qual scope s.heap.objs.size f cd)
  N := N
  s₀ := s
  H₀ := H
  env := envOfC qual scope s.heap.objs.size f cd
  outer := outer
  stack := envOfC qual scope s.heap.objs.size f cd :: outer
  ex := []
  calm := true
  fn := fun _ => true
  pn := []
  xe := fun e s' => wpAny (model P w) (A.deeper (envOfC qual scope s.heap.objs.size f cd)) (leaving (envOfC qual scope s.heap.objs.size f cd) e) (fun _ s'' => CX outer H s E e s'') (fun e' s'' => CX outer H s E e' s'') s'

theorem cell_has {sc : Scope} {n : Nat} {x : Str} (h : sc.names.lookup x = some .cell) : ∃ c, (cellsFrom n sc.names []).lookup x = some c := by
  have q := PySem.W.cellsFrom_some sc.names n [] (.inl h)
  exact Option.isSome_iff_exists.mp q

theorem inv_start {CX : CXT} {P : Program} {w : World} {K : PySem.W.Frag} {mg : Str → Option Value} {base : Heap} {N ps : List Str} {qual : Str} {scope : Scope} {f : Addr} {cd : Value} {A : Around} {outer : List Env} {s s1 : Shared} {H : Hp} {E : XK} {us : List Value} {vs : List V}
    (S : FnScope N ps scope) (hd : A.handled = none) (e0 : Env0 P w K mg base A outer s H) (hl : vs.length = ps.length) (r : Vals vs us)
    (x : InCallC s s.heap.objs.size (bindL (envOfC qual scope s.heap.objs.size f cd).kindOf (ps.zip us) fun _ => none) (cellsFrom (s.heap.objs.size + 1) scope.names []) (bindC (envOfC qual scope s.heap.objs.size f cd).kindOf (ps.zip us) fun _ => none) s1) :
    Inv (cxOf CX P w K mg base N qual scope f cd A outer s H E) [] (start N vs) H s1 := by
  have hpl : ps.length ≤ N.length := by have := congrArg List.length S.pre; rw [List.length_take] at this; omega
  obtain ⟨h1, tk, rfl, hk⟩ := x.done
  have noA : ∀ b : Addr, b ∉ (cxOf CX P w K mg base N qual scope f cd A outer s H E).ex := fun b z => absurd (show b ∈ ([] : List Addr) from z) (by simp)
  refine ⟨⟨e0.mod, S.kind, rfl, rfl, Nat.le_refl _, fun y z c h1 h2 => ?_, fun y hy => ?_, fun y c _ h => ?_, fun _ => hd, Around.frames_deeper e0.frames, .inr ⟨rfl, rfl⟩, fun b z => absurd z (noA b), e0.bs, e0.bsz, fun b _ _ => noA b, fun b z => absurd z (noA b), e0.funs, e0.frf⟩,
    rfl, e0.bare, Un.kept hk, ⟨_, x.toInCall.ns, fun i y v h1 h2 h3 => ?_⟩, fun y c h => ⟨_, x.cell y c h⟩, e0.hok.fresh (Nat.le_refl _), fun y c h => ?_, fun p hp => absurd (show p ∈ ([] : List (Addr × Obj)) from hp) (by simp), e0.hok.kept hk, ?_⟩
  · exact name_of_addr x.apart (PySem.mem_of_lookup h1) (PySem.mem_of_lookup h2)
  · have hy : scope.names.lookup y = some .cell ∨ scope.names.lookup y = some .free := hy
    rcases hy with hy | hy
    · exact cell_has hy
    · exact absurd rfl (S.nofree _ (PySem.mem_of_lookup hy))
  · exact Nat.le_of_lt (x.above y c (PySem.mem_of_lookup h))
  · have hi : i < vs.length := by
      unfold start at h2
      by_cases hi : i < vs.length
      · exact hi
      · rw [List.getElem?_append_right (by simpa using hi)] at h2
        rw [List.getElem?_replicate] at h2
        split at h2 <;> cases h2
    have ha : vs[i]? = some v := by
      unfold start at h2
      rw [List.getElem?_append_left (by simpa using hi), List.getElem?_map] at h2
      cases e : vs[i]? with
      | none => rw [e] at h2; cases h2
      | some a => rw [e] at h2; cases h2; rfl
    obtain ⟨u, hu, rv⟩ := r.get ha
    have hp : ps[i]? = some y := by
      rw [← S.pre, List.getElem?_take_of_lt (by omega)]; exact h1
    have ndP : ps.Nodup := by rw [← S.pre]; exact S.nd.sublist (List.take_sublist _ _)
    refine ⟨u, rv, ?_⟩
    rcases S.par y (List.mem_of_getElem? hp) with k | k
    · exact .inl ⟨k, bindL_get ndP hp hu k⟩
    · obtain ⟨c, e⟩ := cell_has (n := s.heap.objs.size + 1) k
      refine .inr ⟨.inl k, c, e, ?_⟩
      have q := x.cell y c e
      rw [bindC_get ndP hp hu (by show scope.names.lookup y ≠ _; rw [k]; decide)] at q
      exact q
  · exact e0.hok.fresh (Nat.le_of_lt (x.above y c (PySem.mem_of_lookup h)))
  · unfold start
    show _ = N.length
    rw [List.length_append, List.length_map, List.length_replicate]
    omega

/-- THE RULE: a def (or a method) of the text, by its body. The body's reading t is chosen for each entry; it is run at the parameters' values -/
theorem fn_of {CX : CXT} {P : Program} {w : World} {K : PySem.W.Frag} {mg : Str → Option Value} {base : Heap} {k : Nat} {f : Addr} {name qual : Str} {params : Arguments} {body : List Stmt} {scope : Scope} {dV kV doc pm cdv ct oc : Value} {an od : Option Addr}
    {osl : Array (Option Value)} {N ps : List Str} {sp : Sp} (lk : K.lookup f = some ⟨oc, od, .func (PySem.W.fnOf name qual params body scope dV kV doc pm an cdv ct), osl⟩) (hcd : PySem.W.codeIn K cdv qual = true) (S : FnScope N ps scope)
    (len : ∀ vs H Q E, sp vs H Q E → vs.length = ps.length)
    (hbody : ∀ (A : Around) (outer : List Env) (s : Shared) (H : Hp) (vs : List V) (Q : VK) (E : XK), Room k (A.deeper (envOfC qual scope s.heap.objs.size f cdv)) → sp vs H Q E →
      ∃ t, PSs (cxOf CX P w K mg base N qual scope f cdv A outer s H E) body t ∧ t { nx := fun _ H' => Q .non H', rt := Q } (start N vs) H) :
    FnOk P w K mg base CX (k + 1) f (PySem.W.fnOf name qual params body scope dV kV doc pm an cdv ct) ps sp := by
  refine ⟨len, fun A outer s H args us vs Q E hr e0 hb r hsp => ?_⟩
  have hl := len _ _ _ _ hsp
  have KX : K.In s.heap := e0.mod.kin.keeps fun b o e => (e0.bs b o e).1
  have lim : s.heap.NoLimit := e0.mod.nolimit.keeps fun b o e => (e0.bs b o e).1
  have hkind : ∀ y ∈ ps.zip us, scope.names.lookup y.1 = some .local ∨ (scope.names.lookup y.1 = some .cell ∧ ((cellsFrom (s.heap.objs.size + 1) scope.names []).lookup y.1).isSome = true) := fun ⟨n, v⟩ hy => by
    rcases S.par n (List.of_mem_zip hy).1 with q | q
    · exact .inl q
    · exact .inr ⟨q, PySem.W.cellsFrom_some _ _ _ (.inl q)⟩
  refine codeAny_call_function hr.depth (KX _ _ lk) rfl S.co S.gen rfl (PySem.W.codeRec_of KX hcd) (hb _ _ _ _ ?_)
  refine wpAny_newFunctionEnv_cells S.kind hkind fun env he s1 x => ?_
  subst he
  refine ⟨lim.keeps x.toInCall.keep, codeAny_func ?_⟩
  obtain ⟨t, ht, hq⟩ := hbody A outer s H vs Q E (hr.deeper _) hsp
  have I : Inv (cxOf CX P w K mg base N qual scope f cdv A outer s H E) [] (start N vs) H s1 := inv_start S hr.hd e0 hl r x
  refine wpAny_mono (ht [] s1 (start N vs) H _ I hq) (fun fl s' hs => ?_) fun e s' hs => hs
  have fin : ∀ {σ' : St} {H' : Hp} {v : V} {u : Value}, Inv (cxOf CX P w K mg base N qual scope f cdv A outer s H E) [] σ' H' s' → RelV v u → Q v H' → CE outer P w H s Q u s' :=
    fun {σ' H' v u} J rv q => ⟨v, H', J.os, J.bare, J.base, J.hok, rv, q⟩
  cases fl with
  | ret u =>
    obtain ⟨v, σ', H', J, rv, q⟩ := hs
    exact fin J rv q
  | next =>
    obtain ⟨σ', H', J, q⟩ := hs
    exact fin (v := V.non) (u := Value.none) J rfl q
  | brk =>
    obtain ⟨_, _, _, q⟩ := hs
    exact False.elim q
  | cont =>
    obtain ⟨_, _, _, q⟩ := hs
    exact False.elim q
end L2

namespace L2
open PySem PySem.Spec PyProof.Rows
section
variable {X : Cx} {x : Str} {p pos : Pos} {e : Expr} {es : List Expr} {t : TA} {id T : String} {r : List V → Hp → VK → Prop}

noncomputable def tCB (r : List V → Hp → VK → Prop) (t : TA) : TE := fun σ H Q => t σ H fun vs H1 => r vs H1 Q
/-- f(e, ..), f a built-in function -/
theorem pe_callB (hc : CallR X (.builtin id) r) (hg : Gl X x) (hm : X.mg x = none) (hv : bootBuiltins x = some (.builtin id)) (ha : PA X (e :: es) t) (hn : x ≠ "__name__" := by decide) (hdb : (x == ("__debug__" : Str)) = false := by decide)
    (he : starEach (e :: es) X.env = (false, eval e X.env) :: starEach es X.env := by rfl) (hpl : (backTo pos (starEach es X.env)).any (·.1) = false := by rfl) : PE X (.Call (.Name x p) (e :: es) [] pos) (tCB r t) := by
  intro pins s σ H Q I h
  refine wpAny_Call_Name_kw (ld_blt I hg hm hv ?_ hn hdb)
  exact PyProof.Rows.callWith_builtin1 (thn (ha pos pins s σ H _ I h) fun us s1 ⟨vs, H1, I1, r1, q1⟩ => hc pins s1 σ H1 vs us Q I1 r1 q1) he hpl
/-- T(e, ..), T a built-in type -/
theorem pe_callTy (hc : CallR X (.type T) r) (hg : Gl X x) (hm : X.mg x = none) (hv : bootBuiltins x = some (.type T)) (ha : PA X (e :: es) t) (hn : x ≠ "__name__" := by decide) (hdb : (x == ("__debug__" : Str)) = false := by decide)
    (he : starEach (e :: es) X.env = (false, eval e X.env) :: starEach es X.env := by rfl) (hpl : (backTo pos (starEach es X.env)).any (·.1) = false := by rfl) : PE X (.Call (.Name x p) (e :: es) [] pos) (tCB r t) := by
  intro pins s σ H Q I h
  refine wpAny_Call_Name_kw (ld_blt I hg hm hv ?_ hn hdb)
  exact PyProof.Rows.callWith_type1 (thn (ha pos pins s σ H _ I h) fun us s1 ⟨vs, H1, I1, r1, q1⟩ => hc pins s1 σ H1 vs us Q I1 r1 q1) he hpl
end
end L2

namespace HT
open PySem PyProof.Rows

/-- t < u of tuples of ints -/
noncomputable def lexLt : List Int → List Int → Bool
  | [], [] => false
  | [], _ :: _ => true
  | _ :: _, [] => false
  | x :: xs, y :: ys => if x = y then lexLt xs ys else decide (x < y)


section
open PySem.SeqAt
open PySem.AutoSeq1 (wpAny_loadPart')
open PySem.MeetsSeq PySem.MeetsSeq2 PySem.MeetsSeq3

end

section
variable {prog : Program} {w : World} {A : Around} {E : Value → Shared → Prop} {s : Shared}



/-! ### t[a:b], not the whole -/
/-- a slice's bound as a place among n (d where it is left out) -/
noncomputable def sIx (n d : Nat) : Option Int → Nat
  | none => d
  | some v => if v < 0 then (v + (n : Int)).toNat else min v.toNat n
theorem sIx_none (n d : Nat) : sIx n d none = d := rfl
theorem sIx_nat (n d k : Nat) : sIx n d (some (k : Int)) = min k n := by
  show (if (k : Int) < 0 then ((k : Int) + (n : Int)).toNat else min (k : Int).toNat n) = min k n
  rw [if_neg (by omega), Int.toNat_natCast]

end
end HT

namespace L2
open PySem PySem.Spec PyProof.Rows

/-! ### the parts of a slice -/
noncomputable abbrev TO := St → Hp → (Option Int → Hp → Prop) → Prop
/-- a slice's part (left out, or an int) -/
noncomputable def PO (X : Cx) (e : Option Expr) (t : TO) : Prop :=
  ∀ (pins : List (Addr × Obj)) (s : Shared) (σ : St) (H : Hp) (Q : Option Int → Hp → Prop), Inv X pins σ H s → t σ H Q →
    wpAny (model X.prog X.w) X.A (evalPart e X.env) (fun u s' => ∃ o H', Inv X pins σ H' s' ∧ IsPart u o ∧ Q o H') X.xe s
noncomputable def tNoPart : TO := fun _ H Q => Q none H
noncomputable def tPart (t : TE) : TO := fun σ H Q => t σ H fun x H1 => ∃ i, x = .int i ∧ Q (some i) H1

theorem intsAre_of {ns : List Int} : ∀ {us : List Value}, Vals (ns.map V.int) us → IntsAre us ns := by
  induction ns with
  | nil => intro us r; rw [List.map_nil] at r; cases r; exact .nil
  | cons n ns ih =>
    intro us r
    rw [List.map_cons] at r
    cases r with
    | cons r1 r2 =>
      obtain ⟨t, e⟩ := r1
      subst e
      exact .cons n t (ih r2)

section
variable {X : Cx} {e : Expr} {te : TE} {lo hi : Option Expr} {tl th : TO} {pos p2 : Pos}

theorem po_none : PO X none tNoPart := by
  intro pins s σ H Q I h
  rw [evalPart_none]
  exact wpAny_pure ⟨none, H, I, .none, h⟩

/-- what a slice of a value is, by values: the slice object stands at sl -/
noncomputable def SlR (X : Cx) (r : V → Option Int → Option Int → Hp → VK → Prop) : Prop :=
  ∀ (pins : List (Addr × Obj)) (s : Shared) (σ : St) (H : Hp) (x : V) (v vl vu : Value) (lo hi : Option Int) (sl : Addr) (Q : VK), Inv X pins σ H s → RelV x v → s.heap.IsSliceOf sl vl vu .none → IsPart vl lo → IsPart vu hi → r x lo hi H Q →
    ∃ T id, typeLookup (.type T) "__getitem__" = pure (some (.builtin id)) ∧ s.TypeIs v T ∧ wpAny (model X.prog X.w) X.A (getItem v (.ref sl)) (EP X pins σ Q) X.xe s
noncomputable def tSl (r : V → Option Int → Option Int → Hp → VK → Prop) (te : TE) (tl th : TO) : TE := fun σ H Q => te σ H fun x H1 => tl σ H1 fun l H2 => th σ H2 fun u H3 => r x l u H3 Q
/-- a[lo:hi], any a -/
theorem pe_slice {r : V → Option Int → Option Int → Hp → VK → Prop} (hr : SlR X r) (he : PE X e te) (hl : PO X lo tl) (hu : PO X hi th) : PE X (.Subscript e (.Slice lo hi none p2) pos) (tSl r te tl th) := by
  intro pins s σ H Q I h
  refine Subscript_ (thn (he pins s σ H _ I h) fun v s1 ⟨x, H1, I1, r1, q1⟩ => ?_)
  refine wpAny_Slice (thn (hl pins s1 σ H1 _ I1 q1) fun vl s2 ⟨l, H2, I2, pl, q2⟩ => thn (hu pins s2 σ H2 _ I2 q2) fun vu s3 ⟨u, H3, I3, pu, q3⟩ => ?_)
  rw [evalPart_none]
  refine wpAny_pure ?_
  have I4 : Inv X pins σ H3 { s3 with heap := s3.heap.push { cls := .type "slice", data := .fields #[vl, vu, .none] } } := I3.kept (t' := s3.toks) fun b ob q => Heap.get?_push_of_some _ q
  obtain ⟨T, id, hT, ht, hg⟩ := hr pins { s3 with heap := s3.heap.push { cls := .type "slice", data := .fields #[vl, vu, .none] } } σ H3 x v vl vu l u s3.heap.objs.size Q I4 r1 (Heap.IsSliceOf.new ..) pl pu q3
  show wpAny (model X.prog X.w) X.A (subscriptTail e (.Slice lo hi none p2) v (.ref s3.heap.objs.size)) (EP X pins σ Q) X.xe { s3 with heap := s3.heap.push { cls := .type "slice", data := .fields #[vl, vu, .none] } }
  exact tail_any (ops := [.ref s3.heap.objs.size, v]) ht hT hg (by with_unfolding_all rfl)

/-- the items of xs[lo:hi] -/
noncomputable def cutV (xs : List V) (lo hi : Option Int) : List V := (xs.drop (HT.sIx xs.length 0 lo)).take (HT.sIx xs.length xs.length hi - HT.sIx xs.length 0 lo)
theorem cutV_length (xs : List V) (lo hi : Option Int) : (cutV xs lo hi).length ≤ xs.length := by
  unfold cutV
  rw [List.length_take, List.length_drop]
  omega
/-- t[lo:hi], not the whole of it (the whole would be t itself) -/
noncomputable def rSlT (K : PySem.W.Frag) : V → Option Int → Option Int → Hp → VK → Prop := fun x lo hi H Q => ∃ a xs, x = .ref a ∧ SqT K H a xs ∧
  ¬ (HT.sIx xs.length 0 lo = 0 ∧ HT.sIx xs.length xs.length hi = xs.length) ∧ ∀ p, H p = none → Q (.ref p) (upd H p (.tup (cutV xs lo hi)))

/-! ### t < u, t + u -/
noncomputable def rLtT (K : PySem.W.Frag) : R2 := fun x y H Q => ∃ a b ns ms, x = .ref a ∧ y = .ref b ∧ SqT K H a (ns.map V.int) ∧ SqT K H b (ms.map V.int) ∧ Q (.bl (HT.lexLt ns ms)) H
/-- t + u, t not empty: u empty gives t itself -/
noncomputable def rCatT (K : PySem.W.Frag) : R2 := fun x y H Q => ∃ a b xs ys, x = .ref a ∧ y = .ref b ∧ SqT K H a xs ∧ SqT K H b ys ∧ xs ≠ [] ∧ xs.length + ys.length ≤ sizeLine ∧
  (ys = [] → Q (.ref a) H) ∧ (ys ≠ [] → ∀ p, H p = none → Q (.ref p) (upd H p (.tup (xs ++ ys))))
end
end L2

namespace L2
open PySem PySem.Spec PyProof.Rows

/-! ### places -/
/-- the place that an index of any sign means -/
noncomputable def ixN (n : Nat) (i : Int) : Option Nat := if 0 ≤ i then (if i < n then some i.toNat else none) else if -(n : Int) ≤ i then some (i + n).toNat else none
noncomputable def atI {α : Type} (xs : List α) (i : Int) : Option α := (ixN xs.length i).bind fun j => xs[j]?
theorem ixN_seq {n : Nat} {i : Int} {j : Nat} (h : ixN n i = some j) : seqIndex? i n = some j ∧ j < n ∧ -(n : Int) ≤ i ∧ i < n := by
  unfold ixN at h
  by_cases h0 : 0 ≤ i
  · rw [if_pos h0] at h
    by_cases h1 : i < n
    · rw [if_pos h1] at h
      have e : i.toNat = j := Option.some.inj h
      exact ⟨by rw [seqIndex_of h0 h1, e], by omega, by omega, h1⟩
    · rw [if_neg h1] at h; cases h
  · rw [if_neg h0] at h
    by_cases h1 : -(n : Int) ≤ i
    · rw [if_pos h1] at h
      have e : (i + n).toNat = j := Option.some.inj h
      exact ⟨by rw [seqIndex_neg (by omega) h1, e], by omega, h1, by omega⟩
    · rw [if_neg h1] at h; cases h
theorem atI_get {α : Type} {xs : List α} {i : Int} {v : α} (h : atI xs i = some v) : ∃ j, seqIndex? i xs.length = some j ∧ xs[j]? = some v ∧ j < xs.length ∧ -(xs.length : Int) ≤ i ∧ i < xs.length := by
  unfold atI at h
  cases e : ixN xs.length i with
  | none => rw [e] at h; cases h
  | some j =>
    rw [e] at h
    obtain ⟨h1, h2, h3, h4⟩ := ixN_seq e
    exact ⟨j, h1, h, h2, h3, h4⟩
theorem atI_nat {α : Type} {xs : List α} {j : Nat} {v : α} (h : xs[j]? = some v) : atI xs (j : Int) = some v := by
  have hj : j < xs.length := (List.getElem?_eq_some_iff.mp h).1
  have e : ixN xs.length (j : Int) = some j := by
    unfold ixN
    rw [if_pos (by omega), if_pos (by omega)]; simp
  unfold atI; rw [e]; exact h

/-! ### what may be subscripted -/
/-- what stands as an index of a plain subscript -/
noncomputable def PlainIx (b : Expr) : Prop := ∀ o i, subscripted b false o i = operate [o, i] (getItem o i)
/-- a subscript by values -/
noncomputable def IxR (X : Cx) (r : R2) : Prop :=
  ∀ (value slice : Expr) (pins : List (Addr × Obj)) (s : Shared) (σ : St) (H : Hp) (x y : V) (v u : Value) (Q : VK), Inv X pins σ H s → RelV x v → RelV y u → r x y H Q →
    subscripted slice false v u = operate [v, u] (getItem v u) → wpAny (model X.prog X.w) X.A (subscriptTail value slice v u) (EP X pins σ Q) X.xe s
/-- a call of a builtin's method by values: the receiver, the arguments -/
noncomputable def MtR (X : Cx) (id : String) (r : V → List V → Hp → VK → Prop) : Prop :=
  ∀ (pins : List (Addr × Obj)) (s : Shared) (σ : St) (H : Hp) (x : V) (xs : List V) (v : Value) (us : List Value) (Q : VK), Inv X pins σ H s → RelV x v → Vals xs us → r x xs H Q →
    wpAny (model X.prog X.w) X.A (call (.builtin id) (v :: us)) (EP X pins σ Q) X.xe s
section
variable {X : Cx} {a b : Expr} {ta tb : TE} {pos : Pos}
theorem IxR.or {r r' : R2} (h : IxR X r) (h' : IxR X r') : IxR X (fun x y H Q => r x y H Q ∨ r' x y H Q) := by
  intro value slice pins s σ H x y v u Q I rx ry q hs
  rcases q with q | q
  · exact h value slice pins s σ H x y v u Q I rx ry q hs
  · exact h' value slice pins s σ H x y v u Q I rx ry q hs
/-- a[b] -/
theorem pe_ix {r : R2} (hr : IxR X r) (ha : PE X a ta) (hb : PE X b tb) (hs : PlainIx b) : PE X (.Subscript a b pos) (tOp r ta tb) := by
  intro pins s σ H Q I h
  exact Subscript_ (binT ha hb I h fun v u s2 x y H2 I2 rx ry q => hr a b pins s2 σ H2 x y v u Q I2 rx ry q (hs _ _))

noncomputable def rIxL (K : PySem.W.Frag) : R2 := fun x y H Q => ∃ p xs i v, x = .ref p ∧ y = .int i ∧ SqL K H p xs ∧ atI xs i = some v ∧ Q v H
noncomputable def rIxT (K : PySem.W.Frag) : R2 := fun x y H Q => ∃ p xs i v, x = .ref p ∧ y = .int i ∧ SqT K H p xs ∧ atI xs i = some v ∧ Q v H
noncomputable def rIxS : R2 := fun x y H Q => ∃ z i c, x = .str z ∧ y = .int i ∧ z.length ≤ sizeLine ∧ atI z.cps.toList i = some c ∧ Q (.str ⟨#[c]⟩) H
theorem ix_list : IxR X (rIxL X.K) := by
  intro value slice pins s σ H x y v u Q I rx ry h hs
  obtain ⟨p, xs, i, z, rfl, rfl, hq, he, q⟩ := h
  cases rx
  obtain ⟨t, rfl⟩ := ry
  obtain ⟨its, r, pl, hz⟩ := I.list hq
  obtain ⟨j, h1, h2, h3, h4, h5⟩ := atI_get he
  obtain ⟨w, ew, rw'⟩ := r.get h2
  have hl := r.length
  have hn := line63
  have fin : EP X pins σ Q w s := ⟨z, H, I, rw', q⟩
  by_cases h0 : 0 ≤ i
  · have hj : i.toNat = j := by
      rw [seqIndex_of h0 h5] at h1
      exact Option.some.inj h1
    exact item_listR pl.isList h0 (by omega) (by rw [hj]; simpa using ew) fin hs
  · have hj : (i + (its.toArray.size : Int)).toNat = j := by
      rw [seqIndex_neg (by omega) h4] at h1
      rw [List.size_toArray, ← hl]
      exact Option.some.inj h1
    exact subscriptTail_builtinR (x := w) pl.isList.typeIs slot_list_getitem.lookup
      (wpAny_getItem_list_neg (Q := fun r s' => r = w ∧ EP X pins σ Q r s') pl.isList (by omega) (by rw [List.size_toArray] <;> omega) (by omega) (by rw [hj]; simpa using ew) ⟨rfl, fin⟩) hs
theorem ix_tup : IxR X (rIxT X.K) := by
  intro value slice pins s σ H x y v u Q I rx ry h hs
  obtain ⟨p, xs, i, z, rfl, rfl, hq, he, q⟩ := h
  cases rx
  obtain ⟨t, rfl⟩ := ry
  obtain ⟨its, r, pl, hz⟩ := I.tuple hq
  obtain ⟨j, h1, h2, h3, h4, h5⟩ := atI_get he
  obtain ⟨w, ew, rw'⟩ := r.get h2
  have hl := r.length
  have hn := line63
  have fin : EP X pins σ Q w s := ⟨z, H, I, rw', q⟩
  exact subscriptTail_builtinR (x := w) pl.typeIs slot_tuple_getitem.lookup
    (getItem_tuple (j := j) (Q := fun r s' => r = w ∧ EP X pins σ Q r s') pl (by omega) (by omega) (by rw [List.size_toArray, ← hl]; exact h1) (by simpa using ew) ⟨rfl, fin⟩) hs
/-- list, tuple or str -/
noncomputable def rIx (K : PySem.W.Frag) : R2 := fun x y H Q => rIxL K x y H Q ∨ rIxT K x y H Q ∨ rIxS x y H Q

/-! ### xs[i] = v, any sign -/
/-- the list's object behind a store -/
theorem mapSeq_set (its : List Value) (n j : Nat) (u : Value) : Obj.mapSeq (·.setIfInBounds j u) { cls := .type "list", data := .seq its.toArray n } = { cls := .type "list", data := .seq (its.set j u).toArray n } := by
  simp [Obj.mapSeq]
theorem Inv.lst {pins : List (Addr × Obj)} {σ : St} {H : Hp} {s : Shared} {p : Addr} {xs : List V} (I : Inv X pins σ H s) (h : H p = some (.lst xs)) :
    ∃ (its : List Value) (n : Nat), Vals xs its ∧ s.heap.get? p = some { cls := .type "list", data := .seq its.toArray n } ∧ xs.length ≤ sizeLine := by
  obtain ⟨z, its, n, r, e⟩ := I.hok p _ h
  exact ⟨its, n, r, e, z⟩
/-- the list at p is written by an update of its object -/
theorem Inv.lstUpd {pins : List (Addr × Obj)} {σ : St} {H : Hp} {s : Shared} {p : Addr} {xs ys : List V} {its its' : List Value} {n n' : Nat} {f : Obj → Obj} (I : Inv X pins σ H s) (h : H p = some (.lst xs))
    (ho : s.heap.get? p = some { cls := .type "list", data := .seq its.toArray n }) (hf : f { cls := .type "list", data := .seq its.toArray n } = { cls := .type "list", data := .seq its'.toArray n' }) (r : Vals ys its') (hz : ys.length ≤ sizeLine) (t : Nat) :
    Inv X pins σ (upd H p (.lst ys)) { s with heap := s.heap.update p f, toks := t } := by
  have e : (s.heap.update p f).get? p = some { cls := .type "list", data := .seq its'.toArray n' } := by
    rw [Heap.get?_update_self f ho (by rw [hf] <;> rfl), hf]
  refine I.write (x := p) (e := p) (by rw [h]; trivial) (.inl rfl) (fun b u hb q => (Heap.get?_update_other _ _ (Ne.symm hb)).trans q) ⟨_, e⟩ ?_
  exact ⟨hz, its', n', r, e⟩
noncomputable def rSetL : V → V → V → Hp → (Hp → Prop) → Prop := fun o i v H Q => ∃ p xs k j, o = .ref p ∧ i = .int k ∧ H p = some (.lst xs) ∧ ixN xs.length k = some j ∧ Q (upd H p (.lst (xs.set j v)))
theorem set_list : PSet X rSetL := by
  intro pins s σ H o i v ov iv u Q I ro ri rv h
  obtain ⟨p, xs, k, j, rfl, rfl, hp, hj, q⟩ := h
  cases ro
  obtain ⟨t, rfl⟩ := ri
  obtain ⟨its, n, r, ho, hz⟩ := I.lst hp
  obtain ⟨h1, h2, h3, h4⟩ := ixN_seq hj
  have hl := r.length
  have hn := line63
  have I' : Inv X pins σ (upd H p (.lst (xs.set j v))) { s with heap := s.heap.update p (Obj.mapSeq (·.setIfInBounds j u)) } :=
    I.lstUpd hp ho (mapSeq_set its n j u) (r.set rv j) (by rw [List.length_set]; exact hz) s.toks
  by_cases h0 : 0 ≤ k
  · have hk : k.toNat = j := by
      rw [seqIndex_of h0 h4] at h1
      exact Option.some.inj h1
    exact PySem.W.ki_setAt ho h0 (by omega) (by rw [List.size_toArray, ← hl]; exact h4) (by rw [hk]; exact ⟨_, I', q⟩)
  · have hk : (k + (its.toArray.size : Int)).toNat = j := by
      rw [seqIndex_neg (by omega) h3] at h1
      rw [List.size_toArray, ← hl]
      exact Option.some.inj h1
    exact PySem.W.ki_setBack ho (by omega) (by rw [List.size_toArray, ← hl]; exact h3) (by omega) (by rw [hk]; exact ⟨_, I', q⟩)

/-! ### slices -/
theorem slice_bounds (lo hi : Option Int) (n : Nat) : (sliceBounds lo hi none n).1 = ((HT.sIx n 0 lo : Nat) : Int) ∧ (sliceBounds lo hi none n).2.1 = ((HT.sIx n n hi : Nat) : Int) ∧ (sliceBounds lo hi none n).2.2 = 1 := by
  refine ⟨?_, ?_, rfl⟩
  · cases lo with
    | none => simp [sliceBounds, HT.sIx]
    | some i =>
      simp only [sliceBounds, HT.sIx, Option.getD_none, show (1 : Int) > 0 by decide, if_true]
      by_cases h : i < 0
      · simp only [h, if_true] <;> omega
      · simp only [h, if_false] <;> omega
  · cases hi with
    | none => simp [sliceBounds, HT.sIx]
    | some i =>
      simp only [sliceBounds, HT.sIx, Option.getD_none, show (1 : Int) > 0 by decide, if_true]
      by_cases h : i < 0
      · simp only [h, if_true] <;> omega
      · simp only [h, if_false] <;> omega
theorem slicePick_cut (its : List Value) (lo hi : Option Int) : slicePick its.toArray lo hi none = ((its.drop (HT.sIx its.length 0 lo)).take (HT.sIx its.length its.length hi - HT.sIx its.length 0 lo)).toArray := by
  obtain ⟨h1, h2, h3⟩ := slice_bounds lo hi its.toArray.size
  unfold slicePick
  rw [h1, h2, h3]
  simp only [sliceRange_one, pick_run, List.size_toArray] <;> rfl
/-- xs[lo:hi] of a list: a new list -/
noncomputable def rSlL (K : PySem.W.Frag) : V → Option Int → Option Int → Hp → VK → Prop := fun x lo hi H Q => ∃ a xs, x = .ref a ∧ SqL K H a xs ∧ ∀ p, H p = none → Q (.ref p) (upd H p (.lst (cutV xs lo hi)))
theorem sl_list : SlR X (rSlL X.K) := by
  intro pins s σ H x v vl vu lo hi sl Q I rx hs pl pu h
  obtain ⟨a, xs, rfl, hx, q⟩ := h
  cases rx
  obtain ⟨its, r, ht, hz⟩ := I.list hx
  have hlen := r.length
  refine ⟨"list", _, slot_list_getitem.lookup, ht.isList.typeIs, ?_⟩
  refine wpAny_getItem_list_slice ht.isList hs pl pu .none (by simp) ?_ (by rw [List.size_toArray] <;> omega)
  rw [slicePick_cut, ← hlen]
  refine ⟨.ref s.heap.objs.size, _, I.laid (t' := s.toks) (o := .lst (cutV xs lo hi)) (fun b ob q => Heap.get?_push_of_some _ q) (Nat.le_refl _) ?_, rfl, q _ (I.hok.fresh (Nat.le_refl _))⟩
  exact ⟨Nat.le_trans (cutV_length xs lo hi) hz, _, 0, (r.drop (HT.sIx xs.length 0 lo)).take (HT.sIx xs.length xs.length hi - HT.sIx xs.length 0 lo), Heap.get?_push_size _ rfl⟩

/-! ### in, not in: flat items -/
noncomputable def flatV : V → Bool
  | .non => true
  | .bl _ => true
  | .int _ => true
  | .str _ => true
  | _ => false
/-- == of flat values -/
noncomputable def eqV : V → V → Bool
  | .non, .non => true
  | .bl a, .bl b => a == b
  | .bl a, .int b => (if a then 1 else 0) == b
  | .int a, .bl b => a == (if b then 1 else 0)
  | .int a, .int b => a == b
  | .str a, .str b => a == b
  | _, _ => false
theorem eqAt_V {A : Around} {s : Shared} {y x : V} {u v : Value} (ry : RelV y u) (rx : RelV x v) (fy : flatV y = true) (fx : flatV x = true) : SeqAt.EqAt A s u v (eqV y x) := by
  cases y with
  | non =>
    cases ry
    cases x with
    | non => cases rx; exact SeqAt.EqAt.same _
    | bl b => cases rx; exact SeqAt.EqAt.none_bool b
    | int b => obtain ⟨t, rfl⟩ := rx; exact SeqAt.EqAt.none_int b t
    | str b => obtain ⟨t, rfl⟩ := rx; exact SeqAt.EqAt.none_str b t
    | _ => exact absurd (show false = true from fx) Bool.false_ne_true
  | bl a =>
    cases ry
    cases x with
    | non => cases rx; exact SeqAt.EqAt.bool_none a
    | bl b => cases rx; exact SeqAt.EqAt.bool_bool a b
    | int b => obtain ⟨t, rfl⟩ := rx; exact SeqAt.EqAt.bool_int a b t
    | str b => obtain ⟨t, rfl⟩ := rx; exact SeqAt.EqAt.bool_str a b t
    | _ => exact absurd (show false = true from fx) Bool.false_ne_true
  | int a =>
    obtain ⟨t', rfl⟩ := ry
    cases x with
    | non => cases rx; exact SeqAt.EqAt.int_none a t'
    | bl b => cases rx; exact SeqAt.EqAt.int_bool a t' b
    | int b => obtain ⟨t, rfl⟩ := rx; exact SeqAt.EqAt.int_int a t' b t
    | str b => obtain ⟨t, rfl⟩ := rx; exact SeqAt.EqAt.int_str a t' b t
    | _ => exact absurd (show false = true from fx) Bool.false_ne_true
  | str a =>
    obtain ⟨t', rfl⟩ := ry
    cases x with
    | non => cases rx; exact SeqAt.EqAt.str_none a t'
    | bl b => cases rx; exact SeqAt.EqAt.str_bool a t' b
    | int b => obtain ⟨t, rfl⟩ := rx; exact SeqAt.EqAt.str_int a t' b t
    | str b => obtain ⟨t, rfl⟩ := rx; exact SeqAt.EqAt.str_str a t' b t
    | _ => exact absurd (show false = true from fx) Bool.false_ne_true
  | _ => exact absurd (show false = true from fy) Bool.false_ne_true
/-- the items' answers, read off the values (a value's own answer does not lean on its token) -/
noncomputable def eqU (x : V) (u : Value) : Bool := match u with
  | .none => eqV .non x
  | .bool b => eqV (.bl b) x
  | .int i _ => eqV (.int i) x
  | .str z _ => eqV (.str z) x
  | _ => false
theorem eqU_of {x y : V} {u : Value} (r : RelV y u) (f : flatV y = true) : eqU x u = eqV y x := by
  cases y with
  | non => cases r; rfl
  | bl b => cases r; rfl
  | int i => obtain ⟨t, rfl⟩ := r; rfl
  | str z => obtain ⟨t, rfl⟩ := r; rfl
  | _ => exact absurd (show false = true from f) Bool.false_ne_true
theorem any_eqU {x : V} : ∀ {xs : List V} {us : List Value}, Vals xs us → xs.all flatV = true → us.any (eqU x) = xs.any fun y => eqV y x
  | _, _, .nil, _ => rfl
  | y :: xs, u :: us, .cons r t, f => by
    rw [List.all_cons, Bool.and_eq_true] at f
    rw [List.any_cons, List.any_cons, eqU_of r f.1, any_eqU t f.2]
theorem mem_eqAt {A : Around} {s : Shared} {x : V} {v : Value} (rx : RelV x v) (fx : flatV x = true) : ∀ {xs : List V} {us : List Value}, Vals xs us → xs.all flatV = true → ∀ u ∈ us, SeqAt.EqAt A s u v (eqU x u)
  | _, _, .nil, _ => fun u hu => by cases hu
  | y :: xs, u :: us, .cons r t, f => fun u' hu => by
    rw [List.all_cons, Bool.and_eq_true] at f
    rcases List.mem_cons.mp hu with rfl | hu
    · rw [eqU_of r f.1]; exact eqAt_V r rx f.1 fx
    · exact mem_eqAt rx fx t f.2 u' hu
noncomputable def inV (x : V) (xs : List V) : Bool := xs.any fun y => eqV y x
/-- x in a list or tuple of flat items -/
noncomputable def rIn (K : PySem.W.Frag) (neg : Bool) : R2 := fun x y H Q => ∃ p xs, y = .ref p ∧ (SqL K H p xs ∨ SqT K H p xs) ∧ flatV x = true ∧ xs.all flatV = true ∧ Q (.bl (if neg then !inV x xs else inV x xs)) H
theorem op_notIn_seq : OpR X (compareOp .NotIn) (rIn X.K true) := by
  intro pins s σ H x y v u Q I rx ry h
  obtain ⟨p, xs, rfl, hq, fx, fs, q⟩ := h
  cases ry
  rcases hq with hq | hq
  · obtain ⟨its, r, pl, hz⟩ := I.list hq
    refine SeqAt.notIn_listAt (eqU x) pl.isList (fun w hw => mem_eqAt rx fx r fs w (by simpa using hw)) ⟨.bl _, H, I, rfl, ?_⟩
    rw [show its.toArray.any (eqU x) = its.any (eqU x) by simp, any_eqU r fs]
    exact q
  · obtain ⟨its, r, pl, hz⟩ := I.tuple hq
    refine SeqAt.notIn_tupleAt (eqU x) pl (fun w hw => mem_eqAt rx fx r fs w (by simpa using hw)) ⟨.bl _, H, I, rfl, ?_⟩
    rw [show its.toArray.any (eqU x) = its.any (eqU x) by simp, any_eqU r fs]
    exact q

/-! ### len, list(x), tuple(x) of any list or tuple that is read -/
theorem call_len_seq : CallR X (.builtin "len") (fun xs H Q => ∃ p ys, xs = [.ref p] ∧ (SqL X.K H p ys ∨ SqT X.K H p ys) ∧ Q (.int ys.length) H) := by
  intro pins s σ H xs us Q I r h
  obtain ⟨p, ys, rfl, hq, q⟩ := h
  obtain ⟨u, rfl, rx⟩ := vals1 r
  cases rx
  have hn := line63
  rcases hq with hq | hq
  · obtain ⟨its, r', pl, hz⟩ := I.list hq
    have hlen := r'.length
    exact Calls.call_len_list pl.isList (by simp only [List.size_toArray] <;> omega) ⟨.int ys.length, H, I.tok _, ⟨s.toks + 1, by rw [List.size_toArray, hlen]⟩, q⟩
  · obtain ⟨its, r', pl, hz⟩ := I.tuple hq
    have hlen := r'.length
    exact len_tuple pl (by simp only [List.size_toArray] <;> omega) ⟨.int ys.length, H, I.tok _, ⟨s.toks + 1, by rw [List.size_toArray, hlen]⟩, q⟩
theorem call_list_of : CallR X (.type "list") (fun xs H Q => ∃ p ys, xs = [.ref p] ∧ (SqL X.K H p ys ∨ SqT X.K H p ys) ∧ ∀ l, H l = none → Q (.ref l) (upd H l (.lst ys))) := by
  intro pins s σ H xs us Q I r h
  obtain ⟨p, ys, rfl, hq, q⟩ := h
  obtain ⟨u, rfl, rx⟩ := vals1 r
  cases rx
  have fin : ∀ (its : List Value), Vals ys its → ys.length ≤ sizeLine → ∀ (h' : Heap) (c' : Nat), (∀ b o', s.heap.get? b = some o' → h'.get? b = some o') →
      h'.get? s.heap.objs.size = some { cls := .type "list", dict := none, data := .seq its.toArray c', slots := #[] } → EP X pins σ Q (.ref s.heap.objs.size) { s with heap := h' } := fun its r' hz h' c' kp e =>
    ⟨.ref s.heap.objs.size, _, I.laid (t' := s.toks) kp (Nat.le_refl _) (show ObjOk X.prog X.w _ h' _ (.lst ys) from ⟨hz, its, c', r', e⟩), rfl, q _ (I.hok.fresh (Nat.le_refl _))⟩
  rcases hq with hq | hq
  · obtain ⟨its, r', pl, hz⟩ := I.list hq
    have hlen := r'.length
    obtain ⟨o, ho, hc, n, hd⟩ := pl.isList
    exact call_list_seq p (.inl rfl) ho hc hd (fun h' c' kp e => fin its r' hz h' c' kp e) (by simp only [List.size_toArray] <;> omega)
  · obtain ⟨its, r', pl, hz⟩ := I.tuple hq
    have hlen := r'.length
    obtain ⟨o, ho, hc, n, hd⟩ := pl
    exact call_list_seq p (.inr rfl) ho hc hd (fun h' c' kp e => fin its r' hz h' c' kp e) (by simp only [List.size_toArray] <;> omega)

/-! ### the call of a builtin's method: o.m(..) -/
/-- the value is of that builtin type -/
noncomputable def tyV (K : PySem.W.Frag) (T : String) (x : V) (H : Hp) : Prop := match x with
  | .str _ => T = "str"
  | .int _ => T = "int"
  | .ref p => (T = "list" ∧ ∃ xs, SqL K H p xs) ∨ (T = "tuple" ∧ ∃ o, K.lookup p = some o ∧ o.cls = .type "tuple" ∧ o.dict = none) ∨
      (T = "dict" ∧ ((∃ kvs, H p = some (.dK kvs)) ∨ ∃ kvs, H p = some (.dT kvs))) ∨ (T = "set" ∧ ∃ S n, H p = some (.set S n))
  | _ => False
theorem tyV_is {pins : List (Addr × Obj)} {σ : St} {H : Hp} {s : Shared} {T : String} {x : V} {v : Value} (I : Inv X pins σ H s) (r : RelV x v) (ty : tyV X.K T x H) :
    s.TypeIs v T ∧ ∀ a, v = .ref a → ∃ ob, s.heap.get? a = some ob ∧ ob.dict = none := by
  cases x with
  | str z =>
    obtain ⟨t, rfl⟩ := r
    cases (show T = "str" from ty)
    exact ⟨typeIs_str s z t, fun _ e => nomatch e⟩
  | int i =>
    obtain ⟨t, rfl⟩ := r
    cases (show T = "int" from ty)
    exact ⟨typeIs_int s i t, fun _ e => nomatch e⟩
  | ref p =>
    cases r
    rcases ty with ⟨rfl, xs, hq⟩ | ⟨rfl, o, hk, hc, hd⟩ | ⟨rfl, hk⟩ | ⟨rfl, S, n, hk⟩
    · obtain ⟨its, _, pl, _⟩ := I.list hq
      refine ⟨pl.isList.typeIs, fun a e => ?_⟩
      cases e
      obtain ⟨o, n, e, c, hd, _⟩ := pl
      exact ⟨o, e, hd⟩
    · refine ⟨⟨o, I.kIn p o hk, hc⟩, fun a e => ?_⟩
      cases e
      exact ⟨o, I.kIn _ o hk, hd⟩
    · have z : ∃ o, s.heap.get? p = some o ∧ o.ExactDict := by
        rcases hk with ⟨kvs, hk⟩ | ⟨kvs, hk⟩
        · obtain ⟨_, _, _, _, o, _, _, e, ex, _⟩ := I.hok p _ hk
          exact ⟨o, e, ex⟩
        · obtain ⟨_, _, _, _, o, _, _, e, ex, _⟩ := I.hok p _ hk
          exact ⟨o, e, ex⟩
      obtain ⟨o, e, ex⟩ := z
      refine ⟨⟨o, e, ex.1⟩, fun a e2 => ?_⟩
      cases e2
      exact ⟨o, e, ex.2.1⟩
    · obtain ⟨o, _, _, _, e, ex, _⟩ := I.hok p _ hk
      refine ⟨⟨o, e, ex.1⟩, fun a e2 => ?_⟩
      cases e2
      exact ⟨o, e, ex.2.1⟩
  | _ => exact False.elim ty
noncomputable def tBM0 (K : PySem.W.Frag) (T : String) (r : V → List V → Hp → VK → Prop) (to : TE) : TE := fun σ H Q => to σ H fun x H1 => tyV K T x H1 ∧ r x [] H1 Q
noncomputable def tBM (K : PySem.W.Frag) (T : String) (r : V → List V → Hp → VK → Prop) (to : TE) (t : TA) : TE := fun σ H Q => to σ H fun x H1 => tyV K T x H1 ∧ t σ H1 fun xs H2 => r x xs H2 Q
variable {o e : Expr} {es : List Expr} {to : TE} {t : TA} {name : Str} {apos cpos : Pos} {T id : String} {r : V → List V → Hp → VK → Prop}
/- xs.append(e), list.index on a module's tuple .. are MtR facts of 06m -/
end
end L2

namespace L2
open PySem PySem.Spec PyProof.Rows

noncomputable def MtM (X : Cx) (id : String) (r : V → List V → Hp → VK → Prop) : Prop :=
  ∀ (pins : List (Addr × Obj)) (s : Shared) (σ : St) (H : Hp) (x : V) (xs : List V) (v : Value) (us : List Value) (Q : VK), Inv X pins σ H s → RelV x v → Vals xs us → r x xs H Q →
    wpAny (model X.prog X.w) X.A (call (.builtin id) (v :: us)) (EP X pins σ Q) X.xe s

/-! ### lists of values -/
theorem Vals.one : ∀ {x : V} {us : List Value}, Vals [x] us → ∃ u, us = [u] ∧ RelV x u
  | _, _, .cons r .nil => ⟨_, rfl, r⟩
theorem Vals.zero : ∀ {us : List Value}, Vals [] us → us = []
  | _, .nil => rfl
theorem Vals.rep {xs : List V} {us : List Value} (h : Vals xs us) : ∀ k : Nat, Vals (List.replicate k xs).flatten (List.replicate k us).flatten
  | 0 => .nil
  | k + 1 => by
    rw [List.replicate_succ, List.replicate_succ, List.flatten_cons, List.flatten_cons]
    exact Vals.append h (Vals.rep h k)
theorem foldl_rep (its : List Value) : ∀ (k : Nat) (acc : List Value),
    List.foldl (fun x1 x2 => x1 ++ x2) acc.toArray (List.replicate k its.toArray) = (acc ++ (List.replicate k its).flatten).toArray
  | 0, acc => by simp
  | k + 1, acc => by
    have e : acc.toArray ++ its.toArray = (acc ++ its).toArray := by simp
    have e2 : (acc ++ its) ++ (List.replicate k its).flatten = acc ++ (List.replicate (k + 1) its).flatten := by
      rw [List.replicate_succ, List.flatten_cons, List.append_assoc]
    rw [← e2, ← foldl_rep its k (acc ++ its), ← e, List.replicate_succ, List.foldl_cons]

section
variable {X : Cx} {pins : List (Addr × Obj)} {σ : St} {H : Hp} {s : Shared} {l b : Addr} {xs ys zs : List V}

/-! ### the two steps: a tracked list is rewritten, a new list is laid -/
theorem Inv.lset {its its' : List Value} {n : Nat} {f : Array Value → Array Value} {t' : Nat} (I : Inv X pins σ H s) (hH : H l = some (.lst xs))
    (e : s.heap.get? l = some { cls := .type "list", data := .seq its.toArray n }) (hf : f its.toArray = its'.toArray) (hv : Vals ys its') (hz : ys.length ≤ sizeLine) :
    Inv X pins σ (upd H l (.lst ys)) { s with heap := s.heap.update l (Obj.mapSeq f), toks := t' } := by
  have q := PySem.IsL.update e f
  rw [hf] at q
  refine I.write (x := l) (e := l) (by rw [hH]; exact trivial) (.inl rfl) (fun b' u hb hu => (Heap.get?_update_other s.heap (Obj.mapSeq f) (Ne.symm hb)).trans hu) ⟨_, q⟩ ?_
  exact ⟨hz, its', _, hv, q⟩
theorem Inv.lnew {its : List Value} {t' : Nat} (I : Inv X pins σ H s) (hv : Vals ys its) (hz : ys.length ≤ sizeLine) :
    Inv X pins σ (upd H s.heap.objs.size (.lst ys)) { s with heap := s.heap.push { cls := .type "list", data := .seq its.toArray }, toks := t' } :=
  I.laid (fun _ _ q => Heap.get?_push_of_some _ q) (Nat.le_refl _) ⟨hz, its, 0, hv, Heap.get?_push_size _ rfl⟩
theorem Inv.fresh (I : Inv X pins σ H s) : H s.heap.objs.size = none := I.hok.fresh (Nat.le_refl _)
theorem Inv.lstM (I : Inv X pins σ H s) (hH : H l = some (.lst xs)) : xs.length ≤ sizeLine ∧ ∃ (its : List Value) (n : Nat), Vals xs its ∧ xs.length = its.length ∧ s.heap.get? l = some { cls := .type "list", data := .seq its.toArray n } := by
  obtain ⟨z, its, n, r, e⟩ := I.hok l _ hH
  exact ⟨z, its, n, r, r.length, e⟩

theorem notLongL {n : Nat} (h : n ≤ sizeLine) : Builtin.List.listTooLong n = false := by
  unfold Builtin.List.listTooLong
  exact decide_eq_false (by omega)
end

section
variable {X : Cx}

/-! ### methods -/
noncomputable def rAppend : V → List V → Hp → VK → Prop := fun x vs H Q => ∃ l xs y, x = .ref l ∧ vs = [y] ∧ H l = some (.lst xs) ∧ xs.length < sizeLine ∧ Q .non (upd H l (.lst (xs ++ [y])))
theorem mt_append : MtM X "list.append" rAppend := by
  intro pins s σ H x vs v us Q I rx rv h
  obtain ⟨l, xs, y, rfl, rfl, hH, hz, q⟩ := h
  cases rx
  obtain ⟨u, rfl, ru⟩ := rv.one
  obtain ⟨z, its, n, r, hl, e⟩ := I.lstM hH
  refine call_meets F.slot_list_append ⟨_, e, rfl⟩ F.entry_list_append (F.args_list_append_2 _ _) (PySem.list_append l its.toArray n u (by rw [List.size_toArray]; omega)) ⟨e, ?_⟩
  refine ⟨.non, _, I.lset (its' := its ++ [u]) hH e (by simp) (r.append (.cons ru .nil)) ?_, rfl, q⟩
  rw [List.length_append, List.length_singleton]
  omega

noncomputable def rExtend : V → List V → Hp → VK → Prop := fun x vs H Q => ∃ l b xs zs, x = .ref l ∧ vs = [.ref b] ∧ H l = some (.lst xs) ∧ H b = some (.lst zs) ∧ xs.length + zs.length ≤ sizeLine ∧ Q .non (upd H l (.lst (xs ++ zs)))

noncomputable def rPop : V → List V → Hp → VK → Prop := fun x vs H Q => ∃ l xs y, x = .ref l ∧ vs = [] ∧ H l = some (.lst xs) ∧ xs[xs.length - 1]? = some y ∧ Q y (upd H l (.lst xs.dropLast))

noncomputable def rPopAt : V → List V → Hp → VK → Prop := fun x vs H Q => ∃ l xs i k y, x = .ref l ∧ vs = [.int i] ∧ H l = some (.lst xs) ∧ -(2 ^ 63) ≤ i ∧ i < 2 ^ 63 ∧ seqIndex? i xs.length = some k ∧ xs[k]? = some y ∧ Q y (upd H l (.lst (xs.eraseIdx k)))

noncomputable def rReverse : V → List V → Hp → VK → Prop := fun x vs H Q => ∃ l xs, x = .ref l ∧ vs = [] ∧ H l = some (.lst xs) ∧ Q .non (upd H l (.lst xs.reverse))

noncomputable def rClear : V → List V → Hp → VK → Prop := fun x vs H Q => ∃ l xs, x = .ref l ∧ vs = [] ∧ H l = some (.lst xs) ∧ Q .non (upd H l (.lst []))
theorem mt_clear : MtM X "list.clear" rClear := by
  intro pins s σ H x vs v us Q I rx rv h
  obtain ⟨l, xs, rfl, rfl, hH, q⟩ := h
  cases rx
  have hus := rv.zero
  subst hus
  obtain ⟨z, its, n, r, hl, e⟩ := I.lstM hH
  refine call_meets F.slot_list_clear ⟨_, e, rfl⟩ F.entry_list_clear (F.args_list_clear_1 _) (AutoSeq1.list_clear_list_0 l its.toArray n (by rw [List.size_toArray]; omega)) ⟨e, ?_⟩
  exact ⟨.non, _, I.lset (its' := []) (ys := []) hH e rfl .nil (Nat.zero_le _), rfl, q⟩

/-! ### list + list, list += list, list * int -/
noncomputable def rCat : R2 := fun x y H Q => ∃ l b xs zs, x = .ref l ∧ y = .ref b ∧ H l = some (.lst xs) ∧ H b = some (.lst zs) ∧ xs.length + zs.length ≤ sizeLine ∧ ∀ p, H p = none → Q (.ref p) (upd H p (.lst (xs ++ zs)))
theorem op_cat : OpR X (binaryOp .Add) rCat := by
  intro pins s σ H x y v u Q I rx ry h
  obtain ⟨l, b, xs, zs, rfl, rfl, hH, hB, hz, q⟩ := h
  cases rx
  cases ry
  obtain ⟨z, its, n, r, hl, e⟩ := I.lstM hH
  obtain ⟨z2, its2, n2, r2, hl2, e2⟩ := I.lstM hB
  refine PySem.P.add_list e e2 ?_ (by rw [List.size_toArray, List.size_toArray]; omega)
  have ea : its.toArray ++ its2.toArray = (its ++ its2).toArray := by simp
  rw [ea]
  exact ⟨.ref _, _, I.lnew (t' := s.toks) (r.append r2) (by rw [List.length_append]; omega), rfl, q _ I.fresh⟩
/-- a list times an int (a negative one is nothing) -/
noncomputable def rRep : R2 := fun x y H Q => ∃ l k xs, x = .ref l ∧ y = .int k ∧ H l = some (.lst xs) ∧ -(2 ^ 63) ≤ k ∧ k < 2 ^ 63 ∧ xs.length * k.toNat ≤ sizeLine ∧
  ∀ p, H p = none → Q (.ref p) (upd H p (.lst (List.replicate k.toNat xs).flatten))
theorem len_rep {α : Type} (xs : List α) (k : Nat) : (List.replicate k xs).flatten.length = k * xs.length := by
  induction k with
  | zero => simp
  | succ k ih => rw [List.replicate_succ, List.flatten_cons, List.length_append, ih, Nat.succ_mul, Nat.add_comm]
theorem op_rep : OpR X (binaryOp .Mult) rRep := by
  intro pins s σ H x y v u Q I rx ry h
  obtain ⟨l, k, xs, rfl, rfl, hH, h1, h2, hz, q⟩ := h
  cases rx
  obtain ⟨t, rfl⟩ := ry
  obtain ⟨z, its, n, r, hl, e⟩ := I.lstM hH
  have hlen : its.toArray.size * k.toNat ≤ sizeLine := by rw [List.size_toArray, ← hl]; exact hz
  have hcap : ¬ its.toArray.size * k.toNat > (2 ^ 63 - 1) / 8 := by
    have : (sizeLine : Nat) ≤ (2 ^ 63 - 1) / 8 := by decide
    omega
  have hfit : ¬ (!Builtin.List.listFitsIndex k) = true := by
    rw [fitsIndex_both h1 h2]
    exact Bool.false_ne_true
  have hlong : ¬ Builtin.List.listTooLong (its.toArray.size * k.toNat) = true := by
    rw [notLongL hlen]
    exact Bool.false_ne_true
  have hnew : List.foldl (fun x1 x2 => x1 ++ x2) #[] (List.replicate (if its.toArray.isEmpty = true then 0 else k.toNat) its.toArray) = (List.replicate k.toNat its).flatten.toArray := by
    have f0 : ∀ m : Nat, List.foldl (fun x1 x2 => x1 ++ x2) #[] (List.replicate m its.toArray) = (List.replicate m its).flatten.toArray := fun m => by
      have := foldl_rep its m []
      rw [List.nil_append] at this
      exact this
    rw [f0]
    cases its with
    | nil => simp
    | cons a r' => rw [if_neg (by simp)]
  refine wpAny_binaryOp_repeat_ref (T := "list") (U := "int") (by decide) ⟨_, e, rfl⟩ (fun s' => typeIs_int s' k t) noFill_list_mul F.fills_int_mul F.slot_int_rmul repeat_list F.slot_int_index.lookup
    (call_meets F.slot_int_rmul (typeIs_int s k t) F.entry_int_rmul (F.args_int_rmul_2 _ _) (int___rmul___int_list k t l its.toArray n)
      ⟨e, rfl, ⟨_, e, rfl⟩, call_meets F.slot_list_mul ⟨_, e, rfl⟩ F.entry_list_mul (F.args_list_mul_2 _ _) (AutoListH.list___mul___list_int_3 l its.toArray n k t hfit hcap hlong) ⟨e, ?_⟩⟩)
  rw [hnew]
  exact ⟨.ref _, _, I.lnew (t' := s.toks) (r.rep k.toNat) (by rw [len_rep, Nat.mul_comm]; exact hz), rfl, q _ I.fresh⟩

/-! ### del xs[i] -/
end

/-! ### xs[a:b] = ys -/
section
variable {prog : Program} {w : World} {A : Around} {E : Value → Shared → Prop} {s : Shared}
set_option maxRecDepth 100000 in
end

section
variable {X : Cx}
end
end L2

namespace Att
open PySem PySem.W PySem.Calls PyProof.Rows

/-! ### the script -/
theorem ints_of_wellAll {P : Params} {h : Heap} : ∀ (ns : List Int) (vs : List Value), WellAll P h vs (ns.map WData.int) → IntsAre vs ns := by
  intro ns
  induction ns with
  | nil =>
    intro vs w
    rw [List.map_nil] at w
    cases w
    exact .nil
  | cons n ns ih =>
    intro vs w
    rw [List.map_cons] at w
    cases w with
    | cons a b =>
      cases a
      exact .cons _ _ (ih _ b)

theorem script_of {l : OpenLaw} {n : Nat} (hn : l.most = some n) {P : Params} {h : Heap} {args : List WData} {vals : List Value}
    (hpre : l.row.toRowW.claim.pre args = true) (hwl : WellAll P h vals args) :
    ∃ a vs ns, vals = [Value.ref a] ∧ args = [WData.list (ns.map WData.int)] ∧ h.get? a = some { cls := .type "list", data := .seq vs.toArray } ∧ IntsAre vs ns ∧ ns.length ≤ n := by
  have hsh : WShape.hasAll [] args [.list .int] = true := (pre_splitW hpre).1
  have hc : l.pre.holds [] { args := args } = true := (pre_splitW hpre).2
  obtain ⟨d, r, rfl, h1, h2⟩ := hasAllW_cons hsh
  obtain rfl := hasAllW_nil h2
  obtain ⟨xs, rfl, h3⟩ := hasW_list h1
  obtain ⟨ns, rfl⟩ := items_int h3
  have hlen : ns.length ≤ n := by
    unfold OpenLaw.pre at hc
    have h4 : (WTm.not (.lt (.lit (.int (n : Int))) (.len (.arg 0)))).holds [] { args := [.list (ns.map .int)] } = true := by
      have h4 := (holds_andW hc).1
      rw [hn] at h4
      exact h4
    have h5 := condW_of h4 (w_not (w_lt w_lit (w_len_list (w_arg rfl))))
    rw [List.length_map] at h5
    refine Nat.le_of_not_lt fun q => ?_
    have q' : (n : Int) < ((ns.length : Nat) : Int) := by omega
    first
      | (rw [decide_eq_true q'] at h5; exact absurd h5 (by decide))
      | (simp at h5; omega)
  cases hwl with
  | cons w1 w2 =>
    cases w2
    cases w1 with
    | list ho hall => exact ⟨_, _, ns, rfl, rfl, ho, ints_of_wellAll ns _ hall, hlen⟩

theorem post_true (l : OpenLaw) (args : List WData) : l.row.toRowW.claim.post args (.bool true) args = true :=
  postW_of (r := l.row.toRowW) (X := (true == true))
    (show WShape.has [] (.bool true) .bool = true by first | rfl | decide | simp [WShape.has, WShape.arms, WShape.armsAll])
    (show (WTm.eq .res (.lit (.bool true))).value [] { args := args, res := some (.bool true), after := args } = some (.bool (true == true)) from w_eq_bool (w_res rfl) w_lit) rfl

/-! ### the attachment: holds_open's last premise (the goal 'hc' behind k_head) from a wpAny of the law's body -/

/-- the same from a codeAny of the CALL (for a layer whose function contracts speak of calls) -/
theorem attach_call {l : OpenLaw} {n : Nat} {q : Program} {loose : List Str} {XP : (Str → Option Value) → Heap → Prop} {YP : World → Heap → Prop} {d : DefRec}
    (hn : l.most = some n) (hdf : d.params.defaults = [])
    (call : ∀ (w : World) (s₀ s₁ : Shared) (mg mb : Str → Option Value) (fa : Addr) (o : Obj) (pm cd doc : Value) (a : Addr) (vs : List Value) (ns : List Int),
      Ground q loose [] XP w s₀ mg mb s₁.heap → YP w s₁.heap →
      s₁.heap.get? fa = some o → o.data = .func (docDef d.name d.params d.body d.scope pm cd doc) → s₁.heap.CodeRec cd d.name → mg d.name = some (.ref fa) →
      s₁.heap.get? a = some { cls := .type "list", data := .seq vs.toArray } → IntsAre vs ns → ns.length ≤ n → s₁.gens = #[] →
      codeAny (model l.prog w) callerA (.call (.ref fa) ⟨[.ref a], []⟩) (fun r s' => r = .ok (.ret (.bool true)) ∧ OldK s₁.heap s'.heap ∧ s'.os = s₁.os ∧ AllBare s'.gens) s₁) :
    WalkO q loose XP YP l.row.toRowW d [] (fun f vs => PySem.call f vs) := by
  intro w s₀ s₁ mg mb G Y fa o pm cd doc dV kV ho hd hcd hD hmg hg args vals as hpre hlay hrd hwl hlo
  obtain rfl : dV = .none := Dflts.none hD hdf
  obtain rfl : kV = .none := Dflts.noKw hD
  obtain ⟨a, vs, ns, rfl, rfl, hobj, hints, hlen⟩ := script_of hn hpre hwl
  refine enter_call (codeAny_mono (call w s₀ s₁ mg mb fa o pm cd doc a vs ns G Y ho (fd_plain hd) hcd hmg hobj hints hlen hg) fun r s' hq => ?_)
  obtain ⟨rfl, h2, h3, h4⟩ := hq
  exact ⟨.inl ⟨.bool true, .bool true, [], rfl, fun _ => rfl, .bool true, post_true l _, fun _ => ⟨List.Pairwise.nil, fun _ hm => (nomatch hm)⟩⟩, h2, h3, h4⟩


/-! ### rules over ANY heap (no ledger) from facts about the written part K: the library's own take a ledger (News) for what they write -/
section
variable {prog : Program} {w : World} {A : Around} {E : Value → Shared → Prop} {s : Shared} {K : Frag}





/-! the whole heap as the ledger: makes every rule that writes through a ledger a rule over any heap -/
noncomputable def noObjs (h : Heap) : Heap := { h with objs := #[] }
noncomputable def ledger (h : Heap) (L d : Addr) : List (Addr × Obj) := (List.range h.objs.size).filterMap fun a => if a = L ∨ a = d then none else (h.get? a).map fun o => (a, o)

end
end Att

namespace L2
open PySem PySem.Spec PyProof.Rows

theorem vals_ints : ∀ {vs : List Value} {ns : List Int}, IntsAre vs ns → Vals (ns.map V.int) vs
  | _, _, .nil => .nil
  | _, _, .cons n t h => .cons ⟨t, rfl⟩ (vals_ints h)

/-- nothing is tracked but the script, known to the object (or it is an object of the module) -/
noncomputable def Only (H : Hp) : Prop := ∀ b, H b = none ∨ ∃ o xs, H b = some (.frz o (.lst xs))

/-- THE HEAD: the law's promise, at the heap behind the top. F, the promise of the law's def, may use that base is part of the heap (so K.In base, base.Ns mainGlobals mg stand in Mod) -/
theorem law_call {P : Program} {w : World} {K : PySem.W.Frag} {mg mb : Str → Option Value} {CX : CXT} {k : Nat} {fa a : Addr} {fd : FuncData} {x : Str} {sp : Sp} {s₁ : Shared} {vs : List Value} {ns : List Int}
    (KX : K.In s₁.heap) (hns : s₁.heap.Ns mainGlobals mg) (hb : s₁.heap.Ns builtinsNs mb) (hbb : ∀ x : Str, x ≠ "__name__" → mb x = bootBuiltins x) (hlim : s₁.heap.NoLimit) (hg : s₁.gens = #[])
    (ha : s₁.heap.get? a = some { cls := .type "list", data := .seq vs.toArray }) (hi : IntsAre vs ns) (hl : ns.length ≤ sizeLine) (hr : Room k callerA)
    (F : ∀ base : Heap, K.In base → base.Ns mainGlobals mg → FnOk P w K mg base CX k fa fd [x] sp) (hbind : ∀ (s : Shared) (u : Value), BindsTo s fd ⟨[u], []⟩ [(x, u)])
    (hsp : ∀ H : Hp, Only H → SqL K H a (ns.map V.int) → sp [.ref a] H (fun v _ => v = .bl true) fun _ _ _ => False)
    (hCX : ∀ H e s', CX [] H s₁ (fun _ _ _ => False) e s' → False) :
    codeAny (model P w) callerA (.call (.ref fa) ⟨[.ref a], []⟩) (fun r s' => r = .ok (.ret (.bool true)) ∧ OldK s₁.heap s'.heap ∧ s'.os = s₁.os ∧ AllBare s'.gens) s₁ := by
  have rv := vals_ints hi
  have lenV := hi.length
  -- from an abstract heap in which nothing but the script may be tracked
  have core : ∀ H : Hp, Only H → SqL K H a (ns.map V.int) → HOk P w H s₁.heap → (∀ b, H b ≠ none → b = a) → (H a ≠ none → K.lookup a = none) →
      codeAny (model P w) callerA (.call (.ref fa) ⟨[.ref a], []⟩) (fun r s' => r = .ok (.ret (.bool true)) ∧ OldK s₁.heap s'.heap ∧ s'.os = s₁.os ∧ AllBare s'.gens) s₁ := by
    intro H hO hS hok hA hK
    have base_of : ∀ {b : Addr} {o : Obj}, s₁.heap.get? b = some o → H b = none → (hidT s₁.heap H).get? b = some o := fun e n => hidT_get e n
    have noA : ∀ {b : Addr} {o : Obj} {es : Array DictEntry} {ep : Nat}, s₁.heap.get? b = some o → o.data = .dict es ep → H b = none := fun {b o es ep} e d => by
      cases q : H b with
      | none => rfl
      | some u =>
        have e' : b = a := hA b (by rw [q]; simp)
        subst e'
        rw [ha] at e; cases e
        have d' : Data.seq vs.toArray _ = Data.dict es ep := d
        cases d'
    have nsK : ∀ {b : Addr} {m : Str → Option Value}, s₁.heap.Ns b m → (hidT s₁.heap H).Ns b m := fun {b m} ⟨o, es, ep, e, d, r⟩ => ⟨o, es, ep, base_of e (noA e d), d, r⟩
    have hKb : K.In (hidT s₁.heap H) := fun b o e => base_of (KX b o e) (by
      cases q : H b with
      | none => rfl
      | some u =>
        have e' : b = a := hA b (by rw [q]; simp)
        subst e'
        rw [hK (by rw [q]; simp)] at e; cases e)
    have hM : Mod K mg (hidT s₁.heap H) := ⟨hKb, nsK hns, ⟨mb, nsK hb, hbb⟩, let ⟨mc, h1, h2⟩ := hlim; ⟨mc, nsK h1, h2⟩⟩
    have e0 : Env0 P w K mg (hidT s₁.heap H) callerA [] s₁ H := ⟨rfl, hM, fun b o e => of_hidT e, Nat.le_of_eq (hidT_size _ _), trivial, fun b hb => absurd (show b ∈ ([] : List Addr) from hb) (by simp), hok, .of_eq hg⟩
    refine codeAny_mono ((F _ hKb (nsK hns)).run callerA [] s₁ H ⟨[.ref a], []⟩ [.ref a] [.ref a] _ _ hr e0 (hbind s₁ (.ref a)) (.cons rfl .nil) (hsp H hO hS)) fun r s' h => ?_
    cases r with
    | error e => exact (hCX H e s' h).elim
    | ok fl =>
      cases fl with
      | next => exact False.elim h
      | brk => exact False.elim h
      | cont => exact False.elim h
      | ret u =>
        obtain ⟨v, H', os, bare, un, hok', r', q⟩ := h
        have q' : v = .bl true := q
        subst q'
        obtain rfl : u = Value.bool true := r'
        refine ⟨rfl, OldK.of_keep fun b o e => ?_, os, bare⟩
        cases q : H b with
        | none => exact un.keep b o e q (by intro z; exact absurd (show b ∈ ([] : List Addr) from z) (by simp)) (by simp)
        | some u =>
          rcases hO b with z | ⟨ob, xs, z⟩
          · rw [q] at z; cases z
          · have z2 := un.frzs b ob _ z
            obtain ⟨e1, _⟩ := hok b _ z
            obtain ⟨e2, _⟩ := hok' b _ z2
            rw [e] at e1; cases e1
            exact e2
  cases hk : K.lookup a with
  | some o =>
    -- the script is one of the module's own objects
    have e := KX a o hk
    rw [ha] at e
    cases e
    refine core (fun _ => none) (fun _ => .inl rfl) (.inr ⟨_, vs.toArray, _, hk, rfl, rfl, rfl, by rw [List.size_toArray, lenV]; exact hl, by simpa using rv⟩) (fun b u z => by have z' : (none : Option HO) = some u := z; cases z') (fun b z => absurd rfl z) fun z => absurd rfl z
  | none =>
    refine core (fun b => if b = a then some (.frz { cls := .type "list", data := .seq vs.toArray } (.lst (ns.map V.int))) else none) (fun b => ?_) (.inl (.inr ⟨{ cls := .type "list", data := .seq vs.toArray }, if_pos rfl⟩)) (fun b u z => ?_) (fun b z => ?_) fun _ => hk
    · by_cases hb : b = a
      · exact .inr ⟨_, _, if_pos hb⟩
      · exact .inl (if_neg hb)
    · by_cases hb : b = a
      · have z' := (if_pos hb).symm.trans z
        cases z'
        subst hb
        exact ⟨ha, by rw [List.length_map]; exact hl, vs, _, rv, ha⟩
      · have z' := (if_neg hb).symm.trans z
        cases z'
    · by_cases hb : b = a
      · exact hb
      · exact absurd (if_neg hb) z
end L2

namespace L2
open PySem PySem.Spec PyProof.Rows

noncomputable abbrev KOf {K : PySem.W.Frag} {h : Heap} (_ : K.In h) : PySem.W.Frag := K

/-- the goal that k_head leaves (case hc), from the law's promise. F gives the function object fd (K's own) once, then the promise over every base -/
theorem walk_of {l : PySem.W.OpenLaw} {n k : Nat} {q : Program} {loose : List Str} {XP : (Str → Option Value) → Heap → Prop} {YP : World → Heap → Prop} {d : DefRec} {K : Params → PySem.W.Frag} {CX : World → CXT} {sp : World → Sp} {x : Str}
    (hn : l.most = some n) (hn2 : n ≤ sizeLine) (hdf : d.params.defaults = []) (hr : Room k callerA)
    (hY : ∀ (w : World) (h : Heap), YP w h → (K w.params).In h)
    (F : ∀ (w : World) (mg : Str → Option Value) (fa : Addr) (h : Heap), (K w.params).In h → h.Ns mainGlobals mg → mg d.name = some (.ref fa) →
      ∃ fd : FuncData, (∀ (s : Shared) (u : Value), BindsTo s fd ⟨[u], []⟩ [(x, u)]) ∧
        ∀ base : Heap, (K w.params).In base → base.Ns mainGlobals mg → FnOk l.prog w (K w.params) mg base (CX w) k fa fd [x] (sp w))
    (hsp : ∀ (w : World) (H : Hp) (a : Addr) (ns : List Int), ns.length ≤ n → Only H → SqL (K w.params) H a (ns.map V.int) → sp w [.ref a] H (fun v _ => v = .bl true) fun _ _ _ => False)
    (hCX : ∀ (w : World) (H : Hp) (s : Shared) (e : Value) (s' : Shared), CX w [] H s (fun _ _ _ => False) e s' → False) :
    PySem.W.WalkO q loose XP YP l.row.toRowW d [] (fun f vs => PySem.call f vs) := by
  refine Att.attach_call hn hdf fun w s₀ s₁ mg mb fa o pm cd doc a vs ns G Y ho hd hcd hmg hobj hints hlen hg => ?_
  have KX := hY w _ Y
  obtain ⟨fd, hb, hF⟩ := F w mg fa _ KX G.T.g hmg
  exact law_call KX G.T.g G.T.b G.T.builtins G.T.nolimit hg hobj hints (Nat.le_trans hlen hn2) hr hF hb (fun H hO hS => hsp w H a ns hlen hO hS) fun H e s' => hCX w H s₁ e s'
end L2


/-! SHORT WORDS over the layer: a def of the text, its body, what a loop and a test want. -/
namespace L2
open PySem PySem.Spec PyProof.Rows

/-! ### the text by places -/
/-- the j-th statement of a class's body -/
noncomputable def inClass (s : Stmt) (j : Nat) : Stmt := match s with
  | .ClassDef _ _ _ body _ _ _ _ _ _ _ => body.getD j (.Pass ⟨0, 0, 0, 0⟩)
  | _ => .Pass ⟨0, 0, 0, 0⟩
noncomputable def defArgs (s : Stmt) : Arguments := match s with
  | .FunctionDef _ a _ _ _ _ _ _ _ _ => a
  | _ => { posonlyargs := [], args := [], vararg := none, kwonlyargs := [], kw_defaults := [], kwarg := none, defaults := [] }
noncomputable def defBody (s : Stmt) : List Stmt := match s with
  | .FunctionDef _ _ b _ _ _ _ _ _ _ => b
  | _ => []
noncomputable def defScope (s : Stmt) : Scope := match s with
  | .FunctionDef _ _ _ _ _ _ sc _ _ _ => sc
  | _ => { kind := .function, names := [], isGenerator := false, isCoroutine := false }

/-! ### no exception leaves a def -/
noncomputable abbrev CX0 : CXT := fun _ _ _ _ _ _ => False
noncomputable abbrev E0 : XK := fun _ _ _ => False

/-! ### a def (or method) of the text as it stands behind the top -/
structure Fun (K : PySem.W.Frag) (x qual : Str) (st : Stmt) (f : Addr) (fd : FuncData) : Prop where
  ex : ∃ (oc : Value) (od : Option Addr) (kV doc pm : Value) (an : Option Addr) (cdv ct : Value) (osl : Array (Option Value)),
    fd = PySem.W.fnOf x qual (defArgs st) (defBody st) (defScope st) .none kV doc pm an cdv ct ∧ K.lookup f = some ⟨oc, od, .func fd, osl⟩ ∧ PySem.W.codeIn K cdv qual = true
  kp : PySem.W.keepIn K (.ref f) = true
section
variable {P : Program} {w : World} {K : PySem.W.Frag} {mg : Str → Option Value} {base : Heap}
/-- how its arguments bind (no defaults): h is «fun _ _ _ _ _ _ us hl => match us, hl with | [_, _], _ => rfl», one _ a parameter -/
theorem Fun.binds {x qual : Str} {st : Stmt} {f : Addr} {fd : FuncData} {ps : List Str} (F : Fun K x qual st f fd)
    (h : ∀ (kV doc pm : Value) (an : Option Addr) (cdv ct : Value) (us : List Value), us.length = ps.length → bindArgs (PySem.W.fnOf x qual (defArgs st) (defBody st) (defScope st) .none kV doc pm an cdv ct) ⟨us, []⟩ = pure (ps.zip us)) : Binds K fd ps [] := by
  obtain ⟨oc, od, kV, doc, pm, an, cdv, ct, osl, rfl, lk, hcd⟩ := F.ex
  exact .all (h kV doc pm an cdv ct)
theorem fun_mk {x qual : Str} {st : Stmt} {f : Addr} {oc : Value} {od an : Option Addr} {osl : Array (Option Value)} {kV doc pm cdv ct : Value} (l : K.lookup f = some ⟨oc, od, .func (PySem.W.fnOf x qual (defArgs st) (defBody st) (defScope st) .none kV doc pm an cdv ct), osl⟩)
    (c : PySem.W.codeIn K cdv qual = true) (k : PySem.W.keepIn K (.ref f) = true) : Fun K x qual st f (PySem.W.fnOf x qual (defArgs st) (defBody st) (defScope st) .none kV doc pm an cdv ct) := ⟨⟨oc, od, kV, doc, pm, an, cdv, ct, osl, rfl, l, c⟩, k⟩
end
theorem small1000 {n : Nat} (h : n ≤ 1000) : n < sizeLine := Nat.lt_of_le_of_lt h (by decide)

/-! ### expressions in short: the name that stands in the i-th slot -/
section
variable {X : Cx}
theorem pv (i : Nat) {x : Str} {pos : Pos} (hN : X.N[i]? = some x := by rfl) (hv : Vis X.env.scope x := by first | exact Or.inl rfl | exact Or.inr (Or.inl rfl) | exact Or.inr (Or.inr rfl)) (hd : (x == ("__debug__" : Str)) = false := by decide)
    (hcd : (x == ("__classdict__" : Str)) = false := by decide) : PE X (.Name x pos) (tVar i) := pe_var hN hv hd hcd
end

/-! ### tests -/
theorem iteF {A B : Prop} (h : B) : if false = true then A else B := by
  rw [if_neg Bool.false_ne_true]
  exact h
theorem iteT {A B : Prop} (h : A) : if true = true then A else B := by
  rw [if_pos rfl]
  exact h

/-! ### heaps -/
/-- all that was tracked is as it was -/
noncomputable def Same (H H' : Hp) : Prop := ∀ b o, H b = some o → H' b = some o
theorem Same.refl (H : Hp) : Same H H := fun _ _ h => h
theorem Same.trans {H H1 H2 : Hp} (a : Same H H1) (b : Same H1 H2) : Same H H2 := fun c o h => b c o (a c o h)
theorem Same.free {H H' : Hp} (e : Same H H') {l : Addr} (h : H' l = Option.none) : H l = Option.none := by
  cases q : H l with
  | none => rfl
  | some o =>
    rw [e l o q] at h
    cases h
theorem Same.seq {K : PySem.W.Frag} {H H' : Hp} {a : Addr} {xs : List V} (e : Same H H') (h : SqL K H a xs) : SqL K H' a xs := by
  rcases h with (h | ⟨o, h⟩) | h
  · exact .inl (.inl (e _ _ h))
  · exact .inl (.inr ⟨o, e _ _ h⟩)
  · exact .inr h

end L2

set_option linter.all false
namespace PG
/-- the gcd of a list, from the left -/
noncomputable def gcdL (ns : List Int) : Nat := ns.foldl (fun g n => Nat.gcd g n.toNat) 0
theorem gcd_fold (ns : List Int) : ∀ g, ns.foldl (fun g n => Nat.gcd g n.toNat) g = Nat.gcd g (gcdL ns) := by
  induction ns with
  | nil => intro g; simp [gcdL]
  | cons n r ih =>
    intro g
    unfold gcdL
    rw [List.foldl_cons, List.foldl_cons, ih, ih (Nat.gcd 0 n.toNat), Nat.gcd_zero_left, Nat.gcd_assoc]
theorem gcdL_cons (n : Int) (ns : List Int) : gcdL (n :: ns) = Nat.gcd n.toNat (gcdL ns) := by
  show (n :: ns).foldl _ 0 = _
  rw [List.foldl_cons, gcd_fold, Nat.gcd_zero_left]
end PG

set_option linter.all false
namespace PG

/-- s is paid with k of the coins -/
noncomputable def Pay (cs : List Int) (k : Nat) (s : Int) : Prop := ∃ l : List Int, l.length = k ∧ (∀ c ∈ l, c ∈ cs) ∧ l.sum = s
noncomputable def Payable (cs : List Int) (s : Int) : Prop := ∃ k, Pay cs k s
theorem Pay.zero {cs : List Int} : Pay cs 0 0 := ⟨[], rfl, (fun _ h => by cases h), rfl⟩
theorem Pay.one {cs : List Int} {c : Int} (h : c ∈ cs) : Pay cs 1 c := ⟨[c], rfl, fun d hd => by rw [List.mem_singleton.mp hd]; exact h, by simp⟩
theorem Pay.add {cs : List Int} {k l : Nat} {s t : Int} (h : Pay cs k s) (h' : Pay cs l t) : Pay cs (k + l) (s + t) := by
  obtain ⟨a, h1, h2, h3⟩ := h
  obtain ⟨b, g1, g2, g3⟩ := h'
  refine ⟨a ++ b, by simp [h1, g1], fun c hc => ?_, by simp [h3, g3]⟩
  rcases List.mem_append.mp hc with z | z
  · exact h2 c z
  · exact g2 c z
theorem Payable.zero {cs : List Int} : Payable cs 0 := ⟨0, .zero⟩
theorem Payable.one {cs : List Int} {c : Int} (h : c ∈ cs) : Payable cs c := ⟨1, .one h⟩
theorem Payable.add {cs : List Int} {s t : Int} (h : Payable cs s) (h' : Payable cs t) : Payable cs (s + t) := by
  obtain ⟨k, h⟩ := h
  obtain ⟨l, h'⟩ := h'
  exact ⟨_, h.add h'⟩
theorem Payable.mul {cs : List Int} {c : Int} (h : Payable cs c) : ∀ x : Nat, Payable cs ((x : Int) * c)
  | 0 => by simpa using Payable.zero
  | x + 1 => by
    have := (Payable.mul h x).add h
    rw [show ((x + 1 : Nat) : Int) * c = (x : Int) * c + c by rw [Int.natCast_succ, Int.add_mul, Int.one_mul]]
    exact this
theorem Pay.pred {cs : List Int} {k : Nat} {s : Int} (h : Pay cs (k + 1) s) : ∃ c t, c ∈ cs ∧ Pay cs k t ∧ s = t + c := by
  obtain ⟨l, h1, h2, h3⟩ := h
  cases l with
  | nil => cases h1
  | cons c r => exact ⟨c, r.sum, h2 c List.mem_cons_self, ⟨r, by simpa using h1, fun d hd => h2 d (List.mem_cons_of_mem _ hd), rfl⟩, by rw [← h3, List.sum_cons, Int.add_comm]⟩

/-! ### every rest is reached -/
/-- all multiples of d are, up to multiples of m, payable -/
noncomputable def Cl (cs : List Int) (m d : Nat) : Prop := ∀ x : Nat, ∃ s, Payable cs s ∧ s % (m : Int) = ((d * x : Nat) : Int) % (m : Int)
theorem Cl.zero {cs : List Int} {m : Nat} : Cl cs m 0 := fun x => ⟨0, .zero, by simp⟩
theorem Cl.coin {cs : List Int} {m : Nat} {c : Int} (h : c ∈ cs) (hc : 0 ≤ c) : Cl cs m c.toNat := fun x => ⟨(x : Int) * c, (Payable.one h).mul x, by
  have : ((c.toNat * x : Nat) : Int) = (x : Int) * c := by
    rw [Int.natCast_mul, Int.toNat_of_nonneg hc, Int.mul_comm]
  rw [this]⟩
theorem Cl.mod {cs : List Int} {m a b : Nat} (hm : 0 < m) (ha : Cl cs m a) (hb : Cl cs m b) : Cl cs m (a % b) := fun x => by
  obtain ⟨s, hs, es⟩ := ha x
  obtain ⟨t, ht, et⟩ := hb ((m - 1) * (a / b) * x)
  refine ⟨s + t, hs.add ht, ?_⟩
  rw [Int.add_emod, es, et, ← Int.add_emod]
  have e : a * x + b * ((m - 1) * (a / b) * x) = a % b * x + m * (b * (a / b) * x) := by
    obtain ⟨n, rfl⟩ : ∃ n, m = n + 1 := ⟨m - 1, by omega⟩
    have h1 : a = a % b + b * (a / b) := (Nat.mod_add_div a b).symm
    generalize hq : a / b = q at *
    generalize hr : a % b = r at *
    subst h1
    simp only [Nat.add_sub_cancel, Nat.add_mul, Nat.mul_add, Nat.one_mul, Nat.mul_one]
    have : b * (n * q * x) = n * (b * q * x) := by
      rw [← Nat.mul_assoc, ← Nat.mul_assoc, ← Nat.mul_assoc, ← Nat.mul_assoc, Nat.mul_comm b n]
    omega
  rw [← Int.natCast_add, e, Int.natCast_add, Int.natCast_mul m, Int.add_mul_emod_self_left]
theorem Cl.gcd {cs : List Int} {m : Nat} (hm : 0 < m) : ∀ {a b : Nat}, Cl cs m a → Cl cs m b → Cl cs m (Nat.gcd a b) := by
  intro a b
  induction a, b using Nat.gcd.induction with
  | H0 n => intro _ h; rw [Nat.gcd_zero_left]; exact h
  | H1 a b ha ih =>
    intro h1 h2
    rw [Nat.gcd_rec]
    exact ih (Cl.mod hm h2 h1) h1
end PG

set_option linter.all false
namespace PG
/-- sums by rest; none where there is none yet -/
noncomputable abbrev Sums := List (Option Int)
noncomputable def relax (v : Sums) (p : Nat) (c : Int) : Sums :=
  match v[p]? with
  | some (some x) =>
    match v[((x + c) % (v.length : Int)).toNat]? with
    | some (some y) => if x + c < y then v.set ((x + c) % (v.length : Int)).toNat (some (x + c)) else v
    | some none => v.set ((x + c) % (v.length : Int)).toNat (some (x + c))
    | none => v
  | _ => v
noncomputable def run (v : Sums) (ops : List (Nat × Int)) : Sums := ops.foldl (fun v o => relax v o.1 o.2) v
theorem relax_length (v : Sums) (p : Nat) (c : Int) : (relax v p c).length = v.length := by
  unfold relax
  split
  · split
    · split <;> simp
    · simp
    · rfl
  · rfl
theorem run_length : ∀ (ops : List (Nat × Int)) (v : Sums), (run v ops).length = v.length
  | [], _ => rfl
  | o :: r, v => by
    show (run (relax v o.1 o.2) r).length = _
    rw [run_length r, relax_length]
theorem run_append (v : Sums) (a b : List (Nat × Int)) : run v (a ++ b) = run (run v a) b := by unfold run; rw [List.foldl_append]
theorem run_cons (v : Sums) (o : Nat × Int) (b : List (Nat × Int)) : run v (o :: b) = run (relax v o.1 o.2) b := rfl
/-- nowhere greater -/
noncomputable def LeS (v' v : Sums) : Prop := ∀ (r : Nat) (x : Int), v[r]? = some (some x) → ∃ y, v'[r]? = some (some y) ∧ y ≤ x
theorem LeS.refl (v : Sums) : LeS v v := fun r x h => ⟨x, h, Int.le_refl _⟩
theorem LeS.trans {a b c : Sums} (h : LeS a b) (h' : LeS b c) : LeS a c := fun r x hx => by
  obtain ⟨y, hy, l⟩ := h' r x hx
  obtain ⟨z, hz, l'⟩ := h r y hy
  exact ⟨z, hz, by omega⟩
theorem getElem?_lt {α : Type} {l : List α} {i : Nat} {x : α} (h : l[i]? = some x) : i < l.length := (List.getElem?_eq_some_iff.mp h).1
theorem relax_le (v : Sums) (p : Nat) (c : Int) : LeS (relax v p c) v := by
  intro r x hx
  unfold relax
  split
  · rename_i z hz
    split
    · rename_i y hy
      split
      · rename_i hlt
        by_cases hr : ((z + c) % (v.length : Int)).toNat = r
        · subst hr
          rw [hx] at hy
          cases hy
          exact ⟨z + c, by rw [List.getElem?_set_self (getElem?_lt hx)], by omega⟩
        · exact ⟨x, by rw [List.getElem?_set_ne hr]; exact hx, Int.le_refl _⟩
      · exact ⟨x, hx, Int.le_refl _⟩
    · rename_i hy
      by_cases hr : ((z + c) % (v.length : Int)).toNat = r
      · subst hr
        rw [hx] at hy
        cases hy
      · exact ⟨x, by rw [List.getElem?_set_ne hr]; exact hx, Int.le_refl _⟩
    · exact ⟨x, hx, Int.le_refl _⟩
  · exact ⟨x, hx, Int.le_refl _⟩
theorem run_le : ∀ (ops : List (Nat × Int)) (v : Sums), LeS (run v ops) v
  | [], v => LeS.refl v
  | o :: r, v => (run_le r _).trans (relax_le v o.1 o.2)
theorem place_lt {v : Sums} {i : Nat} {o : Option Int} (h : v[i]? = some o) (t : Int) : (t % (v.length : Int)).toNat < v.length := by
  have hl := getElem?_lt h
  have a := Int.emod_lt_of_pos t (show (0 : Int) < v.length by omega)
  have b := Int.emod_nonneg t (show (v.length : Int) ≠ 0 by omega)
  omega
theorem relax_hit {v : Sums} {p : Nat} {c x : Int} (hx : v[p]? = some (some x)) : ∃ y, (relax v p c)[((x + c) % (v.length : Int)).toNat]? = some (some y) ∧ y ≤ x + c := by
  have hp := place_lt hx (x + c)
  unfold relax
  rw [hx]
  dsimp only
  cases e : v[((x + c) % (v.length : Int)).toNat]? with
  | none => exact absurd (List.getElem?_eq_none_iff.mp e) (by omega)
  | some o =>
    cases o with
    | none =>
      dsimp only
      exact ⟨x + c, List.getElem?_set_self hp, Int.le_refl _⟩
    | some y =>
      dsimp only
      split
      · exact ⟨x + c, List.getElem?_set_self hp, Int.le_refl _⟩
      · exact ⟨y, e, by omega⟩
/-- each sum can be paid and has its place as rest -/
noncomputable def Sound (cs : List Int) (v : Sums) : Prop := ∀ (r : Nat) (x : Int), v[r]? = some (some x) → Payable cs x ∧ x % (v.length : Int) = r
theorem relax_sound {cs : List Int} {v : Sums} {c : Int} (h : Sound cs v) (hc : c ∈ cs) (p : Nat) : Sound cs (relax v p c) := by
  intro r x hx
  rw [relax_length]
  unfold relax at hx
  split at hx
  · rename_i z hz
    have hpl := place_lt hz (z + c)
    have key : ∀ {w : Option Int}, (v.set ((z + c) % (v.length : Int)).toNat (some (z + c)))[r]? = some w → w = some x → Payable cs x ∧ x % (v.length : Int) = r := fun {w} hw e => by
      subst e
      by_cases hr : ((z + c) % (v.length : Int)).toNat = r
      · subst hr
        rw [List.getElem?_set_self hpl] at hw
        cases hw
        refine ⟨(h p z hz).1.add (Payable.one hc), ?_⟩
        have b := Int.emod_nonneg (z + c) (show (v.length : Int) ≠ 0 by have := getElem?_lt hz; omega)
        omega
      · rw [List.getElem?_set_ne hr] at hw
        exact h r x hw
    split at hx
    · split at hx
      · exact key hx rfl
      · exact h r x hx
    · exact key hx rfl
    · exact h r x hx
  · exact h r x hx
theorem run_sound {cs : List Int} : ∀ (ops : List (Nat × Int)) {v : Sums}, Sound cs v → (∀ o ∈ ops, o.2 ∈ cs) → Sound cs (run v ops)
  | [], _, h, _ => h
  | o :: r, v, h, hc => run_sound r (relax_sound h (hc o List.mem_cons_self) o.1) fun q hq => hc q (List.mem_cons_of_mem _ hq)
/-- at its place a sum of s or less -/
noncomputable def Has (v : Sums) (s : Int) : Prop := ∃ y, v[(s % (v.length : Int)).toNat]? = some (some y) ∧ y ≤ s
theorem Has.le {v' v : Sums} {s : Int} (h : Has v s) (hl : LeS v' v) (e : v'.length = v.length) : Has v' s := by
  obtain ⟨y, hy, l⟩ := h
  obtain ⟨z, hz, l'⟩ := hl _ _ hy
  exact ⟨z, by rw [e]; exact hz, by omega⟩
theorem emod_add_congr {a b c m : Int} (h : a % m = b % m) : (a + c) % m = (b + c) % m := by rw [Int.add_emod, h, ← Int.add_emod]
theorem has_step {cs : List Int} {v : Sums} {s c : Int} {p : Nat} (hs : Sound cs v) (h : Has v s) (hp : (p : Int) = s % (v.length : Int)) : Has (relax v p c) (s + c) := by
  obtain ⟨y, hy, l⟩ := h
  have e : (s % (v.length : Int)).toNat = p := by omega
  rw [e] at hy
  obtain ⟨z, hz, l'⟩ := relax_hit (c := c) hy
  have hm := (hs p y hy).2
  refine ⟨z, ?_, by omega⟩
  rw [relax_length]
  have : (y + c) % (v.length : Int) = (s + c) % (v.length : Int) := emod_add_congr (by rw [hm, hp])
  rw [← this]
  exact hz
/-- among the ops: one that leads from s to s + c -/
theorem has_run {cs : List Int} {v : Sums} {s c : Int} {ops : List (Nat × Int)} (hs : Sound cs v) (hc : ∀ o ∈ ops, o.2 ∈ cs) (h : Has v s) (ho : ((s % (v.length : Int)).toNat, c) ∈ ops) (hv : 0 < v.length) : Has (run v ops) (s + c) := by
  obtain ⟨a, b, rfl⟩ := List.append_of_mem ho
  rw [run_append, run_cons]
  have h1 : Has (run v a) s := h.le (run_le a v) (run_length a v)
  have s1 : Sound cs (run v a) := run_sound a hs fun o ho => hc o (List.mem_append_left _ ho)
  have h2 : Has (relax (run v a) (s % (v.length : Int)).toNat c) (s + c) := has_step s1 h1 (by
    rw [run_length]
    have := Int.emod_nonneg s (show (v.length : Int) ≠ 0 by omega)
    omega)
  exact h2.le (run_le b _) (run_length b _)
/-- m rounds over all places and coins -/
noncomputable def rounds (v : Sums) (ops : List (Nat × Int)) : Nat → Sums
  | 0 => v
  | n + 1 => run (rounds v ops n) ops
theorem rounds_length (v : Sums) (ops : List (Nat × Int)) : ∀ n, (rounds v ops n).length = v.length
  | 0 => rfl
  | n + 1 => by
    show (run (rounds v ops n) ops).length = _
    rw [run_length, rounds_length v ops n]
theorem rounds_sound {cs : List Int} {v : Sums} {ops : List (Nat × Int)} (h : Sound cs v) (hc : ∀ o ∈ ops, o.2 ∈ cs) : ∀ n, Sound cs (rounds v ops n)
  | 0 => h
  | n + 1 => run_sound ops (rounds_sound h hc n) hc
/-- what a list of least sums is: m places, each the least payable sum of its rest -/
structure Least (cs : List Int) (h : List Int) : Prop where
  pos : 0 < h.length
  pay : ∀ (r : Nat) (x : Int), h[r]? = some x → Payable cs x
  rest : ∀ (r : Nat) (x : Int), h[r]? = some x → x % (h.length : Int) = r
  least : ∀ (r : Nat) (x : Int), h[r]? = some x → ∀ t, Payable cs t → t % (h.length : Int) = r → x ≤ t
/-- what the document asks of a house -/
structure House (h : List Int) : Prop where
  pos : 0 < h.length
  zero : h[0]? = some 0
  above : ∀ (r : Nat) (x : Int), h[r]? = some x → r ≠ 0 → (h.length : Int) < x
  rest : ∀ (r : Nat) (x : Int), h[r]? = some x → x % (h.length : Int) = r
  closed : ∀ (i j k : Nat) (x y z : Int), h[i]? = some x → h[j]? = some y → h[k]? = some z → (k : Int) = ((i : Int) + j) % (h.length : Int) → z ≤ x + y
end PG

set_option linter.all false
namespace PG
/-! ### round the rests by one coin -/
noncomputable def Dl (m c d : Nat) : Prop := ∀ x : Nat, ∃ i : Nat, (i * c) % m = (d * x) % m
theorem Dl.mod {m c a b : Nat} (hm : 0 < m) (ha : Dl m c a) (hb : Dl m c b) : Dl m c (a % b) := fun x => by
  obtain ⟨i, ei⟩ := ha x
  obtain ⟨j, ej⟩ := hb ((m - 1) * (a / b) * x)
  refine ⟨i + j, ?_⟩
  have e : a * x + b * ((m - 1) * (a / b) * x) = a % b * x + m * (b * (a / b) * x) := by
    obtain ⟨n, rfl⟩ : ∃ n, m = n + 1 := ⟨m - 1, by omega⟩
    have h1 : a = a % b + b * (a / b) := (Nat.mod_add_div a b).symm
    generalize hq : a / b = q at *
    generalize hr : a % b = r at *
    subst h1
    simp only [Nat.add_sub_cancel, Nat.add_mul, Nat.mul_add, Nat.one_mul, Nat.mul_one]
    have : b * (n * q * x) = n * (b * q * x) := by
      rw [← Nat.mul_assoc, ← Nat.mul_assoc, ← Nat.mul_assoc, ← Nat.mul_assoc, Nat.mul_comm b n]
    omega
  rw [Nat.add_mul, Nat.add_mod, ei, ej, ← Nat.add_mod, e, Nat.add_mul_mod_self_left]
theorem Dl.gcd {m c : Nat} (hm : 0 < m) : ∀ {a b : Nat}, Dl m c a → Dl m c b → Dl m c (Nat.gcd a b) := by
  intro a b
  induction a, b using Nat.gcd.induction with
  | H0 n => intro _ h; rw [Nat.gcd_zero_left]; exact h
  | H1 a b ha ih =>
    intro h1 h2
    rw [Nat.gcd_rec]
    exact ih (Dl.mod hm h2 h1) h1
theorem ring_place {m c p : Nat} (hm : 0 < m) (hp : p < m) : ∃ i, i < m / Nat.gcd m c ∧ (p % Nat.gcd m c + i * c) % m = p := by
  have hg : 0 < Nat.gcd m c := Nat.gcd_pos_of_pos_left c hm
  have hd : Dl m c (Nat.gcd m c) := Dl.gcd hm (fun x => ⟨0, by simp⟩) (fun x => ⟨x, by rw [Nat.mul_comm]⟩)
  obtain ⟨i, ei⟩ := hd (p / Nat.gcd m c)
  have hL : m = Nat.gcd m c * (m / Nat.gcd m c) := (Nat.mul_div_cancel' (Nat.gcd_dvd_left m c)).symm
  have hcg : c = Nat.gcd m c * (c / Nat.gcd m c) := (Nat.mul_div_cancel' (Nat.gcd_dvd_right m c)).symm
  have hLp : 0 < m / Nat.gcd m c := Nat.div_pos (Nat.le_of_dvd hm (Nat.gcd_dvd_left m c)) hg
  refine ⟨i % (m / Nat.gcd m c), Nat.mod_lt _ hLp, ?_⟩
  have e1 : (i % (m / Nat.gcd m c)) * c % m = (i * c) % m := by
    generalize hLL : m / Nat.gcd m c = L at *
    generalize hqq : c / Nat.gcd m c = q at *
    generalize hgg : Nat.gcd m c = g at *
    have : i * c = i % L * c + m * (q * (i / L)) := by
      have h1 : i = i % L + L * (i / L) := (Nat.mod_add_div i L).symm
      have h2 : L * (i / L) * c = m * (q * (i / L)) := by
        rw [hL, hcg]
        simp only [Nat.mul_assoc, Nat.mul_comm, Nat.mul_left_comm]
      calc i * c = (i % L + L * (i / L)) * c := by rw [← h1]
        _ = i % L * c + L * (i / L) * c := by rw [Nat.add_mul]
        _ = _ := by rw [h2]
    rw [this, Nat.add_mul_mod_self_left]
  rw [Nat.add_mod, e1, ei, ← Nat.add_mod, Nat.mod_add_div, Nat.mod_eq_of_lt hp]
/-- L times round is a multiple of m -/
theorem ring_round {m c : Nat} : (m / Nat.gcd m c * c) % m = 0 := by
  have hcg : c = Nat.gcd m c * (c / Nat.gcd m c) := (Nat.mul_div_cancel' (Nat.gcd_dvd_right m c)).symm
  have h : m / Nat.gcd m c * c = m * (c / Nat.gcd m c) := by
    have hL : m / Nat.gcd m c * Nat.gcd m c = m := Nat.div_mul_cancel (Nat.gcd_dvd_left m c)
    generalize c / Nat.gcd m c = q at *
    generalize hg : Nat.gcd m c = g at *
    calc m / g * c = m / g * (g * q) := by rw [← hcg]
      _ = m / g * g * q := by rw [Nat.mul_assoc]
      _ = m * q := by rw [hL]
  rw [h, Nat.mul_mod_right]
noncomputable def ringRow (m c st n : Nat) : List (Nat × Int) := (List.range n).map fun j => ((st + j * c) % m, (c : Int))
noncomputable def ringOps (m c g : Nat) : List (Nat × Int) := (List.range g).flatMap fun st => ringRow m c st (2 * (m / g))
theorem ringRow_succ (m c st n : Nat) : ringRow m c st (n + 1) = ringRow m c st n ++ [((st + n * c) % m, (c : Int))] := by
  unfold ringRow
  rw [List.range_succ, List.map_append]
  rfl
theorem mem_ringRow {m c st n : Nat} {o : Nat × Int} (h : o ∈ ringRow m c st n) : o.2 = (c : Int) := by
  obtain ⟨j, _, rfl⟩ := List.mem_map.mp h
  rfl
theorem ring_has {cs : List Int} {m c : Nat} (hm : 0 < m) (hc : (c : Int) ∈ cs) {v : Sums} (hv : v.length = m) (hs : Sound cs v) {s : Int} (h : Has v s) {st i : Nat} (hi : (((st + i * c) % m : Nat) : Int) = s % (m : Int)) :
    ∀ (n k : Nat), (k = 0 ∨ i + k ≤ n) → Has (run v (ringRow m c st n)) (s + (k : Int) * c)
  | 0, k, hk => by
    have : k = 0 := by omega
    subst this
    simpa [ringRow, run] using h
  | n + 1, k, hk => by
    have ih := ring_has hm hc hv hs h hi n
    rw [ringRow_succ, run_append]
    have hl : (run v (ringRow m c st n)).length = m := by rw [run_length, hv]
    have mono : ∀ {t : Int}, Has (run v (ringRow m c st n)) t → Has (run (run v (ringRow m c st n)) [((st + n * c) % m, (c : Int))]) t := fun h => h.le (run_le _ _) (run_length _ _)
    by_cases hk2 : k = 0 ∨ i + k ≤ n
    · exact mono (ih k hk2)
    · obtain ⟨j, rfl⟩ : ∃ j, k = j + 1 := ⟨k - 1, by omega⟩
      have e : i + j = n := by omega
      have h1 := ih j (.inr (by omega))
      have hs1 : Sound cs (run v (ringRow m c st n)) := run_sound _ hs fun o ho => by rw [mem_ringRow ho]; exact hc
      have h2 : Has (relax (run v (ringRow m c st n)) ((st + n * c) % m) (c : Int)) (s + (j : Int) * c + c) := has_step hs1 h1 (by
        rw [hl, ← e, Nat.add_mul, ← Nat.add_assoc]
        rw [Int.add_emod, ← hi, Int.natCast_emod, Int.natCast_emod, Int.natCast_add (st + i * c) (j * c), Int.natCast_mul j c]
        exact Int.add_emod _ _ _)
      have e3 : s + ((j + 1 : Nat) : Int) * c = s + (j : Int) * c + c := by rw [Int.natCast_succ, Int.add_mul, Int.one_mul, Int.add_assoc]
      rw [e3]
      exact h2
theorem ringOps_split {m c g st : Nat} (h : st < g) : ∃ a b, ringOps m c g = a ++ ringRow m c st (2 * (m / g)) ++ b := by
  obtain ⟨a, b, e⟩ := List.append_of_mem (List.mem_range.mpr h)
  refine ⟨a.flatMap fun st => ringRow m c st (2 * (m / g)), b.flatMap fun st => ringRow m c st (2 * (m / g)), ?_⟩
  unfold ringOps
  rw [e, List.flatMap_append, List.flatMap_cons, List.append_assoc]
theorem mem_ringOps {m c g : Nat} {o : Nat × Int} (h : o ∈ ringOps m c g) : o.2 = (c : Int) := by
  obtain ⟨st, _, h⟩ := List.mem_flatMap.mp h
  exact mem_ringRow h
theorem ringOps_has {cs : List Int} {m c : Nat} (hm : 0 < m) (hc : (c : Int) ∈ cs) {v : Sums} (hv : v.length = m) (hs : Sound cs v) {s : Int} (h : Has v s) : ∀ k : Nat, Has (run v (ringOps m c (Nat.gcd m c))) (s + (k : Int) * c) := by
  intro k
  have hlen : (run v (ringOps m c (Nat.gcd m c))).length = m := by rw [run_length, hv]
  induction k using Nat.strongRecOn with
  | ind k ih =>
    by_cases hk : k < m / Nat.gcd m c
    · have hmI : (m : Int) ≠ 0 := by omega
      have p0 := Int.emod_nonneg s hmI
      have p1 := Int.emod_lt_of_pos s (show (0 : Int) < m by omega)
      obtain ⟨i, hi, e⟩ := ring_place (m := m) (c := c) (p := (s % (m : Int)).toNat) hm (by omega)
      have hg : 0 < Nat.gcd m c := Nat.gcd_pos_of_pos_left c hm
      obtain ⟨a, b, eo⟩ := ringOps_split (m := m) (c := c) (g := Nat.gcd m c) (st := (s % (m : Int)).toNat % Nat.gcd m c) (Nat.mod_lt _ hg)
      have hops : ∀ o ∈ a, o.2 ∈ cs := fun o ho => by
        rw [mem_ringOps (m := m) (c := c) (g := Nat.gcd m c) (by rw [eo]; exact List.mem_append_left _ (List.mem_append_left _ ho))]
        exact hc
      rw [eo, run_append, run_append]
      have h1 : Has (run v a) s := h.le (run_le a v) (run_length a v)
      have s1 : Sound cs (run v a) := run_sound a hs hops
      have h2 := ring_has hm hc (v := run v a) (by rw [run_length, hv]) s1 h1 (st := (s % (m : Int)).toNat % Nat.gcd m c) (i := i) (by rw [e]; omega) (2 * (m / Nat.gcd m c)) k (.inr (by omega))
      exact h2.le (run_le _ _) (run_length _ _)
    · have hg : 0 < Nat.gcd m c := Nat.gcd_pos_of_pos_left c hm
      have hLp : 0 < m / Nat.gcd m c := Nat.div_pos (Nat.le_of_dvd hm (Nat.gcd_dvd_left m c)) hg
      obtain ⟨y, hy, l⟩ := ih (k - m / Nat.gcd m c) (by omega)
      have hr := ring_round (m := m) (c := c)
      generalize hL : m / Nat.gcd m c = L at *
      obtain ⟨j, rfl⟩ : ∃ j, k = j + L := ⟨k - L, by omega⟩
      rw [Nat.add_sub_cancel] at hy l
      have hz : 0 ≤ (L : Int) * c := Int.mul_nonneg (by omega) (by omega)
      have e2 : s + ((j + L : Nat) : Int) * c = s + (j : Int) * c + (L : Int) * c := by rw [Int.natCast_add, Int.add_mul, Int.add_assoc]
      refine ⟨y, ?_, by omega⟩
      rw [hlen] at hy ⊢
      have e3 : ((L : Int) * c) % (m : Int) = 0 := by
        rw [← Int.natCast_mul, ← Int.natCast_emod, hr]
        rfl
      have e4 : (s + ((j + L : Nat) : Int) * c) % (m : Int) = (s + (j : Int) * c) % (m : Int) := by
        rw [e2, Int.add_emod (s + (j : Int) * c), e3, Int.add_zero, Int.emod_emod_of_dvd _ (Int.dvd_refl _)]
      rw [e4]
      exact hy
/-- a paying with one more kind of coin -/
theorem Payable.split {P : List Int} {c s : Int} (h : Payable (P ++ [c]) s) : ∃ (k : Nat) (t : Int), Payable P t ∧ s = t + (k : Int) * c := by
  obtain ⟨n, l, h1, h2, rfl⟩ := h
  clear h1 n
  induction l with
  | nil => exact ⟨0, 0, .zero, by simp⟩
  | cons d r ih =>
    obtain ⟨k, t, ht, e⟩ := ih fun x hx => h2 x (List.mem_cons_of_mem _ hx)
    rcases List.mem_append.mp (h2 d List.mem_cons_self) with z | z
    · exact ⟨k, t + d, ht.add (.one z), by rw [List.sum_cons, e]; omega⟩
    · have : d = c := by simpa using z
      subst this
      exact ⟨k + 1, t, ht, by rw [List.sum_cons, e, Int.natCast_succ, Int.add_mul, Int.one_mul]; omega⟩
/-- the sums with one coin more -/
noncomputable def withCoin (v : Sums) (c : Int) : Sums := run v (ringOps v.length c.toNat (Nat.gcd v.length c.toNat))
theorem withCoin_length (v : Sums) (c : Int) : (withCoin v c).length = v.length := run_length _ _
noncomputable def AllHas (P : List Int) (v : Sums) : Prop := ∀ s, Payable P s → Has v s
theorem withCoin_ok {cs P : List Int} {v : Sums} {c : Int} (hv : 0 < v.length) (hc : c ∈ cs) (hc1 : 1 ≤ c) (hs : Sound cs v) (h : AllHas P v) : Sound cs (withCoin v c) ∧ AllHas (P ++ [c]) (withCoin v c) := by
  have hcn : ((c.toNat : Nat) : Int) = c := by omega
  refine ⟨run_sound _ hs fun o ho => by rw [mem_ringOps ho, hcn]; exact hc, fun s hp => ?_⟩
  obtain ⟨k, t, ht, rfl⟩ := hp.split
  have := ringOps_has (cs := cs) (m := v.length) (c := c.toNat) hv (by rw [hcn]; exact hc) rfl hs (h t ht) k
  rw [hcn] at this
  exact this
noncomputable def houseOf (m : Nat) (cs : List Int) : Sums := cs.foldl withCoin (some 0 :: List.replicate (m - 1) none)
theorem start_get {m : Nat} {r : Nat} {x : Int} (h : (some 0 :: List.replicate (m - 1) none : Sums)[r]? = some (some x)) : r = 0 ∧ x = 0 := by
  cases r with
  | zero =>
    rw [List.getElem?_cons_zero] at h
    cases h
    exact ⟨rfl, rfl⟩
  | succ r =>
    rw [List.getElem?_cons_succ, List.getElem?_replicate] at h
    split at h <;> cases h
theorem start_ok {m : Nat} {cs : List Int} (hm : 0 < m) : Sound cs (some 0 :: List.replicate (m - 1) none) ∧ AllHas [] (some 0 :: List.replicate (m - 1) none) ∧ (some 0 :: List.replicate (m - 1) none : Sums).length = m := by
  refine ⟨fun r x h => ?_, fun s hp => ?_, by simp; omega⟩
  · obtain ⟨rfl, rfl⟩ := start_get h
    exact ⟨.zero, by simp⟩
  · obtain ⟨n, l, _, h2, rfl⟩ := hp
    cases l with
    | nil => exact ⟨0, by simp, Int.le_refl _⟩
    | cons d r => exact absurd (h2 d List.mem_cons_self) (by simp)
end PG

set_option Elab.async false
set_option linter.all false
set_option maxRecDepth 100000
set_option maxHeartbeats 4000000
/-! comprehensions over the hand layer -/
namespace L2
open PySem PySem.Spec PyProof.Rows

/-! ### the closure of a comprehension's block -/
noncomputable def clFrom (env : Env) : List (Str × NameKind) → List (Str × Addr) → List (Str × Addr)
  | [], acc => acc
  | (n, k) :: r, acc => clFrom env r (if k == .free then (n, (env.cells.lookup n).getD 0) :: acc else acc)
noncomputable abbrev clOf (scope : Scope) (env : Env) : List (Str × Addr) := clFrom env scope.names []

theorem closureFor_cl {scope : Scope} {env : Env} (h : ∀ y ∈ scope.names, y.2 = .free → ∃ c, env.cells.lookup y.1 = some c) : closureFor scope env = pure (clOf scope env) := by
  have all : ∀ (names : List (Str × NameKind)) (acc : List (Str × Addr)), (∀ y ∈ names, y.2 = .free → ∃ c, env.cells.lookup y.1 = some c) →
      (forIn names acc fun (x : Str × NameKind) (cs : List (Str × Addr)) => (match x with
        | (name, kind) => if (kind == .free) = true then do let y ← cellOf env name; pure (ForInStep.yield ((name, y) :: cs)) else pure (ForInStep.yield cs) : Sem (ForInStep (List (Str × Addr))))) = pure (clFrom env names acc) := by
    intro names
    induction names with
    | nil => intro acc _; rfl
    | cons y r ih =>
      intro acc hy
      obtain ⟨n, k⟩ := y
      rw [List.forIn_cons]
      by_cases hk : k = .free
      · subst hk
        obtain ⟨c, hc⟩ := hy (n, .free) List.mem_cons_self rfl
        have e : cellOf env n = pure c := by unfold cellOf; rw [hc]
        show (((cellOf env n >>= fun y => pure (ForInStep.yield ((n, y) :: acc))) : Sem _) >>= _) = _
        rw [e]
        show (forIn r ((n, c) :: acc) _ : Sem _) = _
        rw [ih _ fun z hz => hy z (List.mem_cons_of_mem _ hz)]
        show _ = pure (clFrom env r ((n, (env.cells.lookup n).getD 0) :: acc))
        rw [hc]
        rfl
      · have hb : (k == NameKind.free) = false := by simpa using hk
        show ((if (k == NameKind.free) = true then _ else pure (ForInStep.yield acc) : Sem _) >>= _) = _
        rw [hb]
        show (forIn r acc _ : Sem _) = _
        rw [ih _ fun z hz => hy z (List.mem_cons_of_mem _ hz)]
        show _ = pure (clFrom env r (if (k == NameKind.free) = true then _ else acc))
        rw [hb]
        rfl
  unfold closureFor
  have := all scope.names [] h
  rw [show (pure (clOf scope env) : Sem _) = (pure (clOf scope env) >>= pure) from rfl, ← this]

theorem clFrom_sub {env : Env} : ∀ (names : List (Str × NameKind)) (acc : List (Str × Addr)), (∀ y ∈ names, y.2 = .free → ∃ c, env.cells.lookup y.1 = some c) → (∀ x c, acc.lookup x = some c → env.cells.lookup x = some c) →
    ∀ x c, (clFrom env names acc).lookup x = some c → env.cells.lookup x = some c
  | [], _, _, ha => ha
  | (n, k) :: r, acc, hy, ha => by
    refine clFrom_sub r _ (fun z hz => hy z (List.mem_cons_of_mem _ hz)) fun x c hx => ?_
    by_cases hk : k = .free
    · subst hk
      obtain ⟨d, hd⟩ := hy (n, .free) List.mem_cons_self rfl
      rw [if_pos (by rfl), List.lookup_cons] at hx
      cases e : x == n with
      | true =>
        rw [e, hd] at hx
        have : x = n := by simpa using e
        subst this
        rw [hd]; exact hx
      | false =>
        rw [e] at hx
        exact ha x c hx
    · have hb : ¬ (k == NameKind.free) = true := by simpa using hk
      rw [if_neg hb] at hx
      exact ha x c hx
theorem clFrom_mono {env : Env} : ∀ (names : List (Str × NameKind)) (acc : List (Str × Addr)) (x : Str), (∃ c, acc.lookup x = some c) → ∃ c, (clFrom env names acc).lookup x = some c
  | [], _, _, ha => ha
  | (n, k) :: r, acc, x, ha => by
    refine clFrom_mono r _ x ?_
    split
    · rw [List.lookup_cons]
      split
      · exact ⟨_, rfl⟩
      · exact ha
    · exact ha
theorem clFrom_has {env : Env} : ∀ (names : List (Str × NameKind)) (acc : List (Str × Addr)) (x : Str), (x, NameKind.free) ∈ names → ∃ c, (clFrom env names acc).lookup x = some c
  | [], _, _, h => by cases h
  | (n, k) :: r, acc, y, h => by
    rcases List.mem_cons.mp h with e | h
    · cases e
      refine clFrom_mono r _ _ ?_
      rw [if_pos (by rfl), List.lookup_cons]
      simp
    · exact clFrom_has r _ y h

theorem relabel_look {env : Env} {k : NameKind} (hk : k = .cell ∨ k = .free) : ∀ {names : List (Str × NameKind)} {x : Str}, (∀ y ∈ names, y.2 ≠ .cell) →
    (names.map fun (n, k) => if (k == NameKind.free && env.scope.kind == .function && env.kindOf n == some .cell) then (n, NameKind.cell) else (n, k)).lookup x = some k → (x, NameKind.free) ∈ names
  | [], _, _, h => by simp at h
  | (n, j) :: r, x, hn, h => by
    have ih := @relabel_look env k hk r x fun y hy => hn y (List.mem_cons_of_mem _ hy)
    have hj : j ≠ .cell := hn (n, j) List.mem_cons_self
    rw [List.map_cons] at h
    by_cases hc : (j == NameKind.free && env.scope.kind == .function && env.kindOf n == some .cell) = true
    · have hf : j = .free := by
        rw [Bool.and_eq_true, Bool.and_eq_true] at hc
        simpa using hc.1.1
      subst hf
      dsimp only at h
      rw [if_pos hc, List.lookup_cons] at h
      cases e : x == n with
      | true =>
        have : x = n := by simpa using e
        subst this
        exact List.mem_cons_self
      | false => rw [e] at h; exact List.mem_cons_of_mem _ (ih h)
    · dsimp only at h
      rw [if_neg hc, List.lookup_cons] at h
      cases e : x == n with
      | true =>
        rw [e] at h
        have : x = n := by simpa using e
        subst this
        have hjk : j = k := Option.some.inj h
        subst hjk
        rcases hk with z | z
        · exact absurd z hj
        · subst z; exact List.mem_cons_self
      | false => rw [e] at h; exact List.mem_cons_of_mem _ (ih h)

theorem relabel_free_not_local {scope : Scope} {env : Env} {x : Str} (hf : scope.names.lookup x = some .free) : (relabel scope env).names.lookup x ≠ some .local := by
  have all : ∀ (names : List (Str × NameKind)), names.lookup x = some .free →
      (names.map fun (n, k) => if (k == NameKind.free && env.scope.kind == .function && env.kindOf n == some .cell) then (n, NameKind.cell) else (n, k)).lookup x ≠ some .local := by
    intro names
    induction names with
    | nil => intro h; simp at h
    | cons y r ih =>
      obtain ⟨n, k⟩ := y
      intro h
      rw [List.lookup_cons] at h
      rw [List.map_cons]
      dsimp only
      cases e : x == n with
      | true =>
        rw [e] at h
        have hk : k = .free := Option.some.inj h
        subst hk
        split
        · rw [List.lookup_cons, e]; intro z; cases z
        · rw [List.lookup_cons, e]; intro z; cases z
      | false =>
        rw [e] at h
        split
        · rw [List.lookup_cons, e]; exact ih h
        · rw [List.lookup_cons, e]; exact ih h
  exact all _ hf

/-! ### the block's context -/
noncomputable def blkCx (X : Cx) (scope : Scope) (N' : List Str) (C : Addr) (s : Shared) (H : Hp) (fp : List Addr) (pins : List (Addr × Obj)) : Cx where
  prog := X.prog
  w := X.w
  K := X.K
  mg := X.mg
  base := X.base
  A := X.A
  N := N'
  s₀ := s
  H₀ := H
  env := compEnvC scope (clOf scope X.env) C X.env
  outer := X.stack
  stack := X.stack
  ex := fp
  fn := fun _ => false
  calm := X.calm
  pn := X.pn ++ pins
  xe := fun _ _ => False

/-- the block's slots: none a target, some i the outer slot i -/
noncomputable def blkSt (bl : List (Option Nat)) (σ : St) : St := bl.map fun o => match o with
  | none => none
  | some i => (σ[i]?).join

/-- what is looked at once, over written things -/
noncomputable def compOk (sc scope : Scope) (N N' : List Str) (bl : List (Option Nat)) : Bool :=
  (scope.kind == .function) &&
  (scope.names.all fun x => (x.2 != .local || scope.names.lookup x.1 == some .local) && x.2 != .cell && (x.2 != .free || (sc.names.lookup x.1 == some .cell || sc.names.lookup x.1 == some .free))) &&
  (bl.length == N'.length) &&
  ((List.range bl.length).all fun j => match bl[j]? with
    | some (some i) => match N'[j]? with
      | some x => N[i]? == some x && scope.names.lookup x == some .free && (sc.names.lookup x == some .cell || sc.names.lookup x == some .free)
      | none => false
    | _ => true)

structure CompOk (sc scope : Scope) (N N' : List Str) (bl : List (Option Nat)) : Prop where
  kind : scope.kind = .function
  names : ∀ x ∈ scope.names, x.2 = .local → scope.names.lookup x.1 = some .local
  nocell : ∀ x ∈ scope.names, x.2 ≠ .cell
  frees : ∀ x ∈ scope.names, x.2 = .free → sc.names.lookup x.1 = some .cell ∨ sc.names.lookup x.1 = some .free
  len : bl.length = N'.length
  src : ∀ (j i : Nat) (x : Str), bl[j]? = some (some i) → N'[j]? = some x → N[i]? = some x ∧ scope.names.lookup x = some .free ∧ (sc.names.lookup x = some .cell ∨ sc.names.lookup x = some .free)
theorem CompOk.of {sc scope : Scope} {N N' : List Str} {bl : List (Option Nat)} (h : compOk sc scope N N' bl = true) : CompOk sc scope N N' bl := by
  unfold compOk at h
  simp only [Bool.and_eq_true, List.all_eq_true, Bool.or_eq_true, bne_iff_ne, beq_iff_eq, ne_eq] at h
  obtain ⟨⟨⟨h1, h2⟩, h3⟩, h4⟩ := h
  refine ⟨h1, fun x hx e => ?_, fun x hx => (h2 x hx).1.2, fun x hx e => ?_, h3, fun j i x hb hx => ?_⟩
  · rcases (h2 x hx).1.1 with z | z
    · exact absurd e z
    · exact z
  · rcases (h2 x hx).2 with z | z
    · exact absurd e z
    · exact z
  · have hj : j < bl.length := (List.getElem?_eq_some_iff.mp hb).1
    have q := h4 j (List.mem_range.mpr hj)
    rw [hb] at q
    simp only [hx, Bool.and_eq_true, beq_iff_eq, Bool.or_eq_true] at q
    exact ⟨q.1.1, q.1.2, q.2⟩

section
variable {X : Cx} {pins : List (Addr × Obj)} {σ : St} {H : Hp} {s : Shared} {scope : Scope} {N' : List Str} {bl : List (Option Nat)} {fp : List Addr}
theorem Inv.cellsOf (I : Inv X pins σ H s) (k : CompOk X.env.scope scope X.N N' bl) : ∀ y ∈ scope.names, y.2 = .free → ∃ c, X.env.cells.lookup y.1 = some c := fun y hy e => I.ok.has y.1 (k.frees y hy e)
theorem Inv.clSub (I : Inv X pins σ H s) (k : CompOk X.env.scope scope X.N N' bl) : ∀ x c, (clOf scope X.env).lookup x = some c → X.env.cells.lookup x = some c :=
  clFrom_sub _ _ (I.cellsOf k) fun x c h => by simp at h

/-- the block begins -/
theorem Inv.block {h₁ : Heap} {tk : Nat} {m : Str → Option Value} (I : Inv X pins σ H s) (k : CompOk X.env.scope scope X.N N' bl) (hfp : ∀ b ∈ fp, FpOk X pins H b) (hex : ∀ b ∈ fp, ∃ o, s.heap.get? b = some o)
    (hns : h₁.Ns s.heap.objs.size m) (keep : ∀ b o, s.heap.get? b = some o → h₁.get? b = some o) :
    Inv (blkCx X scope N' s.heap.objs.size s H fp pins) [] (blkSt bl σ) H { s with heap := h₁, toks := tk } := by
  have sub := I.clSub k
  have stkS : ∀ b ∈ frs X.stack, b ∈ X.env.locals :: X.fs := I.stkSub
  have ok : (blkCx X scope N' s.heap.objs.size s H fp pins).Ok := by
    refine ⟨I.ok.mod, by exact k.kind, I.ok.glob, I.ok.blt, Nat.le_refl _, fun x y c h1 h2 => I.ok.inj x y c (sub x c h1) (sub y c h2), fun x hx => ?_, fun x c hx => ?_, I.ok.hd, I.ok.frames, .inl rfl, fun b hb => ⟨?_, fun x c e => ?_⟩, I.bs,
      Nat.le_trans I.ok.bsz I.sz, fun b o e hb => ?_, fun b hb z => ?_, I.stack, I.stkFree⟩
    · have hx' : (relabel scope X.env).names.lookup x = some .cell ∨ (relabel scope X.env).names.lookup x = some .free := hx
      have : (x, NameKind.free) ∈ scope.names := by
        rcases hx' with z | z
        · exact relabel_look (.inl rfl) k.nocell z
        · exact relabel_look (.inr rfl) k.nocell z
      exact clFrom_has _ _ x this
    · exact absurd (show false = true from hx) Bool.false_ne_true
    · obtain ⟨o, e⟩ := hex b hb
      exact Nat.ne_of_lt (Heap.lt_size e)
    · exact (hfp b hb).2.2.2.2.1 x c (sub x c e)
    · rcases (hfp b hb).2.2.2.1 with z | z
      · exact I.ok.noex b o e z
      · exact absurd (Nat.lt_of_lt_of_le (Heap.lt_size e) (Nat.le_trans I.ok.bsz z)) (Nat.lt_irrefl _)
    · rcases List.mem_cons.mp (stkS b z) with e | e
      · exact (hfp b hb).2.1 e
      · exact (hfp b hb).2.2.1 e
  refine ⟨ok, rfl, I.bare, Un.kept keep, ⟨m, hns, fun j x v e1 e2 e3 => ?_⟩, fun x c e => ?_, I.hok.fresh (Nat.le_refl _), fun x c e => I.freeC x c (sub x c e), fun p hp => ?_, I.hok.kept keep, ?_⟩
  · -- a name that the block takes from the frame
    have e1 : N'[j]? = some x := e1
    have e2 : (bl.map fun o => match o with
      | none => none
      | some i => (σ[i]?).join)[j]? = some (some v) := e2
    rw [List.getElem?_map] at e2
    cases hb : bl[j]? with
    | none => rw [hb] at e2; cases e2
    | some o =>
      rw [hb] at e2
      cases o with
      | none => cases e2
      | some i =>
        obtain ⟨hN, hf, hs⟩ := k.src j i x hb e1
        have e4 : (σ[i]?).join = some v := Option.some.inj e2
        have e5 : σ[i]? = some (some v) := by
          cases q : σ[i]? with
          | none => rw [q] at e4; cases e4
          | some z => rw [q] at e4; cases z with
            | none => cases e4
            | some y => cases e4; rfl
        obtain ⟨m', hn', hl'⟩ := I.loc
        obtain ⟨u, r, l⟩ := hl' i x v hN e5 (by rcases hs with z | z; exact .inr (.inl z); exact .inr (.inr z))
        refine ⟨u, r, ?_⟩
        rcases l with ⟨l, _⟩ | ⟨l, c, hc, hcell⟩
        · exfalso
          have l' : X.env.scope.names.lookup x = some .local := l
          rcases hs with z | z
          · rw [l'] at z; cases z
          · rw [l'] at z; cases z
        · obtain ⟨c', hc'⟩ := clFrom_has (env := X.env) scope.names [] x (PySem.mem_of_lookup hf)
          have : c' = c := by
            have := sub x c' hc'
            rw [hc] at this
            exact (Option.some.inj this).symm
          subst this
          obtain ⟨oc, ho, hd⟩ := hcell
          refine .inr ⟨?_, c', hc', oc, keep _ _ ho, hd⟩
          rcases e3 with z | z | z
          · exfalso
            have z' : (relabel scope X.env).names.lookup x = some .local := z
            exact absurd z' (relabel_free_not_local hf)
          · exact .inl z
          · exact .inr z
  · obtain ⟨v, o, ho, hd⟩ := I.cell x c (sub x c e)
    exact ⟨v, o, keep _ _ ho, hd⟩
  · have hp' : p ∈ X.pn ++ pins := by
      have : p ∈ (X.pn ++ pins) ++ [] := hp
      simpa using this
    obtain ⟨e, n, ne, nf, d⟩ := I.pin p hp'
    refine ⟨keep _ _ e, n, Nat.ne_of_lt (Heap.lt_size e), fun z => ?_, d⟩
    rcases List.mem_cons.mp (stkS p.1 z) with q | q
    · exact ne q
    · exact nf q
  · show (bl.map _).length = N'.length
    rw [List.length_map]
    exact k.len

/-- the block is left -/
theorem Inv.unblock {σ' : St} {H' : Hp} {s' : Shared} {C : Addr} {pins' : List (Addr × Obj)} (I : Inv X pins σ H s) (hfp : ∀ b ∈ fp, FpOk X pins H b) (J : Inv (blkCx X scope N' C s H fp pins) pins' σ' H' s') : Inv X pins σ H' s' :=
  I.call' (ch := fp) J.os J.base J.hok J.bare fun b hb => ⟨(hfp b hb).2.2.2.1, (hfp b hb).2.1, (hfp b hb).2.2.2.2.1, (hfp b hb).2.2.2.2.2⟩
end

/-! ### the loop of the block -/
section
variable {prog : Program} {w : World} {A : Around} {R : Result → Shared → Prop} {s : Shared}
theorem compLoop_gen {elt target iter : Expr} {ifs : List Expr} {scope : Scope} {pos : Pos} {it acc : Value} {env : Env} (I : Nat → Shared → Prop)
    (turn : ∀ n s, I n s → wpAny (model prog w) A (pyNext it) (fun r s₁ => match r with
      | none => R (.ok .next) s₁
      | some v => wpAny (model prog w) A (letOwnedTupleGo target it v) (fun _ s₁' => wpAny (model prog w) A (assign target env v) (fun _ s₂ =>
          wpAny (model prog w) A (forIn ifs true fun c r => if r = true then do let ok ← isTrue c env (eval c env); pure (ForInStep.yield ok) else pure (ForInStep.yield r)) (fun ok s₃ =>
            if ok = true then wpAny (model prog w) A (eval elt env) (fun x s₄ =>
              wpAny (model prog w) A (call (.builtin "list.append") [acc, x]) (fun _ s₅ => ∃ m, m < n ∧ I m s₅) (notedBy (model prog w) A env fun e s' => R (.error e) s') s₄) (notedBy (model prog w) A env fun e s' => R (.error e) s') s₃
            else ∃ m, m < n ∧ I m s₃) (notedBy (model prog w) A env fun e s' => R (.error e) s') s₂) (notedBy (model prog w) A env fun e s' => R (.error e) s') s₁') (notedBy (model prog w) A env fun e s' => R (.error e) s') s₁) (notedBy (model prog w) A env fun e s' => R (.error e) s') s)
    (n : Nat) (h : I n s) : codeAny (model prog w) A (.compLoop (.ListComp elt [⟨target, iter, ifs, 0⟩] scope pos) 0 it acc env) R s := by
  refine codeAny_loop rfl I (fun n s hI => ?_) n h
  show wpAny _ A ((compTurn (.ListComp elt [⟨target, iter, ifs, 0⟩] scope pos) 0 it acc env).onRaise (fun x => do noteFrame x env; theTreesLotGoes x)) _ _ s
  refine wpAny_noted ?_
  rw [compTurn_list]
  refine wpAny_bind (wpAny_standAt (wpAny_bind (wpAny_mono (turn n s hI) (fun r s₁ h₁ => ?_) fun _ _ h' => h')))
  cases r with
  | none => exact wpAny_pure h₁
  | some v =>
    refine wpAny_bind (wpAny_mono h₁ (fun _ s₁' h₁' => ?_) fun _ _ h' => h')
    refine wpAny_bind (wpAny_mono h₁' (fun _ s₂ h₂ => wpAny_bind (wpAny_mono h₂ (fun ok s₃ h₃ => ?_) fun _ _ h' => h')) fun _ _ h' => h')
    cases ok with
    | false => exact wpAny_pure ⟨rfl, h₃⟩
    | true =>
      exact wpAny_bind (wpAny_bind (wpAny_mono h₃ (fun x s₄ h₄ => wpAny_bind (wpAny_mono h₄ (fun _ s₅ h₅ => wpAny_pure (wpAny_pure ⟨rfl, h₅⟩)) fun _ _ h' => h')) fun _ _ h' => h'))
end

/-- the tests of a clause -/
noncomputable def PIfs (X : Cx) (ifs : List Expr) (t : TT) : Prop :=
  ∀ (pins : List (Addr × Obj)) (s : Shared) (σ : St) (H : Hp) (Q : Bool → Hp → Prop), Inv X pins σ H s → t σ H Q →
    wpAny (model X.prog X.w) X.A (forIn ifs true fun c r => if r = true then do let ok ← isTrue c X.env (eval c X.env); pure (ForInStep.yield ok) else pure (ForInStep.yield r)) (TP X pins σ Q) X.xe s
noncomputable def tTrue : TT := fun _ H Q => Q true H
theorem pif_nil {X : Cx} : PIfs X [] tTrue := fun _ _ _ H _ I h => wpAny_tests_nil ⟨H, I, h⟩

/-- a target leaves the other slots as they are -/
noncomputable def KeepG (g : TG) (σ0 : St) : Prop := ∀ (x : V) (H : Hp) (R : St → Hp → Prop), g x σ0 H R → g x σ0 H fun σ2 H2 => R σ2 H2 ∧ (∀ (j : Nat) v, σ0[j]? = some (some v) → σ2[j]? = some (some v)) ∧ σ2.length = σ0.length

/-- the reading of a comprehension: D the new list, W the invariant by the turn and a measure -/
noncomputable def CompB (bl : List (Option Nat)) (g : TG) (tc : TT) (te : TE) (σ : St) (Q : VK) (J : It) (H1 : Hp) : Prop := ∀ D, H1 D = none → ∃ W : Nat → Nat → Hp → Prop, (∃ m, W 0 m (upd H1 D (.lst []))) ∧ ∀ i m H2, W i m H2 →
  (J.stop i H2 ∧ Q (.ref D) H2) ∨ (J.go i H2 ∧ ∀ x H3, J.yld i H2 x H3 → KeepG g (blkSt bl σ) ∧ g x (blkSt bl σ) H3 fun σ2 H4 => tc σ2 H4 fun b H5 =>
    if b = true then te σ2 H5 fun v H6 => ∃ xs, H6 D = some (.lst xs) ∧ xs.length < sizeLine ∧ ∃ m', m' < m ∧ W (i + 1) m' (upd H6 D (.lst (xs ++ [v]))) else ∃ m', m' < m ∧ W (i + 1) m' H5)
noncomputable def tComp (bl : List (Option Nat)) (wi : TI) (g : TG) (tc : TT) (te : TE) : TE := fun σ H Q => wi σ H fun J H1 => CompB bl g tc te σ Q J H1

section
variable {X : Cx} {pins : List (Addr × Obj)} {σ : St} {H : Hp} {s : Shared} {scope : Scope} {N' : List Str} {bl : List (Option Nat)} {elt tg iter : Expr} {ifs : List Expr} {pos pos' : Pos} {wi : TI} {g : TG} {tc : TT} {te : TE}
theorem comp_core {use : Option (Value → Sem Unit)} {Qr : VK} {Qv : Value → Shared → Prop} (hc : X.calm = true) (k : CompOk X.env.scope scope X.N N' bl) (hi : PI X tg iter wi)
    (hg : ∀ C s H fp pins, PG (blkCx X scope N' C s H fp pins) tg g) (hf : ∀ C s H fp pins, PIfs (blkCx X scope N' C s H fp pins) ifs tc) (he : ∀ C s H fp pins, PE (blkCx X scope N' C s H fp pins) elt te)
    (hs : ∀ x, foldedSetIterable iter X.env x = pure x) (I : Inv X pins σ H s) (h : tComp bl wi g tc te σ H Qr)
    (fin : ∀ (D C : Addr) (H6 : Hp) (s6 : Shared) (m : Str → Option Value), Inv X pins σ H6 s6 → s6.heap.Ns C m → FpOk X pins H6 C → Qr (.ref D) H6 → compPost (model X.prog X.w) X.A X.xe use Qv (.ref D) C (.ok .next) s6) :
    wpAny (model X.prog X.w) X.A (comprehension (.ListComp elt [⟨tg, iter, ifs, 0⟩] scope pos) scope X.env pos' (newList []) false (eval iter X.env) use) Qv X.xe s := by
  refine wpAny_comprehension_free rfl hs (closureFor_cl (I.cellsOf k)) k.kind k.names (thn (hi pins s σ H _ I h) fun v s1 h1 => thn h1 fun itv s2 h2 => ?_)
  obtain ⟨it, fp, tn, J, H2, e, I2, T, st2, f2, rd⟩ := h2
  subst e
  have nocell := k.nocell
  refine wpAny_newObj_type (wpAny_newFunctionEnv nocell (by intro y hy; simp at hy) (fun h₁ hns₁ hsb₁ => ?_) k.kind)
  dsimp only at hns₁ hsb₁ ⊢
  have I3 := I2.lnew (ys := []) (its := []) (t' := s2.toks) .nil (Nat.zero_le _)
  obtain ⟨W, ⟨m0, w0⟩, turn⟩ := rd s2.heap.objs.size I2.fresh
  have hD : H2 s2.heap.objs.size = none := I2.fresh
  have hlt : ∀ b ∈ fp, b < s2.heap.objs.size := fun b hb => by
    obtain ⟨o, e, _⟩ := T.obj _ _ st2 b hb
    exact Heap.lt_size e
  have f3 : ∀ b ∈ fp, FpOk X pins (upd H2 s2.heap.objs.size (.lst [])) b := fun b hb => by
    refine ⟨?_, (f2 b hb).2⟩
    rw [upd_ne (Nat.ne_of_lt (hlt b hb))]
    exact (f2 b hb).1
  generalize hs3 : ({ s2 with heap := s2.heap.push { cls := .type "list", data := .seq ([] : List Value).toArray }, toks := s2.toks } : Shared) = s3 at I3
  have hh3 : s3.heap = s2.heap.push { cls := .type "list", data := .seq ([] : List Value).toArray } := by rw [← hs3]
  have k23 : ∀ b o, s2.heap.get? b = some o → s3.heap.get? b = some o := fun b o e => by rw [hh3]; exact Heap.get?_push_of_some _ e
  have keep : ∀ b o, s3.heap.get? b = some o → h₁.get? b = some o := fun b o e => by
    refine hsb₁.extBut b o ?_ ?_
    · have := Heap.lt_size e
      rw [hh3] at this
      exact Nat.ne_of_lt this
    · rw [hh3] at e
      exact Heap.get?_push_of_some _ e
  have hns : ∃ mm, h₁.Ns s3.heap.objs.size mm := ⟨_, by rw [hh3]; exact hns₁⟩
  obtain ⟨mm, hns⟩ := hns
  have hex : ∀ b ∈ fp, ∃ o, s3.heap.get? b = some o := fun b hb => by
    obtain ⟨o, e, _⟩ := T.obj _ _ st2 b hb
    exact ⟨o, k23 b o e⟩
  have st4 : tn 0 h₁ := T.keep _ _ _ st2 fun b hb o e => keep b o (k23 b o e)
  have loop : ∀ s4 : Shared, (∃ tk, s4 = { s3 with heap := h₁, toks := tk }) →
      codeAny (model X.prog X.w) X.A (.compLoop (.ListComp elt [⟨tg, iter, ifs, 0⟩] scope pos) 0 (.ref it) (.ref s2.heap.objs.size) (compEnvC scope (clOf scope X.env) s3.heap.objs.size X.env))
        (compPost (model X.prog X.w) X.A X.xe use Qv (.ref s2.heap.objs.size) s3.heap.objs.size) s4 := by
    rintro s4 ⟨tk, rfl⟩
    have I4 := I3.block (tk := tk) k f3 hex hns keep
    refine compLoop_gen (fun n s' => ∃ i σ' H', Inv (blkCx X scope N' s3.heap.objs.size s3 (upd H2 s2.heap.objs.size (.lst [])) fp pins) [] σ' H' s' ∧ (∀ (j : Nat) v, (blkSt bl σ)[j]? = some (some v) → σ'[j]? = some (some v)) ∧ tn i s'.heap ∧ (∀ b ∈ fp, H' b = none) ∧ W i n H')
      ?_ m0 ⟨0, blkSt bl σ, _, I4, fun _ _ e => e, st4, fun b hb => (f3 b hb).1, w0⟩
    rintro n s5 ⟨i, σ5, H5, I5, wk5, st5, fr5, w5⟩
    have ln : ∀ {σ' : St} {H' : Hp} {s' : Shared} {pins' : List (Addr × Obj)}, Inv (blkCx X scope N' s3.heap.objs.size s3 (upd H2 s2.heap.objs.size (.lst [])) fp pins) pins' σ' H' s' → (blkSt bl σ).length = σ'.length := fun {σ' H' s' pins'} J => by
      rw [J.len]
      show (bl.map _).length = N'.length
      rw [List.length_map]
      exact k.len
    have I5w := I5.weak (σ' := blkSt bl σ) (ln I5) wk5
    have stat : ∀ {H' : Hp}, (∀ b ∈ fp, H' b = none) → ∀ b ∈ fp, FpOk (blkCx X scope N' s3.heap.objs.size s3 (upd H2 s2.heap.objs.size (.lst [])) fp pins) [] H' b := fun {H'} hn b hb => by
      have F := I4.ok
      refine ⟨hn b hb, (F.exf b hb).1, F.exfs b hb, .inl hb, (fun x c e => (F.exf b hb).2 x c e), fun p hp => ?_⟩
      have hp' : p ∈ (X.pn ++ pins) ++ [] := hp
      rw [List.append_nil] at hp'
      exact (f2 b hb).2.2.2.2.2 p hp'
    rcases turn i n H5 w5 with ⟨stop, q⟩ | ⟨go, step⟩
    · refine thn (T.done (blkCx X scope N' s3.heap.objs.size s3 (upd H2 s2.heap.objs.size (.lst [])) fp pins) rfl rfl rfl hc i [] s5 _ H5 _ I5w (stat fr5) st5 stop) fun r s6 ⟨hr, I6⟩ => ?_
      subst hr
      obtain ⟨m6, n6, _⟩ := I6.loc
      exact fin _ s3.heap.objs.size H5 s6 m6 (Inv.unblock I3 f3 I6) n6 (I3.fpOk (Nat.le_refl _) I6.free) q
    · refine thn (T.item (blkCx X scope N' s3.heap.objs.size s3 (upd H2 s2.heap.objs.size (.lst [])) fp pins) rfl rfl rfl hc i [] s5 _ H5 _ I5w (stat fr5) st5 go) fun r s6 ⟨u, hr, h6⟩ => ?_
      subst hr
      refine thn h6 fun _ s7 ⟨x, H7, I7, r7, y7, st7, fr7⟩ => ?_
      have I7' := I7.pinned (stat fr7) (T.obj _ _ st7)
      obtain ⟨kg, sx⟩ := step x H7 y7
      have again : ∀ {σ' : St} {H' : Hp} {s' : Shared} {m' : Nat}, Inv (blkCx X scope N' s3.heap.objs.size s3 (upd H2 s2.heap.objs.size (.lst [])) fp pins) ([] ++ pinsAt fp s7.heap) σ' H' s' → (∀ (j : Nat) v, (blkSt bl σ)[j]? = some (some v) → σ'[j]? = some (some v)) → m' < n → W (i + 1) m' H' →
          ∃ m, m < n ∧ ∃ i σ' H', Inv (blkCx X scope N' s3.heap.objs.size s3 (upd H2 s2.heap.objs.size (.lst [])) fp pins) [] σ' H' s' ∧ (∀ (j : Nat) v, (blkSt bl σ)[j]? = some (some v) → σ'[j]? = some (some v)) ∧ tn i s'.heap ∧ (∀ b ∈ fp, H' b = none) ∧ W i m H' := fun {σ' H' s' m'} J wk hm w => by
        refine ⟨m', hm, i + 1, σ', H', J.unpinned, wk, T.keep _ _ _ st7 fun b hb o e => (J.pin (b, o) (List.mem_append_right _ (List.mem_append_right _ (mem_pinsAt hb e)))).1, fun b hb => ?_, w⟩
        obtain ⟨o, e, d⟩ := T.obj _ _ st7 b hb
        exact (J.pin (b, o) (List.mem_append_right _ (List.mem_append_right _ (mem_pinsAt hb e)))).2.1
      refine wpAny_mono (hg _ _ _ _ _ _ s7 _ H7 x u _ I7' r7 (kg x H7 _ sx)) (fun _ s8 ⟨σ8, H8, I8, q8, wk8, ln8⟩ => ?_) fun _ _ f => f.elim
      refine wpAny_mono (hf _ _ _ _ _ _ s8 σ8 H8 _ I8 q8) (fun b s9 ⟨H9, I9, q9⟩ => ?_) fun _ _ f => f.elim
      cases b with
      | true =>
        rw [if_pos rfl] at q9
        rw [if_pos rfl]
        refine wpAny_mono (he _ _ _ _ _ _ s9 σ8 H9 _ I9 q9) (fun y s10 ⟨v, H10, I10, r10, xs, hx, hz, m', hm, w10⟩ => ?_) fun _ _ f => f.elim
        refine wpAny_mono (mt_append (X := blkCx X scope N' s3.heap.objs.size s3 (upd H2 s2.heap.objs.size (.lst [])) fp pins) _ s10 σ8 H10 (.ref s2.heap.objs.size) [v] (.ref s2.heap.objs.size) [y] (fun _ H11 => H11 = upd H10 s2.heap.objs.size (.lst (xs ++ [v]))) I10 rfl (.cons r10 .nil)
          ⟨s2.heap.objs.size, xs, v, rfl, rfl, hx, hz, rfl⟩) (fun _ s11 ⟨_, H11, I11, _, e11⟩ => ?_) fun _ _ f => f.elim
        subst e11
        exact again I11 wk8 hm w10
      | false =>
        rw [if_neg Bool.false_ne_true] at q9
        rw [if_neg Bool.false_ne_true]
        obtain ⟨m', hm, w9⟩ := q9
        exact again I9 wk8 hm w9
  have hC : (s2.heap.push { cls := .type "list", data := .seq ([] : List Value).toArray }).objs.size = s3.heap.objs.size := by rw [hh3]
  have L := loop { s3 with heap := h₁, toks := s2.toks + ([] : List (Str × Value)).length } ⟨_, rfl⟩
  subst hs3
  exact codeAny_compStart_list L (T.self _ 0 _ _ _ st4 L)

/-- a comprehension of one clause -/
theorem pe_comp (bl : List (Option Nat)) (N' : List Str) (hc : X.calm = true) (k : compOk X.env.scope scope X.N N' bl = true) (hi : PI X tg iter wi) (hg : ∀ C s H fp pins, PG (blkCx X scope N' C s H fp pins) tg g)
    (hf : ∀ C s H fp pins, PIfs (blkCx X scope N' C s H fp pins) ifs tc) (he : ∀ C s H fp pins, PE (blkCx X scope N' C s H fp pins) elt te)
    (hs : ∀ x, foldedSetIterable iter X.env x = pure x := by intro _; rfl) : PE X (.ListComp elt [⟨tg, iter, ifs, 0⟩] scope pos) (tComp bl wi g tc te) := by
  intro pins s σ H Q I h
  rw [eval_ListComp]
  refine comp_core (use := none) hc (CompOk.of k) hi hg hf he hs I h fun D C H6 s6 m I6 n6 f6 q6 => ?_
  exact ⟨m, n6, fun h' hs' => ⟨.ref D, H6, I6.turned (t' := s6.toks) (fun b o hb e => (hs'.2 b hb).trans e) f6.1 f6.2.1 f6.2.2.2.1 f6.2.2.2.2.1 f6.2.2.2.2.2, rfl, q6⟩⟩

/-- name = a comprehension on the same row -/
theorem ps_setC {i : Nat} {y : Str} {py spos : Pos} (bl : List (Option Nat)) (N' : List Str) (hN : X.N.Nodup) (hi' : X.N[i]? = some y) (hy : X.env.kindOf y = some .local) (hc : X.calm = true) (k : compOk X.env.scope scope X.N N' bl = true) (hi : PI X tg iter wi)
    (hg : ∀ C s H fp pins, PG (blkCx X scope N' C s H fp pins) tg g) (hf : ∀ C s H fp pins, PIfs (blkCx X scope N' C s H fp pins) ifs tc) (he : ∀ C s H fp pins, PE (blkCx X scope N' C s H fp pins) elt te)
    (hsw : swapsWith (.ListComp elt [⟨tg, iter, ifs, 0⟩] scope pos) (some (.Name y py)) spos.line X.env = pure true := by rfl) (hs : ∀ x, foldedSetIterable iter X.env x = pure x := by intro _; rfl) :
    PS X (.Assign [.Name y py] (.ListComp elt [⟨tg, iter, ifs, 0⟩] scope pos) spos) (tAsg (tComp bl wi g tc te) (gName i)) := by
  intro pins s σ H D I h
  rw [exec_Assign_Name_used _ _ _ _ hsw]
  refine wpAny_bind (wpAny_standAt (wpAny_bind ?_))
  show wpAny _ X.A (do let _ ← comprehension (.ListComp elt [⟨tg, iter, ifs, 0⟩] scope pos) scope X.env _ (newList []) false (eval iter X.env) (some (assign (.Name y py) X.env))) _ _ s
  refine wpAny_bind (wpAny_mono (comp_core (use := some (assign (.Name y py) X.env)) (Qv := fun _ s' => SP X pins D .next s') hc (CompOk.of k) hi hg hf he hs I h fun Da C H6 s6 m I6 n6 f6 q6 => ?_) (fun _ s' hq => wpAny_pure (wpAny_pure hq)) fun _ _ e => e)
  show wpAny _ X.A (assign (.Name y py) X.env (.ref Da)) _ _ s6
  refine wpAny_assign_Name (store_ok2 I6 hN hi' (.inl hy) (v := .ref Da) rfl (fun s7 I7 ⟨a, sb, ha⟩ => ?_) (.inr hy))
  have hCa : C ≠ a := by
    rcases ha with z | z
    · rw [z]; exact f6.2.1
    · intro e; exact f6.2.2.2.2.1 y a z e.symm
  exact ⟨m, n6.sameBut sb hCa, fun h' hs' => ⟨_, H6, I7.turned (t' := s7.toks) (fun b o hb e => (hs'.2 b hb).trans e) f6.1 f6.2.1 f6.2.2.2.1 f6.2.2.2.2.1 f6.2.2.2.2.2, q6⟩⟩
end

/-! ### targets keep the other slots -/
theorem keepName {j : Nat} {σ0 : St} (h : σ0[j]? = some none) : KeepG (gName j) σ0 := fun x H R r => by
  refine ⟨r, fun i v e => ?_, by simp⟩
  have hne : j ≠ i := by
    intro z; subst z; rw [h] at e; cases e
  rw [List.getElem?_set_ne hne]
  exact e
theorem keepTup2 {K : PySem.W.Frag} {i j : Nat} {σ0 : St} (hi : σ0[i]? = some none) (hj : σ0[j]? = some none) : KeepG (gTup K 2 (gCons (gName i) (gCons (gName j) gNil))) σ0 := fun x H R r => by
  obtain ⟨a, xs, e1, hq, hl, v, r1, e2, w, r2, e3, e4, q⟩ := r
  refine ⟨a, xs, e1, hq, hl, v, r1, e2, w, r2, e3, e4, q, fun k z e => ?_, by simp⟩
  have h1 : i ≠ k := by intro z; subst z; rw [hi] at e; cases e
  have h2 : j ≠ k := by intro z; subst z; rw [hj] at e; cases e
  rw [List.getElem?_set_ne h2, List.getElem?_set_ne h1]
  exact e

/-! ### what a source yields, over a heap that grows -/
structure JP (J : It) (H : Hp) (n : Nat) (P : Nat → V → Hp → Prop) : Prop where
  go : ∀ i H', i < n → Same H H' → J.go i H'
  yld : ∀ i H' x H'', i < n → Same H H' → J.yld i H' x H'' → Same H' H'' ∧ P i x H''
  stop : ∀ H', Same H H' → J.stop n H'
theorem jp_list {K : PySem.W.Frag} {H : Hp} {a : Addr} {xs : List V} (h : SqL K H a xs) : JP (Itl K a) H xs.length (fun i x _ => xs[i]? = some x) where
  go := fun i H' hi s => ⟨xs, xs[i], s.seq h, by simp [hi]⟩
  yld := fun i H' x H'' hi s y => ⟨by rw [y.1]; exact Same.refl _, y.2 xs (s.seq h)⟩
  stop := fun H' s => ⟨xs, s.seq h, Nat.le_refl _⟩
theorem jp_range {lo : Int} {n : Nat} {H : Hp} : JP (Itr lo n) H n (fun i x _ => x = .int (lo + i)) where
  go := fun i H' hi s => hi
  yld := fun i H' x H'' hi s y => ⟨by rw [y.1]; exact Same.refl _, y.2⟩
  stop := fun H' s => Nat.le_refl _

theorem Same.put {H H' : Hp} {D : Addr} {o : HO} (s : Same H H') (h : H D = none) : Same H (upd H' D o) := fun b u e => by
  rw [upd_ne (ne_of_none e h)]
  exact s b u e
theorem Same.new {H : Hp} {D : Addr} {o : HO} (h : H D = none) : Same H (upd H D o) := (Same.refl H).put h

theorem range_filter_succ {f : Nat → V} {p : Nat → Bool} (i : Nat) : ((List.range (i + 1)).filter p).map f = ((List.range i).filter p).map f ++ (if p i = true then [f i] else []) := by
  rw [List.range_succ, List.filter_append, List.map_append]
  cases h : p i <;> simp [h]
theorem range_filter_len {f : Nat → V} {p : Nat → Bool} (i : Nat) : (((List.range i).filter p).map f).length ≤ i := by
  rw [List.length_map]
  exact Nat.le_trans (List.length_filter_le _ _) (by simp)

/-- a comprehension by its items -/
theorem comp_by {J : It} {H1 : Hp} {n : Nat} {P : Nat → V → Hp → Prop} {bl : List (Option Nat)} {σ : St} {g : TG} {tc : TT} {te : TE} {Q : VK} (f : Nat → V) (p : Nat → Bool) (jp : JP J H1 n P) (hn : n < sizeLine) (kg : KeepG g (blkSt bl σ))
    (step : ∀ i x H' (R : VK) (Z : Hp → Prop), i < n → Same H1 H' → P i x H' → (p i = true → ∀ H6, Same H' H6 → R (f i) H6) → (p i = false → ∀ H6, Same H' H6 → Z H6) →
      g x (blkSt bl σ) H' fun σ2 H4 => tc σ2 H4 fun b H5 => if b = true then te σ2 H5 R else Z H5)
    (fin : ∀ D H', H1 D = none → Same H1 H' → H' D = some (.lst (((List.range n).filter p).map f)) → Q (.ref D) H') :
    CompB bl g tc te σ Q J H1 := by
  intro D hD
  refine ⟨fun i m H2 => m = n - i ∧ i ≤ n ∧ Same H1 H2 ∧ H2 D = some (.lst (((List.range i).filter p).map f)), ⟨n, rfl, Nat.zero_le _, Same.new hD, upd_same⟩, ?_⟩
  rintro i m H2 ⟨rfl, hi, sm, hx⟩
  by_cases hlt : i < n
  · refine .inr ⟨jp.go i H2 hlt sm, fun x H3 y => ⟨kg, ?_⟩⟩
    obtain ⟨s3, p3⟩ := jp.yld i H2 x H3 hlt sm y
    have hx3 := s3 D _ hx
    refine step i x H3 _ _ hlt (sm.trans s3) p3 (fun hp H6 s6 => ?_) (fun hp H6 s6 => ?_)
    · refine ⟨_, s6 D _ hx3, Nat.lt_of_le_of_lt (range_filter_len i) (by omega), n - (i + 1), by omega, rfl, hlt, ((sm.trans s3).trans s6).put hD, ?_⟩
      rw [upd_same, range_filter_succ, hp, if_pos rfl]
    · refine ⟨n - (i + 1), by omega, rfl, hlt, (sm.trans s3).trans s6, ?_⟩
      rw [s6 D _ hx3, range_filter_succ, hp, if_neg Bool.false_ne_true, List.append_nil]
  · have e : i = n := by omega
    subst e
    exact .inl ⟨jp.stop H2 sm, fin D H2 hD sm hx⟩
end L2

set_option Elab.async false
set_option linter.all false
set_option maxRecDepth 100000
set_option maxHeartbeats 4000000
namespace L2
open PySem PySem.Spec PyProof.Rows

/-! ### built-in calls: all, set, len of a set, isinstance -/
section
variable {X : Cx}
theorem vals_bl : ∀ {bs : List Bool} {us : List Value}, Vals (bs.map V.bl) us → us = bs.map Value.bool
  | [], _, .nil => rfl
  | b :: bs, _, .cons r t => by
    rw [List.map_cons, ← vals_bl t]
    cases r
    rfl
theorem call_all (hc : X.calm = true) : CallR X (.builtin "all") (fun xs H Q => ∃ (p : Addr) (bs : List Bool), xs = [.ref p] ∧ SqL X.K H p (bs.map V.bl) ∧ Q (.bl (bs.all id)) H) := by
  intro pins s σ H xs us Q I r h
  obtain ⟨p, bs, rfl, hq, q⟩ := h
  obtain ⟨u, rfl, rx⟩ := vals1 r
  cases rx
  obtain ⟨its, r', pl, hz⟩ := I.list hq
  have hits := vals_bl r'
  subst hits
  have hl := pl.isList
  have hlt : p < s.heap.objs.size := by
    obtain ⟨o, ho, _⟩ := hl
    exact Heap.lt_size ho
  refine call_all_walk (wpAny_pyIter_list hl ?_)
  have hh : X.A.in1.handled = none := by rw [show X.A.in1.handled = X.A.handled by simp]; exact I.ok.hd hc
  refine ⟨s.heap.objs.size, _, _, _, _, _, fun i => bs.getD i true, rfl, Walks.list (prog := X.prog) (w := X.w) hh s.heap.objs.size p (Nat.ne_of_lt hlt) (bs.map Value.bool).toArray, ⟨⟨_, Heap.get?_push_size _ rfl, rfl, rfl⟩, hl.push _⟩, ?_, fun h' tk hk => ?_⟩
  · intro i v s' Q' E' hP hQ'
    have hP' : (bs.map Value.bool).toArray[i]? = some v := hP
    rw [List.getElem?_toArray, List.getElem?_map] at hP'
    cases e : bs[i]? with
    | none => rw [e] at hP'; cases hP'
    | some b =>
      rw [e] at hP'
      cases hP'
      have : bs.getD i true = b := by rw [List.getD_eq_getElem?_getD, e]; rfl
      have hQ2 : Q' (bs.getD i true) s' := hQ'
      rw [this] at hQ2
      exact wpAny_truthy_bool hQ2
  · have e : (List.range (bs.map Value.bool).toArray.size).all (fun i => bs.getD i true) = bs.all id := by
      have hs : (bs.map Value.bool).toArray.size = bs.length := by simp
      rw [hs]
      have : ∀ (l : List Bool), (List.range l.length).all (fun i => l.getD i true) = l.all id := by
        intro l
        rw [Bool.eq_iff_iff]
        simp only [List.all_eq_true, List.mem_range, id]
        constructor
        · intro h x hx
          obtain ⟨i, hi, rfl⟩ := List.mem_iff_getElem.mp hx
          have := h i hi
          rw [List.getD_eq_getElem?_getD, List.getElem?_eq_getElem hi] at this
          exact this
        · intro h i hi
          rw [List.getD_eq_getElem?_getD, List.getElem?_eq_getElem hi]
          exact h _ (List.getElem_mem hi)
      exact this bs
    rw [e]
    refine ⟨.bl _, H, ?_, rfl, q⟩
    exact I.kept (t' := tk) fun b o eb => hk b o (by simp only [List.mem_singleton]; exact Nat.ne_of_lt (Heap.lt_size eb)) (Heap.get?_push_of_some _ eb)

theorem call_set_of (hc : X.calm = true) : CallR X (.type "set") (fun xs H Q => ∃ (p : Addr) (ns : List Int), xs = [.ref p] ∧ SqL X.K H p (ns.map V.int) ∧ ns.length ≤ 1000 ∧
    ∀ q, H q = none → Q (.ref q) (upd H q (.set (fun k => (ns.foldl step_dedup []).any (· == k)) (ns.foldl step_dedup []).length))) := by
  intro pins s σ H xs us Q I r h
  obtain ⟨p, ns, rfl, hq, hn, q⟩ := h
  obtain ⟨u, rfl, rx⟩ := vals1 r
  cases rx
  obtain ⟨its, r', pl, hz⟩ := I.list hq
  have hi := intsAre_of r'
  have hlen : its.length = ns.length := by rw [← r'.length, List.length_map]
  have hfm : firstMet (fun i => ns.getD i 0) its.toArray.size = ns.foldl step_dedup [] := by
    unfold firstMet
    congr 1
    rw [List.size_toArray, hlen]
    apply List.ext_getElem
    · simp
    · intro i h1 h2
      simp [List.getD_eq_getElem?_getD]
      rw [List.getElem?_eq_getElem h2]
      rfl
  refine call_set_list (items := its.toArray) (ns := ns) (I.ok.hd hc) pl.isList (by simpa using hi) (by rw [List.size_toArray, hlen]; unfold scanBound; omega) fun h' tk hS hk => ?_
  rw [hfm] at hS
  exact ⟨.ref s.heap.objs.size, _, I.laid (o := .set _ _) (t' := tk) (fun b o e => hk b o (Heap.lt_size e) e) (Nat.le_refl _) hS, rfl, q _ I.fresh⟩

theorem call_len_setV : CallR X (.builtin "len") (fun xs H Q => ∃ p S n, xs = [.ref p] ∧ H p = some (.set S n) ∧ Q (.int n) H) := by
  intro pins s σ H xs us Q I r h
  obtain ⟨p, S, n, rfl, hp, q⟩ := h
  obtain ⟨u, rfl, rx⟩ := vals1 r
  cases rx
  obtain ⟨o, es, ep, t, ho, hex, hd, _, _, hb, hf, hn⟩ := (show s.heap.SetOf (intKind X.prog X.w) p S n from I.hok p _ hp)
  subst hn
  exact call_len_set ho hex hd hf (by unfold scanBound at hb; omega) ⟨.int _, H, I.tok _, ⟨_, rfl⟩, q⟩

/-- isinstance(x, T), T a built-in class -/
theorem call_isi : CallR X (.builtin "isinstance") (fun xs H Q => ∃ x n t b, xs = [x, .ty n] ∧ TyOf X.K H x t ∧ PySem.W.kitOne X.K t (.type n) = some b ∧ Q (.bl b) H) := by
  intro pins s σ H xs us Q I r h
  obtain ⟨x, n, t, b, rfl, ty, e, q⟩ := h
  obtain ⟨u, v, rfl, rx, ry⟩ := vals2 r
  cases ry
  exact isinst_ok I rx ty e fun tk => ⟨.bl b, H, I.tok _, rfl, q⟩

/-! ### == and != of lists -/
inductive EqV (K : PySem.W.Frag) (H : Hp) : Nat → V → V → Bool → Prop where
  | flat {n : Nat} {x y : V} (fx : flatV x = true) (fy : flatV y = true) : EqV K H n x y (eqV x y)
  | same {n : Nat} (a : Addr) : EqV K H n (.ref a) (.ref a) true
  | lists {n : Nat} {a b : Addr} {xs ys : List V} {e : Nat → Bool} (ha : SqL K H a xs) (hb : SqL K H b ys) (hne : a ≠ b) (hl : xs.length = ys.length) (he : ∀ (j : Nat) x y, xs[j]? = some x → ys[j]? = some y → EqV K H n x y (e j)) :
      EqV K H (n + 1) (.ref a) (.ref b) ((List.range xs.length).all e)
  | lengths {n : Nat} {a b : Addr} {xs ys : List V} (ha : SqL K H a xs) (hb : SqL K H b ys) (hne : a ≠ b) (hl : xs.length ≠ ys.length) : EqV K H (n + 1) (.ref a) (.ref b) false

theorem EqV.at {pins : List (Addr × Obj)} {σ : St} {H : Hp} {s : Shared} (I : Inv X pins σ H s) {n : Nat} {x y : V} {b : Bool} (h : EqV X.K H n x y b) : ∀ {A : Around} {u v : Value}, A.units + n < cLine → RelV x u → RelV y v → SeqAt.EqAt A s u v b := by
  induction h with
  | flat fx fy => intro A u v _ rx ry; exact eqAt_V rx ry fx fy
  | same a => intro A u v _ rx ry; cases rx; cases ry; exact SeqAt.EqAt.same _
  | @lists n a b xs ys e ha hb hne hl he ih =>
    intro A u v hu rx ry
    cases rx; cases ry
    obtain ⟨i1, r1, p1, _⟩ := I.list ha
    obtain ⟨i2, r2, p2, _⟩ := I.list hb
    have l1 := r1.length
    have l2 := r2.length
    have q : (List.range xs.length).all e = (List.range i1.toArray.size).all e := by rw [List.size_toArray, l1]
    rw [q]
    refine SeqAt.EqAt.of_refs hne (SeqAt.RcAt.lists p1.isList p2.isList (by rw [List.size_toArray, List.size_toArray, ← l1, ← l2, hl]) (by omega) fun j h1 h2 => ?_)
    have hj1 : j < xs.length := by rw [l1]; simpa using h1
    have hj2 : j < ys.length := by rw [l2]; simpa using h2
    obtain ⟨u1, e1, q1⟩ := r1.get (List.getElem?_eq_getElem hj1)
    obtain ⟨u2, e2, q2⟩ := r2.get (List.getElem?_eq_getElem hj2)
    have g1 : i1.toArray[j] = u1 := by
      have : i1[j]? = some (i1.toArray[j]) := by simp
      rw [this] at e1; exact Option.some.inj e1
    have g2 : i2.toArray[j] = u2 := by
      have : i2[j]? = some (i2.toArray[j]) := by simp
      rw [this] at e2; exact Option.some.inj e2
    rw [g1, g2]
    exact ih j _ _ (List.getElem?_eq_getElem hj1) (List.getElem?_eq_getElem hj2) (by show A.units + 1 + n < cLine; omega) q1 q2
  | @lengths n a b xs ys ha hb hne hl =>
    intro A u v hu rx ry
    cases rx; cases ry
    obtain ⟨i1, r1, p1, _⟩ := I.list ha
    obtain ⟨i2, r2, p2, _⟩ := I.list hb
    have l1 := r1.length
    have l2 := r2.length
    exact SeqAt.EqAt.of_refs hne (SeqAt.RcAt.lists_lengths p1.isList p2.isList (by rw [List.size_toArray, List.size_toArray, ← l1, ← l2]; simpa using hl) (by omega))

/-- == of two lists, item by item -/
noncomputable def rEqL (K : PySem.W.Frag) (neg : Bool) : R2 := fun x y H Q => ∃ a b xs ys, x = .ref a ∧ y = .ref b ∧ SqL K H a xs ∧ SqL K H b ys ∧
  ((xs.length = ys.length ∧ ∃ e : Nat → Bool, (∀ (j : Nat) x y, xs[j]? = some x → ys[j]? = some y → EqV K H 3 x y (e j)) ∧ Q (.bl (if neg then !(List.range xs.length).all e else (List.range xs.length).all e)) H) ∨ (xs.length ≠ ys.length ∧ Q (.bl neg) H))
theorem op_eqL (hu : X.A.units + 8 < cLine) : OpR X (compareOp .Eq) (rEqL X.K false) := by
  intro pins s σ H x y v u Q I rx ry h
  obtain ⟨a, b, xs, ys, rfl, rfl, ha, hb, h⟩ := h
  cases rx; cases ry
  obtain ⟨i1, r1, p1, _⟩ := I.list ha
  obtain ⟨i2, r2, p2, _⟩ := I.list hb
  have l1 := r1.length
  have l2 := r2.length
  rcases h with ⟨hl, e, he, q⟩ | ⟨hl, q⟩
  · refine SeqAt.eq_listAt (e := e) p1.isList p2.isList (by rw [List.size_toArray, List.size_toArray, ← l1, ← l2, hl]) (by omega) (fun j h1 h2 => ?_) ⟨.bl _, H, I, rfl, ?_⟩
    · have hj1 : j < xs.length := by rw [l1]; simpa using h1
      have hj2 : j < ys.length := by rw [l2]; simpa using h2
      obtain ⟨u1, e1, q1⟩ := r1.get (List.getElem?_eq_getElem hj1)
      obtain ⟨u2, e2, q2⟩ := r2.get (List.getElem?_eq_getElem hj2)
      have g1 : i1.toArray[j] = u1 := by
        have : i1[j]? = some (i1.toArray[j]) := by simp
        rw [this] at e1; exact Option.some.inj e1
      have g2 : i2.toArray[j] = u2 := by
        have : i2[j]? = some (i2.toArray[j]) := by simp
        rw [this] at e2; exact Option.some.inj e2
      rw [g1, g2]
      exact (he j _ _ (List.getElem?_eq_getElem hj1) (List.getElem?_eq_getElem hj2)).at I (by show X.A.units + 1 + 3 < cLine; omega) q1 q2
    · rw [List.size_toArray, ← l1]
      exact q
  · exact SeqAt.eq_list_lengthsAt p1.isList p2.isList (by rw [List.size_toArray, List.size_toArray, ← l1, ← l2]; simpa using hl) (by omega) ⟨.bl _, H, I, rfl, q⟩
theorem op_neL (hu : X.A.units + 8 < cLine) : OpR X (compareOp .NotEq) (rEqL X.K true) := by
  intro pins s σ H x y v u Q I rx ry h
  obtain ⟨a, b, xs, ys, rfl, rfl, ha, hb, h⟩ := h
  cases rx; cases ry
  obtain ⟨i1, r1, p1, _⟩ := I.list ha
  obtain ⟨i2, r2, p2, _⟩ := I.list hb
  have l1 := r1.length
  have l2 := r2.length
  rcases h with ⟨hl, e, he, q⟩ | ⟨hl, q⟩
  · refine SeqAt.RcNeAt.lists (e := e) p1.isList p2.isList (by rw [List.size_toArray, List.size_toArray, ← l1, ← l2, hl]) (by omega) (fun j h1 h2 => ?_) X.prog X.w X.xe _ ⟨.bl _, H, I, rfl, ?_⟩
    · have hj1 : j < xs.length := by rw [l1]; simpa using h1
      have hj2 : j < ys.length := by rw [l2]; simpa using h2
      obtain ⟨u1, e1, q1⟩ := r1.get (List.getElem?_eq_getElem hj1)
      obtain ⟨u2, e2, q2⟩ := r2.get (List.getElem?_eq_getElem hj2)
      have g1 : i1.toArray[j] = u1 := by
        have : i1[j]? = some (i1.toArray[j]) := by simp
        rw [this] at e1; exact Option.some.inj e1
      have g2 : i2.toArray[j] = u2 := by
        have : i2[j]? = some (i2.toArray[j]) := by simp
        rw [this] at e2; exact Option.some.inj e2
      rw [g1, g2]
      exact (he j _ _ (List.getElem?_eq_getElem hj1) (List.getElem?_eq_getElem hj2)).at I (by show X.A.units + 1 + 3 < cLine; omega) q1 q2
    · rw [List.size_toArray, ← l1]
      exact q
  · exact SeqAt.RcNeAt.lists_lengths p1.isList p2.isList (by rw [List.size_toArray, List.size_toArray, ← l1, ← l2]; simpa using hl) (by omega) X.prog X.w X.xe _ ⟨.bl _, H, I, rfl, q⟩
end

/-- two lists of ints -/
theorem eqInts {K : PySem.W.Frag} {H : Hp} {neg : Bool} {Q : VK} {a b : Addr} {ns ms : List Int} (ha : SqL K H a (ns.map V.int)) (hb : SqL K H b (ms.map V.int)) (q : Q (.bl (if neg then !decide (ns = ms) else decide (ns = ms))) H) :
    rEqL K neg (.ref a) (.ref b) H Q := by
  refine ⟨a, b, _, _, rfl, rfl, ha, hb, ?_⟩
  by_cases hl : ns.length = ms.length
  · refine .inl ⟨by simp [hl], fun j => ns[j]? == ms[j]?, fun j x y hx hy => ?_, ?_⟩
    · rw [List.getElem?_map] at hx hy
      cases e1 : ns[j]? with
      | none => rw [e1] at hx; cases hx
      | some n =>
        cases e2 : ms[j]? with
        | none => rw [e2] at hy; cases hy
        | some m =>
          rw [e1] at hx
          rw [e2] at hy
          cases hx; cases hy
          have : (some n == some m) = eqV (.int n) (.int m) := by
            show (n == m) = (n == m)
            rfl
          show EqV K H 3 (V.int n) (V.int m) (ns[j]? == ms[j]?)
          rw [e1, e2, this]
          exact .flat rfl rfl
    · have : (List.range (ns.map V.int).length).all (fun j => ns[j]? == ms[j]?) = decide (ns = ms) := by
        rw [Bool.eq_iff_iff]
        simp only [List.all_eq_true, List.mem_range, List.length_map, beq_iff_eq, decide_eq_true_eq]
        constructor
        · intro h
          apply List.ext_getElem? 
          intro i
          by_cases hi : i < ns.length
          · exact h i hi
          · rw [List.getElem?_eq_none (by omega), List.getElem?_eq_none (by omega)]
        · intro h i _
          rw [h]
      rw [this]
      exact q
  · refine .inr ⟨by simpa using hl, ?_⟩
    have : decide (ns = ms) = false := by
      simp only [decide_eq_false_iff_not]
      intro e
      exact hl (by rw [e])
    rw [this] at q
    cases neg
    · exact q
    · exact q

/-! ### how many unlike ones -/
theorem dd_le : ∀ (ns acc : List Int), (ns.foldl step_dedup acc).length ≤ acc.length + ns.length
  | [], acc => by simp
  | n :: r, acc => by
    rw [List.foldl_cons]
    have := dd_le r (step_dedup acc n)
    have h2 := step_length acc n
    split at h2 <;> simp only [List.length_cons] <;> omega
theorem dd_eq : ∀ (ns acc : List Int), (ns.foldl step_dedup acc).length = acc.length + ns.length ↔ ns.Nodup ∧ ∀ n ∈ ns, n ∉ acc
  | [], acc => by simp
  | n :: r, acc => by
    rw [List.foldl_cons]
    have hle := dd_le r (step_dedup acc n)
    have ih := dd_eq r (step_dedup acc n)
    have h2 := step_length acc n
    by_cases hm : acc.any (· == n) = true
    · rw [if_pos hm] at h2
      have hn : n ∈ acc := by
        obtain ⟨x, hx, e⟩ := List.any_eq_true.mp hm
        have : x = n := by simpa using e
        rw [← this]; exact hx
      constructor
      · intro h
        simp only [List.length_cons] at h
        omega
      · intro h
        exact absurd hn (h.2 n List.mem_cons_self)
    · have hs : step_dedup acc n = acc ++ [n] := by unfold step_dedup; rw [if_neg hm]
      have hn : n ∉ acc := fun h => hm (List.any_eq_true.mpr ⟨n, h, by simp⟩)
      rw [hs] at ih ⊢
      rw [List.length_append, List.length_singleton] at ih
      have e : acc.length + (n :: r).length = acc.length + 1 + r.length := by simp only [List.length_cons]; omega
      rw [e, ih]
      constructor
      · intro ⟨h1, h2⟩
        refine ⟨List.nodup_cons.mpr ⟨fun h => h2 n h (by simp), h1⟩, fun m hm' => ?_⟩
        rcases List.mem_cons.mp hm' with z | z
        · rw [z]; exact hn
        · exact fun q => h2 m z (List.mem_append_left _ q)
      · intro ⟨h1, h2⟩
        obtain ⟨h3, h4⟩ := List.nodup_cons.mp h1
        refine ⟨h4, fun m hm' q => ?_⟩
        rcases List.mem_append.mp q with z | z
        · exact h2 m (List.mem_cons_of_mem _ hm') z
        · have : m = n := by simpa using z
          rw [this] at hm'
          exact h3 hm'
theorem dd_nodup {ns : List Int} (h : ns.Nodup) : (ns.foldl step_dedup []).length = ns.length := by
  have := (dd_eq ns []).mpr ⟨h, fun n _ q => by cases q⟩
  simpa using this
end L2

set_option Elab.async false
set_option linter.all false
set_option maxRecDepth 100000
set_option maxHeartbeats 4000000
namespace PG
open PySem L2 PyProof.Rows

/-- a def that keeps its promise -/
structure G (P : Program) (w : World) (K : PySem.W.Frag) (mg : Str → Option Value) (base : Heap) (CX : CXT) (x : Str) (ps : List Str) (k : Nat) (sp : Sp) : Prop where
  ex : ∃ f fd, mg x = some (.ref f) ∧ PySem.W.keepIn K (.ref f) = true ∧ Binds K fd ps [] ∧ FnOk P w K mg base CX k f fd ps sp
theorem pe_g {X : Cx} {CX : CXT} {x : Str} {ps : List Str} {k : Nat} {sp : Sp} {E : XK} {e : Expr} {es : List Expr} {t : TA} {p pos : Pos} (g : G X.prog X.w X.K X.mg X.base CX x ps k sp) (hr : Room k X.A) (hx : Passes CX X E) (ha : PA X (e :: es) t) (hg : Gl X x := by rfl)
    (hdb : (x == ("__debug__" : Str)) = false := by decide) (he : starEach (e :: es) X.env = (false, eval e X.env) :: starEach es X.env := by rfl) (hpl : (backTo pos (starEach es X.env)).any (·.1) = false := by rfl) :
    PE X (.Call (.Name x p) (e :: es) [] pos) (tCall sp [] E t) := by
  obtain ⟨f, fd, hm, hk, hb, F⟩ := g.ex
  exact pe_call F hr hg hm hk hb .nil hx ha hdb he hpl

theorem ifF {c : Bool} {A B : Prop} (hc : c = false) (h : B) : if c = true then A else B := by
  rw [hc, if_neg Bool.false_ne_true]
  exact h
theorem ifT {c : Bool} {A B : Prop} (hc : c = true) (h : A) : if c = true then A else B := by
  rw [hc, if_pos rfl]
  exact h
theorem ifB {c : Bool} {A B : Prop} (h1 : c = true → A) (h2 : c = false → B) : if c = true then A else B := by
  cases c with
  | true => exact ifT rfl (h1 rfl)
  | false => exact ifF rfl (h2 rfl)

theorem tT {j : Nat} {x : V} {te : TE} {R : VK} {Z : Hp → Prop} {σ : L2.St} {H : Hp} (h : te (σ.set j (some x)) H R) : gName j x σ H fun σ2 H4 => tTrue σ2 H4 fun b H5 => if b = true then te σ2 H5 R else Z H5 := by
  show if true = true then te (σ.set j (some x)) H R else Z H
  rw [if_pos rfl]
  exact h
theorem rangeT {α : Type} (n : Nat) (f : Nat → α) : ((List.range n).filter fun _ => true).map f = (List.range n).map f := by rw [List.filter_eq_self.mpr (by simp)]
theorem _root_.L2.Room.u8 {k : Nat} {A : Around} (r : Room k A) : A.units + 8 < cLine := by have := r.un; omega
theorem int_at {ns : List Int} {i : Nat} {x : V} (hx : (ns.map V.int)[i]? = some x) : ∃ n, ns[i]? = some n ∧ x = V.int n := by
  rw [List.getElem?_map] at hx
  cases e : ns[i]? with
  | none => rw [e] at hx; cases hx
  | some n => rw [e] at hx; cases hx; exact ⟨n, rfl, rfl⟩

theorem mapAt (F : Int → Int) (cs : List Int) : ((List.range (cs.map V.int).length).filter fun _ => true).map (fun i => V.int (F (cs.getD i 0))) = (cs.map F).map V.int := by
  rw [rangeT, List.length_map]
  apply List.ext_getElem
  · simp
  · intro i h1 h2
    have hi : i < cs.length := by simpa using h1
    simp [List.getD_eq_getElem?_getD, hi]
theorem getD_at {cs : List Int} {i : Nat} {c : Int} (h : cs[i]? = some c) : cs.getD i 0 = c := by rw [List.getD_eq_getElem?_getD, h]; rfl

/-- coins -/
structure Coins (ns : List Int) : Prop where
  ne : 1 ≤ ns.length
  le : ns.length ≤ 40
  rng : ∀ n ∈ ns, 1 ≤ n ∧ n ≤ 1000
  nd : ns.Nodup


noncomputable def isNumV : V → Bool
  | .int _ => true
  | _ => false
/-- a thing whose kind is known -/
noncomputable def Kn (H : Hp) : V → Prop
  | .non => True
  | .bl _ => True
  | .int _ => True
  | .str _ => True
  | .ref a => (∃ xs, H a = some (.lst xs)) ∨ (∃ xs, H a = some (.tup xs)) ∨ ∃ kvs, H a = some (.dK kvs)
  | _ => False
noncomputable def isCoinV : V → Bool
  | .int i => decide (1 ≤ i) && decide (i ≤ 1000)
  | _ => false

/-! ### promises of the program's defs -/
/-! ### promises of the law's helpers -/
theorem flat_ints (cs : List Int) : (cs.map V.int).all flatV = true := by
  rw [List.all_map, List.all_eq_true]
  intro x _
  rfl

/-- the built-in names that are not hidden -/
structure Blt (mg : Str → Option Value) : Prop where
  len : mg "len" = none
  isi : mg "isinstance" = none
  int : mg "int" = none
  bool : mg "bool" = none
  all : mg "all" = none
  any : mg "any" = none
  set : mg "set" = none
  range : mg "range" = none
  list : mg "list" = none
  abs : mg "abs" = none
  min : mg "min" = none
  max : mg "max" = none
  sum : mg "sum" = none
  sorted : mg "sorted" = none
  zip : mg "zip" = none
  enumerate : mg "enumerate" = none
  tuple : mg "tuple" = none
  str : mg "str" = none
  dict : mg "dict" = none
  ValueError : mg "ValueError" = none
  reversed : mg "reversed" = none
end PG

set_option Elab.async false
set_option linter.all false
set_option maxRecDepth 100000
set_option maxHeartbeats 4000000
namespace L2
open PySem PySem.Spec PyProof.Rows
section
variable {X : Cx}
/-- {} -/
noncomputable def tDNewK : TE := fun _ H Q => ∀ p, H p = none → Q (.ref p) (upd H p (.dK []))

theorem handled_in1 {A : Around} (h : A.handled = none) : A.in1.handled = none := by rw [show A.in1.handled = A.handled by simp]; exact h
theorem call_maxL (hc : X.calm = true) : CallR X (.builtin "max") (fun xs H Q => ∃ (p : Addr) (ns : List Int), xs = [.ref p] ∧ SqL X.K H p (ns.map V.int) ∧ 0 < ns.length ∧ ∀ m, m ∈ ns → (∀ n ∈ ns, n ≤ m) → Q (.int m) H) := by
  intro pins s σ H xs us Q I r h
  obtain ⟨p, ns, rfl, hq, hne, q⟩ := h
  obtain ⟨u, rfl, rx⟩ := vals1 r
  cases rx
  obtain ⟨its, r', pl, hz⟩ := I.list hq
  have hi := intsAre_of r'
  have hlen : its.length = ns.length := by rw [← r'.length, List.length_map]
  have hl := pl.isList
  have hlt : p < s.heap.objs.size := by
    obtain ⟨o, ho, _⟩ := hl
    exact Heap.lt_size ho
  refine call_max_walk (wpAny_pyIter_list hl ?_)
  refine ⟨s.heap.objs.size, _, _, _, _, _, fun i j => decide (ns.getD i 0 > ns.getD j 0), rfl, Walks.list (prog := X.prog) (w := X.w) (handled_in1 (I.ok.hd hc)) s.heap.objs.size p (Nat.ne_of_lt hlt) its.toArray, ⟨⟨_, Heap.get?_push_size _ rfl, rfl, rfl⟩, hl.push _⟩, ?_, by rw [List.size_toArray]; omega, ?_, fun v h' tk hP hk => ?_⟩
  · intro b hb
    rw [Heap.size_push]
    rcases List.mem_cons.mp hb with z | z
    · rw [z]; exact Nat.lt_succ_self _
    · have : b = p := by simpa using z
      rw [this]; exact Nat.lt_succ_of_lt hlt
  · intro i j vi vj s' Q' E' h1 h2 hQ'
    obtain ⟨t1, e1⟩ := IntsAre.int_at hi i vi (by simpa using h1)
    obtain ⟨t2, e2⟩ := IntsAre.int_at hi j vj (by simpa using h2)
    subst e1 e2
    exact gt_int hQ'
  · obtain ⟨a1, a2⟩ := argBest_gt (fun i => ns.getD i 0) (its.toArray.size - 1)
    have hsz : its.toArray.size = ns.length := by rw [List.size_toArray, hlen]
    have hb : argBest (fun i j => decide (ns.getD i 0 > ns.getD j 0)) (its.toArray.size - 1) < ns.length := by omega
    generalize hbb : argBest (fun i j => decide (ns.getD i 0 > ns.getD j 0)) (its.toArray.size - 1) = b at *
    obtain ⟨t, e⟩ := IntsAre.int_at hi b v (by simpa using hP)
    subst e
    refine ⟨.int (ns.getD b 0), H, I.kept (t' := tk) fun c o ec => hk c o (by simp only [List.mem_singleton]; exact Nat.ne_of_lt (Heap.lt_size ec)) (Heap.get?_push_of_some _ ec), ⟨_, rfl⟩, q _ ?_ fun n hn => ?_⟩
    · rw [List.getD_eq_getElem?_getD, List.getElem?_eq_getElem hb]
      exact List.getElem_mem hb
    · obtain ⟨i, hi', rfl⟩ := List.mem_iff_getElem.mp hn
      have := a2 i (by omega)
      rw [List.getD_eq_getElem?_getD, List.getD_eq_getElem?_getD, List.getElem?_eq_getElem hi'] at this
      rw [List.getD_eq_getElem?_getD]
      exact this
end
end L2

set_option Elab.async false
set_option linter.all false
set_option maxRecDepth 100000
set_option maxHeartbeats 4000000
/-! readings that compute -/
namespace L2
open PySem PySem.Spec PyProof.Rows
section
variable {X : Cx} {a b c e : Expr} {es : List Expr} {ta tb tc te : TE} {pos : Pos}
theorem PE.imp {t t' : TE} (h : PE X e t) (hi : ∀ σ H Q, t' σ H Q → t σ H Q) : PE X e t' := fun pins s σ H Q I q => h pins s σ H Q I (hi σ H Q q)
theorem OpR.imp {f : Value → Value → Sem Value} {r r' : R2} (h : OpR X f r) (hi : ∀ x y H Q, r' x y H Q → r x y H Q) : OpR X f r' := fun pins s σ H x y v u Q I rx ry q => h pins s σ H x y v u Q I rx ry (hi x y H Q q)
theorem CallR.imp {f : Value} {r r' : List V → Hp → VK → Prop} (h : CallR X f r) (hi : ∀ xs H Q, r' xs H Q → r xs H Q) : CallR X f r' := fun pins s σ H xs us Q I rx q => h pins s σ H xs us Q I rx (hi xs H Q q)
theorem IxR.imp {r r' : R2} (h : IxR X r) (hi : ∀ x y H Q, r' x y H Q → r x y H Q) : IxR X r' := fun va sl pins s σ H x y v u Q I rx ry q => h va sl pins s σ H x y v u Q I rx ry (hi x y H Q q)

/-! ### arguments without a star -/
noncomputable def notStar : Expr → Bool
  | .Starred _ _ => false
  | _ => true
theorem se {e : Expr} {es : List Expr} {env : Env} (h : notStar e = true) : starEach (e :: es) env = (false, eval e env) :: starEach es env := by
  cases e <;> first | (cases h; done) | (rw [starEach]; intro _ _ z; cases z) | rw [starEach]
theorem seAny {env : Env} {pos : Pos} : ∀ {es : List Expr}, es.all notStar = true → (backTo pos (starEach es env)).any (·.1) = false
  | [], _ => by rw [starEach]; rfl
  | e :: es, h => by
    rw [List.all_cons, Bool.and_eq_true] at h
    rw [se h.1]
    have ih := seAny (env := env) (pos := pos) (es := es) h.2
    unfold backTo at ih ⊢
    rw [List.map_cons, List.any_cons, ih]
    rfl
theorem seNone {env : Env} {pos : Pos} : ∀ {es : List Expr}, es.all notStar = true → (backTo pos (starEach es env)).all (fun x => !x.1) = true
  | [], _ => by rw [starEach]; rfl
  | e :: es, h => by
    rw [List.all_cons, Bool.and_eq_true] at h
    rw [se h.1]
    have ih := seNone (env := env) (pos := pos) (es := es) h.2
    unfold backTo at ih ⊢
    rw [List.map_cons, List.all_cons, ih]
    rfl
theorem seHd {e : Expr} {es : List Expr} (h : (e :: es).all notStar = true) : notStar e = true ∧ es.all notStar = true := by
  rw [List.all_cons, Bool.and_eq_true] at h
  exact h
theorem ua_cons {t : TA} (ha : PE X e te) (hr : PA X es t) (hn : notStar e = true := by rfl) : PA X (e :: es) (tCons te t) := pa_cons ha hr (se hn)
theorem ue_callB {x : Str} {id : String} {r : List V → Hp → VK → Prop} {t : TA} {p : Pos} (hc : CallR X (.builtin id) r) (hg : Gl X x) (hm : X.mg x = none) (hv : bootBuiltins x = some (.builtin id)) (ha : PA X (e :: es) t) (hn : x ≠ "__name__" := by decide) (hdb : (x == ("__debug__" : Str)) = false := by decide)
    (hs : (e :: es).all notStar = true := by rfl) : PE X (.Call (.Name x p) (e :: es) [] pos) (tCB r t) := pe_callB hc hg hm hv ha hn hdb (se (seHd hs).1) (seAny (seHd hs).2)
theorem ue_callTy {x : Str} {T : String} {r : List V → Hp → VK → Prop} {t : TA} {p : Pos} (hc : CallR X (.type T) r) (hg : Gl X x) (hm : X.mg x = none) (hv : bootBuiltins x = some (.type T)) (ha : PA X (e :: es) t) (hn : x ≠ "__name__" := by decide) (hdb : (x == ("__debug__" : Str)) = false := by decide)
    (hs : (e :: es).all notStar = true := by rfl) : PE X (.Call (.Name x p) (e :: es) [] pos) (tCB r t) := pe_callTy hc hg hm hv ha hn hdb (se (seHd hs).1) (seAny (seHd hs).2)
theorem ue_g {CX : CXT} {x : Str} {ps : List Str} {k : Nat} {sp : Sp} {E : XK} {t : TA} {p : Pos} (g : PG.G X.prog X.w X.K X.mg X.base CX x ps k sp) (hr : Room k X.A) (hx : Passes CX X E) (ha : PA X (e :: es) t) (hg : Gl X x := by rfl)
    (hdb : (x == ("__debug__" : Str)) = false := by decide) (hs : (e :: es).all notStar = true := by rfl) : PE X (.Call (.Name x p) (e :: es) [] pos) (tCall sp [] E t) := PG.pe_g g hr hx ha hg hdb (se (seHd hs).1) (seAny (seHd hs).2)
/-- the i-th name -/
noncomputable def uVar (i : Nat) : TE := fun σ H Q => match σ[i]? with
  | some (some v) => Q v H
  | _ => False
theorem uVar_of {i : Nat} {σ : St} {H : Hp} {Q : VK} (h : uVar i σ H Q) : tVar i σ H Q := by
  unfold uVar at h
  split at h
  · rename_i v e
    exact ⟨v, e, h⟩
  · exact h.elim
theorem uv (i : Nat) {x : Str} {pos : Pos} (hN : X.N[i]? = some x := by rfl) (hv : Vis X.env.scope x := by first | exact Or.inl rfl | exact Or.inr (Or.inl rfl) | exact Or.inr (Or.inr rfl)) (hd : (x == ("__debug__" : Str)) = false := by decide) (hcd : (x == ("__classdict__" : Str)) = false := by decide) : PE X (.Name x pos) (uVar i) :=
  (pv i hN hv hd hcd).imp fun _ _ _ h => uVar_of h

/-! ### operations -/
noncomputable def uAdd : R2 := fun x y H Q => match x, y with
  | .int i, .int j => Q (.int (i + j)) H
  | .ref l, .ref b => ∃ xs zs, H l = some (.lst xs) ∧ H b = some (.lst zs) ∧ xs.length + zs.length ≤ sizeLine ∧ ∀ p, H p = none → Q (.ref p) (upd H p (.lst (xs ++ zs)))
  | _, _ => False
theorem uo_add : OpR X (binaryOp .Add) uAdd := (op_add.or op_cat).imp fun x y H Q h => by
  cases x <;> cases y <;> first
    | exact .inl ⟨_, _, rfl, rfl, h⟩
    | (obtain ⟨xs, zs, h1, h2, h3, h4⟩ := h; exact .inr ⟨_, _, xs, zs, rfl, rfl, h1, h2, h3, h4⟩)
    | exact False.elim h
noncomputable def uSub : R2 := fun x y H Q => match x, y with
  | .int i, .int j => Q (.int (i - j)) H
  | _, _ => False
theorem uo_sub : OpR X (binaryOp .Sub) uSub := op_sub.imp fun x y H Q h => by
  cases x <;> cases y <;> first | exact ⟨_, _, rfl, rfl, h⟩ | exact False.elim h
noncomputable def uMul : R2 := fun x y H Q => match x, y with
  | .int i, .int j => CMul i j ∧ Q (.int (i * j)) H
  | .ref l, .int k => ∃ xs, H l = some (.lst xs) ∧ (-(2 ^ 63) ≤ k ∧ k < 2 ^ 63) ∧ xs.length * k.toNat ≤ sizeLine ∧ ∀ p, H p = none → Q (.ref p) (upd H p (.lst (List.replicate k.toNat xs).flatten))
  | _, _ => False
theorem uo_mul : OpR X (binaryOp .Mult) uMul := (op_mul.or op_rep).imp fun x y H Q h => by
  cases x <;> cases y <;> first
    | exact .inl ⟨_, _, rfl, rfl, h.1, h.2⟩
    | (obtain ⟨xs, h1, ⟨h2, h3⟩, h4, h5⟩ := h; exact .inr ⟨_, _, xs, rfl, rfl, h1, h2, h3, h4, h5⟩)
    | exact False.elim h
noncomputable def uMod : R2 := fun x y H Q => match x, y with
  | .int i, .int j => 0 < j ∧ Q (.int (i % j)) H
  | _, _ => False
theorem uo_mod : OpR X (binaryOp .Mod) uMod := op_mod.imp fun x y H Q h => by
  cases x <;> cases y <;> first | exact ⟨_, _, rfl, rfl, h.1, h.2⟩ | exact False.elim h
noncomputable def uDiv : R2 := fun x y H Q => match x, y with
  | .int i, .int j => CDiv i j ∧ Q (.int (i / j)) H
  | _, _ => False
theorem uo_fdiv : OpR X (binaryOp .FloorDiv) uDiv := op_fdiv.imp fun x y H Q h => by
  cases x <;> cases y <;> first | exact ⟨_, _, rfl, rfl, h.1, h.2⟩ | exact False.elim h
noncomputable def uPow : R2 := fun x y H Q => match x, y with
  | .int i, .int j => CPow i j ∧ Q (.int (i ^ j.toNat)) H
  | _, _ => False
noncomputable def uNeg : V → Hp → VK → Prop := fun x H Q => match x with
  | .int i => Q (.int (-i)) H
  | _ => False
theorem uu_neg : UnR X (unaryOp .USub) uNeg := fun pins s σ H x v Q I rx h => by
  cases x <;> first | exact un_neg pins s σ H _ v Q I rx ⟨_, rfl, h⟩ | exact False.elim h

/-! ### comparisons -/
noncomputable def uCmp (p : Int → Int → Bool) : R2 := fun x y H Q => match x, y with
  | .int i, .int j => Q (.bl (p i j)) H
  | _, _ => False
theorem uo_lt : OpR X (compareOp .Lt) (uCmp fun i j => decide (i < j)) := op_lt.imp fun x y H Q h => by
  cases x <;> cases y <;> first | exact ⟨_, _, rfl, rfl, h⟩ | exact False.elim h
theorem uo_le : OpR X (compareOp .LtE) (uCmp fun i j => decide (i ≤ j)) := op_le.imp fun x y H Q h => by
  cases x <;> cases y <;> first | exact ⟨_, _, rfl, rfl, h⟩ | exact False.elim h
theorem uo_gt : OpR X (compareOp .Gt) (uCmp fun i j => decide (j < i)) := op_gt.imp fun x y H Q h => by
  cases x <;> cases y <;> first | exact ⟨_, _, rfl, rfl, h⟩ | exact False.elim h
theorem uo_ge : OpR X (compareOp .GtE) (uCmp fun i j => decide (j ≤ i)) := op_ge.imp fun x y H Q h => by
  cases x <;> cases y <;> first | exact ⟨_, _, rfl, rfl, h⟩ | exact False.elim h
/-- ==, !=: ints, truths, lists -/
noncomputable def uEq (K : PySem.W.Frag) : R2 := fun x y H Q => match x, y with
  | .int i, .int j => Q (.bl (decide (i = j))) H
  | .bl i, .bl j => Q (.bl (decide (i = j))) H
  | .str i, .str j => Q (.bl (decide (i = j))) H
  | .non, .int _ => Q (.bl false) H
  | .int _, .non => Q (.bl false) H
  | .non, .non => Q (.bl true) H
  | .ref a, .ref b => rEqL K false (.ref a) (.ref b) H Q
  | _, _ => False
noncomputable def uNe (K : PySem.W.Frag) : R2 := fun x y H Q => match x, y with
  | .int i, .int j => Q (.bl (!decide (i = j))) H
  | .bl i, .bl j => Q (.bl (!decide (i = j))) H
  | .str i, .str j => Q (.bl (!decide (i = j))) H
  | .ref a, .ref b => rEqL K true (.ref a) (.ref b) H Q
  | _, _ => False
theorem uo_eq_0 (hu : X.A.units + 8 < cLine) : OpR X (compareOp .Eq) (uEq X.K) := (op_eq.or (op_eqL hu)).imp fun x y H Q h => by
  cases x <;> cases y <;> first
    | exact False.elim h
    | exact .inr h
    | (refine .inl ⟨rfl, ?_⟩; have h' := h; simp only [uEq] at h'; simp only [V.int.injEq, V.bl.injEq, V.str.injEq]; exact h')
    | (refine .inl ⟨rfl, ?_⟩; have h' := h; simp only [uEq] at h'; simpa using h')
theorem uo_ne_0 (hu : X.A.units + 8 < cLine) : OpR X (compareOp .NotEq) (uNe X.K) := (op_ne.or (op_neL hu)).imp fun x y H Q h => by
  cases x <;> cases y <;> first
    | exact False.elim h
    | exact .inr h
    | (refine .inl ⟨rfl, ?_⟩; have h' := h; simp only [uNe] at h'; simp only [V.int.injEq, V.bl.injEq, V.str.injEq]; exact h')
/-- in, not in a list or a tuple of plain things -/
noncomputable def uIn (K : PySem.W.Frag) : R2 := fun x y H Q => match y with
  | .ref p => ∃ xs, (SqL K H p xs ∨ SqT K H p xs) ∧ (flatV x = true ∧ xs.all flatV = true) ∧ Q (.bl (inV x xs)) H
  | _ => False
noncomputable def uNotIn (K : PySem.W.Frag) : R2 := fun x y H Q => match y with
  | .ref p => ∃ xs, (SqL K H p xs ∨ SqT K H p xs) ∧ (flatV x = true ∧ xs.all flatV = true) ∧ Q (.bl (!inV x xs)) H
  | _ => False
theorem uo_notIn_0 : OpR X (compareOp .NotIn) (uNotIn X.K) := op_notIn_seq.imp fun x y H Q h => by
  cases y <;> first
    | exact False.elim h
    | (obtain ⟨xs, h1, ⟨h2, h3⟩, h4⟩ := h; exact ⟨_, xs, rfl, h1, h2, h3, h4⟩)
/-- is, is not: None, True, False -/
noncomputable def uIs : R2 := fun x y H Q => match y with
  | .non => Q (.bl (decide (x = .non))) H
  | .bl k => match x with
    | .bl j => Q (.bl (j == k)) H
    | .non => Q (.bl false) H
    | _ => False
  | _ => False
noncomputable def uIsNot : R2 := fun x y H Q => match y with
  | .non => Q (.bl (!decide (x = .non))) H
  | .bl k => match x with
    | .bl j => Q (.bl (!(j == k))) H
    | .non => Q (.bl true) H
    | _ => False
  | _ => False
theorem op_isB : OpR X (compareOp .Is) (fun x y H Q => ∃ a b, x = .bl a ∧ y = .bl b ∧ Q (.bl (a == b)) H) := by
  intro pins s σ H x y v u Q I rx ry h
  obtain ⟨a, b, rfl, rfl, q⟩ := h
  cases rx; cases ry
  have e : compareOp .Is (.bool a) (.bool b) = pure (.bool (a == b)) := by cases a <;> cases b <;> rfl
  rw [e]
  exact wpAny_pure ⟨.bl _, H, I, rfl, q⟩
theorem op_isNB : OpR X (compareOp .Is) (fun x y H Q => ∃ b, x = .non ∧ y = .bl b ∧ Q (.bl false) H) := by
  intro pins s σ H x y v u Q I rx ry h
  obtain ⟨b, rfl, rfl, q⟩ := h
  cases rx; cases ry
  have e : compareOp .Is .none (.bool b) = pure (.bool false) := by cases b <;> rfl
  rw [e]
  exact wpAny_pure ⟨.bl _, H, I, rfl, q⟩
theorem uo_is : OpR X (compareOp .Is) uIs := (op_isN.or (op_isB.or op_isNB)).imp fun x y H Q h => by
  cases y with
  | non => exact .inl ⟨rfl, h⟩
  | bl k => cases x with
    | bl j => exact .inr (.inl ⟨_, _, rfl, rfl, h⟩)
    | non => exact .inr (.inr ⟨_, rfl, rfl, h⟩)
    | _ => exact False.elim h
  | _ => exact False.elim h

/-! ### tests -/
noncomputable def uB (Q : Bool → Hp → Prop) : VK := fun x H => match x with
  | .bl k => Q k H
  | _ => False
theorem uB_of {Q : Bool → Hp → Prop} {x : V} {H : Hp} (h : uB Q x H) : ∃ k, x = .bl k ∧ Q k H := by
  cases x <;> first | exact ⟨_, rfl, h⟩ | exact False.elim h
noncomputable def uTest (t : TE) : TT := fun σ H Q => t σ H (uB Q)
theorem ut_cmp {op : CmpOp} {r : R2} (ho : OpR X (compareOp op) r) (ha : PE X a ta) (hb : PE X b tb) (hm : behindInMarks op b = false) : PT X (.Compare a [op] [b] pos) (uTest (tOp r ta tb)) := by
  intro pins s σ H Q I h
  refine wpAny_isTrue_Compare1 (thn (ha pins s σ H _ I h) fun v s1 ⟨x, H1, I1, r1, q1⟩ => thn (hb pins s1 σ H1 _ I1 q1) fun u s2 ⟨y, H2, I2, r2, q2⟩ =>
    thn (ho pins s2 σ H2 x y v u _ I2 r1 r2 q2) fun c s3 ⟨z, H3, I3, r3, q3⟩ => ?_) hm
  obtain ⟨k, e, q⟩ := uB_of q3
  subst e
  cases r3
  exact wpAny_truthy_bool ⟨H3, I3, q⟩
/-- a value's truth -/
noncomputable def uTru (K : PySem.W.Frag) (Q : Bool → Hp → Prop) : VK := fun x H => match x with
  | .bl k => Q k H
  | .non => Q false H
  | .int i => Q (decide (i ≠ 0)) H
  | .ref p => ∃ xs, (SqL K H p xs ∨ SqT K H p xs) ∧ Q (!xs.isEmpty) H
  | _ => False
noncomputable def uTruth (K : PySem.W.Frag) (t : TE) : TT := fun σ H Q => t σ H (uTru K Q)
theorem ut_val_0 (ha : PE X a ta) (he : ∀ whole, isTrue a X.env whole = (do let v ← whole; standAt a.pos; holding [v] (truthy v)) := by intro _; rfl) : PT X a (uTruth X.K ta) := by
  intro pins s σ H Q I h
  refine isTrue_plain (thn (ha pins s σ H _ I h) fun v s1 ⟨x, H1, I1, r1, q1⟩ => tru_ok pins s1 σ H1 x v Q I1 r1 ?_) (he _)
  cases x with
  | bl k => exact ⟨k, rfl, q1⟩
  | non => exact ⟨false, rfl, q1⟩
  | int i =>
    refine ⟨i != 0, rfl, ?_⟩
    have e : (i != 0) = decide (i ≠ 0) := by
      by_cases h : i = 0
      · subst h; rfl
      · simp [h]
    rw [e]; exact q1
  | ref p =>
    obtain ⟨xs, h1 | h1, q⟩ := q1
    · exact ⟨_, .inl ⟨xs, h1, rfl⟩, q⟩
    · exact ⟨_, .inr (.inl ⟨xs, h1, rfl⟩), q⟩
  | _ => exact False.elim q1
/-- and, or, not as values of truths -/
noncomputable def uAndV (ta tb : TE) : TE := fun σ H Q => ta σ H fun x H1 => match x with
  | .bl c => if c = true then tb σ H1 Q else Q (.bl false) H1
  | _ => False
noncomputable def uOrV (ta tb : TE) : TE := fun σ H Q => ta σ H fun x H1 => match x with
  | .bl c => if c = true then Q (.bl true) H1 else tb σ H1 Q
  | _ => False
noncomputable def uNotV (ta : TE) : TE := fun σ H Q => ta σ H fun x H1 => match x with
  | .bl c => Q (.bl (!c)) H1
  | _ => False
variable {rest : List Expr}
theorem ue_and (ha : PE X a ta) (hb : PE X (.BoolOp .And (b :: rest) pos) tb) : PE X (.BoolOp .And (a :: b :: rest) pos) (uAndV ta tb) := by
  intro pins s σ H Q I h
  refine BoolOp_and (thn (ha pins s σ H _ I h) fun v s1 ⟨x, H1, I1, r1, q1⟩ => ?_)
  cases x with
  | bl c =>
    cases r1
    refine wpAny_truthy_bool ?_
    cases c with
    | true => exact hb pins s1 σ H1 Q I1 q1
    | false => exact ⟨.bl false, H1, I1, rfl, q1⟩
  | _ => exact False.elim q1
theorem ue_not (ha : PE X a ta) : PE X (.UnaryOp .Not a pos) (uNotV ta) := by
  intro pins s σ H Q I h
  refine UnaryOp_ (thn (ha pins s σ H _ I h) fun v s1 ⟨x, H1, I1, r1, q1⟩ => ?_)
  cases x with
  | bl c =>
    cases r1
    exact not_of (wpAny_truthy_bool ⟨.bl (!c), H1, I1, rfl, q1⟩)
  | _ => exact False.elim q1

/-! ### lists -/
noncomputable def uIx (K : PySem.W.Frag) : R2 := fun x y H Q => match x, y with
  | .ref p, .int i => ∃ xs v, (SqL K H p xs ∨ SqT K H p xs) ∧ atI xs i = some v ∧ Q v H
  | _, _ => False
theorem ux_0 : IxR X (uIx X.K) := (ix_list.or ix_tup).imp fun x y H Q h => by
  cases x <;> cases y <;> first
    | exact False.elim h
    | (obtain ⟨xs, v, h1 | h1, h2, h3⟩ := h
       · exact .inl ⟨_, xs, _, v, rfl, rfl, h1, h2, h3⟩
       · exact .inr ⟨_, xs, _, v, rfl, rfl, h1, h2, h3⟩)
noncomputable def uSet : TSet := fun o i v H Q => match o, i with
  | .ref p, .int k => ∃ xs j, H p = some (.lst xs) ∧ ixN xs.length k = some j ∧ Q (upd H p (.lst (xs.set j v)))
  | _, _ => False
theorem us_set : PSet X uSet := fun pins s σ H o i v vo vi vv Q I h1 h2 h3 h => by
  cases o <;> cases i <;> first
    | exact False.elim h
    | (obtain ⟨xs, j, e1, e2, q⟩ := h; exact set_list pins s σ H _ _ v vo vi vv Q I h1 h2 h3 ⟨_, xs, _, j, rfl, rfl, e1, e2, q⟩)
noncomputable def uSl (K : PySem.W.Frag) : V → Option Int → Option Int → Hp → VK → Prop := fun x lo hi H Q => match x with
  | .ref a => ∃ xs, SqL K H a xs ∧ ∀ p, H p = none → Q (.ref p) (upd H p (.lst (cutV xs lo hi)))
  | _ => False
theorem usl_0 : SlR X (uSl X.K) := fun pins s σ H x v vl vu lo hi sl Q I rx h1 h2 h3 h => by
  cases x <;> first
    | exact False.elim h
    | (obtain ⟨xs, e1, q⟩ := h; exact sl_list pins s σ H _ v vl vu lo hi sl Q I rx h1 h2 h3 ⟨_, xs, rfl, e1, q⟩)
noncomputable def uPart (t : TE) : TO := fun σ H Q => t σ H fun x H1 => match x with
  | .int i => Q (some i) H1
  | _ => False
/-- calls of builtins -/
noncomputable def u1 (r : V → Hp → VK → Prop) : List V → Hp → VK → Prop := fun xs H Q => match xs with
  | [x] => r x H Q
  | _ => False
noncomputable def u2 (r : V → V → Hp → VK → Prop) : List V → Hp → VK → Prop := fun xs H Q => match xs with
  | [x, y] => r x y H Q
  | _ => False
theorem u1_of {r : V → Hp → VK → Prop} {xs : List V} {H : Hp} {Q : VK} (h : u1 r xs H Q) : ∃ x, xs = [x] ∧ r x H Q := by
  unfold u1 at h
  split at h
  · exact ⟨_, rfl, h⟩
  · exact h.elim
theorem u2_of {r : V → V → Hp → VK → Prop} {xs : List V} {H : Hp} {Q : VK} (h : u2 r xs H Q) : ∃ x y, xs = [x, y] ∧ r x y H Q := by
  unfold u2 at h
  split at h
  · exact ⟨_, _, rfl, h⟩
  · exact h.elim
noncomputable def uLen (K : PySem.W.Frag) : List V → Hp → VK → Prop := u1 fun x H Q => match x with
  | .ref p => ∃ xs, (SqL K H p xs ∨ SqT K H p xs) ∧ Q (.int xs.length) H
  | _ => False
theorem uc_len_0 : CallR X (.builtin "len") (uLen X.K) := call_len_seq.imp fun xs H Q h => by
  obtain ⟨x, rfl, h⟩ := u1_of h
  cases x <;> first
    | exact False.elim h
    | (obtain ⟨xs, h1, q⟩ := h; exact ⟨_, xs, rfl, h1, q⟩)
noncomputable def uAbs : List V → Hp → VK → Prop := u1 fun x H Q => match x with
  | .int i => Q (.int (if i < 0 then -i else i)) H
  | _ => False
noncomputable def uAll (K : PySem.W.Frag) : List V → Hp → VK → Prop := u1 fun x H Q => match x with
  | .ref p => ∃ bs : List Bool, SqL K H p (bs.map V.bl) ∧ Q (.bl (bs.all id)) H
  | _ => False
theorem uc_all_0 (hc : X.calm = true) : CallR X (.builtin "all") (uAll X.K) := (call_all hc).imp fun xs H Q h => by
  obtain ⟨x, rfl, h⟩ := u1_of h
  cases x <;> first
    | exact False.elim h
    | (obtain ⟨bs, h1, q⟩ := h; exact ⟨_, bs, rfl, h1, q⟩)
noncomputable def uIsi (K : PySem.W.Frag) : List V → Hp → VK → Prop := u2 fun x y H Q => match y with
  | .ty n => ∃ t b, TyOf K H x t ∧ PySem.W.kitOne K t (.type n) = some b ∧ Q (.bl b) H
  | _ => False
theorem uc_isi_0 : CallR X (.builtin "isinstance") (uIsi X.K) := call_isi.imp fun xs H Q h => by
  obtain ⟨x, y, rfl, h⟩ := u2_of h
  cases y <;> first
    | exact False.elim h
    | (obtain ⟨t, b, h1, h2, q⟩ := h; exact ⟨x, _, t, b, rfl, h1, h2, q⟩)
noncomputable def uSetC (K : PySem.W.Frag) : List V → Hp → VK → Prop := u1 fun x H Q => match x with
  | .ref p => ∃ ns : List Int, SqL K H p (ns.map V.int) ∧ ns.length ≤ 1000 ∧ ∀ q, H q = none → Q (.ref q) (upd H q (.set (fun k => (ns.foldl step_dedup []).any (· == k)) (ns.foldl step_dedup []).length))
  | _ => False
theorem uc_set_0 (hc : X.calm = true) : CallR X (.type "set") (uSetC X.K) := (call_set_of hc).imp fun xs H Q h => by
  obtain ⟨x, rfl, h⟩ := u1_of h
  cases x <;> first
    | exact False.elim h
    | (obtain ⟨ns, h1, h2, q⟩ := h; exact ⟨_, ns, rfl, h1, h2, q⟩)
noncomputable def uLenSet : List V → Hp → VK → Prop := u1 fun x H Q => match x with
  | .ref p => ∃ S n, H p = some (.set S n) ∧ Q (.int n) H
  | _ => False
theorem uc_lenSet : CallR X (.builtin "len") uLenSet := call_len_setV.imp fun xs H Q h => by
  obtain ⟨x, rfl, h⟩ := u1_of h
  cases x <;> first
    | exact False.elim h
    | (obtain ⟨S, n, h1, q⟩ := h; exact ⟨_, S, n, rfl, h1, q⟩)
noncomputable def uList (K : PySem.W.Frag) : List V → Hp → VK → Prop := u1 fun x H Q => match x with
  | .ref p => ∃ ys, (SqL K H p ys ∨ SqT K H p ys) ∧ ∀ l, H l = none → Q (.ref l) (upd H l (.lst ys))
  | _ => False
theorem uc_list_0 : CallR X (.type "list") (uList X.K) := call_list_of.imp fun xs H Q h => by
  obtain ⟨x, rfl, h⟩ := u1_of h
  cases x <;> first
    | exact False.elim h
    | (obtain ⟨ys, h1, q⟩ := h; exact ⟨_, ys, rfl, h1, q⟩)
noncomputable def uMin (K : PySem.W.Frag) : List V → Hp → VK → Prop := u1 fun x H Q => match x with
  | .ref p => ∃ ns : List Int, SqL K H p (ns.map V.int) ∧ 0 < ns.length ∧ ∀ m, m ∈ ns → (∀ n ∈ ns, m ≤ n) → Q (.int m) H
  | _ => False
noncomputable def uMax (K : PySem.W.Frag) : List V → Hp → VK → Prop := u1 fun x H Q => match x with
  | .ref p => ∃ ns : List Int, SqL K H p (ns.map V.int) ∧ 0 < ns.length ∧ ∀ m, m ∈ ns → (∀ n ∈ ns, n ≤ m) → Q (.int m) H
  | _ => False
theorem uc_max_0 (hc : X.calm = true) : CallR X (.builtin "max") (uMax X.K) := (call_maxL hc).imp fun xs H Q h => by
  obtain ⟨x, rfl, h⟩ := u1_of h
  cases x <;> first
    | exact False.elim h
    | (obtain ⟨ns, h1, h2, q⟩ := h; exact ⟨_, ns, rfl, h1, h2, q⟩)
noncomputable def uRangeV : List V → Hp → VK → Prop := u2 fun x y H Q => match x, y with
  | .int i, .int j => ∀ p, H p = none → Q (.ref p) (upd H p (.rng i j))
  | _, _ => False
noncomputable def uListRng : List V → Hp → VK → Prop := u1 fun x H Q => match x with
  | .ref p => ∃ i j : Int, H p = some (.rng i j) ∧ (-1000000 ≤ i ∧ i ≤ j ∧ j ≤ 1000000) ∧ ∀ l, H l = none → Q (.ref l) (upd H l (.lst ((List.range (j - i).toNat).map fun (k : Nat) => V.int (i + (k : Int)))))
  | _ => False
/-! ### methods of lists -/
noncomputable def uAppend : V → List V → Hp → VK → Prop := fun x vs H Q => match x, vs with
  | .ref l, [y] => ∃ xs, H l = some (.lst xs) ∧ xs.length < sizeLine ∧ Q .non (upd H l (.lst (xs ++ [y])))
  | _, _ => False
theorem um_append : MtM X "list.append" uAppend := fun pins s σ H x xs v us Q I rx rs h => by
  unfold uAppend at h
  split at h
  · obtain ⟨ys, h1, h2, q⟩ := h
    exact mt_append pins s σ H _ _ v us Q I rx rs ⟨_, ys, _, rfl, rfl, h1, h2, q⟩
  · exact h.elim
noncomputable def uM0 (f : List V → List V) : V → List V → Hp → VK → Prop := fun x _ H Q => match x with
  | .ref l => ∃ xs, H l = some (.lst xs) ∧ Q .non (upd H l (.lst (f xs)))
  | _ => False
theorem um_clear : MtM X "list.clear" (fun x vs H Q => vs = [] ∧ uM0 (fun _ => []) x vs H Q) := fun pins s σ H x xs v us Q I rx rs h => by
  obtain ⟨rfl, h⟩ := h
  cases x <;> first
    | exact False.elim h
    | (obtain ⟨ys, h1, q⟩ := h; exact mt_clear pins s σ H _ _ v us Q I rx rs ⟨_, ys, rfl, rfl, h1, q⟩)
theorem upo_some (h : PE X e te) : PO X (some e) (uPart te) := by
  intro pins s σ H Q I hw
  rw [evalPart_some]
  refine thn (h pins s σ H _ I hw) fun u s1 ⟨x, H1, I1, r1, q1⟩ => ?_
  cases x with
  | int i =>
    obtain ⟨t, rfl⟩ := r1
    exact ⟨some i, H1, I1, .int i t, q1⟩
  | _ => exact False.elim q1
/-! ### sources of loops -/
variable {tg : Expr}
noncomputable def uiRng1 (ta : TA) : TI := fun σ H R => ta σ H fun vs H1 => match vs with
  | [.int j] => (-(2 ^ 62) ≤ j ∧ j < 2 ^ 62) ∧ R (Itr 0 j.toNat) H1
  | _ => False
noncomputable def uiRng2 (ta : TA) : TI := fun σ H R => ta σ H fun vs H1 => match vs with
  | [.int i, .int j] => (-(2 ^ 62) ≤ i ∧ i < 2 ^ 62 ∧ -(2 ^ 62) ≤ j ∧ j < 2 ^ 62) ∧ R (Itr i (j - i).toNat) H1
  | _ => False
theorem ui_range1 {a : Expr} {ta : TA} {p pos : Pos} (hm : X.mg "range" = none) (ha : PA X [a] ta) (hg : Gl X "range" := by rfl) (hn : notStar a = true := by rfl) : PI X tg (.Call (.Name "range" p) [a] [] pos) (uiRng1 ta) := by
  have hs : starEach [a] X.env = [(false, eval a X.env)] := by rw [se hn, starEach]
  intro pins s σ H R I h
  refine Call_ (ld_blt I hg hm boot_range (PyProof.Rows.callWith_type1 (thn (ha pos pins s σ H _ I h) fun us s1 ⟨vs, H1, I1, r1, q1⟩ => ?_) hs rfl))
  dsimp only at q1
  split at q1
  · obtain ⟨⟨q1, q2⟩, q⟩ := q1
    cases r1 with
    | cons r rr =>
      cases rr
      obtain ⟨t, rfl⟩ := r
      exact call_range_1 (range_it I1 (by omega) (by omega) q1 q2 (by simpa using q))
  · exact q1.elim
theorem ui_range2 {a b : Expr} {ta : TA} {p pos : Pos} (hm : X.mg "range" = none) (ha : PA X [a, b] ta) (hg : Gl X "range" := by rfl) (hn : notStar a = true := by rfl) (hn2 : notStar b = true := by rfl) :
    PI X tg (.Call (.Name "range" p) [a, b] [] pos) (uiRng2 ta) := by
  have hs2 : starEach [b] X.env = [(false, eval b X.env)] := by rw [se hn2, starEach]
  have hs : starEach [a, b] X.env = [(false, eval a X.env), (false, eval b X.env)] := by rw [se hn, hs2]
  intro pins s σ H R I h
  refine Call_ (ld_blt I hg hm boot_range (PyProof.Rows.callWith_type1 (thn (ha pos pins s σ H _ I h) fun us s1 ⟨vs, H1, I1, r1, q1⟩ => ?_) (by rw [hs, hs2]) (by rw [hs2]; rfl)))
  dsimp only at q1
  split at q1
  · obtain ⟨⟨q1, q2, q3, q4⟩, q⟩ := q1
    cases r1 with
    | cons r rr =>
      cases rr with
      | cons r' rr =>
        cases rr
        obtain ⟨t, rfl⟩ := r
        obtain ⟨t', rfl⟩ := r'
        exact call_range_2 (range_it I1 q1 q2 q3 q4 q)
  · exact q1.elim
noncomputable def uiSeq (K : PySem.W.Frag) (tl : TE) : TI := fun σ H R => tl σ H fun x H1 => match x with
  | .ref a => (∃ xs, SqL K H1 a xs ∧ R (Itl K a) H1) ∨ ∃ xs, SqT K H1 a xs ∧ R (Itt K a) H1
  | _ => False
theorem ui_seq_0 {l : Expr} {tl : TE} (hl : PE X l tl) : PI X tg l (uiSeq X.K tl) := by
  intro pins s σ H R I h
  refine thn (hl pins s σ H _ I h) fun v s1 ⟨x, H1, I1, r1, q1⟩ => ?_
  cases x with
  | ref a =>
    cases r1
    rcases q1 with ⟨xs, hq, q⟩ | ⟨xs, hq, q⟩
    · obtain ⟨its, rv, p, hz⟩ := I1.list hq
      refine wpAny_pyIter_list p.isList ?_
      refine ⟨s1.heap.objs.size, [s1.heap.objs.size], _, _, H1, rfl, I1.kept (t' := s1.toks) fun b o e => Heap.get?_push_of_some _ e, turn_list a _, ⟨_, Heap.get?_push_size _ rfl, rfl, rfl⟩, fun b hb => ?_, q⟩
      have e : b = s1.heap.objs.size := by simpa using hb
      subst e
      exact I1.fpOk (Nat.le_refl _) (I1.hok.fresh (Nat.le_refl _))
    · obtain ⟨its, rv, p, hz⟩ := I1.tuple hq
      refine wpAny_pyIter_tuple (show s1.heap.IsTuple a its.toArray from p) ?_
      refine ⟨s1.heap.objs.size, [s1.heap.objs.size], _, _, H1, rfl, I1.kept (t' := s1.toks) fun b o e => Heap.get?_push_of_some _ e, turn_tuple a _, ⟨_, Heap.get?_push_size _ rfl, rfl, rfl⟩, fun b hb => ?_, q⟩
      have e : b = s1.heap.objs.size := by simpa using hb
      subst e
      exact I1.fpOk (Nat.le_refl _) (I1.hok.fresh (Nat.le_refl _))
  | _ => exact False.elim q1
/-! ### methods of lists, called -/
noncomputable def uBM0 (K : PySem.W.Frag) (r : V → List V → Hp → VK → Prop) (to : TE) : TE := fun σ H Q => to σ H fun x H1 => match x with
  | .ref p => (∃ xs, SqL K H1 p xs) ∧ r (.ref p) [] H1 Q
  | _ => False
noncomputable def uBM (K : PySem.W.Frag) (r : V → List V → Hp → VK → Prop) (to : TE) (t : TA) : TE := fun σ H Q => to σ H fun x H1 => match x with
  | .ref p => (∃ xs, SqL K H1 p xs) ∧ t σ H1 fun xs H2 => r (.ref p) xs H2 Q
  | _ => False
variable {o : Expr} {to : TE} {t : TA} {name : Str} {apos cpos : Pos} {id : String} {r : V → List V → Hp → VK → Prop}
theorem ue_bm0_0 (slot : Slot "list" name id) (hty : typeOf (.builtin id) = pure (.type "method_descriptor")) (hm : MtR X id r) (ho : PE X o to)
    (hbase : attributeBase o name X.env (eval o X.env) = eval o X.env := by rfl) (hline : (apos.endLine == cpos.line) = true := by rfl) : PE X (.Call (.Attribute o name apos) [] [] cpos) (uBM0 X.K r to) := by
  intro pins s σ H Q I h
  refine wpAny_Call_method0_late hbase hline (thn (ho pins s σ H _ I h) fun v s1 ⟨x, H1, I1, r1, q1⟩ => ?_)
  cases x with
  | ref p =>
    obtain ⟨ty, q1⟩ := q1
    obtain ⟨h1, h2⟩ := tyV_is (T := "list") I1 r1 (.inl ⟨rfl, ty⟩)
    exact ⟨"list", id, PySem.F.plainAttrs_list, slot, hty, h1, h2, Calls.callWith_builtin rfl (PySem.evalArgs_none (hm pins s1 σ H1 _ [] v [] Q I1 r1 .nil q1))⟩
  | _ => exact False.elim q1
theorem ue_bm_0 (slot : Slot "list" name id) (hty : typeOf (.builtin id) = pure (.type "method_descriptor")) (hm : MtR X id r) (ho : PE X o to) (ha : PA X (e :: es) t)
    (hbase : attributeBase o name X.env (eval o X.env) = eval o X.env := by rfl)
    (hfew : ((backTo cpos (starEach (e :: es) X.env)).all (fun x => !x.1) && (backToKw cpos (keywordEach [] X.env)).all (fun x => x.1.isSome)
      && decide ((e :: es).length + ([] : List Keyword).length + (if ([] : List Keyword).isEmpty then 0 else 1) < 30)) = true := by rfl)
    (hline : (apos.endLine == cpos.line) = true := by rfl) (hs : starEach (e :: es) X.env = (false, eval e X.env) :: starEach es X.env := by rfl) (hplain : (backTo cpos (starEach es X.env)).any (·.1) = false := by rfl) :
    PE X (.Call (.Attribute o name apos) (e :: es) [] cpos) (uBM X.K r to t) := by
  intro pins s σ H Q I h
  refine wpAny_Call_method_late hbase hfew hline rfl (thn (ho pins s σ H _ I h) fun v s1 ⟨x, H1, I1, r1, q1⟩ => ?_)
  cases x with
  | ref p =>
    obtain ⟨ty, q1⟩ := q1
    obtain ⟨h1, h2⟩ := tyV_is (T := "list") I1 r1 (.inl ⟨rfl, ty⟩)
    refine ⟨"list", id, PySem.F.plainAttrs_list, slot, hty, h1, h2, ?_⟩
    have hA := ha cpos pins s1 σ H1 _ I1 q1
    rw [hs] at hA ⊢
    refine Calls.callWith_builtin (by show (false || (backTo cpos (starEach es X.env)).any (·.1)) = false; rw [hplain] <;> rfl) (Calls.evalArgs_plain ?_)
    exact thn hA fun us s2 ⟨vs, H2, I2, r2, q2⟩ => hm pins s2 σ H2 _ vs v us Q I2 r1 r2 q2
  | _ => exact False.elim q1
/-! ### the written part by its letter -/
theorem uo_eq {K : PySem.W.Frag} (hu : X.A.units + 8 < cLine) (hK : X.K = K := by rfl) : OpR X (compareOp .Eq) (uEq K) := by subst hK; exact uo_eq_0 hu
theorem uo_ne {K : PySem.W.Frag} (hu : X.A.units + 8 < cLine) (hK : X.K = K := by rfl) : OpR X (compareOp .NotEq) (uNe K) := by subst hK; exact uo_ne_0 hu
theorem uo_notIn {K : PySem.W.Frag} (hK : X.K = K := by rfl) : OpR X (compareOp .NotIn) (uNotIn K) := by subst hK; exact uo_notIn_0 
theorem ux {K : PySem.W.Frag} (hK : X.K = K := by rfl) : IxR X (uIx K) := by subst hK; exact ux_0 
theorem usl {K : PySem.W.Frag} (hK : X.K = K := by rfl) : SlR X (uSl K) := by subst hK; exact usl_0 
theorem uc_len {K : PySem.W.Frag} (hK : X.K = K := by rfl) : CallR X (.builtin "len") (uLen K) := by subst hK; exact uc_len_0 
theorem uc_all {K : PySem.W.Frag} (hc : X.calm = true) (hK : X.K = K := by rfl) : CallR X (.builtin "all") (uAll K) := by subst hK; exact uc_all_0 hc
theorem uc_isi {K : PySem.W.Frag} (hK : X.K = K := by rfl) : CallR X (.builtin "isinstance") (uIsi K) := by subst hK; exact uc_isi_0 
theorem uc_set {K : PySem.W.Frag} (hc : X.calm = true) (hK : X.K = K := by rfl) : CallR X (.type "set") (uSetC K) := by subst hK; exact uc_set_0 hc
theorem uc_list {K : PySem.W.Frag} (hK : X.K = K := by rfl) : CallR X (.type "list") (uList K) := by subst hK; exact uc_list_0 
theorem uc_max {K : PySem.W.Frag} (hc : X.calm = true) (hK : X.K = K := by rfl) : CallR X (.builtin "max") (uMax K) := by subst hK; exact uc_max_0 hc
theorem ut_val {K : PySem.W.Frag} (ha : PE X a ta) (hK : X.K = K := by rfl) (he : ∀ whole, isTrue a X.env whole = (do let v ← whole; standAt a.pos; holding [v] (truthy v)) := by intro _; rfl) : PT X a (uTruth K ta) := by subst hK; exact ut_val_0 ha he
theorem ui_seq {K : PySem.W.Frag} {l : Expr} {tl : TE} (hl : PE X l tl) (hK : X.K = K := by rfl) : PI X tg l (uiSeq K tl) := by subst hK; exact ui_seq_0 hl
theorem ue_bm0 {K : PySem.W.Frag} (slot : Slot "list" name id) (hty : typeOf (.builtin id) = pure (.type "method_descriptor")) (hm : MtR X id r) (ho : PE X o to) (hK : X.K = K := by rfl)
    (hbase : attributeBase o name X.env (eval o X.env) = eval o X.env := by rfl) (hline : (apos.endLine == cpos.line) = true := by rfl) : PE X (.Call (.Attribute o name apos) [] [] cpos) (uBM0 K r to) := by subst hK; exact ue_bm0_0 slot hty hm ho hbase hline
theorem ue_bm {K : PySem.W.Frag} (slot : Slot "list" name id) (hty : typeOf (.builtin id) = pure (.type "method_descriptor")) (hm : MtR X id r) (ho : PE X o to) (ha : PA X (e :: es) t) (hK : X.K = K := by rfl)
    (hbase : attributeBase o name X.env (eval o X.env) = eval o X.env := by rfl) (hfew : (e :: es).length < 30 := by decide)
    (hline : (apos.endLine == cpos.line) = true := by rfl) (hs : (e :: es).all notStar = true := by rfl) :
    PE X (.Call (.Attribute o name apos) (e :: es) [] cpos) (uBM K r to t) := by
  subst hK
  refine ue_bm_0 slot hty hm ho ha hbase ?_ hline (se (seHd hs).1) (seAny (seHd hs).2)
  rw [seNone hs, keywordEach]
  simpa [backToKw] using hfew
/-! ### cuts: the ways meet -/
noncomputable def eCut (t : TE) : TE := fun σ H Q => ∃ M : VK, t σ H M ∧ ∀ v H', M v H' → Q v H'
theorem pe_cut {t : TE} (h : PE X e t) : PE X e (eCut t) := fun pins s σ H Q I ⟨M, h1, h2⟩ =>
  thn (h pins s σ H M I h1) fun _ _ ⟨v, H', I', r, q⟩ => ⟨v, H', I', r, h2 v H' q⟩
noncomputable def cCut (t : TT) : TT := fun σ H Q => ∃ M : Bool → Hp → Prop, t σ H M ∧ ∀ v H', M v H' → Q v H'
noncomputable def sCut (t u : TS) : TS := fun D σ H => ∃ M : St → Hp → Prop, t { D with nx := M } σ H ∧ ∀ σ' H', M σ' H' → u D σ' H'
theorem pss_cut {st : Stmt} {sts : List Stmt} {t u : TS} (h1 : PS X st t) (h2 : PSs X sts u) : PSs X (st :: sts) (sCut t u) := by
  intro pins s σ H D I ⟨M, q1, q2⟩
  refine wpAny_execs_cons (thn (h1 pins s σ H { D with nx := M } I q1) fun f s1 q => ?_)
  cases f with
  | next =>
    obtain ⟨σ', H', I', q⟩ := q
    exact h2 pins s1 σ' H' D I' (q2 σ' H' q)
  | ret v => exact q
  | brk => exact q
  | cont => exact q
end
/-- while, by a word and a measure -/
theorem while_of {c : TT} {tb : TS} {D : Ends} {σ : St} {H : Hp} (Pv : St → Hp → Prop) (μ : St → Hp → Nat) (h0 : Pv σ H)
    (hs : ∀ σ H, Pv σ H → c σ H fun b H1 => if b = true then ∃ N : St → Hp → Prop, (∀ σ' H', N σ' H' → ∃ m', m' < μ σ H ∧ Pv σ' H' ∧ m' = μ σ' H') ∧ tb { D with nx := N, ct := N, bk := D.nx } σ H1 else D.nx σ H1) : tWhile c tb D σ H := by
  refine ⟨fun m σ H => Pv σ H ∧ m = μ σ H, ⟨_, h0, rfl⟩, ?_⟩
  rintro m σ H ⟨p, rfl⟩
  exact hs σ H p
theorem while_go {Pv : St → Hp → Prop} {μ : St → Hp → Nat} {m : Nat} {tb : TS} {D : Ends} {σ : St} {H1 : Hp} (h : tb { D with nx := fun σ' H' => Pv σ' H' ∧ μ σ' H' < m, ct := fun σ' H' => Pv σ' H' ∧ μ σ' H' < m, bk := D.nx } σ H1) :
    ∃ N : St → Hp → Prop, (∀ σ' H', N σ' H' → ∃ m', m' < m ∧ Pv σ' H' ∧ m' = μ σ' H') ∧ tb { D with nx := N, ct := N, bk := D.nx } σ H1 := ⟨_, fun _ _ h => ⟨_, h.2, h.1, rfl⟩, h⟩
end L2

set_option Elab.async false
set_option linter.all false
set_option maxRecDepth 100000
set_option maxHeartbeats 4000000
/-! the judgements as structures: nothing unfolds while a term is read -/
namespace L2
open PySem PySem.Spec PyProof.Rows
structure QE (X : Cx) (e : Expr) (t : TE) : Prop where
  run : PE X e t
structure QT (X : Cx) (e : Expr) (t : TT) : Prop where
  run : PT X e t
structure QW (X : Cx) (e : Expr) (t : TT) : Prop where
  run : PW X e t
structure QA (X : Cx) (es : List Expr) (t : TA) : Prop where
  run : PA X es t
structure QS (X : Cx) (st : Stmt) (t : TS) : Prop where
  run : PS X st t
structure QSs (X : Cx) (st : List Stmt) (t : TS) : Prop where
  run : PSs X st t
structure QG (X : Cx) (e : Expr) (t : TG) : Prop where
  run : PG X e t
structure QGs (X : Cx) (es : List Expr) (t : TGs) : Prop where
  run : PGs X es t
structure QI (X : Cx) (tg it : Expr) (t : TI) : Prop where
  run : PI X tg it t
structure QF (X : Cx) (es : List Expr) (t : TT) : Prop where
  run : PIfs X es t
structure QO (X : Cx) (e : Option Expr) (t : TO) : Prop where
  run : PO X e t
section
variable {X : Cx} {K : PySem.W.Frag} {a b c e o tg iter : Expr} {es rest : List Expr} {ta tb tc te to : TE} {t : TA} {tA tB' : TT} {pos p apos cpos : Pos}
theorem q_v (i : Nat) {x : Str} (hN : X.N[i]? = some x := by rfl) (hv : Vis X.env.scope x := by first | exact Or.inl rfl | exact Or.inr (Or.inl rfl) | exact Or.inr (Or.inr rfl)) (hd : (x == ("__debug__" : Str)) = false := by decide) (hcd : (x == ("__classdict__" : Str)) = false := by decide) : QE X (.Name x pos) (uVar i) := ⟨uv i hN hv hd hcd⟩
theorem q_glob {x : Str} {v : V} {u : Value} (hg : Gl X x) (hm : X.mg x = some u) (r : RelV v u) (hd : (x == ("__debug__" : Str)) = false := by decide) : QE X (.Name x pos) (tC v) := ⟨pe_glob hg hm r hd⟩
theorem q_bltn {x : Str} {v : V} {u : Value} (hg : Gl X x) (hm : X.mg x = none) (hv : bootBuiltins x = some u) (r : RelV v u) (hn : x ≠ "__name__" := by decide) (hd : (x == ("__debug__" : Str)) = false := by decide) : QE X (.Name x pos) (tC v) := ⟨pe_bltn hg hm hv r hn hd⟩
theorem q_int {i j} : QE X (.Constant (.int i) j pos) (tC (.int i)) := ⟨pe_int⟩
theorem q_bl {b j} : QE X (.Constant (.bool b) j pos) (tC (.bl b)) := ⟨pe_bl⟩
theorem q_non {j} : QE X (.Constant .none j pos) (tC .non) := ⟨pe_non⟩
theorem q_str {x j} : QE X (.Constant (.str x) j pos) (tC (.str x)) := ⟨pe_str⟩
theorem q_op {op : Operator} {r : R2} (ho : OpR X (binaryOp op) r) (ha : QE X a ta) (hb : QE X b tb) : QE X (.BinOp a op b pos) (tOp r ta tb) := ⟨pe_op ho ha.run hb.run⟩
theorem q_un {op : UnaryOp} {r : V → Hp → VK → Prop} (ho : UnR X (unaryOp op) r) (ha : QE X a ta) : QE X (.UnaryOp op a pos) (tUn r ta) := ⟨pe_un ho ha.run⟩
theorem q_not (ha : QE X a ta) : QE X (.UnaryOp .Not a pos) (uNotV ta) := ⟨ue_not ha.run⟩
theorem q_cmp {op : CmpOp} {r : R2} (ho : OpR X (compareOp op) r) (ha : QE X a ta) (hb : QE X b tb) (hm : behindInMarks op b = false) : QE X (.Compare a [op] [b] pos) (tOp r ta tb) := ⟨pe_cmpR ho ha.run hb.run hm⟩
theorem q_and (ha : QE X a ta) (hb : QE X (.BoolOp .And (b :: rest) pos) tb) : QE X (.BoolOp .And (a :: b :: rest) pos) (uAndV ta tb) := ⟨ue_and ha.run hb.run⟩
theorem q_one {op} (h : QE X a ta) : QE X (.BoolOp op [a] pos) ta := ⟨pe_one h.run⟩
theorem q_none : QO X none tNoPart := ⟨po_none⟩
theorem q_some (h : QE X e te) : QO X (some e) (uPart te) := ⟨upo_some h.run⟩
theorem q_slice {lo hi : Option Expr} {tl th : TO} {p2 : Pos} {r : V → Option Int → Option Int → Hp → VK → Prop} (hr : SlR X r) (he : QE X e te) (hl : QO X lo tl) (hu : QO X hi th) : QE X (.Subscript e (.Slice lo hi none p2) pos) (tSl r te tl th) := ⟨pe_slice hr he.run hl.run hu.run⟩
theorem q_ix {r : R2} (hr : IxR X r) (ha : QE X a ta) (hb : QE X b tb) (hs : PlainIx b) : QE X (.Subscript a b pos) (tOp r ta tb) := ⟨pe_ix hr ha.run hb.run hs⟩
theorem q_nil : QA X [] tNil := ⟨pa_nil⟩
theorem q_cons (ha : QE X e te) (hr : QA X es t) (hn : notStar e = true := by rfl) : QA X (e :: es) (tCons te t) := ⟨ua_cons ha.run hr.run hn⟩
theorem q_lst (h : QA X es t) : QE X (.List es pos) (tLst t) := ⟨pe_lst h.run⟩
theorem q_tup {x1} (h : QA X es t) : QE X (.Tuple es x1 pos) (tTup t) := ⟨pe_tup h.run⟩
theorem q_callB {x : Str} {id : String} {r : List V → Hp → VK → Prop} (hc : CallR X (.builtin id) r) (hg : Gl X x) (hm : X.mg x = none) (hv : bootBuiltins x = some (.builtin id)) (ha : QA X (e :: es) t) (hn : x ≠ "__name__" := by decide) (hdb : (x == ("__debug__" : Str)) = false := by decide)
    (hs : (e :: es).all notStar = true := by rfl) : QE X (.Call (.Name x p) (e :: es) [] pos) (tCB r t) := ⟨ue_callB hc hg hm hv ha.run hn hdb hs⟩
theorem q_callTy {x : Str} {T : String} {r : List V → Hp → VK → Prop} (hc : CallR X (.type T) r) (hg : Gl X x) (hm : X.mg x = none) (hv : bootBuiltins x = some (.type T)) (ha : QA X (e :: es) t) (hn : x ≠ "__name__" := by decide) (hdb : (x == ("__debug__" : Str)) = false := by decide)
    (hs : (e :: es).all notStar = true := by rfl) : QE X (.Call (.Name x p) (e :: es) [] pos) (tCB r t) := ⟨ue_callTy hc hg hm hv ha.run hn hdb hs⟩
theorem q_g {CX : CXT} {x : Str} {ps : List Str} {k : Nat} {sp : Sp} {E : XK} (g : PG.G X.prog X.w X.K X.mg X.base CX x ps k sp) (hr : Room k X.A) (hx : Passes CX X E) (ha : QA X (e :: es) t) (hg : Gl X x := by rfl)
    (hdb : (x == ("__debug__" : Str)) = false := by decide) (hs : (e :: es).all notStar = true := by rfl) : QE X (.Call (.Name x p) (e :: es) [] pos) (tCall sp [] E t) := ⟨ue_g g hr hx ha.run hg hdb hs⟩
theorem q_bm0 {name : Str} {id : String} {r : V → List V → Hp → VK → Prop} (slot : Slot "list" name id) (hty : typeOf (.builtin id) = pure (.type "method_descriptor")) (hm : MtR X id r) (ho : QE X o to) (hK : X.K = K := by rfl)
    (hbase : attributeBase o name X.env (eval o X.env) = eval o X.env := by rfl) (hline : (apos.endLine == cpos.line) = true := by rfl) : QE X (.Call (.Attribute o name apos) [] [] cpos) (uBM0 K r to) := ⟨ue_bm0 slot hty hm ho.run hK hbase hline⟩
theorem q_bm {name : Str} {id : String} {r : V → List V → Hp → VK → Prop} (slot : Slot "list" name id) (hty : typeOf (.builtin id) = pure (.type "method_descriptor")) (hm : MtR X id r) (ho : QE X o to) (ha : QA X (e :: es) t) (hK : X.K = K := by rfl)
    (hbase : attributeBase o name X.env (eval o X.env) = eval o X.env := by rfl) (hfew : (e :: es).length < 30 := by decide)
    (hline : (apos.endLine == cpos.line) = true := by rfl) (hs : (e :: es).all notStar = true := by rfl) : QE X (.Call (.Attribute o name apos) (e :: es) [] cpos) (uBM K r to t) := ⟨ue_bm slot hty hm ho.run ha.run hK hbase hfew hline hs⟩
theorem q_cut {t : TE} (h : QE X e t) : QE X e (eCut t) := ⟨pe_cut h.run⟩
/-! tests -/
theorem q_tcmp {op : CmpOp} {r : R2} (ho : OpR X (compareOp op) r) (ha : QE X a ta) (hb : QE X b tb) (hm : behindInMarks op b = false) : QT X (.Compare a [op] [b] pos) (uTest (tOp r ta tb)) := ⟨ut_cmp ho ha.run hb.run hm⟩
theorem q_tw (h : QW X e tA) : QT X e tA := ⟨PW.pt h.run⟩
theorem q_tand1 (ha : QT X a tA) : QW X (.BoolOp .And [a] pos) tA := ⟨pw_and1 ha.run⟩
theorem q_tor1 (ha : QT X a tA) : QW X (.BoolOp .Or [a] pos) tA := ⟨pw_or1 ha.run⟩
theorem q_tand (ha : QT X a tA) (hb : QW X (.BoolOp .And (b :: rest) pos) tB') : QW X (.BoolOp .And (a :: b :: rest) pos) (tAnd tA tB') := ⟨pw_and ha.run hb.run⟩
theorem q_tor (ha : QT X a tA) (hb : QW X (.BoolOp .Or (b :: rest) pos) tB') : QW X (.BoolOp .Or (a :: b :: rest) pos) (tOr tA tB') := ⟨pw_or ha.run hb.run⟩
theorem q_tnot (ha : QT X a tA) : QT X (.UnaryOp .Not a pos) (tNot tA) := ⟨pt_not ha.run⟩
theorem q_tval (ha : QE X a ta) (hK : X.K = K := by rfl) (he : ∀ whole, isTrue a X.env whole = (do let v ← whole; standAt a.pos; holding [v] (truthy v)) := by intro _; rfl) : QT X a (uTruth K ta) := ⟨ut_val ha.run hK he⟩
/-! sources -/
theorem q_range1 (hm : X.mg "range" = none) (ha : QA X [a] t) (hg : Gl X "range" := by rfl) (hn : notStar a = true := by rfl) : QI X tg (.Call (.Name "range" p) [a] [] pos) (uiRng1 t) := ⟨ui_range1 hm ha.run hg hn⟩
theorem q_range2 (hm : X.mg "range" = none) (ha : QA X [a, b] t) (hg : Gl X "range" := by rfl) (hn : notStar a = true := by rfl) (hn2 : notStar b = true := by rfl) : QI X tg (.Call (.Name "range" p) [a, b] [] pos) (uiRng2 t) := ⟨ui_range2 hm ha.run hg hn hn2⟩
theorem q_seq {l : Expr} {tl : TE} (hl : QE X l tl) (hK : X.K = K := by rfl) : QI X tg l (uiSeq K tl) := ⟨ui_seq hl.run hK⟩
/-! targets -/
theorem q_name {i : Nat} {x : Str} (hN : X.N.Nodup) (hi : X.N[i]? = some x) (hx : Loc X.env.scope x) (hf : X.fn x = true ∨ X.env.scope.names.lookup x = some .local := by first | exact .inl rfl | exact .inr rfl | assumption) : QG X (.Name x pos) (gName i) := ⟨pg_name hN hi hx hf⟩
theorem q_gnil : QGs X [] gNil := ⟨pgs_nil⟩
theorem q_gcons {g : TG} {u : TGs} (h1 : QG X e g) (h2 : QGs X es u) (hs : (assignEach (e :: es) X.env).map (·.2) = assign e X.env :: (assignEach es X.env).map (·.2) := by rfl) : QGs X (e :: es) (gCons g u) := ⟨pgs_cons h1.run h2.run hs⟩
theorem q_gtup {k : Nat} {u : TGs} {n : Nat} (hc : X.calm = true) (h : QGs X es u) (hK : X.K = K := by rfl) (hn : (assignEach es X.env).length = n := by rfl) (hst : (assignEach es X.env).findIdx? (·.1) = none := by rfl) : QG X (.Tuple es k pos) (gTup K n u) := by subst hK; exact ⟨pg_tup hc h.run hn hst⟩
theorem q_gsub {i : Expr} {ti : TE} {u : TSet} (ho : QE X o to) (hi : QE X i ti) (hs : PSet X u)
    (ha : ∀ v, assign (.Subscript o i pos) X.env v = (do
      let ov ← holding [v] (eval o X.env)
      let iv ← holding [v, ov] (eval i X.env)
      standAt pos
      holding [v, ov, iv] (setItem ov iv v)
      release [v, ov, iv] []) := by intro _; rfl) : QG X (.Subscript o i pos) (gSub to ti u) := ⟨pg_sub ho.run hi.run hs ha⟩
theorem q_fnil : QF X [] tTrue := ⟨pif_nil⟩
/-! comprehensions -/
theorem q_comp {scope : Scope} {wi : TI} {g : TG} {tc : TT} {elt : Expr} {ifs : List Expr} (bl : List (Option Nat)) (N' : List Str) (hc : X.calm = true) (k : compOk X.env.scope scope X.N N' bl = true) (hi : QI X tg iter wi) (hg : ∀ C s H fp pins, QG (blkCx X scope N' C s H fp pins) tg g)
    (hf : ∀ C s H fp pins, QF (blkCx X scope N' C s H fp pins) ifs tc) (he : ∀ C s H fp pins, QE (blkCx X scope N' C s H fp pins) elt te)
    (hs : ∀ x, foldedSetIterable iter X.env x = pure x := by intro _; rfl) : QE X (.ListComp elt [⟨tg, iter, ifs, 0⟩] scope pos) (tComp bl wi g tc te) :=
  ⟨pe_comp bl N' hc k hi.run (fun C s H fp pins => (hg C s H fp pins).run) (fun C s H fp pins => (hf C s H fp pins).run) (fun C s H fp pins => (he C s H fp pins).run) hs⟩
/-! statements -/
variable {st : Stmt} {sts body els : List Stmt} {t1 t2 : TS}
theorem q_set {i : Nat} {x : Str} {pos' : Pos} (hN : X.N.Nodup) (hi : X.N[i]? = some x) (hx : Loc X.env.scope x) (he : QE X e te) (hs : swapsWith e (some (.Name x pos')) pos.line X.env = pure false := by rfl) (hf : X.fn x = true ∨ X.env.scope.names.lookup x = some .local := by first | exact .inl rfl | exact .inr rfl | assumption) :
    QS X (.Assign [.Name x pos'] e pos) (tAsg te (gName i)) := ⟨ps_set hN hi hx he.run hs hf⟩
theorem q_setC {scope : Scope} {wi : TI} {g : TG} {tc : TT} {elt : Expr} {ifs : List Expr} {i : Nat} {y : Str} {py spos : Pos} (bl : List (Option Nat)) (N' : List Str) (hN : X.N.Nodup) (hi' : X.N[i]? = some y) (hy : X.env.kindOf y = some .local) (hc : X.calm = true) (k : compOk X.env.scope scope X.N N' bl = true) (hi : QI X tg iter wi)
    (hg : ∀ C s H fp pins, QG (blkCx X scope N' C s H fp pins) tg g) (hf : ∀ C s H fp pins, QF (blkCx X scope N' C s H fp pins) ifs tc) (he : ∀ C s H fp pins, QE (blkCx X scope N' C s H fp pins) elt te)
    (hsw : swapsWith (.ListComp elt [⟨tg, iter, ifs, 0⟩] scope pos) (some (.Name y py)) spos.line X.env = pure true := by rfl) (hs : ∀ x, foldedSetIterable iter X.env x = pure x := by intro _; rfl) :
    QS X (.Assign [.Name y py] (.ListComp elt [⟨tg, iter, ifs, 0⟩] scope pos) spos) (tAsg (tComp bl wi g tc te) (gName i)) :=
  ⟨ps_setC bl N' hN hi' hy hc k hi.run (fun C s H fp pins => (hg C s H fp pins).run) (fun C s H fp pins => (hf C s H fp pins).run) (fun C s H fp pins => (he C s H fp pins).run) hsw hs⟩
theorem q_asg {g : TG} (he : QE X e te) (hg : QG X tg g) (hs : swapsWithSole [tg] e pos.line X.env = pure false := by rfl) (hw : swappedStores [tg] e X.env = pure none := by rfl)
    (h1 : (assignEach [tg] X.env).map (·.2) = [assign tg X.env] := by rfl) : QS X (.Assign [tg] e pos) (tAsg te g) := ⟨ps_asg he.run hg.run hs hw h1⟩
theorem q_sif (hc : QT X c tA) (ha : QSs X body t1) (hb : QSs X els t2) : QS X (.If c body els pos) (tIfS tA t1 t2) := ⟨ps_if hc.run ha.run hb.run⟩
theorem q_for {wi : TI} {g : TG} (hp : PassesOwn (model X.prog X.w) X.A X.env X.xe) (hc : X.calm = true) (hi : QI X tg iter wi) (hg : QG X tg g) (hb : QSs X body t1)
    (hs : ∀ x, foldedSetIterable iter X.env x = pure x := by intro _; rfl) : QS X (.For tg iter body [] pos) (tFor wi g t1) := ⟨ps_for hp hc hi.run hg.run hb.run hs⟩
theorem q_while (hp : PassesOwn (model X.prog X.w) X.A X.env X.xe) (hc : QT X c tA) (hb : QSs X body t1) : QS X (.While c body [] pos) (tWhile tA t1) := ⟨ps_while hp hc.run hb.run⟩
theorem q_ret (he : QE X e te) : QS X (.Return (some e) pos) (tRet te) := ⟨ps_ret he.run⟩
theorem q_expr (he : QE X e te) (hs : swapsWith e none pos.line X.env = pure false := by rfl) : QS X (.Expr e pos) (tDrop te) := ⟨ps_expr he.run hs⟩
theorem q_never : QS X st tNever := ⟨ps_never⟩
theorem q_snil : QSs X [] tNext := ⟨pss_nil⟩
theorem q_sone (h : QS X st t1) : QSs X [st] t1 := ⟨pss_one h.run⟩
theorem q_scons (h : QS X st t1) (h2 : QSs X sts t2) : QSs X (st :: sts) (tSeq t1 t2) := ⟨pss_cons h.run h2.run⟩
theorem q_scut (h : QS X st t1) (h2 : QSs X sts t2) : QSs X (st :: sts) (sCut t1 t2) := ⟨pss_cut h.run h2.run⟩
end
end L2

set_option Elab.async false
set_option linter.all false
set_option maxRecDepth 100000



namespace L2
open PySem PySem.Spec PyProof.Rows
section
variable {X : Cx}

variable {a b : Expr} {ta tb : TE} {pos : Pos}
variable {tA tB' : TT} {rest : List Expr}
end
end L2





namespace L2
open PySem PySem.Spec PyProof.Rows




section
variable {X : Cx} {CX : CXT} {k : Nat} {f C : Addr} {fd : FuncData} {ps ks : List Str} {sp : Sp} {E : XK} {x m : Str} {p pos apos kpos : Pos} {e o : Expr} {es : List Expr} {kws : List Keyword} {te ta : TE} {t tk : TA} {nm : Option Str}
variable {g : List Value → List Value → List Value} {gV : List V → List V → List V}
end

end L2


namespace L2
open PySem PySem.Spec PyProof.Rows

section
variable {κ : Type} [DecidableEq κ]
noncomputable def valV (kvs : List (κ × V)) (k : κ) : Option V := (kvs.find? fun kv => decide (kv.1 = k)).map (·.2)
/-- in its place, or at the end -/
noncomputable def putK (kvs : List (κ × V)) (k : κ) (v : V) : List (κ × V) :=
  if (kvs.any fun kv => decide (kv.1 = k)) = true then kvs.map (fun kv => if kv.1 = k then (kv.1, v) else kv) else kvs ++ [(k, v)]
noncomputable def dropK (kvs : List (κ × V)) (k : κ) : List (κ × V) := kvs.filter fun kv => decide (kv.1 ≠ k)

theorem valV_pos {p : κ × V} {r : List (κ × V)} {k : κ} (e : p.1 = k) : valV (p :: r) k = some p.2 := by simp [valV, List.find?_cons, e]
theorem valV_neg {p : κ × V} {r : List (κ × V)} {k : κ} (e : ¬ p.1 = k) : valV (p :: r) k = valV r k := by simp [valV, List.find?_cons, e]
theorem valV_any (k : κ) : ∀ kvs : List (κ × V), (kvs.any fun kv => decide (kv.1 = k)) = (valV kvs k).isSome
  | [] => rfl
  | p :: r => by
    rw [List.any_cons]
    by_cases e : p.1 = k
    · simp only [valV_pos e, decide_eq_true e, Bool.true_or, Option.isSome_some]
    · rw [valV_neg e, decide_eq_false e, Bool.false_or]; exact valV_any k r
theorem valV_map (k j : κ) (y : V) : ∀ kvs : List (κ × V), valV (kvs.map fun kv => if kv.1 = k then (kv.1, y) else kv) j = (valV kvs j).map fun x => if j = k then y else x
  | [] => rfl
  | p :: r => by
    have ih := valV_map k j y r
    rw [List.map_cons]
    by_cases h : p.1 = k
    · rw [if_pos h]
      by_cases e : p.1 = j
      · rw [valV_pos (p := (p.1, y)) e, valV_pos e, Option.map_some, if_pos (e.symm.trans h)]
      · rw [valV_neg (p := (p.1, y)) e, valV_neg e, ih]
    · rw [if_neg h]
      by_cases e : p.1 = j
      · rw [valV_pos (p := p) e, valV_pos e, Option.map_some, if_neg (fun z => h (e.trans z))]
      · rw [valV_neg (p := p) e, valV_neg e, ih]
theorem valV_snoc (k j : κ) (y : V) : ∀ kvs : List (κ × V), valV kvs k = none → valV (kvs ++ [(k, y)]) j = if j = k then some y else valV kvs j
  | [], _ => by
    by_cases e : k = j
    · rw [if_pos e.symm]; exact valV_pos (p := (k, y)) e
    · rw [if_neg (fun z => e z.symm)]; exact valV_neg (p := (k, y)) e
  | p :: r, hn => by
    rw [List.cons_append]
    have hk : ¬ p.1 = k := fun z => by rw [valV_pos z] at hn; cases hn
    rw [valV_neg hk] at hn
    have ih := valV_snoc k j y r hn
    by_cases e : p.1 = j
    · rw [valV_pos e, valV_pos e, if_neg (fun z => hk (e.trans z))]
    · rw [valV_neg e, valV_neg e, ih]
theorem valV_put (kvs : List (κ × V)) (k j : κ) (y : V) : valV (putK kvs k y) j = if j = k then some y else valV kvs j := by
  unfold putK
  by_cases a : (kvs.any fun kv => decide (kv.1 = k)) = true
  · rw [if_pos a, valV_map]
    rw [valV_any] at a
    by_cases e : j = k
    · obtain ⟨x, hx⟩ := Option.isSome_iff_exists.mp a
      rw [if_pos e, e, hx, Option.map_some, if_pos rfl]
    · rw [if_neg e]
      cases valV kvs j with
      | none => rfl
      | some x => rw [Option.map_some, if_neg e]
  · rw [if_neg a]
    refine valV_snoc k j y kvs ?_
    rw [valV_any] at a
    cases q : valV kvs k with
    | none => rfl
    | some x => rw [q] at a; exact (a rfl).elim
theorem length_putK (kvs : List (κ × V)) (k : κ) (v : V) : (putK kvs k v).length ≤ kvs.length + 1 := by
  unfold putK
  split
  · rw [List.length_map]; omega
  · rw [List.length_append, List.length_cons, List.length_nil]; omega

theorem RelO.isSome_eq {o : Option V} {u : Option Value} (r : RelO o u) : o.isSome = u.isSome := by
  cases o with
  | none => cases u with
    | none => rfl
    | some _ => exact (show False from r).elim
  | some _ => cases u with
    | none => exact (show False from r).elim
    | some _ => rfl
theorem RelO.getD {o : Option V} {u : Option Value} {d : V} {d' : Value} (r : RelO o u) (rd : RelV d d') : RelV (o.getD d) (u.getD d') := by
  cases o with
  | none => cases u with
    | none => exact rd
    | some _ => exact (show False from r).elim
  | some _ => cases u with
    | none => exact (show False from r).elim
    | some _ => exact r

/-- raw tables of the same keys -/
theorem KV.val {kvs : List (κ × V)} {vs : List (κ × Value)} (r : KV kvs vs) (k : κ) : RelO (valV kvs k) (valueAt vs k) := by
  unfold KV at r
  induction r with
  | nil => exact True.intro
  | @cons p q ps qs h t ih =>
    obtain ⟨h1, h2⟩ := h
    by_cases e : p.1 = k
    · have e' : q.1 = k := h1.symm.trans e
      have b : valueAt (q :: qs) k = some q.2 := by simp [valueAt, List.find?_cons, e']
      rw [valV_pos e, b]; exact h2
    · have e' : ¬ q.1 = k := fun z => e (h1.trans z)
      have b : valueAt (q :: qs) k = valueAt qs k := by simp [valueAt, List.find?_cons, e']
      rw [valV_neg e, b]; exact ih
theorem KV.any {kvs : List (κ × V)} {vs : List (κ × Value)} (r : KV kvs vs) (k : κ) : (kvs.any fun kv => decide (kv.1 = k)) = vs.any fun kv => decide (kv.1 = k) := by
  unfold KV at r
  induction r with
  | nil => rfl
  | cons h t ih => rw [List.any_cons, List.any_cons, ih, h.1]
theorem KV.repl {kvs : List (κ × V)} {vs : List (κ × Value)} (r : KV kvs vs) (k : κ) {y : V} {u : Value} (ry : RelV y u) :
    KV (kvs.map fun kv => if kv.1 = k then (kv.1, y) else kv) (vs.map fun kv => if kv.1 = k then (kv.1, u) else kv) := by
  unfold KV at r ⊢
  induction r with
  | nil => exact .nil
  | @cons p q ps qs h t ih =>
    rw [List.map_cons, List.map_cons]
    refine .cons ?_ ih
    obtain ⟨h1, h2⟩ := h
    by_cases e : p.1 = k
    · rw [if_pos e, if_pos (h1.symm.trans e)]; exact ⟨h1, ry⟩
    · rw [if_neg e, if_neg (fun z => e (h1.trans z))]; exact ⟨h1, h2⟩
theorem KV.put {kvs : List (κ × V)} {vs : List (κ × Value)} (r : KV kvs vs) (k : κ) {y : V} {u : Value} (ry : RelV y u) : KV (putK kvs k y) (stored vs k u) := by
  unfold putK stored
  rw [r.any k]
  by_cases e : (vs.any fun kv => decide (kv.1 = k)) = true
  · rw [if_pos e, if_pos e]; exact r.repl k ry
  · rw [if_neg e, if_neg e]; exact Paired.snoc r ⟨rfl, ry⟩
theorem KV.length {kvs : List (κ × V)} {vs : List (κ × Value)} (r : KV kvs vs) : kvs.length = vs.length := Paired.length r
end


theorem kV_is {P : Program} {w : World} {k : Key} {u : Value} (r : RelV (kV k) u) : (mixKind P w).is k u = true := by
  cases k with
  | inl i => obtain ⟨t, e⟩ := (show ∃ t, u = Value.int i t from r); subst e; exact mixKind_int P w i t
  | inr x => obtain ⟨t, e⟩ := (show ∃ t, u = Value.str x t from r); subst e; exact mixKind_str P w x t
theorem kV_inj {a b : Key} (e : kV a = kV b) : a = b := by
  cases a with
  | inl i => cases b with
    | inl j => have e' : V.int i = V.int j := e; injection e' with e'; rw [e']
    | inr y => exact nomatch (show V.int i = V.str y from e)
  | inr x => cases b with
    | inl j => exact nomatch (show V.str x = V.int j from e)
    | inr y => have e' : V.str x = V.str y := e; injection e' with e'; rw [e']
theorem items_are {P : Program} {w : World} : ∀ {ks : List Key} {us : List Value}, Vals (ks.map kV) us → ItemsAre (mixKind P w) ks us
  | [], _, r => by rw [List.map_nil] at r; cases r; exact .nil
  | k :: ks, _, r => by
    rw [List.map_cons] at r
    cases r with
    | cons h t => exact .cons (kV_is h) (items_are t)

/-- raw entries of a dict with tuple keys -/
noncomputable abbrev KT (H : Hp) : List (List Key × V) → List (List Key × Addr × Value) → Prop := Paired fun p q => p.1 = q.1 ∧ H q.2.1 = some (.tup (p.1.map kV)) ∧ RelV p.2 q.2.2
theorem KT.val {H : Hp} {kvs : List (List Key × V)} {xs : List (List Key × Addr × Value)} (r : KT H kvs xs) (k : List Key) : RelO (valV kvs k) ((atKey xs k).map (·.2)) := by
  induction r with
  | nil => exact True.intro
  | @cons p q ps qs h t ih =>
    obtain ⟨h1, _, h2⟩ := h
    by_cases e : p.1 = k
    · have e' : q.1 = k := h1.symm.trans e
      have b : atKey (q :: qs) k = some q.2 := by simp [atKey, List.find?_cons, e']
      rw [valV_pos e, b]; exact h2
    · have e' : ¬ q.1 = k := fun z => e (h1.trans z)
      have b : atKey (q :: qs) k = atKey qs k := by simp [atKey, List.find?_cons, e']
      rw [valV_neg e, b]; exact ih
theorem KT.repl {H : Hp} {kvs : List (List Key × V)} {xs : List (List Key × Addr × Value)} (r : KT H kvs xs) (k : List Key) {y : V} {u : Value} (ry : RelV y u) :
    KT H (kvs.map fun kv => if kv.1 = k then (kv.1, y) else kv) (xs.map (putAt k u)) := by
  induction r with
  | nil => exact .nil
  | @cons p q ps qs h t ih =>
    rw [List.map_cons, List.map_cons]
    refine .cons ?_ ih
    obtain ⟨h1, h2, h3⟩ := h
    unfold putAt
    by_cases e : p.1 = k
    · rw [if_pos e, if_pos (h1.symm.trans e)]; exact ⟨h1, h2, ry⟩
    · rw [if_neg e, if_neg (fun z => e (h1.trans z))]; exact ⟨h1, h2, h3⟩
theorem KT.put {H : Hp} {kvs : List (List Key × V)} {xs : List (List Key × Addr × Value)} (r : KT H kvs xs) (k : List Key) {b : Addr} {y : V} {u : Value} (hb : H b = some (.tup (k.map kV))) (ry : RelV y u) :
    KT H (putK kvs k y) (storedH xs k b u) := by
  have e : (kvs.any fun kv => decide (kv.1 = k)) = (atKey xs k).isSome := by
    rw [valV_any, (r.val k).isSome_eq, Option.isSome_map]
  unfold putK storedH
  rw [e]
  by_cases q : (atKey xs k).isSome = true
  · rw [if_pos q, if_pos q]; exact r.repl k ry
  · rw [if_neg q, if_neg q]; exact Paired.snoc r ⟨rfl, hb, ry⟩
theorem KT.keeps {H H' : Hp} {kvs : List (List Key × V)} {xs : List (List Key × Addr × Value)} (r : KT H kvs xs) (ht : ∀ b ys, H b = some (.tup ys) → H' b = some (.tup ys)) : KT H' kvs xs :=
  Paired.mapP r fun _ _ z => ⟨z.1, ht _ _ z.2.1, z.2.2⟩

section
variable {P : Program} {w : World} {H : Hp} {h : Heap} {a : Addr}
theorem rd_of {u : HO} (ok : HOk P w H h) (e : Rd H a u) : ObjOk P w H h a u := e.ok ok
theorem dk_rd {kvs : List (Key × V)} (ok : HOk P w H h) (e : Rd H a (.dK kvs)) : kvs.length ≤ sizeLine ∧ (a == sysModules) = false ∧ ∃ vs, KV kvs vs ∧ h.DictOf (mixKind P w) a vs :=
  show ObjOk P w H h a (.dK kvs) from rd_of ok e
theorem dk_of {kvs : List (Key × V)} (ok : HOk P w H h) (e : H a = some (.dK kvs)) : kvs.length ≤ sizeLine ∧ (a == sysModules) = false ∧ ∃ vs, KV kvs vs ∧ h.DictOf (mixKind P w) a vs := dk_rd ok (.inl e)
/-- a tracked tuple of ints and texts is a key -/
theorem key_of {ks : List Key} (ok : HOk P w H h) (e : H a = some (.tup (ks.map kV))) : (tupleKind (mixKind P w)).is h ks a := by
  obtain ⟨_, its, r, o, h1, h2, n, h3⟩ := (show ObjOk P w H h a (.tup (ks.map kV)) from ok a _ e)
  exact ⟨o, its.toArray, n, h1, h2, h3, by simpa using items_are r⟩
theorem dt_rd {kvs : List (List Key × V)} (ok : HOk P w H h) (e : Rd H a (.dT kvs)) : kvs.length ≤ sizeLine ∧ (a == sysModules) = false ∧
    ∃ xs, KT H kvs xs ∧ h.DictOfH (tupleKind (mixKind P w)) a xs := by
  obtain ⟨z, y, xs, r, o, es, ep, h1, h2, h3, h4, h5⟩ := (show ObjOk P w H h a (.dT kvs) from rd_of ok e)
  refine ⟨z, y, xs, r, o, es, ep, h1, h2, h3, h4, fun x hx => ?_, h5⟩
  have all : ∀ {l : List (List Key × V)} {m : List (List Key × Addr × Value)}, KT H l m → ∀ x ∈ m, (tupleKind (mixKind P w)).is h x.1 x.2.1 := by
    intro l m q
    induction q with
    | nil => intro x hx; exact nomatch hx
    | @cons p q ps qs hq t ih =>
      intro x hx
      rcases List.mem_cons.mp hx with e | hx
      · subst e
        exact key_of ok (by rw [← hq.1]; exact hq.2.1)
      · exact ih x hx
  exact all r x hx
theorem dt_of {kvs : List (List Key × V)} (ok : HOk P w H h) (e : H a = some (.dT kvs)) : kvs.length ≤ sizeLine ∧ (a == sysModules) = false ∧
    ∃ xs, KT H kvs xs ∧ h.DictOfH (tupleKind (mixKind P w)) a xs := dt_rd ok (.inl e)
end

/-- what the dict at a holds at the key y -/
noncomputable def DGet (H : Hp) (a : Addr) (y : V) (r : Option V) : Prop :=
  (∃ kvs k, Rd H a (.dK kvs) ∧ y = kV k ∧ r = valV kvs k) ∨ ∃ kvs k b, Rd H a (.dT kvs) ∧ y = .ref b ∧ H b = some (.tup (k.map kV)) ∧ r = valV kvs k
/-- the heap behind a[y] = v -/
noncomputable def DPut (H : Hp) (a : Addr) (y v : V) (H' : Hp) : Prop :=
  (∃ kvs k, H a = some (.dK kvs) ∧ y = kV k ∧ kvs.length < sizeLine ∧ H' = upd H a (.dK (putK kvs k v))) ∨
  ∃ kvs k b, H a = some (.dT kvs) ∧ y = .ref b ∧ H b = some (.tup (k.map kV)) ∧ kvs.length < sizeLine ∧ H' = upd H a (.dT (putK kvs k v))


section
variable {X : Cx} {pins : List (Addr × Obj)} {σ : St} {H : Hp} {s : Shared} {a : Addr} {y v : V} {u r : Value} {o : Option V} {A : Around} {E : Value → Shared → Prop}

theorem Inv.big (I : Inv X pins σ H s) : sysModules < s.heap.objs.size := by
  have h : mainGlobals < s.heap.objs.size := (I.mod.glob.keeps I.bk).lt
  exact Nat.lt_trans (by decide) h

/-- d[y], there -/
theorem d_getItem {Q : Value → Shared → Prop} (hu : A.units + 1 < cLine) (I : Inv X pins σ H s) (g : DGet H a y (some v)) (ry : RelV y u) (h : ∀ w' s', Inv X pins σ H s' → RelV v w' → Q w' s') :
    wpAny (model X.prog X.w) A (getItem (.ref a) u) Q E s := by
  rcases g with ⟨kvs, k, e, ey, l⟩ | ⟨kvs, k, b, e, ey, eb, l⟩
  · subst ey
    obtain ⟨z, hd, vs, rel, dd⟩ := dk_rd I.hok e
    obtain ⟨w', hw, rw'⟩ := RelO.some_of (v := v) (o := valueAt vs k) (by rw [l]; exact rel.val k)
    exact wpAny_getItem_of (kV_is ry) dd.mapOf hw (h w' _ (I.tok _) rw')
  · subst ey
    cases (show u = Value.ref b from ry)
    obtain ⟨z, hd, xs, rel, dd⟩ := dt_rd I.hok e
    obtain ⟨w', hw, rw'⟩ := RelO.some_of (v := v) (o := (atKey xs k).map (·.2)) (by rw [l]; exact rel.val k)
    obtain ⟨p, hp, hp2⟩ := Option.map_eq_some_iff.mp hw
    refine wpAny_getItem_heap (tupleKind_room_in1 hu) (key_of I.hok eb) dd hp ?_
    rw [hp2]
    exact h w' _ (I.tok _) rw'
theorem d_notIn {Q : Value → Shared → Prop} (hu : A.units + 1 < cLine) (I : Inv X pins σ H s) (g : DGet H a y o) (ry : RelV y u) (h : ∀ s', Inv X pins σ H s' → Q (.bool (!o.isSome)) s') :
    wpAny (model X.prog X.w) A (compareOp .NotIn u (.ref a)) Q E s := by
  rcases g with ⟨kvs, k, e, ey, l⟩ | ⟨kvs, k, b, e, ey, eb, l⟩
  · subst ey
    obtain ⟨z, hd, vs, rel, dd⟩ := dk_rd I.hok e
    refine wpAny_notIn_of (kV_is ry) hd dd.mapOf ?_
    rw [← (rel.val k).isSome_eq, ← l]
    exact h _ (I.tok _)
  · subst ey
    cases (show u = Value.ref b from ry)
    obtain ⟨z, hd, xs, rel, dd⟩ := dt_rd I.hok e
    refine wpAny_notIn_heap (tupleKind_room_in1 hu) (key_of I.hok eb) hd dd ?_
    have q := (rel.val k).isSome_eq
    rw [Option.isSome_map] at q
    rw [← q, ← l]
    exact h _ (I.tok _)
/-- a dict's object is replaced -/
theorem d_write {h' : Heap} {t' : Nat} {ob : HO} (I : Inv X pins σ H s) (mu : Mut (H a)) (hs : Heap.SameBut a s.heap h') (he : ∃ q, h'.get? a = some q) (new : ObjOk X.prog X.w (upd H a ob) h' a ob) :
    Inv X pins σ (upd H a ob) { s with heap := h', toks := t' } :=
  I.write (x := a) (e := a) mu (.inl rfl) (fun b q hb z => (hs.2 b hb).trans z) he new
theorem dk_new {P : Program} {w : World} {H' : Hp} {h' : Heap} {kvs : List (Key × V)} {vs : List (Key × Value)} (z : kvs.length ≤ sizeLine) (hd : (a == sysModules) = false) (rel : KV kvs vs) (dd : h'.DictOf (mixKind P w) a vs) :
    ObjOk P w H' h' a (.dK kvs) := ⟨z, hd, vs, rel, dd⟩
/-- d[y] = v -/
theorem d_setItem {H' : Hp} {Q : Unit → Shared → Prop} (hu : A.units + 1 < cLine) (I : Inv X pins σ H s) (g : DPut H a y v H') (ry : RelV y u) (rv : RelV v r) (h : ∀ s', Inv X pins σ H' s' → Q () s') :
    wpAny (model X.prog X.w) A (setItem (.ref a) u r) Q E s := by
  rcases g with ⟨kvs, k, e, ey, l, eH⟩ | ⟨kvs, k, b, e, ey, eb, l, eH⟩
  · subst ey eH
    obtain ⟨z, hd, vs, rel, dd⟩ := dk_of I.hok e
    have hz : vs.length ≤ sizeLine := by rw [← rel.length]; exact z
    have hl : (putK kvs k v).length ≤ sizeLine := by have := length_putK kvs k v; omega
    refine wpAny_setItem_pairs (hsz := hz) (kV_is ry) dd fun h' dd' hs => h _ ?_
    have he : ∃ q, h'.get? a = some q := let ⟨q, _, _, hq, _⟩ := dd'; ⟨q, hq⟩
    exact d_write I (by rw [e]; exact True.intro) hs he (dk_new hl hd (rel.put k rv) dd')
  · subst ey eH
    cases (show u = Value.ref b from ry)
    obtain ⟨z, hd, xs, rel, dd⟩ := dt_of I.hok e
    have hz : xs.length ≤ sizeLine := by rw [← Paired.length rel]; exact z
    have hl : (putK kvs k v).length ≤ sizeLine := by have := length_putK kvs k v; omega
    refine wpAny_setItem_heap (hsz := hz) (tupleKind_room_in1 hu) (key_of I.hok eb) dd fun h' dd' hs => h _ ?_
    obtain ⟨q, es, ep, hq, h2, h3, h4, _, h5⟩ := dd'
    refine d_write I (by rw [e]; exact True.intro) hs ⟨q, hq⟩ ⟨hl, hd, _, (rel.put k eb rv).keeps fun c ys ec => ?_, q, es, ep, hq, h2, h3, h4, h5⟩
    rw [upd_ne (ne_of ec e (fun z => nomatch z))]
    exact ec
end

section
variable {X : Cx} {pins : List (Addr × Obj)} {σ : St} {H : Hp} {s : Shared} {a : Addr} {kvs : List (Key × V)} {k : Key} {u : Value} {A : Around} {E : Value → Shared → Prop}
end


/-- the element of a subscription, not a slice -/
noncomputable def NoSl (i : Expr) : Prop := ∀ ov iv, subscripted i false ov iv = operate [ov, iv] (getItem ov iv)
theorem subD_of {prog : Program} {w : World} {A : Around} {E : Value → Shared → Prop} {s : Shared} {env : Env} {value slice : Expr} {pos : Pos} {T id : String} {Q : Value → Shared → Prop}
    (hl : typeLookup (.type T) "__getitem__" = pure (some (.builtin id))) (hs : NoSl slice)
    (h : wpAny (model prog w) A (eval value env) (fun o s₁ => wpAny (model prog w) A (eval slice env) (fun i s₂ => s₂.TypeIs o T ∧ wpAny (model prog w) A (getItem o i) Q E s₂) E s₁) E s) :
    wpAny (model prog w) A (eval (.Subscript value slice pos) env) Q E s := by
  refine Subscript_ (wpAny_mono h (fun o s₁ h₁ => wpAny_mono h₁ (fun i s₂ h₂ => ?_) fun _ _ x => x) fun _ _ x => x)
  obtain ⟨hT, h₂⟩ := h₂
  unfold subscriptTail
  refine wpAny_bind ?_
  rw [getitemInPython_of_ne hT.not_modules]
  refine wpAny_bind (wpAny_specialOf hT hl ?_)
  have fin : wpAny (model prog w) A (subscripted slice false o i) (fun r s₃ => wpAny (model prog w) A (letTemporaryGo value o r >>= fun _ => pure r) Q E s₃) E s₂ := by
    rw [hs o i]
    exact wpAny_operating (wpAny_mono h₂ (fun r s₃ h₃ => wpAny_bind (wpAny_letTemporaryGo (wpAny_pure h₃))) fun _ _ x => x)
  first
    | exact wpAny_pure (wpAny_bind fin)
    | exact wpAny_bind (wpAny_pure (wpAny_bind fin))
    | exact wpAny_bind fin

theorem dict_typeIs {X : Cx} {pins : List (Addr × Obj)} {σ : St} {H : Hp} {s : Shared} {a : Addr} {y : V} {o : Option V} (I : Inv X pins σ H s) (g : DGet H a y o) : s.TypeIs (.ref a) "dict" := by
  rcases g with ⟨kvs, k, e, _, _⟩ | ⟨kvs, k, b, e, _, _, _⟩
  · obtain ⟨_, _, vs, _, dd⟩ := dk_rd I.hok e
    exact dd.typeIs
  · obtain ⟨_, _, xs, _, dd⟩ := dt_rd I.hok e
    exact dd.typeIs

/-- d[y] -/
noncomputable def tDGet (td ty : TE) : TE := fun σ H Q => td σ H fun x H1 => ty σ H1 fun y H2 => ∃ a v, x = .ref a ∧ DGet H2 a y (some v) ∧ Q v H2
/-- y in d, y not in d -/
noncomputable def tDIn (ty td : TE) : TE := fun σ H Q => ty σ H fun y H1 => td σ H1 fun x H2 => ∃ a o, x = .ref a ∧ DGet H2 a y o ∧ Q (.bl o.isSome) H2
noncomputable def tDNotIn (ty td : TE) : TE := fun σ H Q => ty σ H fun y H1 => td σ H1 fun x H2 => ∃ a o, x = .ref a ∧ DGet H2 a y o ∧ Q (.bl (!o.isSome)) H2
/-- d[y] = v -/
noncomputable def sDPut (td ty tv : TE) : TS := fun D σ H => tv σ H fun v H1 => td σ H1 fun x H2 => ty σ H2 fun y H3 => ∃ a H4, x = .ref a ∧ DPut H3 a y v H4 ∧ D.nx σ H4
/-- d[y] op= v -/
noncomputable def sDAug (td ty tv : TE) (rd : V → V → Hp → VK → Prop) : TS := fun D σ H => td σ H fun x H1 => ty σ H1 fun y H2 => ∃ a v, x = .ref a ∧ DGet H2 a y (some v) ∧
  tv σ H2 fun y2 H3 => rd v y2 H3 fun z H4 => ∃ H5, DPut H4 a y z H5 ∧ D.nx σ H5
/-- del d[y] -/
noncomputable def sDDel (td ty : TE) : TS := fun D σ H => td σ H fun x H1 => ty σ H1 fun y H2 => ∃ a kvs k, x = .ref a ∧ H2 a = some (.dK kvs) ∧ y = kV k ∧ (valV kvs k).isSome = true ∧ D.nx σ (upd H2 a (.dK (dropK kvs k)))

section
variable {X : Cx} {o i e value : Expr} {pos pos' tpos : Pos} {td ty tv : TE}
end


theorem dk_empty {P : Program} {w : World} {H : Hp} (h : Heap) (hb : sysModules < h.objs.size) : ObjOk P w H (h.push { cls := .type "dict", data := .dict #[] }) h.objs.size (.dK []) :=
  ⟨Nat.zero_le _, beq_eq_false_iff_ne.mpr (Ne.symm (Nat.ne_of_lt hb)), [], .nil, Heap.DictOf.new h⟩
noncomputable def tDNewT : TE := fun _ H Q => ∀ p, H p = none → Q (.ref p) (upd H p (.dT []))
section
variable {X : Cx} {pos : Pos}
end

/-- the pairs of a display, from the left -/
noncomputable def tPairs : List (TE × TE) → St → Hp → (List (V × V) → Hp → Prop) → Prop
  | [], _, H, Q => Q [] H
  | (tk, tv) :: r, σ, H, Q => tk σ H fun x H1 => tv σ H1 fun y H2 => tPairs r σ H2 fun ps H3 => Q ((x, y) :: ps) H3
noncomputable abbrev VV : List (V × V) → List (Value × Value) → Prop := Paired fun p q => RelV p.1 q.1 ∧ RelV p.2 q.2
noncomputable def PPs (X : Cx) (pos : Pos) (keys : List (Option Expr)) (values : List Expr) (trs : List (TE × TE)) : Prop :=
  ∀ (pins : List (Addr × Obj)) (s : Shared) (σ : St) (H : Hp) (Q : List (V × V) → Hp → Prop), Inv X pins σ H s → tPairs trs σ H Q →
    wpAny (model X.prog X.w) X.A (evalPairs (pairTrees keys values X.env pos)) (fun vs s' => ∃ ps H', Inv X pins σ H' s' ∧ VV ps vs ∧ Q ps H') X.xe s
theorem pps_nil {X : Cx} {pos : Pos} : PPs X pos [] [] [] := fun pins s σ H Q I h => pairTrees_nil_walk ⟨[], H, I, .nil, h⟩
theorem pps_cons {X : Cx} {pos : Pos} {k v : Expr} {ks : List (Option Expr)} {vs : List Expr} {tk tv : TE} {trs : List (TE × TE)} (hk : PE X k tk) (hv : PE X v tv) (hr : PPs X pos ks vs trs) :
    PPs X pos (some k :: ks) (v :: vs) ((tk, tv) :: trs) := fun pins s σ H Q I h =>
  pairTrees_cons_walk (thn (hk pins s σ H _ I h) fun u s1 ⟨x, H1, I1, rx, q1⟩ => thn (hv pins s1 σ H1 _ I1 q1) fun w2 s2 ⟨y, H2, I2, ry, q2⟩ =>
    thn (hr pins s2 σ H2 _ I2 q2) fun ws s3 ⟨ps, H3, I3, rel, q3⟩ => ⟨(x, y) :: ps, H3, I3, .cons ⟨rx, ry⟩ rel, q3⟩)

noncomputable def mergeK (kvs more : List (Key × V)) : List (Key × V) := more.foldl (fun acc kv => putK acc kv.1 kv.2) kvs
theorem KV.merge : ∀ {more : List (Key × V)} {rs : List (Key × Value)} {kvs : List (Key × V)} {vs : List (Key × Value)}, KV more rs → KV kvs vs → KV (mergeK kvs more) (merged vs rs) := by
  intro more rs kvs vs r
  unfold KV at r
  induction r generalizing kvs vs with
  | nil => intro q; exact q
  | @cons p q ps qs h t ih =>
    intro r0
    have e : KV (putK kvs p.1 p.2) (stored vs q.1 q.2) := by
      have := r0.put p.1 h.2
      rw [← h.1]; exact this
    exact ih e
theorem length_mergeK : ∀ (more kvs : List (Key × V)), (mergeK kvs more).length ≤ kvs.length + more.length
  | [], kvs => by show kvs.length ≤ kvs.length + 0; omega
  | p :: r, kvs => by
    have h1 := length_mergeK r (putK kvs p.1 p.2)
    have h2 := length_putK kvs p.1 p.2
    show (mergeK (putK kvs p.1 p.2) r).length ≤ _
    rw [List.length_cons]; omega
theorem carries_of {P : Program} {w : World} : ∀ {kvs : List (Key × V)} {ws : List (Value × Value)}, VV (kvs.map fun kv => (kV kv.1, kv.2)) ws → ∃ rs, Carries (mixKind P w) ws rs ∧ KV kvs rs
  | [], _, r => by rw [List.map_nil] at r; cases r; exact ⟨[], True.intro, .nil⟩
  | p :: kvs, _, r => by
    rw [List.map_cons] at r
    cases r with
    | @cons a b as bs h t =>
      obtain ⟨rs, c, q⟩ := carries_of (P := P) (w := w) t
      obtain ⟨b1, b2⟩ := b
      exact ⟨(p.1, b2) :: rs, ⟨kV_is h.1, rfl, c⟩, .cons ⟨rfl, h.2⟩ q⟩
/-- {k: v, ..} with keys ints and texts; the new dict stands empty while the pairs are made -/
noncomputable def tDisp (trs : List (TE × TE)) : TE := fun σ H Q => ∀ p, H p = none → tPairs trs σ (upd H p (.dK [])) fun ps H2 => H2 p = some (.dK []) ∧ ∃ kvs : List (Key × V), ps = kvs.map (fun kv => (kV kv.1, kv.2)) ∧ kvs.length ≤ 15 ∧ Q (.ref p) (upd H2 p (.dK (mergeK [] kvs)))
theorem pe_disp {X : Cx} {pos : Pos} {keys : List (Option Expr)} {values : List Expr} {trs : List (TE × TE)} (h : PPs X pos keys values trs) (hall : keys.all (·.isSome) = true) (hl : keys.length = values.length) (h0 : keys ≠ [])
    (h15 : keys.length ≤ 15) : PE X (.Dict keys values pos) (tDisp trs) := by
  intro pins s σ H Q I q
  have hn := I.hok.fresh (Nat.le_refl s.heap.objs.size)
  have I1 := I.laid (a := s.heap.objs.size) (o := .dK []) (h' := s.heap.push { cls := .type "dict", data := .dict #[] }) (t' := s.toks) (fun _ _ q => Heap.get?_push_of_some _ q) (Nat.le_refl _) (dk_empty s.heap I.big)
  refine wpAny_Dict_walk (knd := mixKind X.prog X.w) hall hl h0 h15 (thn (h pins _ σ _ _ I1 (q _ hn)) fun ws s2 ⟨ps, H2, I2, rel, e, kvs, ep, lk, q2⟩ => ?_)
  subst ep
  obtain ⟨rs, c, rk⟩ := carries_of (P := X.prog) (w := X.w) rel
  obtain ⟨z, hd, vs0, r0, dd⟩ := dk_of I2.hok e
  cases r0
  refine ⟨rs, c, dd, fun h' dd' hs => ⟨.ref s.heap.objs.size, _, ?_, rfl, q2⟩⟩
  have hz : (mergeK [] kvs).length ≤ sizeLine := by
    have h1 := length_mergeK kvs []
    rw [List.length_nil] at h1
    rw [sizeLine_eq]; omega
  have he : ∃ q, h'.get? s.heap.objs.size = some q := let ⟨q, _, _, hq, _⟩ := dd'; ⟨q, hq⟩
  exact d_write I2 (by rw [e]; exact True.intro) hs he (dk_new hz hd (rk.merge .nil) dd')


/-- a method call o.m(e) of a built-in, with one argument: what must be seen of the text -/
structure M1 (X : Cx) (o : Expr) (m : Str) (apos : Pos) (e : Expr) (cpos : Pos) : Prop where
  base : attributeBase o m X.env (eval o X.env) = eval o X.env
  few : ((backTo cpos (starEach [e] X.env)).all (fun x => !x.1) && (backToKw cpos (keywordEach [] X.env)).all (fun x => x.1.isSome)
    && decide (([e] : List Expr).length + ([] : List Keyword).length + (if ([] : List Keyword).isEmpty then 0 else 1) < 30)) = true
  line : (apos.endLine == cpos.line) = true
  trees : backTo cpos (starEach [e] X.env) = [(false, eval e X.env)]
structure M2 (X : Cx) (o : Expr) (m : Str) (apos : Pos) (e f : Expr) (cpos : Pos) : Prop where
  base : attributeBase o m X.env (eval o X.env) = eval o X.env
  few : ((backTo cpos (starEach [e, f] X.env)).all (fun x => !x.1) && (backToKw cpos (keywordEach [] X.env)).all (fun x => x.1.isSome)
    && decide (([e, f] : List Expr).length + ([] : List Keyword).length + (if ([] : List Keyword).isEmpty then 0 else 1) < 30)) = true
  line : (apos.endLine == cpos.line) = true
  trees : backTo cpos (starEach [e, f] X.env) = [(false, eval e X.env), (false, eval f X.env)]

/-- a is a dict, whatever its keys -/
noncomputable def IsD (H : Hp) (a : Addr) : Prop := (∃ kvs, Rd H a (.dK kvs)) ∨ ∃ kvs, Rd H a (.dT kvs)
theorem isD_at {X : Cx} {pins : List (Addr × Obj)} {σ : St} {H : Hp} {s : Shared} {a : Addr} (I : Inv X pins σ H s) (d : IsD H a) :
    s.TypeIs (.ref a) "dict" ∧ (∀ b, Value.ref a = .ref b → ∃ ob, s.heap.get? b = some ob ∧ ob.dict = none) ∧ (a == sysModules) = false := by
  rcases d with ⟨kvs, e⟩ | ⟨kvs, e⟩
  · obtain ⟨_, hd, vs, _, dd⟩ := dk_rd I.hok e
    refine ⟨dd.typeIs, fun b q => ?_, hd⟩
    cases q
    obtain ⟨ob, _, _, h1, h2, _⟩ := dd
    exact ⟨ob, h1, h2.2.1⟩
  · obtain ⟨_, hd, xs, _, dd⟩ := dt_rd I.hok e
    refine ⟨dd.typeIs, fun b q => ?_, hd⟩
    cases q
    obtain ⟨ob, _, _, h1, h2, _⟩ := dd
    exact ⟨ob, h1, h2.2.1⟩

section
variable {X : Cx} {pins : List (Addr × Obj)} {σ : St} {H : Hp} {s : Shared} {a : Addr} {y d : V} {u r : Value} {o : Option V} {A : Around} {E : Value → Shared → Prop}
/-- d.get(y) -/
theorem d_get1 {Q : Value → Shared → Prop} (hu : A.units + 1 < cLine) (I : Inv X pins σ H s) (g : DGet H a y o) (ry : RelV y u) (h : ∀ w' s', Inv X pins σ H s' → RelV (o.getD .non) w' → Q w' s') :
    wpAny (model X.prog X.w) A (call (.builtin "dict.get") [.ref a, u]) Q E s := by
  rcases g with ⟨kvs, k, e, ey, l⟩ | ⟨kvs, k, b, e, ey, eb, l⟩
  · subst ey
    obtain ⟨z, hd, vs, rel, dd⟩ := dk_rd I.hok e
    refine call_meetsIn PySem.F.slot_dict_get dd.typeIs PySem.F.entry_dict_get (PySem.F.args_dict_get_2 _ _) (meets_dict_get (mixKind X.prog X.w) a (kV_is ry) hd) ⟨_, dd.mapOf, h _ _ (I.tok _) ?_⟩
    rw [l]
    exact (rel.val k).getD rfl
  · subst ey
    cases (show u = Value.ref b from ry)
    obtain ⟨z, hd, xs, rel, dd⟩ := dt_rd I.hok e
    refine call_meetsIn PySem.F.slot_dict_get dd.typeIs PySem.F.entry_dict_get (PySem.F.args_dict_get_2 _ _) (meetsH_dict_get (tupleKind (mixKind X.prog X.w)) a b hd) ⟨tupleKind_room_in1 hu, k, xs, key_of I.hok eb, dd, h _ _ (I.tok _) ?_⟩
    rw [l]
    exact (rel.val k).getD rfl
end

noncomputable def tDGet1 (td ty : TE) : TE := fun σ H Q => td σ H fun x H1 => ∃ a, x = .ref a ∧ IsD H1 a ∧ ty σ H1 fun y H2 => ∃ o, DGet H2 a y o ∧ Q (o.getD .non) H2
noncomputable def tDGet2 (td ty tx : TE) : TE := fun σ H Q => td σ H fun x H1 => ∃ a, x = .ref a ∧ IsD H1 a ∧ ty σ H1 fun y H2 => tx σ H2 fun z H3 => ∃ o, DGet H3 a y o ∧ Q (o.getD z) H3
/-- d.pop(k): there; d.pop(k, x): there or not -/
noncomputable def tDPop1 (td ty : TE) : TE := fun σ H Q => td σ H fun x H1 => ∃ a, x = .ref a ∧ IsD H1 a ∧ ty σ H1 fun y H2 => ∃ kvs k v, H2 a = some (.dK kvs) ∧ y = kV k ∧ valV kvs k = some v ∧ Q v (upd H2 a (.dK (dropK kvs k)))
noncomputable def tDPop2 (td ty tx : TE) : TE := fun σ H Q => td σ H fun x H1 => ∃ a, x = .ref a ∧ IsD H1 a ∧ ty σ H1 fun y H2 => tx σ H2 fun z H3 => ∃ kvs k, H3 a = some (.dK kvs) ∧ y = kV k ∧
  (∀ v, valV kvs k = some v → Q v (upd H3 a (.dK (dropK kvs k)))) ∧ (valV kvs k = none → Q z H3)
section
variable {X : Cx} {o e f : Expr} {apos cpos : Pos} {td ty tx : TE}
end

section
variable {X : Cx} {pins : List (Addr × Obj)} {σ : St} {H : Hp} {s : Shared} {a : Addr} {kvs : List (Key × V)} {A : Around} {E : Value → Shared → Prop}
theorem d_copyOf {Q : Value → Shared → Prop} (I : Inv X pins σ H s) (e : Rd H a (.dK kvs)) (h : ∀ p s', H p = none → Inv X pins σ (upd H p (.dK kvs)) s' → Q (.ref p) s') : wpAny (model X.prog X.w) A (call (.type "dict") [.ref a]) Q E s := by
  obtain ⟨z, hd, vs, rel, dd⟩ := dk_rd I.hok e
  refine kt_call_dict hd dd (by rw [← rel.length]; exact z) fun h' dd' hs => ?_
  refine h _ _ (I.hok.fresh (Nat.le_refl _)) (I.laid (a := s.heap.objs.size) (o := .dK kvs) (t' := s.toks) (fun b q hq => ?_) (Nat.le_refl _) (dk_new z (beq_eq_false_iff_ne.mpr (Ne.symm (Nat.ne_of_lt I.big))) rel dd'))
  exact (hs.2 b (Nat.ne_of_lt (Heap.lt_size hq))).trans (Heap.get?_push_of_some _ hq)
end


section
variable {X : Cx} {pins : List (Addr × Obj)} {σ : St} {H : Hp} {s : Shared} {a : Addr} {y : V} {u : Value} {A : Around} {E : Value → Shared → Prop}
end
end L2

namespace Att
open PySem PySem.W PySem.Calls PyProof.Rows

end Att





namespace L2
open PySem PySem.Spec PyProof.Rows

section
variable {X : Cx}
end

section
variable {κ : Type} [DecidableEq κ]
theorem dropK_pos {p : κ × V} {r : List (κ × V)} {k : κ} (e : p.1 = k) : dropK (p :: r) k = dropK r k := by
  unfold dropK
  rw [List.filter_cons, if_neg (by simp [e])]
theorem dropK_neg {p : κ × V} {r : List (κ × V)} {k : κ} (e : ¬ p.1 = k) : dropK (p :: r) k = p :: dropK r k := by
  unfold dropK
  rw [List.filter_cons, if_pos (by simp [e])]
theorem dropK_no : ∀ {kvs : List (κ × V)} {k : κ}, ¬ k ∈ kvs.map (·.1) → dropK kvs k = kvs
  | [], _, _ => rfl
  | p :: r, k, h => by
    have h' : ¬ k ∈ r.map (·.1) := fun m => by
      obtain ⟨q, hq, e⟩ := List.mem_map.mp m
      exact h (List.mem_map.mpr ⟨q, List.mem_cons.mpr (Or.inr hq), e⟩)
    rw [dropK_neg fun e => h (List.mem_map.mpr ⟨p, List.mem_cons.mpr (Or.inl rfl), e⟩), dropK_no h']
theorem dropK_mem {kvs : List (κ × V)} {k : κ} {p : κ × V} (h : p ∈ dropK kvs k) : p ∈ kvs := (List.mem_filter.mp h).1
end
end L2


set_option Elab.async false
set_option linter.all false
set_option maxRecDepth 100000
set_option maxHeartbeats 4000000
namespace L2
open PySem PySem.Spec PyProof.Rows
section
variable {X : Cx}
/-! ### dicts with ints as keys, by values -/
noncomputable def uInD (neg : Bool) : R2 := fun y x H Q => match y, x with
  | .int i, .ref a => ∃ kvs, Rd H a (.dK kvs) ∧ Q (.bl (if neg then !(valV kvs (Sum.inl i)).isSome else (valV kvs (Sum.inl i)).isSome)) H
  | _, _ => False
theorem uo_notInD (hu : X.A.units + 8 < cLine) : OpR X (compareOp .NotIn) (uInD true) := fun pins s σ H y x v u Q I ry rx h => by
  cases y <;> cases x <;> first
    | exact False.elim h
    | skip
  obtain ⟨kvs, hd, q⟩ := h
  cases rx
  exact d_notIn (by omega) I (.inl ⟨kvs, Sum.inl _, hd, rfl, rfl⟩) ry fun s' I' => ⟨.bl _, H, I', rfl, q⟩
noncomputable def tGetD (ta tb : TE) : TE := fun σ H Q => ta σ H fun x H1 => tb σ H1 fun y H2 => match x, y with
  | .ref a, .int i => ∃ kvs v, Rd H2 a (.dK kvs) ∧ valV kvs (Sum.inl i) = some v ∧ Q v H2
  | _, _ => False
theorem q_dix {a b : Expr} {ta tb : TE} {pos : Pos} (hu : X.A.units + 8 < cLine) (ha : QE X a ta) (hb : QE X b tb) (hs : NoSl b) : QE X (.Subscript a b pos) (tGetD ta tb) := by
  refine ⟨fun pins s σ H Q I h => ?_⟩
  refine subD_of PySem.F.slot_dict_getitem.lookup hs (thn (ha.run pins s σ H _ I h) fun u s1 ⟨x, H1, I1, rx, q1⟩ => thn (hb.run pins s1 σ H1 _ I1 q1) fun iv s2 h2 => ?_)
  obtain ⟨y, H2, I2, ry, q2⟩ := h2
  clear q1
  cases x <;> cases y <;> first
    | exact False.elim q2
    | skip
  · rename_i a i
    obtain ⟨kvs, v, hd, hv, q⟩ := q2
    cases rx
    have g : DGet H2 a (.int i) (some v) := .inl ⟨kvs, Sum.inl i, hd, rfl, hv.symm⟩
    exact ⟨dict_typeIs I2 g, d_getItem (by omega) I2 g ry fun w' s3 I3 rw' => ⟨v, H2, I3, rw', q⟩⟩
noncomputable def uSetD : TSet := fun o i v H Q => match o, i with
  | .ref a, .int k => ∃ kvs, H a = some (.dK kvs) ∧ kvs.length < sizeLine ∧ Q (upd H a (.dK (putK kvs (Sum.inl k) v)))
  | _, _ => False
theorem us_setD (hu : X.A.units + 8 < cLine) : PSet X uSetD := fun pins s σ H o i v ov iv u Q I ro ri rv h => by
  cases o <;> cases i <;> first
    | exact False.elim h
    | skip
  obtain ⟨kvs, hd, hl, q⟩ := h
  cases ro
  exact d_setItem (by omega) I (.inl ⟨kvs, Sum.inl _, hd, rfl, hl, rfl⟩) ri rv fun s' I' => ⟨_, I', q⟩
noncomputable def uDict : List V → Hp → VK → Prop := fun xs H Q => match xs with
  | [.ref a] => ∃ kvs, Rd H a (.dK kvs) ∧ ∀ p, H p = none → Q (.ref p) (upd H p (.dK kvs))
  | _ => False
theorem uc_dict : CallR X (.type "dict") uDict := fun pins s σ H xs us Q I r h => by
  unfold uDict at h
  split at h
  · rename_i a
    obtain ⟨kvs, hd, q⟩ := h
    obtain ⟨u, rfl, ru⟩ := vals1 r
    cases ru
    exact d_copyOf I hd fun p s' hp I' => ⟨.ref p, _, I', rfl, q p hp⟩
  · exact h.elim
noncomputable def tGet1 (td ty : TE) : TE := fun σ H Q => td σ H fun x H1 => match x with
  | .ref a => (∃ kvs, Rd H1 a (.dK kvs)) ∧ ty σ H1 fun y H2 => match y with
    | .int i => ∃ kvs, Rd H2 a (.dK kvs) ∧ Q ((valV kvs (Sum.inl i)).getD .non) H2
    | _ => False
  | _ => False
theorem q_dget {o e : Expr} {td ty : TE} {apos cpos : Pos} (hu : X.A.units + 8 < cLine) (ho : QE X o td) (he : QE X e ty) (m : M1 X o "get" apos e cpos := by exact ⟨rfl, rfl, rfl, rfl⟩) : QE X (.Call (.Attribute o "get" apos) [e] [] cpos) (tGet1 td ty) := by
  refine ⟨fun pins s σ H Q I h => ?_⟩
  refine wpAny_Call_method m.base m.few m.line PySem.F.plainAttrs_dict PySem.F.slot_dict_get PySem.F.type_dict_get (thn (ho.run pins s σ H _ I h) fun u s1 ⟨x, H1, I1, rx, q1⟩ => ?_)
  dsimp only at q1
  split at q1
  rotate_left
  · exact q1.elim
  rename_i a
  obtain ⟨d, q1⟩ := q1
  cases rx
  obtain ⟨t1, t2, _⟩ := isD_at I1 (.inl d)
  refine ⟨t1, t2, ?_⟩
  rw [m.trees]
  refine Calls.callWith_builtin rfl (Calls.evalArgs_plain (Calls.spliced_cons (thn (he.run pins s1 σ H1 _ I1 q1) fun iv s2 ⟨y, H2, I2, ry, q2⟩ => Calls.spliced_nil ?_)))
  dsimp only at q2
  split at q2
  · rename_i i
    obtain ⟨kvs, hd, q⟩ := q2
    exact d_get1 (by omega) I2 (.inl ⟨kvs, Sum.inl i, hd, rfl, rfl⟩) ry fun w' s3 I3 rw' => ⟨_, H2, I3, rw', q⟩
  · exact q2.elim
theorem q_disp1 {k v : Expr} {tk tv : TE} {pos : Pos} (hk : QE X k tk) (hv : QE X v tv) : QE X (.Dict [some k] [v] pos) (tDisp [(tk, tv)]) := ⟨pe_disp (pps_cons hk.run hv.run pps_nil) rfl rfl (by simp) (by show 1 ≤ 15; decide)⟩
end
/-! ### for k in d: the dict is known to the object from then on -/
noncomputable def Itd (a : Addr) (o : Obj) (kvs : List (Key × V)) : It where
  go := fun i H => i < kvs.length ∧ H a = some (.frz o (.dK kvs))
  yld := fun i H x H' => H' = H ∧ ∃ k v, kvs[i]? = some (k, v) ∧ x = kV k
  stop := fun i H => kvs.length ≤ i ∧ H a = some (.frz o (.dK kvs))
theorem kv_get {κ : Type} {kvs : List (κ × V)} {vs : List (κ × Value)} {i : Nat} {k : κ} {y : V} (r : KV kvs vs) (h : kvs[i]? = some (k, y)) : ∃ v, vs[i]? = some (k, v) := by
    unfold KV at r
    induction r generalizing i with
    | nil => simp at h
    | cons h1 t ih =>
      cases i with
      | zero =>
        rw [List.getElem?_cons_zero] at h
        cases h
        exact ⟨_, by rw [List.getElem?_cons_zero]; exact congrArg some (Prod.ext h1.1.symm rfl)⟩
      | succ j =>
        rw [List.getElem?_cons_succ] at h
        obtain ⟨v, hv⟩ := ih (i := j) h
        exact ⟨v, by rw [List.getElem?_cons_succ]; exact hv⟩
theorem key_rel {k : Key} {u : Value} (h : keyIs k u = true) : RelV (kV k) u := by
  rcases keyIs_shape h with ⟨i, t, rfl, rfl⟩ | ⟨x, t, rfl, rfl⟩
  · exact ⟨t, rfl⟩
  · exact ⟨t, rfl⟩
theorem frz_at {P : Program} {w : World} {H : Hp} {h : Heap} {a : Addr} {o : Obj} {kvs : List (Key × V)} {es : Array DictEntry} {ep : Nat} (ok : HOk P w H h) (e : H a = some (.frz o (.dK kvs))) (hd : o.data = .dict es ep) :
    ∃ vs, KV kvs vs ∧ h.DictAt (mixKind P w) a vs ep := by
  obtain ⟨ho, _, _, vs, rel, ob, es', ep', e1, c1, d1, r1⟩ := (show ObjOk P w H h a (.frz o (.dK kvs)) from ok a _ e)
  rw [ho] at e1
  cases e1
  rw [hd] at d1
  cases d1
  exact ⟨vs, rel, o, es, ho, c1, hd, r1⟩
theorem turn_dict {P : Program} {w : World} {K : PySem.W.Frag} {tg : Expr} (a it : Addr) (o : Obj) (kvs : List (Key × V)) (es : Array DictEntry) (ep : Nat) (hd : o.data = .dict es ep) : Turn P w K tg (Itd a o kvs) [it] it (fun i h => h.IsKeyIter it a i kvs.length ep) where
  mem := by simp
  obj := fun i h st b hb => by
    have e : b = it := by simpa using hb
    subst e
    obtain ⟨o, e, c, d⟩ := st
    exact ⟨o, e, fun v z => by rw [d] at z; cases z⟩
  keep := fun i h h' st k => by
    obtain ⟨o, e, c, d⟩ := st
    exact ⟨o, k it (by simp) o e, c, d⟩
  item := by
    intro X hP hw hK hc i pins s σ H E I hf st hg
    subst hP hw hK
    obtain ⟨hi, hH⟩ := hg
    obtain ⟨f0, f1, f2, f3, f4, f5⟩ := hf it (by simp)
    obtain ⟨vs, rel, dd⟩ := frz_at I.hok hH hd
    have hl := rel.length
    obtain ⟨⟨k, y⟩, hx⟩ : ∃ p, kvs[i]? = some p := ⟨_, List.getElem?_eq_getElem hi⟩
    obtain ⟨v, hv⟩ := kv_get rel hx
    rw [hl] at st
    refine wpAny_pyNext_dict_item st dd hv fun key h' hk st' sb => ?_
    have I1 : Inv X pins σ H { s with heap := h' } := I.turned (t' := s.toks) (fun b o hb e => (sb.2 b hb).trans e) f0 f1 f3 f4 f5
    rw [← hl] at st'
    obtain ⟨o2, e2, c2, d2⟩ := id st'
    exact ⟨key, rfl, go_of (s := { s with heap := h' }) e2 c2 d2 (by decide) ⟨_, H, I1, key_rel hk, ⟨rfl, k, y, hx, rfl⟩, st', fun b hb => (hf b hb).1⟩⟩
  done := by
    intro X hP hw hK hc i pins s σ H E I hf st hg
    subst hP hw hK
    obtain ⟨hi, hH⟩ := hg
    obtain ⟨f0, f1, f2, f3, f4, f5⟩ := hf it (by simp)
    obtain ⟨vs, rel, dd⟩ := frz_at I.hok hH hd
    have hl := rel.length
    rw [hl] at st
    exact wpAny_pyNext_dict_end (I.ok.hd hc) st dd (List.getElem?_eq_none (by omega)) fun h' eb => ⟨rfl, I.turned (t' := s.toks) (fun b o hb e => eb b o hb e) f0 f1 f3 f4 f5⟩
  self := fun _ _ _ _ _ st h => wpAny_pyIter_keyiter st h
section
variable {X : Cx} {tg : Expr}
noncomputable def uiDict (tl : TE) : TI := fun σ H R => tl σ H fun v H1 => match v with
  | .ref a => ∃ kvs, H1 a = some (.dK kvs) ∧ ∀ o : Obj, R (Itd a o kvs) (upd H1 a (.frz o (.dK kvs)))
  | _ => False
theorem ui_dict {l : Expr} {tl : TE} (hl : PE X l tl) : PI X tg l (uiDict tl) := by
  intro pins s σ H R I h
  refine thn (hl pins s σ H _ I h) fun v s1 ⟨x, H1, I1, r1, q1⟩ => ?_
  dsimp only at q1
  split at q1
  rotate_left
  · exact q1.elim
  rename_i a
  obtain ⟨kvs, hH, q⟩ := q1
  cases r1
  obtain ⟨z, hs, vs, rel, o, es, ep, e1, c1, d1, r1⟩ := (show ObjOk X.prog X.w H1 s1.heap a (.dK kvs) from I1.hok a _ hH)
  have hm : s1.heap.DictAt (mixKind X.prog X.w) a vs ep := ⟨o, es, e1, c1, d1, r1⟩
  refine wpAny_pyIter_dict hs hm ?_
  have I2 : Inv X pins σ (upd H1 a (.frz o (.dK kvs))) s1 := I1.write (x := a) (e := a) (t' := s1.toks) (h' := s1.heap) (by rw [hH]; exact trivial) (.inl rfl) (fun b u _ e => e) ⟨o, e1⟩ ⟨e1, z, hs, vs, rel, o, es, ep, e1, c1, d1, r1⟩
  have hl := rel.length
  refine ⟨s1.heap.objs.size, [s1.heap.objs.size], _, _, _, rfl, I2.kept (t' := s1.toks) fun b o e => Heap.get?_push_of_some _ e, turn_dict a _ o kvs es ep d1, ⟨_, Heap.get?_push_size _ rfl, rfl, by rw [hl]; rfl⟩, fun b hb => ?_, q o⟩
  have e : b = s1.heap.objs.size := by simpa using hb
  subst e
  exact I2.fpOk (Nat.le_refl _) (I2.hok.fresh (Nat.le_refl _))
theorem q_dseq {l : Expr} {tl : TE} (hl : QE X l tl) : QI X tg l (uiDict tl) := ⟨ui_dict hl.run⟩
theorem for_dict {a : Addr} {o : Obj} {kvs : List (Key × V)} {g : TG} {tb : TS} {D : Ends} {σ : L2.St} {H : Hp} (Pv : Nat → L2.St → Hp → Prop) (h0 : Pv 0 σ H) (hl : ∀ i σ H, i ≤ kvs.length → Pv i σ H → H a = some (.frz o (.dK kvs)))
    (hs : ∀ i k v σ H, kvs[i]? = some (k, v) → Pv i σ H → g (kV k) σ H fun σ2 H2 => tb { D with nx := Pv (i + 1), ct := Pv (i + 1), bk := D.nx } σ2 H2) (hd : ∀ σ H, Pv kvs.length σ H → D.nx σ H) :
    ∃ W : Nat → Nat → L2.St → Hp → Prop, (∃ m, W 0 m σ H) ∧ ∀ i m σ H, W i m σ H →
      ((Itd a o kvs).stop i H ∧ D.nx σ H) ∨ ((Itd a o kvs).go i H ∧ ∃ N : L2.St → Hp → Prop, (∀ σ' H', N σ' H' → ∃ m', m' < m ∧ W (i + 1) m' σ' H') ∧ ∀ x H', (Itd a o kvs).yld i H x H' → g x σ H' fun σ2 H2 => tb { D with nx := N, ct := N, bk := D.nx } σ2 H2) := by
  refine ⟨fun i m σ H => m = kvs.length - i ∧ i ≤ kvs.length ∧ Pv i σ H, ⟨kvs.length, by simp, Nat.zero_le _, h0⟩, ?_⟩
  rintro i m σ H ⟨rfl, hi, p⟩
  have q1 := hl i σ H hi p
  by_cases hlt : i < kvs.length
  · refine .inr ⟨⟨hlt, q1⟩, Pv (i + 1), fun σ' H' p' => ⟨kvs.length - (i + 1), by omega, rfl, hlt, p'⟩, fun x H' ⟨e, k, v, hk, ex⟩ => ?_⟩
    subst e ex
    exact hs i k v σ _ hk p
  · have e : i = kvs.length := by omega
    subst e
    exact .inl ⟨⟨Nat.le_refl _, q1⟩, hd σ H p⟩
end
end L2

set_option Elab.async false
set_option linter.all false
set_option maxRecDepth 100000
set_option maxHeartbeats 4000000
namespace PG
open PySem L2 PyProof.Rows
theorem kn_ints {H : Hp} (ns : List Int) : ∀ x ∈ ns.map V.int, Kn H x := fun x hx => by
  obtain ⟨n, _, rfl⟩ := List.mem_map.mp hx
  trivial
/-- an item of a list of ints, at an int's place -/
theorem atInt {ns : List Int} {k : Int} (h0 : 0 ≤ k) (h1 : k < ns.length) : atI (ns.map V.int) k = some (.int (ns.getD k.toNat 0)) := by
  have hlt : k.toNat < ns.length := by omega
  have := atI_nat (xs := ns.map V.int) (j := k.toNat) (v := .int (ns.getD k.toNat 0)) (by simp [hlt, List.getD_eq_getElem?_getD])
  rw [Int.toNat_of_nonneg h0] at this
  exact this
theorem getD_some {ns : List Int} {i : Nat} (h : i < ns.length) : ns[i]? = some (ns.getD i 0) := by
  rw [List.getD_eq_getElem?_getD, List.getElem?_eq_getElem h]
  rfl
/-! ### a house, as it is looked at -/
noncomputable def RestsP (ns : List Int) : Prop := ns[0]? = some 0 ∧ ∀ (r : Nat) (x : Int), ns[r]? = some x → r ≠ 0 → (ns.length : Int) < x ∧ x % (ns.length : Int) = r
noncomputable def okPair (ns : List Int) (i j : Nat) : Prop := ns.getD ((i + j) % ns.length) 0 ≤ ns.getD i 0 + ns.getD j 0
noncomputable def ClosedP (ns : List Int) : Prop := ∀ i j : Nat, i < ns.length → j < ns.length → okPair ns i j
noncomputable def DueP (xs : List V) : Prop := ∃ ns : List Int, xs = ns.map V.int ∧ House ns
/-! ### promises -/
end PG
namespace PG
open PySem L2 PyProof.Rows
noncomputable def toV : Option Int → V
  | none => .non
  | some x => .int x
theorem atI_of {α : Type} {xs : List α} {k : Int} {v : α} (h0 : 0 ≤ k) (h : xs[k.toNat]? = some v) : atI xs k = some v := by
  have := atI_nat (xs := xs) (j := k.toNat) h
  rw [Int.toNat_of_nonneg h0] at this
  exact this
theorem ixN_pos {n : Nat} {k : Int} (h0 : 0 ≤ k) (h1 : k < n) : ixN n k = some k.toNat := by unfold ixN; rw [if_pos h0, if_pos h1]
noncomputable def rowOps (m : Nat) (c : Int) (n : Nat) : List (Nat × Int) := (List.range n).map fun r => (r, c)
noncomputable def allOps (m : Nat) (cs : List Int) : List (Nat × Int) := cs.flatMap fun c => rowOps m c m
/-! ### promises of the law's helpers -/
theorem eqSelf {K : PySem.W.Frag} {H : Hp} {n : Nat} : ∀ {x : V}, Kn H x → EqV K H n x x true
  | .non, _ => .flat rfl rfl
  | .bl b, _ => by
    have : EqV K H n (.bl b) (.bl b) (eqV (.bl b) (.bl b)) := .flat rfl rfl
    have e : eqV (.bl b) (.bl b) = true := by show (b == b) = true; simp
    rw [e] at this
    exact this
  | .int i, _ => by
    have : EqV K H n (.int i) (.int i) (eqV (.int i) (.int i)) := .flat rfl rfl
    have e : eqV (.int i) (.int i) = true := by show (i == i) = true; simp
    rw [e] at this
    exact this
  | .str z, _ => by
    have : EqV K H n (.str z) (.str z) (eqV (.str z) (.str z)) := .flat rfl rfl
    have e : eqV (.str z) (.str z) = true := by show (z == z) = true; simp
    rw [e] at this
    exact this
  | .ref a, _ => .same a
  | .byt _, h => h.elim
  | .flt _, h => h.elim
  | .ty _, h => h.elim
/-- a list and its copy -/
theorem eqCopy {K : PySem.W.Frag} {H : Hp} {neg : Bool} {Q : VK} {a b : Addr} {xs : List V} (ha : SqL K H a xs) (hb : SqL K H b xs) (kn : ∀ x ∈ xs, Kn H x) (q : Q (.bl (!neg)) H) : rEqL K neg (.ref a) (.ref b) H Q := by
  refine ⟨a, b, xs, xs, rfl, rfl, ha, hb, .inl ⟨rfl, fun _ => true, fun j x y hx hy => ?_, ?_⟩⟩
  · rw [hx] at hy
    cases hy
    exact eqSelf (kn x (List.mem_of_getElem? hx))
  · have : (List.range xs.length).all (fun _ => true) = true := by simp
    rw [this]
    cases neg
    · exact q
    · exact q
end PG

set_option Elab.async false
set_option linter.all false
set_option maxRecDepth 100000
set_option maxHeartbeats 4000000
namespace PG
open PySem L2 PyProof.Rows
theorem getD_out {ns : List Int} {i : Nat} (h : ns.length ≤ i) : ns.getD i 0 = 0 := by rw [List.getD_eq_getElem?_getD, List.getElem?_eq_none h]; rfl
theorem inV_ints {n : Int} {cs : List Int} : inV (.int n) (cs.map V.int) = decide (n ∈ cs) := by
  unfold inV
  rw [List.any_map, Bool.eq_iff_iff, List.any_eq_true, decide_eq_true_eq]
  constructor
  · rintro ⟨x, hx, e⟩
    have e' : (x == n) = true := e
    have : x = n := by simpa using e'
    rw [← this]; exact hx
  · intro h
    exact ⟨n, h, by show (n == n) = true; simp⟩
noncomputable abbrev LI (K : PySem.W.Frag) (H : Hp) (a : Addr) (ns : List Int) : Prop := SqL K H a (ns.map V.int)
/-! ### promises -/
noncomputable def sNum : Sp := fun vs H Q _ => match vs with
  | [x] => Kn H x ∧ Q (.bl (isNumV x)) H
  | _ => False
noncomputable def sCell (K : PySem.W.Frag) : Sp := fun vs H Q _ => match vs with
  | [.ref a, .int k] => ∃ ns, LI K H a ns ∧ 0 ≤ k ∧ Q (.int (ns.getD k.toNat 0)) H
  | _ => False
noncomputable def mixed (ns : List Int) (k : Int) : Int := (ns.getD k.toNat 0 + 7 * k + 3) * 48271 % 2147483629
noncomputable def sMixed (K : PySem.W.Frag) : Sp := fun vs H Q _ => match vs with
  | [.ref a, .int k] => ∃ ns, LI K H a ns ∧ 0 ≤ k ∧ Q (.int (mixed ns k)) H
  | _ => False
noncomputable def sGcd : Sp := fun vs H Q _ => match vs with
  | [.int a, .int b] => 0 ≤ a ∧ 0 ≤ b ∧ Q (.int (Nat.gcd a.toNat b.toNat)) H
  | _ => False
noncomputable def sGcdL (K : PySem.W.Frag) : Sp := fun vs H Q _ => match vs with
  | [.ref a] => ∃ ns, LI K H a ns ∧ (∀ n ∈ ns, 0 ≤ n) ∧ Q (.int (gcdL ns)) H
  | _ => False
noncomputable def sRests (K : PySem.W.Frag) : Sp := fun vs H Q _ => match vs with
  | [.ref a] => ∃ ns, LI K H a ns ∧ (0 < ns.length ∧ ns.length ≤ 2000) ∧ ∀ b, (b = true ↔ RestsP ns) → Q (.bl b) H
  | _ => False
noncomputable def sClosed (K : PySem.W.Frag) : Sp := fun vs H Q _ => match vs with
  | [.ref a] => ∃ ns, LI K H a ns ∧ (0 < ns.length ∧ ns.length ≤ 2000) ∧ ∀ b, (b = true ↔ ClosedP ns) → Q (.bl b) H
  | _ => False
noncomputable def sIsHouse (K : PySem.W.Frag) : Sp := fun vs H Q _ => match vs with
  | [.ref a] => ∃ xs, SqL K H a xs ∧ (∀ x ∈ xs, Kn H x) ∧ xs.length ≤ 2000 ∧ ∀ b H', (b = true ↔ xs.length ≤ 1000 ∧ DueP xs) → Same H H' → Q (.bl b) H'
  | _ => False
noncomputable def sDue (K : PySem.W.Frag) : Sp := fun vs H Q _ => match vs with
  | [.ref a] => ∃ xs, SqL K H a xs ∧ (∀ x ∈ xs, Kn H x) ∧ xs.length ≤ 2000 ∧ ∀ b, (b = true ↔ DueP xs) → Q (.bl b) H
  | _ => False
/-- the law's own house -/
noncomputable def sLHouse (K : PySem.W.Frag) : Sp := fun vs H Q _ => match vs with
  | [.ref a] => ∃ cs, LI K H a cs ∧ (1 ≤ cs.length ∧ (∀ c ∈ cs, 1 ≤ c ∧ c ≤ 1000) ∧ gcdL cs = 1) ∧
    ∀ (p : Addr) (h : List Int) (H' : Hp), Same H H' → H p = none → H' p = some (.lst (h.map V.int)) → Least cs h → (h.length : Int) ∈ cs → (∀ c ∈ cs, (h.length : Int) ≤ c) → Q (.ref p) H'
  | _ => False
/-- coins that are drawn, sharing nothing -/
noncomputable def sDrawn (K : PySem.W.Frag) (n far : Nat) : Sp := fun vs H Q _ => match vs with
  | [.ref a] => ∃ ns, LI K H a ns ∧ ns.length ≤ 63 ∧
    ∀ (p : Addr) (cs : List Int) (H' : Hp), Same H H' → H p = none → H' p = some (.lst (cs.map V.int)) → 1 ≤ cs.length → cs.length ≤ n → (∀ c ∈ cs, 1 ≤ c ∧ c ≤ (far : Int)) → cs.Nodup → gcdL cs = 1 → Q (.ref p) H'
  | _ => False
noncomputable def sFree (K : PySem.W.Frag) : Sp := fun vs H Q _ => match vs with
  | [.ref a] => ∃ ns, LI K H a ns ∧ ns.length ≤ 63 ∧
    ∀ (p : Addr) (ms : List Int) (H' : Hp), Same H H' → H p = none → H' p = some (.lst (ms.map V.int)) → 1 ≤ ms.length → ms.length ≤ 12 → Q (.ref p) H'
  | _ => False
noncomputable def sOdd : Sp := fun vs H Q _ => match vs with
  | [.int _] => ∀ x H', Same H H' → Kn H' x → isNumV x = false → Q x H'
  | _ => False
noncomputable def sChanged (K : PySem.W.Frag) : Sp := fun vs H Q _ => match vs with
  | [.ref a, .int k] => ∃ ns : List Int, H a = some (.lst (ns.map V.int)) ∧ (1 ≤ ns.length ∧ ns.length ≤ 400) ∧ 0 ≤ k ∧
    ∀ (p : Addr) (xs : List V) (H' : Hp), Same H H' → H p = none → H' p = some (.lst xs) → (∀ x ∈ xs, Kn H' x) → xs.length ≤ 2 * ns.length + 1 → Q (.ref p) H'
  | _ => False
noncomputable def sTold (K : PySem.W.Frag) : Sp := fun vs H Q _ => match vs with
  | [.ref a] => ∃ xs, SqL K H a xs ∧ (∀ x ∈ xs, Kn H x) ∧ xs.length ≤ 1000 ∧ ∀ H', Same H H' → Q (.bl true) H'
  | _ => False
noncomputable def sLaw (K : PySem.W.Frag) : Sp := fun vs H Q _ => match vs with
  | [.ref a] => ∃ ns, LI K H a ns ∧ ns.length ≤ 63 ∧ ∀ H', Q (.bl true) H'
  | _ => False
theorem rep_int (k : Nat) (c : Int) : (List.replicate k [V.int c]).flatten = (List.replicate k c).map V.int := by
  induction k with
  | zero => rfl
  | succ k ih => rw [List.replicate_succ, List.replicate_succ, List.flatten_cons, List.map_cons, ih]; rfl
theorem set_int (ms : List Int) (i : Nat) (c : Int) : (ms.map V.int).set i (.int c) = (ms.set i c).map V.int := by rw [List.map_set]
theorem range_ints {n : Nat} (f : Nat → Int) : ((List.range n).filter fun _ => true).map (fun i => V.int (f i)) = ((List.range n).map f).map V.int := by rw [rangeT, List.map_map]; rfl
end PG

set_option Elab.async false
set_option linter.all false
set_option maxRecDepth 100000
set_option maxHeartbeats 4000000
/-! exceptions of the program's own classes over the hand layer -/
namespace L2
open PySem PySem.Spec PyProof.Rows
/-- an exception in flight behind a call: B, what stays -/
noncomputable def CX1 (P : Program) (w : World) : CXT := fun outer H s E e s' => ∃ (ea C : Addr) (H' : Hp) (B : Heap) (a0 : Value),
  e = .ref ea ∧ s'.os = s.os ∧ AllBare s'.gens ∧ Heap.FlyingW B outer ea (.ref C) a0 s'.heap ∧ HOk P w H' B ∧ Un (frs outer) [] H H' s.heap s'.heap ∧
  (∀ b o, s.heap.get? b = some o → H b = none → b ∉ frs outer → B.get? b = some o) ∧ (∀ b o, s.heap.get? b = some o → b ∉ frs outer → ∃ o', B.get? b = some o') ∧ E (.ref C) none H'
theorem pass1E {P : Program} {w : World} {X : Cx} : Passes (CX1 P w) X E0 := fun _ _ _ _ _ _ _ ⟨_, _, _, _, _, _, _, _, _, _, _, _, _, h⟩ => h.elim
theorem hok_hide {P : Program} {w : World} {H : Hp} {h : Heap} {as : List Addr} (x : HOk P w H h) (hn : ∀ b ∈ as, H b = none) : HOk P w H (PySem.W.hideAll h as) := fun a o e => by
  refine (x a o e).stay (fun b u hb q => PySem.W.hideAll_get _ q fun hm => ?_) (fun _ q => q) fun _ _ q => q
  have := hn b hm
  rcases hb with z | z
  · rw [z, e] at this; cases this
  · rw [z] at this; cases this
/-- what is wanted where an exception of an own class is made here -/
noncomputable def Raises (X : Cx) (E : XK) : Prop := ∀ (pins : List (Addr × Obj)) (σ : St) (H : Hp) (s : Shared) (h' : Heap) (e C : Addr) (vs : List Value), Inv X pins σ H s → Heap.MadeExcOf s.heap h' e (.ref C) vs → E (.ref C) none H → X.xe (.ref e) { s with heap := h' }
section
variable {P : Program} {w : World} {K : PySem.W.Frag} {mg : Str → Option Value} {base : Heap} {N : List Str} {qual : Str} {scope : Scope} {f : Addr} {cd : Value} {A : Around} {outer : List Env} {s : Shared} {H : Hp} {E : XK}
theorem frs_cons {qual : Str} {scope : Scope} {L f : Addr} {cd : Value} {outer : List Env} {b : Addr} (h : b ∈ frs (envOfC qual scope L f cd :: outer)) : b = L ∨ b ∈ frs outer := by
  have : frs (envOfC qual scope L f cd :: outer) = L :: frs outer := rfl
  rw [this] at h
  exact List.mem_cons.mp h
/-- an exception of a callee leaves this def too -/
theorem pass1 : Passes (CX1 P w) (cxOf (CX1 P w) P w K mg base N qual scope f cd A outer s H E) E := by
  intro pins σ H1 s1 e s' I hx
  obtain ⟨ea, C, H', B, a0, rfl, os, bare, fl, hok, un, hB, thB, hE⟩ := hx
  have b0 : Un (frs outer) [] H H1 s.heap s1.heap := I.base
  have ff := fl.2.2.1
  have nx : ∀ {b : Addr}, b ∉ ([] : List Addr) := fun {b} z => by cases z
  refine wpAny_leaves_onW (L := s.heap.objs.size) I.ok.frames rfl fl fun h' fl' up => ?_
  have out : ∀ b o, s.heap.get? b = some o → b ∉ frs outer → b ∉ frs (envOfC qual scope s.heap.objs.size f cd :: outer) := fun b o e hb z => by
    rcases frs_cons z with q | q
    · exact absurd (Heap.lt_size e) (by rw [q]; exact Nat.lt_irrefl _)
    · exact hb q
  have inn : ∀ b, b ∈ frs outer → b ∈ frs (envOfC qual scope s.heap.objs.size f cd :: outer) := fun b hb => List.mem_cons_of_mem _ hb
  have hB' : ∀ b o, s.heap.get? b = some o → H b = none → b ∉ frs outer → B.get? b = some o := fun b o e n hb => hB b o (b0.keep b o e n hb nx) (b0.free b o e n nx) (out b o e hb)
  have thB' : ∀ b o, s.heap.get? b = some o → b ∉ frs outer → ∃ o', B.get? b = some o' := fun b o e hb => by
    obtain ⟨o1, e1⟩ := b0.there b o e nx
    exact thB b o1 e1 (out b o e hb)
  refine ⟨ea, C, H', B, a0, rfl, os.trans I.os, bare, fl', hok, ⟨fun b o e n hb _ => fl'.1 b o (hB' b o e n hb), fun b o e n hb _ => ?_, fun b o e n _ => ?_, fun b o e _ => ?_, fun b xs e => un.tups b xs (b0.tups b xs e), fun b o u e => un.frzs b o u (b0.frzs b o u e), fun b ps e => ?_⟩, hB', thB', hE⟩
  · obtain ⟨sl, e1⟩ := b0.slot b o e n hb nx
    obtain ⟨sl2, e2⟩ := un.slot b _ e1 (b0.free b o e n nx) (inn b hb) nx
    obtain ⟨_, o3, e3, hd⟩ := ff.mem (inn b hb)
    rw [e2] at e3
    cases e3
    obtain ⟨sl3, e4⟩ := up b _ e2 hd
    exact ⟨sl3, e4⟩
  · by_cases hb : b ∈ frs outer
    · obtain ⟨sl, e1⟩ := b0.slot b o e n hb nx
      exact un.free b _ e1 (b0.free b o e n nx) nx
    · exact un.free b o (b0.keep b o e n hb nx) (b0.free b o e n nx) nx
  · by_cases hb : b ∈ frs outer
    · obtain ⟨_, o3, e3, hd⟩ := ff.mem (inn b hb)
      obtain ⟨sl3, e4⟩ := up b _ e3 hd
      exact ⟨_, e4⟩
    · obtain ⟨o1, e1⟩ := thB' b o e hb
      exact ⟨o1, fl'.1 b o1 e1⟩
  · obtain ⟨m1, e1⟩ := b0.tbls b ps e
    obtain ⟨m2, e2⟩ := un.tbls b _ e1
    exact ⟨m1 ++ m2, by rw [e2, Array.append_assoc]⟩
theorem raises1 : Raises (cxOf (CX1 P w) P w K mg base N qual scope f cd A outer s H E) E := by
  intro pins σ H1 s1 h' ea C vs I hx hE
  have b0 : Un (frs outer) [] H H1 s.heap s1.heap := I.base
  have nx : ∀ {b : Addr}, b ∉ ([] : List Addr) := fun {b} z => by cases z
  have hst : ∀ b ∈ frs (envOfC qual scope s.heap.objs.size f cd :: outer), H1 b = none := I.stkFree
  have ffr : s1.heap.FunFrames (PySem.W.hideAll s1.heap (frs (envOfC qual scope s.heap.objs.size f cd :: outer))) (envOfC qual scope s.heap.objs.size f cd :: outer) :=
    PySem.W.funFrames_hide I.stack fun env he a ha => List.mem_filterMap.mpr ⟨env, he, ha⟩
  refine wpAny_leaves_madeW (L := s.heap.objs.size) (base := PySem.W.hideAll s1.heap (frs (envOfC qual scope s.heap.objs.size f cd :: outer))) (h := s1.heap) I.ok.frames rfl (fun b o q => PySem.W.of_hideAll _ q) ffr hx fun h'' t fl' _ _ up => ?_
  have out : ∀ b o, s.heap.get? b = some o → b ∉ frs outer → b ∉ frs (envOfC qual scope s.heap.objs.size f cd :: outer) := fun b o e hb z => by
    rcases frs_cons z with q | q
    · exact absurd (Heap.lt_size e) (by rw [q]; exact Nat.lt_irrefl _)
    · exact hb q
  have inn : ∀ b, b ∈ frs outer → b ∈ frs (envOfC qual scope s.heap.objs.size f cd :: outer) := fun b hb => List.mem_cons_of_mem _ hb
  have hB' : ∀ b o, s.heap.get? b = some o → H b = none → b ∉ frs outer → (PySem.W.hideAll s1.heap (frs (envOfC qual scope s.heap.objs.size f cd :: outer))).get? b = some o := fun b o e n hb => PySem.W.hideAll_get _ (b0.keep b o e n hb nx) (out b o e hb)
  have thB' : ∀ b o, s.heap.get? b = some o → b ∉ frs outer → ∃ o', (PySem.W.hideAll s1.heap (frs (envOfC qual scope s.heap.objs.size f cd :: outer))).get? b = some o' := fun b o e hb => by
    obtain ⟨o1, e1⟩ := b0.there b o e nx
    exact ⟨o1, PySem.W.hideAll_get _ e1 (out b o e hb)⟩
  have fs : ∀ b o, b ∈ frs outer → s1.heap.get? b = some o → ∃ sl, h''.get? b = some { o with slots := sl } := fun b o hb e1 => by
    obtain ⟨_, o3, e3, hd⟩ := ffr.mem (inn b hb)
    rw [e1] at e3
    cases e3
    exact up b _ (hx.keeps b o e1) hd
  refine ⟨ea, C, H1, _, .ref t, rfl, I.os, I.bare, fl', hok_hide I.hok hst, ⟨fun b o e n hb _ => fl'.1 b o (hB' b o e n hb), fun b o e n hb _ => ?_, fun b o e n _ => b0.free b o e n nx, fun b o e _ => ?_, b0.tups, b0.frzs, b0.tbls⟩, hB', thB', hE⟩
  · obtain ⟨sl, e1⟩ := b0.slot b o e n hb nx
    obtain ⟨sl2, e2⟩ := fs b _ hb e1
    exact ⟨sl2, e2⟩
  · by_cases hb : b ∈ frs outer
    · obtain ⟨_, o3, e3, hd⟩ := ffr.mem (inn b hb)
      obtain ⟨sl3, e4⟩ := fs b _ hb e3
      exact ⟨_, e4⟩
    · obtain ⟨o1, e1⟩ := thB' b o e hb
      exact ⟨o1, fl'.1 b o1 e1⟩
end
/-! ### the class, by the written part -/
noncomputable def ExcC (K : PySem.W.Frag) (C : Addr) : Prop := PySem.W.excIn K C [.type "ValueError", .type "Exception", .type "BaseException", .type "object"] "ValueError.__new__" = true
theorem excObj {K : PySem.W.Frag} {h : Heap} {C : Addr} {bmB : List Value} {newId : String} (X : K.In h) (q : PySem.W.excIn K C bmB newId = true) :
    ∃ bm N nm qn bs hd sn sub ab col dd k0 k1 k2 k3 k5 mN, h.get? C = some (excClassObj nm qn C N bs bm hd sn sub ab col dd k0 k1 k2 k3 k5 newId) ∧ h.Ns N mN ∧ mN "__init__" = none ∧ OwnTail h bmB bm := by
  unfold PySem.W.excIn at q
  split at q
  · rename_i dd cd sl ho
    split at q
    · rename_i C' bm k0 k1 k2 k3 n k5 hm hs
      simp only [Bool.and_eq_true, beq_iff_eq, Bool.not_eq_true'] at q
      obtain ⟨⟨⟨⟨⟨rfl, rfl⟩, hdel⟩, ht⟩, hok⟩, hni⟩ := q
      obtain ⟨nm, bs, mro, ns, qn, hd, sn, sub, ab, col, del⟩ := cd
      dsimp only at hm hdel hok hni
      subst hm hdel
      have hsl : sl = #[k0, k1, k2, k3, some (.builtin n), k5] := by
        obtain ⟨l⟩ := sl
        simp only at hs
        rw [hs]
      subst hsl
      exact ⟨bm, ns, nm, qn, bs, hd, sn, sub, ab, col, dd, k0, k1, k2, k3, k5, _, X _ _ ho, .of_isNs (PySem.W.isNs_of_in X hok), PySem.W.nsMap_none_of_in X hok hni, PySem.W.tail_of_in X ht⟩
    · cases q
  · cases q
section
variable {X : Cx} {E : XK} {x : Str} {C : Addr} {e : Expr} {es : List Expr} {ta : TA} {np cpos pos : Pos}
/-- raise C(..) -/
noncomputable def tRaise (C : Addr) (E : XK) (ta : TA) : TS := fun D σ H => ta σ H fun vs H1 => vs.length ≤ sizeLine ∧ E (.ref C) none H1
theorem ps_raise (hr : Raises X E) (hc : X.calm = true) (hm : X.mg x = some (.ref C)) (q : ExcC X.K C) (ha : PA X (e :: es) ta) (hg : Gl X x := by rfl) (hdb : (x == ("__debug__" : Str)) = false := by decide)
    (he : starEach (e :: es) X.env = (false, eval e X.env) :: starEach es X.env := by rfl) (hpl : (backTo cpos (starEach es X.env)).any (·.1) = false := by rfl) :
    PS X (.Raise (some (.Call (.Name x np) (e :: es) [] cpos)) none pos) (tRaise C E ta) := by
  intro pins s σ H D I h
  obtain ⟨bm, N, nm, qn, bs, hd, sn, sub, ab, col, dd, k0, k1, k2, k3, k5, mN, hC, hN, hni, T⟩ := excObj I.ok.mod.kin q
  refine wpAny_Raise_call_subT (C := C) (nm := nm) (q := qn) (N := N) (bs := bs) (bm := bm) (hdct := hd) (sn := sn) (sub := sub) (ab := ab) (col := col) (dd := dd) (k0 := k0) (k1 := k1) (k2 := k2) (k3 := k3) (k5 := k5)
    PySem.F.excBase_ValueError (mN := mN) (T.hasType PySem.F.excBase_ValueError.hasBase) (I.ok.hd hc) (by rw [he]; show (false || (backTo cpos (starEach es X.env)).any (·.1)) = false; rw [hpl]; rfl) hni (ld_glob I hg hm ⟨rfl, ?_⟩ hdb)
  have hA := ha cpos pins s σ H _ I h
  rw [he] at hA ⊢
  refine Calls.evalArgs_plain (thn hA fun us s2 ⟨vs, H2, I2, r2, hz, hE⟩ => ?_)
  exact ⟨rfl, by rw [← r2.length]; exact hz, I2.bk _ _ hC, hN.keeps I2.bk, T.keeps I2.bk, fun h' ea hx => hr pins σ H2 s2 h' ea C _ I2 hx hE⟩
end
end L2

set_option Elab.async false
set_option linter.all false
set_option maxRecDepth 100000
set_option maxHeartbeats 4000000
namespace L2
open PySem PySem.Spec PyProof.Rows
/-! ### within an except suite -/
noncomputable abbrev Cx.marked (X : Cx) (v : Value) : Cx := { X with A := X.A.mark (some v), calm := false }
theorem Cx.Ok.marked {X : Cx} (ok : X.Ok) (v : Value) : (X.marked v).Ok :=
  ⟨ok.mod, ok.kind, ok.glob, ok.blt, ok.above, ok.inj, ok.has, ok.cab, (fun h => by cases h), ok.frames, ok.stk, ok.exf, ok.bs, ok.bsz, ok.noex, ok.exfs, ok.funs, ok.frf⟩
theorem Inv.marked {X : Cx} {pins : List (Addr × Obj)} {σ : St} {H : Hp} {s : Shared} (I : Inv X pins σ H s) (v : Value) : Inv (X.marked v) pins σ H s := ⟨I.ok.marked v, I.os, I.bare, I.base, I.loc, I.cell, I.free, I.freeC, I.pin, I.hok, I.len⟩
theorem Inv.unmarked {X : Cx} {v : Value} {pins : List (Addr × Obj)} {σ : St} {H : Hp} {s : Shared} (ok : X.Ok) (I : Inv (X.marked v) pins σ H s) : Inv X pins σ H s := ⟨ok, I.os, I.bare, I.base, I.loc, I.cell, I.free, I.freeC, I.pin, I.hok, I.len⟩

/-! ### what may raise, at its own names' values -/
noncomputable def WX (CX : CXT) (X : Cx) (pins : List (Addr × Obj)) (σ : St) (E : XK) (e : Value) (s' : Shared) : Prop := ∃ H1 s1, Inv X pins σ H1 s1 ∧ CX X.stack H1 s1 E e s'
noncomputable abbrev TEX := St → Hp → VK → XK → Prop
noncomputable abbrev TSX := Ends → XK → St → Hp → Prop
noncomputable def PEX (CX : CXT) (X : Cx) (e : Expr) (t : TEX) : Prop :=
  ∀ (pins : List (Addr × Obj)) (s : Shared) (σ : St) (H : Hp) (Q : VK) (E : XK), Inv X pins σ H s → t σ H Q E → wpAny (model X.prog X.w) X.A (eval e X.env) (EP X pins σ Q) (WX CX X pins σ E) s
noncomputable def PSX (CX : CXT) (X : Cx) (st : List Stmt) (t : TSX) : Prop :=
  ∀ (pins : List (Addr × Obj)) (s : Shared) (σ : St) (H : Hp) (D : Ends) (E : XK), Inv X pins σ H s → t D E σ H → wpAny (model X.prog X.w) X.A (execs st X.env) (SP X pins D) (WX CX X pins σ E) s
section
variable {CX : CXT} {X : Cx} {k : Nat} {f : Addr} {fd : FuncData} {ps : List Str} {sp : Sp} {x : Str} {p pos pos' : Pos} {e : Expr} {es : List Expr} {ta : TA} {t : TEX}
end
theorem ObjOk.there {P : Program} {w : World} {H : Hp} {h : Heap} {a : Addr} {o : HO} (x : ObjOk P w H h a o) : ∃ ob, h.get? a = some ob := by
  induction o with
  | lst xs => obtain ⟨_, _, _, _, e⟩ := x; exact ⟨_, e⟩
  | tup xs => obtain ⟨_, _, _, ob, e, _⟩ := x; exact ⟨_, e⟩
  | dK kvs => obtain ⟨_, _, _, _, ob, _, _, e, _⟩ := x; exact ⟨_, e⟩
  | dT kvs => obtain ⟨_, _, _, _, ob, _, _, e, _⟩ := x; exact ⟨_, e⟩
  | set S n => obtain ⟨ob, _, _, _, e, _⟩ := x; exact ⟨_, e⟩
  | ins C dx fs => obtain ⟨_, _, _, e, _⟩ := x; exact ⟨_, e⟩
  | own _ => obtain ⟨ob, e⟩ := x; exact ⟨_, e⟩
  | xd fs => obtain ⟨mA, ⟨ob, _, _, e, _⟩, _⟩ := x; exact ⟨_, e⟩
  | rng lo hi => obtain ⟨_, _, _, e⟩ := x; exact ⟨_, e⟩
  | frz ob u ih => obtain ⟨e, _⟩ := x; exact ⟨_, e⟩
  | tbl ps => exact ⟨_, x⟩
  | met f y => exact ⟨_, x⟩
  | ext φ => exact x.2.1
/-! ### an exception that is held -/
/-- an exception object of the class at C -/
noncomputable def ExcAt (e C : Addr) (h : Heap) : Prop := ∃ o vs, h.get? e = some o ∧ o.cls = .ref C ∧ o.data = .fields vs
noncomputable def excO (e C : Addr) : HO := .ext (ExcAt e C)
section
variable {X : Cx} {pins : List (Addr × Obj)} {σ : St} {H H' : Hp} {s s' : Shared}
/-- what was there and is not tracked comes under the ledger -/
theorem Inv.track {e : Addr} {u : HO} {o : Obj} (I : Inv X pins σ H s) (he : s.heap.get? e = some o) (hn : H e = none) (h0 : X.s₀.heap.get? e = none) (hL : e ≠ X.env.locals) (hC : ∀ x c, X.env.cells.lookup x = some c → c ≠ e) (hp : ∀ p ∈ X.pn ++ pins, p.1 ≠ e)
    (ok : ObjOk X.prog X.w (upd H e u) s.heap e u) : Inv X pins σ (upd H e u) s := by
  have ne : ∀ b, H b ≠ none → b ≠ e := fun b h z => h (by rw [z]; exact hn)
  refine ⟨I.ok, I.os, I.bare, ⟨I.base.keep, I.base.slot, fun b ob q n hx => ?_, I.base.there, fun b xs q => ?_, fun b ob v q => ?_, fun b ps q => ?_⟩, I.loc, I.cell, ?_, fun x c q => ?_, fun p hp' => ?_, fun a ob q => ?_, I.len⟩
  · rw [upd_ne (by rintro rfl; rw [h0] at q; cases q)]
    exact I.base.free b ob q n hx
  · have := I.base.tups b xs q
    rw [upd_ne (ne b (by rw [this]; simp))]
    exact this
  · have := I.base.frzs b ob v q
    rw [upd_ne (ne b (by rw [this]; simp))]
    exact this
  · obtain ⟨m, this⟩ := I.base.tbls b ps q
    refine ⟨m, ?_⟩
    rw [upd_ne (ne b (by rw [this]; simp))]
    exact this
  · rw [upd_ne (Ne.symm hL)]
    exact I.free
  · rw [upd_ne (hC x c q)]
    exact I.freeC x c q
  · obtain ⟨a1, a2, a3⟩ := I.pin p hp'
    refine ⟨a1, ?_, a3⟩
    rw [upd_ne (hp p hp')]
    exact a2
  · by_cases ha : a = e
    · subst ha
      rw [upd_same] at q
      cases q
      exact ok
    · rw [upd_ne ha] at q
      refine (I.hok a ob q).stay (fun _ _ _ z => z) (fun b z => ?_) fun b xs z => ?_
      · rw [upd_ne (ne b (by rw [z]; simp))]; exact z
      · rw [upd_ne (ne b (by rw [z]; simp))]; exact z
/-- behind a raise, within the frame that looks at it -/
theorem Inv.caught {B : Heap} {h' : Heap} (I : Inv X pins σ H s) (hst : X.stack = X.env :: X.outer) (os : s'.os = s.os) (bare : AllBare s'.gens) (hok : HOk X.prog X.w H' B) (un : Un (frs X.stack) [] H H' s.heap s'.heap)
    (hB : ∀ b o, s.heap.get? b = some o → H b = none → b ∉ frs X.stack → B.get? b = some o) (thB : ∀ b o, s.heap.get? b = some o → b ∉ frs X.stack → ∃ o', B.get? b = some o') (ff : s'.heap.FunFrames B X.stack) (st : B.StaysIn h') (up : s'.heap.UpToSlots h') :
    Inv X pins σ H' { s' with heap := h' } := by
  have nx : ∀ {b : Addr}, b ∉ ([] : List Addr) := fun {b} z => by cases z
  have fs : ∀ b o, b ∈ frs X.stack → s'.heap.get? b = some o → ∃ sl, h'.get? b = some { o with slots := sl } := fun b o hb e1 => by
    obtain ⟨_, o3, e3, hd⟩ := ff.mem hb
    rw [e1] at e3
    cases e3
    exact up b _ e1 hd
  refine I.call' (s' := { s' with heap := h' }) (ch := []) os ⟨fun b o e n hb _ => st b o (hB b o e n hb), fun b o e n hb _ => ?_, fun b o e n hx => un.free b o e n hx, fun b o e _ => ?_, un.tups, un.frzs, un.tbls⟩ (hok.kept st) bare (fun b z => by cases z)
  · obtain ⟨sl, e1⟩ := un.slot b o e n hb nx
    obtain ⟨sl2, e2⟩ := fs b _ hb e1
    exact ⟨sl2, e2⟩
  · by_cases hb : b ∈ frs X.stack
    · obtain ⟨_, o3, e3, hd⟩ := ff.mem hb
      obtain ⟨sl3, e4⟩ := fs b _ hb e3
      exact ⟨_, e4⟩
    · obtain ⟨o1, e1⟩ := thB b o e hb
      exact ⟨o1, st b o1 e1⟩
end
/-! ### try: .. except C as n: .. -/
noncomputable def tTry (K : PySem.W.Frag) (C : Addr) (i : Nat) (tx : TSX) (th : TS) : TS := fun D σ H =>
  tx D (fun cls _ H' => ∃ Ce, cls = .ref Ce ∧ PySem.W.exmOne K (.ref Ce) (.ref C) = some true ∧ ∀ ea, H' ea = none →
    th { nx := fun σ' H2 => D.nx (σ'.set i none) H2, rt := D.rt, bk := fun σ' H2 => D.bk (σ'.set i none) H2, ct := fun σ' H2 => D.ct (σ'.set i none) H2 } (σ.set i (some (.ref ea))) (upd H' ea (excO ea Ce))) σ H
end L2

set_option Elab.async false
set_option linter.all false
set_option maxRecDepth 100000
set_option maxHeartbeats 4000000
namespace PySem.W
open PySem PySem.Spec PySem.Calls PyProof.Rows Builtin Builtin.ObjectAttr Builtin.Getset_descriptor
/-- what of the text an error class must have -/
structure ErrC (K : Frag) (C : Addr) : Prop where
  ga : findIn K (.ref C) "__getattribute__" = some (some (.builtin "BaseException.__getattribute__"))
  gt : findIn K (.ref C) "__getattr__" = some none
  cl : findIn K (.ref C) "__class__" = some (some (.builtin "object.__class__"))
  be : mroIn K C (.type "BaseException") = some true
  ob : mroIn K C (.type "object") = some true
  it : clsIn K C ≠ none
section
variable {prog : Program} {w : World} {A : Around} {E : Value → Shared → Prop} {s : Shared} {K : Frag} {x C : Addr} {R : Result → Shared → Prop}
end
end PySem.W
namespace L2
open PySem PySem.Spec PyProof.Rows
section
variable {X : Cx}
/-- isinstance of a held exception: one class, or a tuple of classes -/
noncomputable def clsV : V → Value
  | .ty n => .type n
  | .ref a => .ref a
  | _ => .none
noncomputable def uIsiE (K : PySem.W.Frag) : List V → Hp → VK → Prop := u2 fun x y H Q => match x with
  | .ref e => ∃ C, H e = some (excO e C) ∧ PySem.W.ErrC K C ∧ match y with
    | .ty n => ∃ b, PySem.W.kitOne K (.ref C) (.type n) = some b ∧ Q (.bl b) H
    | .ref c => (∃ b, PySem.W.kitOne K (.ref C) (.ref c) = some b ∧ Q (.bl b) H) ∨ ∃ ys b, H c = some (.tup ys) ∧ PySem.W.kitAny K (.ref C) (ys.map clsV) = some b ∧ (∀ y ∈ ys, y = .ref (match y with | .ref a => a | _ => 0)) ∧ Q (.bl b) H
    | _ => False
  | _ => False
end
end L2

set_option Elab.async false
set_option linter.all false
set_option maxRecDepth 100000
set_option maxHeartbeats 4000000
namespace L2
open PySem PySem.Spec PyProof.Rows
/-! ### defs that run also within an except suite -/
structure RoomU (k : Nat) (A : Around) : Prop where
  dp : A.depth + 3 * k + 5 < recursionLimit
  un : A.units + 16 * k + 200 < cLine
structure FnOkU (P : Program) (w : World) (K : PySem.W.Frag) (mg : Str → Option Value) (base : Heap) (CX : CXT) (k : Nat) (f : Addr) (fd : FuncData) (ps : List Str) (sp : Sp) : Prop where
  len : ∀ vs H Q E, sp vs H Q E → vs.length = ps.length
  run : ∀ (A : Around) (outer : List Env) (s : Shared) (H : Hp) (args : Args) (us : List Value) (vs : List V) (Q : VK) (E : XK), RoomU k A → Env0 P w K mg base A outer s H → BindsTo s fd args (ps.zip us) → Vals vs us → sp vs H Q E →
    codeAny (model P w) A (.call (.ref f) args) (CR CX outer P w H s Q E) s
noncomputable abbrev cxU (CX : CXT) (P : Program) (w : World) (K : PySem.W.Frag) (mg : Str → Option Value) (base : Heap) (N : List Str) (qual : Str) (scope : Scope) (f : Addr) (cd : Value) (A : Around) (outer : List Env) (s : Shared) (H : Hp) (E : XK) : Cx :=
  { cxOf CX P w K mg base N qual scope f cd A outer s H E with calm := false }
/-! ### by a def's statement -/
section
variable {P : Program} {w : World} {K : PySem.W.Frag} {mg : Str → Option Value} {base : Heap} {x qual : Str} {st : Stmt} {f : Addr} {fd : FuncData} {N ps : List Str} {k : Nat} {sp : Sp}
/-- no exception leaves it -/
theorem Fun.okN (F : Fun K x qual st f fd) (S : FnScope N ps (defScope st)) (len : ∀ vs H Q E, sp vs H Q E → vs.length = ps.length)
    (hbody : ∀ (cdv : Value) (A : Around) (outer : List Env) (s : Shared) (H : Hp) (vs : List V) (Q : VK) (E : XK), Room k (A.deeper (envOfC qual (defScope st) s.heap.objs.size f cdv)) → sp vs H Q E →
      ∃ t, QSs (cxOf (CX1 P w) P w K mg base N qual (defScope st) f cdv A outer s H E).nox (defBody st) t ∧ t { nx := fun _ H' => Q .non H', rt := Q } (start N vs) H) : FnOk P w K mg base (CX1 P w) (k + 1) f fd ps sp := by
  obtain ⟨oc, od, kV, doc, pm, an, cdv, ct, osl, rfl, lk, hcd⟩ := F.ex
  refine fn_of lk hcd S len fun A outer s H vs Q E hr hsp => ?_
  obtain ⟨t, h, q⟩ := hbody cdv A outer s H vs Q E hr hsp
  exact ⟨t, h.run.nox, q⟩
/-- it may raise -/
theorem Fun.okX (F : Fun K x qual st f fd) (S : FnScope N ps (defScope st)) (len : ∀ vs H Q E, sp vs H Q E → vs.length = ps.length)
    (hbody : ∀ (cdv : Value) (A : Around) (outer : List Env) (s : Shared) (H : Hp) (vs : List V) (Q : VK) (E : XK), Room k (A.deeper (envOfC qual (defScope st) s.heap.objs.size f cdv)) → sp vs H Q E →
      ∃ t, QSs (cxOf (CX1 P w) P w K mg base N qual (defScope st) f cdv A outer s H E) (defBody st) t ∧ t { nx := fun _ H' => Q .non H', rt := Q } (start N vs) H) : FnOk P w K mg base (CX1 P w) (k + 1) f fd ps sp := by
  obtain ⟨oc, od, kV, doc, pm, an, cdv, ct, osl, rfl, lk, hcd⟩ := F.ex
  refine fn_of lk hcd S len fun A outer s H vs Q E hr hsp => ?_
  obtain ⟨t, h, q⟩ := hbody cdv A outer s H vs Q E hr hsp
  exact ⟨t, h.run, q⟩
end
structure GU (P : Program) (w : World) (K : PySem.W.Frag) (mg : Str → Option Value) (base : Heap) (CX : CXT) (x : Str) (ps : List Str) (k : Nat) (sp : Sp) : Prop where
  ex : ∃ f fd, mg x = some (.ref f) ∧ PySem.W.keepIn K (.ref f) = true ∧ Binds K fd ps [] ∧ FnOkU P w K mg base CX k f fd ps sp
section
variable {X : Cx} {CX : CXT} {x : Str} {ps : List Str} {k : Nat} {sp : Sp} {e : Expr} {es : List Expr} {t : TA} {p pos : Pos}
end
/-! ### as structures -/
structure QEX (X : Cx) (e : Expr) (t : TEX) : Prop where
  run : PEX (CX1 X.prog X.w) X e t
structure QSX (X : Cx) (st : List Stmt) (t : TSX) : Prop where
  run : PSX (CX1 X.prog X.w) X st t
section
variable {X : Cx} {e : Expr} {es : List Expr} {t : TA} {p pos np cpos hpos : Pos} {x n : Str} {ps : List Str} {k : Nat} {sp : Sp}
theorem q_raise {E : XK} {C : Addr} (hr : Raises X E) (hc : X.calm = true) (hm : X.mg x = some (.ref C)) (q : ExcC X.K C) (ha : QA X (e :: es) t) (hg : Gl X x := by rfl) (hdb : (x == ("__debug__" : Str)) = false := by decide)
    (hs : (e :: es).all notStar = true := by rfl) : QS X (.Raise (some (.Call (.Name x np) (e :: es) [] cpos)) none pos) (tRaise C E t) := ⟨ps_raise hr hc hm q ha.run hg hdb (se (seHd hs).1) (seAny (seHd hs).2)⟩
end
end L2

set_option Elab.async false
set_option linter.all false
set_option maxRecDepth 100000
set_option maxHeartbeats 4000000
namespace L2
open PySem PySem.Spec PyProof.Rows
section
variable {X : Cx} {pins : List (Addr × Obj)} {σ : St} {H H' : Hp} {s s' : Shared}
/-- what was there and is not tracked comes under the ledger -/
theorem Inv.trackT {e : Addr} {u : HO} {o : Obj} (I : Inv X pins σ H s) (he : s.heap.get? e = some o) (hn : H e = none) (h0 : X.s₀.heap.get? e = none) (hL : e ≠ X.env.locals) (hC : ∀ x c, X.env.cells.lookup x = some c → c ≠ e) (hp : ∀ p ∈ X.pn ++ pins, p.1 ≠ e)
    (ok : ObjOk X.prog X.w (upd H e u) s.heap e u) : Inv X pins σ (upd H e u) s := by
  have ne : ∀ b, H b ≠ none → b ≠ e := fun b h z => h (by rw [z]; exact hn)
  refine ⟨I.ok, I.os, I.bare, ⟨I.base.keep, I.base.slot, fun b ob q n hx => ?_, I.base.there, fun b xs q => ?_, fun b ob v q => ?_, fun b ps q => ?_⟩, I.loc, I.cell, ?_, fun x c q => ?_, fun p hp' => ?_, fun a ob q => ?_, I.len⟩
  · rw [upd_ne (by rintro rfl; rw [h0] at q; cases q)]
    exact I.base.free b ob q n hx
  · have := I.base.tups b xs q
    rw [upd_ne (ne b (by rw [this]; simp))]
    exact this
  · have := I.base.frzs b ob v q
    rw [upd_ne (ne b (by rw [this]; simp))]
    exact this
  · obtain ⟨m, this⟩ := I.base.tbls b ps q
    refine ⟨m, ?_⟩
    rw [upd_ne (ne b (by rw [this]; simp))]
    exact this
  · rw [upd_ne (Ne.symm hL)]
    exact I.free
  · rw [upd_ne (hC x c q)]
    exact I.freeC x c q
  · obtain ⟨a1, a2, a3⟩ := I.pin p hp'
    refine ⟨a1, ?_, a3⟩
    rw [upd_ne (hp p hp')]
    exact a2
  · by_cases ha : a = e
    · subst ha
      rw [upd_same] at q
      cases q
      exact ok
    · rw [upd_ne ha] at q
      refine (I.hok a ob q).stay (fun _ _ _ z => z) (fun b z => ?_) fun b xs z => ?_
      · rw [upd_ne (ne b (by rw [z]; simp))]; exact z
      · rw [upd_ne (ne b (by rw [z]; simp))]; exact z
/-- untracked records of ours have turned -/
theorem Inv.turnedL {t' : Nat} {h' : Heap} {ch : List Addr} (I : Inv X pins σ H s) (k : ∀ b o, b ∉ ch → s.heap.get? b = some o → h'.get? b = some o) (hf : ∀ b ∈ ch, FpOk X pins H b) : Inv X pins σ H { s with heap := h', toks := t' } := by
  have nit : ∀ b u, H b = some u → b ∉ ch := fun b u e z => by rw [(hf b z).1] at e; cases e
  refine I.step (g' := s.gens) (d' := s.drawn) (ch := ch) (fun b hb => ⟨(hf b hb).2.2.2.1, (hf b hb).2.1, (hf b hb).2.2.2.2.1, (hf b hb).2.2.2.2.2⟩) (fun b o _ _ hc e _ => k b o hc e) (fun b o _ _ hc e _ => ⟨o.slots, k b o hc e⟩) (fun _ _ _ _ n => n)
    (fun b o hc e => ⟨o, k b o hc e⟩) (fun _ _ e => e) (fun _ _ _ e => e) (fun b ps e => ⟨#[], by rw [e]; simp⟩) (fun m hm => ?_) (fun b u e => ?_) I.bare
  · obtain ⟨o, es, ep, ho, r⟩ := hm
    exact ⟨o, es, ep, k _ o (fun z => (hf _ z).2.1 rfl) ho, r⟩
  · refine (I.hok b u e).stay (fun c v hc q => k c v ?_ q) (fun _ q => q) fun _ _ q => q
    rcases hc with z | z
    · rw [z]; exact nit b u e
    · exact nit c _ z
end
/-! ### zip(a, b), walked by pairs -/
noncomputable def Itz (K : PySem.W.Frag) (a b : Addr) : It where
  go := fun i H => ∃ xs ys x y, SqL K H a xs ∧ SqL K H b ys ∧ xs[i]? = some x ∧ ys[i]? = some y
  yld := fun i H v H' => ∃ T x y, v = .ref T ∧ H T = none ∧ H' = upd H T (.tup [x, y]) ∧ (∀ xs, SqL K H a xs → xs[i]? = some x) ∧ ∀ ys, SqL K H b ys → ys[i]? = some y
  stop := fun i H => ∃ xs ys, SqL K H a xs ∧ SqL K H b ys ∧ (xs.length ≤ i ∨ ys.length ≤ i)
theorem turn_zip {P : Program} {w : World} {K : PySem.W.Frag} {elts : List Expr} {x1 : Nat} {tpos : Pos} (l1 l2 z TI TO i1 i2 : Addr) (D : ZipApart z TI TO i1 i2 l1 l2) : Turn P w K (.Tuple elts x1 tpos) (Itz K l1 l2) [z, TI, TO, i1, i2] z
    (fun i h => IsZip h z TI TO .none ∧ IsPair h TI (.ref i1) (.ref i2) ∧ (∃ a b, IsPair h TO a b) ∧ h.IsListIter i1 l1 i ∧ h.IsListIter i2 l2 i) where
  mem := by simp
  obj := fun i h ⟨hz, hTI, ⟨a, b, hTO⟩, ⟨o1, e1, c1, d1⟩, ⟨o2, e2, c2, d2⟩⟩ b hb => by
    simp only [List.mem_cons, List.not_mem_nil, or_false] at hb
    rcases hb with rfl | rfl | rfl | rfl | rfl
    · exact ⟨_, hz, fun v q => by cases q⟩
    · exact ⟨_, hTI, fun v q => by cases q⟩
    · exact ⟨_, hTO, fun v q => by cases q⟩
    · exact ⟨o1, e1, fun v q => by rw [d1] at q; cases q⟩
    · exact ⟨o2, e2, fun v q => by rw [d2] at q; cases q⟩
  keep := fun i h h' ⟨hz, hTI, ⟨a, b, hTO⟩, h1, h2⟩ k => ⟨k z (by simp) _ hz, k TI (by simp) _ hTI, ⟨a, b, k TO (by simp) _ hTO⟩, h1.at fun o e => k i1 (by simp) o e, h2.at fun o e => k i2 (by simp) o e⟩
  item := by
    intro X hP hw hK hc i pins s σ H E I hf st hg
    subst hP hw hK
    obtain ⟨hz, hTI, ⟨a, b, hTO⟩, h1, h2⟩ := st
    obtain ⟨xs, ys, x, y, hx, hy, ex, ey⟩ := hg
    obtain ⟨it1, r1, p1, _⟩ := I.list hx
    obtain ⟨it2, r2, p2, _⟩ := I.list hy
    obtain ⟨u1, hu1, ru1⟩ := r1.get ex
    obtain ⟨u2, hu2, ru2⟩ := r2.get ey
    refine wpAny_pyNext_zip_item D hz hTI hTO h1 h2 p1.isList p2.isList (x := u1) (y := u2) (by simpa using hu1) (by simpa using hu2) fun h' a1 a2 a3 a4 a5 a6 hk => ?_
    refine ⟨_, rfl, wpAny_letOwnedTupleGo_zip (s := { s with heap := h' }) a1 fun h'' b1 hs => ?_⟩
    have zT : s.heap.objs.size ≠ z := Nat.ne_of_gt (Heap.lt_size hz)
    have k2 : ∀ c o, c ∉ [z, TO, i1, i2] → s.heap.get? c = some o → h''.get? c = some o := fun c o hc e => by
      simp only [List.mem_cons, List.not_mem_nil, or_false, not_or] at hc
      exact hs.extBut _ _ hc.1 (hk c o hc.1 hc.2.1 hc.2.2.1 hc.2.2.2 e)
    have b2 : IsPair h'' TO u1 u2 := hs.extBut _ _ D.TOz a2
    have b3 := a3.extBut hs.extBut D.i1z
    have b4 := a4.extBut hs.extBut D.i2z
    have b5 : IsPair h'' s.heap.objs.size u1 u2 := hs.extBut _ _ zT a5
    have sub : ∀ c ∈ [z, TO, i1, i2], c ∈ [z, TI, TO, i1, i2] := fun c hc => by
      simp only [List.mem_cons, List.not_mem_nil, or_false] at hc ⊢
      rcases hc with rfl | rfl | rfl | rfl <;> simp
    have I1 : Inv X pins σ H { s with heap := h'' } := I.turnedL (t' := s.toks) k2 (fun c hc => hf c (sub c hc))
    have hT0 : H s.heap.objs.size = none := I.hok.fresh (Nat.le_refl _)
    have fT := I.fpOk (H' := H) (b := s.heap.objs.size) (Nat.le_refl _) hT0
    have I2 := I1.trackT (u := .tup [x, y]) b5 hT0 (Heap.get?_none_of_le I.sz) fT.2.1 fT.2.2.2.2.1 fT.2.2.2.2.2 ⟨by show 2 ≤ sizeLine; decide, [u1, u2], .cons ru1 (.cons ru2 .nil), ⟨_, b5, rfl, _, rfl⟩⟩
    have lt : ∀ c ∈ [z, TI, TO, i1, i2], c ≠ s.heap.objs.size := fun c hc => by
      simp only [List.mem_cons, List.not_mem_nil, or_false] at hc
      rcases hc with rfl | rfl | rfl | rfl | rfl
      · exact Nat.ne_of_lt (Heap.lt_size hz)
      · exact Nat.ne_of_lt (Heap.lt_size hTI)
      · exact Nat.ne_of_lt (Heap.lt_size hTO)
      · obtain ⟨o, e, _⟩ := h1; exact Nat.ne_of_lt (Heap.lt_size e)
      · obtain ⟨o, e, _⟩ := h2; exact Nat.ne_of_lt (Heap.lt_size e)
    refine ⟨.ref s.heap.objs.size, _, I2, rfl, ⟨_, x, y, rfl, hT0, rfl, fun xs' h => by rw [I.list_inj h hx]; exact ex, fun ys' h => by rw [I.list_inj h hy]; exact ey⟩, ⟨b1, k2 TI _ (by simp [D.TIz, D.TITO, D.TIi1, D.TIi2]) hTI, ⟨_, _, b2⟩, b3, b4⟩, fun c hc => ?_⟩
    rw [upd_ne (lt c hc)]
    exact (hf c hc).1
  done := by
    intro X hP hw hK hc i pins s σ H E I hf st hg
    subst hP hw hK
    obtain ⟨hz, hTI, ⟨a, b, hTO⟩, h1, h2⟩ := st
    obtain ⟨xs, ys, hx, hy, hl⟩ := hg
    obtain ⟨it1, r1, p1, _⟩ := I.list hx
    obtain ⟨it2, r2, p2, _⟩ := I.list hy
    have e1 := r1.length
    have e2 := r2.length
    refine wpAny_pyNext_zip_end (I.ok.hd hc) D hz hTI hTO h1 h2 p1.isList p2.isList (by rcases hl with z | z; exact .inl (by simp; omega); exact .inr (by simp; omega)) fun h' hk => ⟨rfl, ?_⟩
    refine I.turnedL (t' := s.toks) (ch := [z, TO, i1, i2]) (fun c o hc e => ?_) fun c hc => hf c ?_
    · simp only [List.mem_cons, List.not_mem_nil, or_false, not_or] at hc
      exact hk c o hc.1 hc.2.1 hc.2.2.1 hc.2.2.2 e
    · simp only [List.mem_cons, List.not_mem_nil, or_false] at hc ⊢
      rcases hc with rfl | rfl | rfl | rfl <;> simp
  self := fun _ _ _ _ _ st h => wpAny_pyIter_zip st.1 h
section
variable {X : Cx} {a b : Expr} {ta : TA} {p pos tpos : Pos} {elts : List Expr} {x1 : Nat} {K : PySem.W.Frag}
noncomputable def uiZip (K : PySem.W.Frag) (ta : TA) : TI := fun σ H R => ta σ H fun vs H1 => match vs with
  | [.ref l1, .ref l2] => ∃ xs ys, SqL K H1 l1 xs ∧ SqL K H1 l2 ys ∧ R (Itz K l1 l2) H1
  | _ => False
theorem ui_zip_0 (hm : X.mg "zip" = none) (ha : PA X [a, b] ta) (hg : Gl X "zip") (hn : notStar a = true) (hn2 : notStar b = true) : PI X (.Tuple elts x1 tpos) (.Call (.Name "zip" p) [a, b] [] pos) (uiZip X.K ta) := by
  have hs2 : starEach [b] X.env = [(false, eval b X.env)] := by rw [se hn2, starEach]
  have hs : starEach [a, b] X.env = [(false, eval a X.env), (false, eval b X.env)] := by rw [se hn, hs2]
  intro pins s σ H R I h
  refine Call_ (ld_blt I hg hm boot_zip (PyProof.Rows.callWith_type1 (thn (ha pos pins s σ H _ I h) fun us s1 ⟨vs, H1, I1, r1, q1⟩ => ?_) (by rw [hs, hs2]) (by rw [hs2]; rfl)))
  dsimp only at q1
  split at q1
  · rename_i l1 l2
    obtain ⟨xs, ys, hx, hy, q⟩ := q1
    obtain ⟨u, v, rfl, ru, rv⟩ := vals2 r1
    cases ru
    cases rv
    obtain ⟨it1, r1, p1, _⟩ := I1.list hx
    obtain ⟨it2, r2, p2, _⟩ := I1.list hy
    have hl1 : l1 < s1.heap.objs.size := by obtain ⟨o, ho, _⟩ := p1.isList; exact Heap.lt_size ho
    have hl2 : l2 < s1.heap.objs.size := by obtain ⟨o, ho, _⟩ := p2.isList; exact Heap.lt_size ho
    refine call_zip_2 p1.isList p2.isList fun h' b1 b2 b3 b4 b5 b6 hk => ?_
    have n1 : @LT.lt Nat instLTNat l1 s1.heap.objs.size := hl1
    have n2 : @LT.lt Nat instLTNat l2 s1.heap.objs.size := hl2
    generalize hsz : s1.heap.objs.size = sz at n1 n2 b1 b2 b3 b4 b5 b6 ⊢
    have D : ZipApart (sz + 4) (sz + 2) (sz + 3) sz (sz + 1) l1 l2 := by
      constructor <;> (show @Ne Nat _ _; omega)
    refine wpAny_pyIter_zip (s := { s1 with heap := h' }) b1 ?_
    refine ⟨_, _, _, _, H1, rfl, I1.kept (t' := s1.toks) hk, turn_zip l1 l2 _ _ _ _ _ D, ⟨b1, b2, ⟨_, _, b3⟩, b4, b5⟩, fun c hc => ?_, q⟩
    have hge : s1.heap.objs.size ≤ c := by
      rw [hsz]
      simp only [List.mem_cons, List.not_mem_nil, or_false] at hc
      rcases hc with rfl | rfl | rfl | rfl | rfl <;> (show @LE.le Nat instLENat _ _; omega)
    exact I1.fpOk hge (I1.hok.fresh hge)
  · exact q1.elim
theorem q_zip {t : TA} (hm : X.mg "zip" = none) (ha : QA X [a, b] t) (hg : Gl X "zip" := by rfl) (hn : notStar a = true := by rfl) (hn2 : notStar b = true := by rfl) (hK : X.K = K := by rfl) : QI X (.Tuple elts x1 tpos) (.Call (.Name "zip" p) [a, b] [] pos) (uiZip K t) := by
  subst hK; exact ⟨ui_zip_0 hm ha.run hg hn hn2⟩
end
/-- a loop over pairs -/
theorem for_zip {K : PySem.W.Frag} {a b : Addr} {xs ys : List V} {g : TG} {tb : TS} {D : Ends} {σ : St} {H : Hp} (Pv : Nat → St → Hp → Prop) (hxy : xs.length = ys.length) (h0 : Pv 0 σ H) (hl : ∀ i σ H, i ≤ xs.length → Pv i σ H → SqL K H a xs ∧ SqL K H b ys)
    (hs : ∀ i x y T σ H, xs[i]? = some x → ys[i]? = some y → H T = none → Pv i σ H → g (.ref T) σ (upd H T (.tup [x, y])) fun σ2 H2 => tb { D with nx := Pv (i + 1), ct := Pv (i + 1), bk := D.nx } σ2 H2) (hd : ∀ σ H, Pv xs.length σ H → D.nx σ H) :
    ∃ W : Nat → Nat → St → Hp → Prop, (∃ m, W 0 m σ H) ∧ ∀ i m σ H, W i m σ H →
      ((Itz K a b).stop i H ∧ D.nx σ H) ∨ ((Itz K a b).go i H ∧ ∃ N : St → Hp → Prop, (∀ σ' H', N σ' H' → ∃ m', m' < m ∧ W (i + 1) m' σ' H') ∧ ∀ x H', (Itz K a b).yld i H x H' → g x σ H' fun σ2 H2 => tb { D with nx := N, ct := N, bk := D.nx } σ2 H2) := by
  refine ⟨fun i m σ H => m = xs.length - i ∧ i ≤ xs.length ∧ Pv i σ H, ⟨xs.length, by simp, Nat.zero_le _, h0⟩, ?_⟩
  rintro i m σ H ⟨rfl, hi, p⟩
  obtain ⟨q1, q2⟩ := hl i σ H hi p
  by_cases hlt : i < xs.length
  · refine .inr ⟨⟨xs, ys, xs[i], ys[i], q1, q2, by simp [hlt], by simp [show i < ys.length by omega]⟩, Pv (i + 1), fun σ' H' p' => ⟨xs.length - (i + 1), by omega, rfl, hlt, p'⟩, fun v H' yl => ?_⟩
    obtain ⟨T, x, y, rfl, hT, rfl, y1, y2⟩ := yl
    exact hs i x y T σ _ (y1 xs q1) (y2 ys q2) hT p
  · have e : i = xs.length := by omega
    subst e
    exact .inl ⟨⟨xs, ys, q1, q2, .inl (Nat.le_refl _)⟩, hd σ H p⟩
theorem jp_zip {K : PySem.W.Frag} {H : Hp} {a b : Addr} {xs ys : List V} (h1 : SqL K H a xs) (h2 : SqL K H b ys) (hl : xs.length = ys.length) : JP (Itz K a b) H xs.length (fun i v H' => ∃ T x y, v = .ref T ∧ H' T = some (.tup [x, y]) ∧ xs[i]? = some x ∧ ys[i]? = some y) where
  go := fun i H' hi s => ⟨xs, ys, xs[i], ys[i], s.seq h1, s.seq h2, by simp [hi], by simp [show i < ys.length by omega]⟩
  yld := fun i H' v H'' hi s ⟨T, x, y, e, hT, eH, y1, y2⟩ => by
    subst eH
    exact ⟨Same.new hT, T, x, y, e, upd_same, y1 xs (s.seq h1), y2 ys (s.seq h2)⟩
  stop := fun H' s => ⟨xs, ys, s.seq h1, s.seq h2, .inl (Nat.le_refl _)⟩
end L2

set_option Elab.async false
set_option linter.all false
set_option maxRecDepth 100000
set_option maxHeartbeats 4000000
namespace L2
open PySem PySem.Spec PyProof.Rows
noncomputable def numV : V → Int
  | .int i => i
  | .bl b => if b = true then 1 else 0
  | _ => 0
noncomputable def isNumB : V → Bool
  | .int _ => true
  | .bl _ => true
  | _ => false
theorem preSum_list (xs : List Int) : ∀ n, n ≤ xs.length → preSum (fun i => xs.getD i 0) n = (xs.take n).sum
  | 0, _ => by rw [List.take_zero]; rfl
  | n + 1, h => by
    have hn : n < xs.length := by omega
    show preSum _ n + xs.getD n 0 = _
    rw [preSum_list xs n (by omega), List.take_add_one, List.getElem?_eq_getElem hn, List.getD_eq_getElem?_getD, List.getElem?_eq_getElem hn]
    show _ + xs[n] = (xs.take n ++ [xs[n]]).sum
    rw [List.sum_append, List.sum_cons, List.sum_nil, Int.add_zero]
section
variable {X : Cx}
/-- sum of ints and truths -/
noncomputable def uSum (K : PySem.W.Frag) : List V → Hp → VK → Prop := u1 fun x H Q => match x with
  | .ref p => ∃ xs, SqL K H p xs ∧ xs.all isNumB = true ∧ Q (.int (xs.map numV).sum) H
  | _ => False
theorem uc_sum_0 (hc : X.calm = true) : CallR X (.builtin "sum") (uSum X.K) := by
  intro pins s σ H xs us Q I r h
  obtain ⟨x, rfl, h⟩ := u1_of h
  cases x with
  | ref p =>
    obtain ⟨ys, hq, hall, q⟩ := h
    obtain ⟨u, rfl, rx⟩ := vals1 r
    cases rx
    obtain ⟨its, r', pl, hz⟩ := I.list hq
    have hlen : its.length = ys.length := r'.length.symm
    have hl := pl.isList
    have hlt : p < s.heap.objs.size := by
      obtain ⟨o, ho, _⟩ := hl
      exact Heap.lt_size ho
    have hh : X.A.in1.handled = none := by rw [show X.A.in1.handled = X.A.handled by simp]; exact I.ok.hd hc
    refine call_sum_walkAnyB (wpAny_pyIter_list hl ?_)
    refine ⟨s.heap.objs.size, _, _, _, _, _, _, fun i => (ys.map numV).getD i 0, rfl, (Walks.list (prog := X.prog) (w := X.w) hh s.heap.objs.size p (Nat.ne_of_lt hlt) its.toArray).toS, ⟨⟨_, Heap.get?_push_size _ rfl, rfl, rfl⟩, hl.push _⟩, ?_, fun i v hP => ?_, fun s' t' hm => ?_⟩
    · intro b hb
      rw [Heap.size_push]
      rcases List.mem_cons.mp hb with z | z
      · rw [z]; exact Nat.lt_succ_self _
      · have : b = p := by simpa using z
        rw [this]; exact Nat.lt_succ_of_lt hlt
    · have hP' : its.toArray[i]? = some v := hP
      rw [List.getElem?_toArray] at hP'
      have hi : i < ys.length := by rw [← hlen]; exact (List.getElem?_eq_some_iff.mp hP').1
      obtain ⟨w', e', rw'⟩ := r'.get (List.getElem?_eq_getElem hi)
      rw [hP'] at e'
      cases e'
      have hb := List.all_eq_true.mp hall _ (List.getElem_mem hi)
      have e : (ys.map numV).getD i 0 = numV ys[i] := by rw [List.getD_eq_getElem?_getD, List.getElem?_map, List.getElem?_eq_getElem hi]; rfl
      show NumOf ((ys.map numV).getD i 0) v
      rw [e]
      revert rw' hb
      generalize ys[i] = z
      intro rz hb
      cases z with
      | int n => obtain ⟨t, rfl⟩ := rz; exact .inl ⟨t, rfl⟩
      | bl b => cases rz; exact .inr ⟨b, rfl, rfl⟩
      | _ => cases hb
    · have e : preSum (fun i => (ys.map numV).getD i 0) its.toArray.size = (ys.map numV).sum := by
        rw [List.size_toArray, hlen]
        have := preSum_list (ys.map numV) ys.length (by simp)
        rw [this, List.take_of_length_le (by simp)]
      rw [e]
      obtain ⟨h', g', d', t2, o'⟩ := s'
      have e1 : o' = s.os := hm.os
      have e2 : d' = s.drawn := hm.drawn
      have e3 : g' = s.gens := hm.gens
      subst e1 e2 e3
      refine ⟨.int _, H, ?_, ⟨_, rfl⟩, q⟩
      exact I.kept (h' := h') (t' := t2) fun b o eb => hm.heap b o (by simp only [List.mem_singleton]; exact Nat.ne_of_lt (Heap.lt_size eb)) (Heap.get?_push_of_some _ eb)
  | _ => exact False.elim h
theorem uc_sum {K : PySem.W.Frag} (hc : X.calm = true) (hK : X.K = K := by rfl) : CallR X (.builtin "sum") (uSum K) := by subst hK; exact uc_sum_0 hc
end
theorem numV_ints (ns : List Int) : (ns.map V.int).map numV = ns := by rw [List.map_map]; exact List.map_id _
theorem isNumB_ints (ns : List Int) : (ns.map V.int).all isNumB = true := by rw [List.all_map, List.all_eq_true]; intro x _; rfl

section
variable {X : Cx}
/-- sorted of few ints -/
noncomputable def uSorted (K : PySem.W.Frag) : List V → Hp → VK → Prop := u1 fun x H Q => match x with
  | .ref p => ∃ ns : List Int, SqL K H p (ns.map V.int) ∧ ns.length < 64 ∧ ∀ (l : Addr) (ms : List Int), H l = none → ms.Perm ns → ms.Pairwise (· ≤ ·) → Q (.ref l) (upd H l (.lst (ms.map V.int)))
  | _ => False
end
end L2

set_option Elab.async false
set_option linter.all false
set_option maxRecDepth 100000
set_option maxHeartbeats 4000000
namespace L2
open PySem PySem.Spec PyProof.Rows
/-! ### enumerate(a), walked by pairs -/
noncomputable def Ite (K : PySem.W.Frag) (a : Addr) : It where
  go := fun i H => ∃ xs x, SqL K H a xs ∧ xs[i]? = some x
  yld := fun i H v H' => ∃ T x, v = .ref T ∧ H T = none ∧ H' = upd H T (.tup [.int (i : Int), x]) ∧ ∀ xs, SqL K H a xs → xs[i]? = some x
  stop := fun i H => ∃ xs, SqL K H a xs ∧ xs.length ≤ i
theorem turn_enum {P : Program} {w : World} {K : PySem.W.Frag} {elts : List Expr} {x1 : Nat} {tpos : Pos} (l z i1 : Addr) (D : z ≠ i1) : Turn P w K (.Tuple elts x1 tpos) (Ite K l) [z, i1] z
    (fun i h => (∃ old, IsEnum h z i1 (i : Int) old) ∧ h.IsListIter i1 l i) where
  mem := by simp
  obj := fun i h ⟨⟨old, hz⟩, ⟨o1, e1, c1, d1⟩⟩ b hb => by
    simp only [List.mem_cons, List.not_mem_nil, or_false] at hb
    rcases hb with rfl | rfl
    · exact ⟨_, hz, fun v q => by cases q⟩
    · exact ⟨o1, e1, fun v q => by rw [d1] at q; cases q⟩
  keep := fun i h h' ⟨⟨old, hz⟩, h1⟩ k => ⟨⟨old, k z (by simp) _ hz⟩, h1.at fun o e => k i1 (by simp) o e⟩
  item := by
    intro X hP hw hK hc i pins s σ H E I hf st hg
    subst hP hw hK
    obtain ⟨⟨old, hz⟩, h1⟩ := st
    obtain ⟨xs, x, hx, ex⟩ := hg
    obtain ⟨it1, r1, p1, _⟩ := I.list hx
    obtain ⟨u1, hu1, ru1⟩ := r1.get ex
    refine wpAny_pyNext_enum_item hz h1 p1.isList (x := u1) (by simpa using hu1) D fun h' a1 a2 a3 a4 hk => ?_
    refine ⟨_, rfl, wpAny_letOwnedTupleGo_enum (s := { s with heap := h', toks := s.toks + 1 }) a1 fun h'' b1 hs => ?_⟩
    have zT : s.heap.objs.size ≠ z := Nat.ne_of_gt (Heap.lt_size hz)
    have k2 : ∀ c o, c ∉ [z, i1] → s.heap.get? c = some o → h''.get? c = some o := fun c o hc e => by
      simp only [List.mem_cons, List.not_mem_nil, or_false, not_or] at hc
      exact hs.extBut _ _ hc.1 (hk c o hc.1 hc.2 e)
    have b3 := a2.extBut hs.extBut (Ne.symm D)
    have b5 := hs.extBut _ _ zT a3
    have I1 : Inv X pins σ H { s with heap := h'', toks := s.toks + 1 } := I.turnedL (t' := s.toks + 1) k2 (fun c hc => hf c hc)
    have hT0 : H s.heap.objs.size = none := I.hok.fresh (Nat.le_refl _)
    have fT := I.fpOk (H' := H) (b := s.heap.objs.size) (Nat.le_refl _) hT0
    have I2 := I1.trackT (u := .tup [.int (i : Int), x]) b5 hT0 (Heap.get?_none_of_le I.sz) fT.2.1 fT.2.2.2.2.1 fT.2.2.2.2.2 ⟨by show 2 ≤ sizeLine; decide, [.int (i : Int) s.toks, u1], .cons ⟨_, rfl⟩ (.cons ru1 .nil), ⟨_, b5, rfl, _, rfl⟩⟩
    have lt : ∀ c ∈ [z, i1], c ≠ s.heap.objs.size := fun c hc => by
      simp only [List.mem_cons, List.not_mem_nil, or_false] at hc
      rcases hc with rfl | rfl
      · exact Nat.ne_of_lt (Heap.lt_size hz)
      · obtain ⟨o, e, _⟩ := h1; exact Nat.ne_of_lt (Heap.lt_size e)
    refine ⟨.ref s.heap.objs.size, _, I2, rfl, ⟨_, x, rfl, hT0, rfl, fun xs' h => by rw [I.list_inj h hx]; exact ex⟩, ⟨⟨_, b1⟩, b3⟩, fun c hc => ?_⟩
    rw [upd_ne (lt c hc)]
    exact (hf c hc).1
  done := by
    intro X hP hw hK hc i pins s σ H E I hf st hg
    subst hP hw hK
    obtain ⟨⟨old, hz⟩, h1⟩ := st
    obtain ⟨xs, hx, hl⟩ := hg
    obtain ⟨it1, r1, p1, _⟩ := I.list hx
    have e1 := r1.length
    refine wpAny_pyNext_enum_end (I.ok.hd hc) hz h1 p1.isList (by rw [List.getElem?_toArray]; exact List.getElem?_eq_none (by omega)) fun h' hk => ⟨rfl, ?_⟩
    refine I.turnedL (t' := s.toks) (ch := [i1]) (fun c o hc e => ?_) fun c hc => hf c ?_
    · simp only [List.mem_cons, List.not_mem_nil, or_false] at hc
      exact hk c o hc e
    · simp only [List.mem_cons, List.not_mem_nil, or_false] at hc ⊢
      exact .inr hc
  self := fun _ _ _ _ _ st h => by
    obtain ⟨⟨old, hz⟩, _⟩ := st
    exact wpAny_pyIter_enum hz h
section
variable {X : Cx} {a : Expr} {ta : TA} {p pos tpos : Pos} {elts : List Expr} {x1 : Nat} {K : PySem.W.Frag}
noncomputable def uiEnum (K : PySem.W.Frag) (ta : TA) : TI := fun σ H R => ta σ H fun vs H1 => match vs with
  | [.ref l1] => ∃ xs, SqL K H1 l1 xs ∧ R (Ite K l1) H1
  | _ => False
theorem ui_enum_0 (hm : X.mg "enumerate" = none) (ha : PA X [a] ta) (hg : Gl X "enumerate") (hn : notStar a = true) : PI X (.Tuple elts x1 tpos) (.Call (.Name "enumerate" p) [a] [] pos) (uiEnum X.K ta) := by
  have hs : starEach [a] X.env = [(false, eval a X.env)] := by rw [se hn, starEach]
  intro pins s σ H R I h
  refine Call_ (ld_blt I hg hm boot_enumerate (PyProof.Rows.callWith_type1 (thn (ha pos pins s σ H _ I h) fun us s1 ⟨vs, H1, I1, r1, q1⟩ => ?_) hs rfl))
  dsimp only at q1
  split at q1
  · rename_i l1
    obtain ⟨xs, hx, q⟩ := q1
    obtain ⟨u, rfl, ru⟩ := vals1 r1
    cases ru
    obtain ⟨it1, r1, p1, _⟩ := I1.list hx
    refine call_enumerate_list p1.isList fun h' b1 b2 b3 hk => ?_
    have D : s1.heap.objs.size + 1 ≠ s1.heap.objs.size := Nat.succ_ne_self _
    refine wpAny_pyIter_enum (s := { s1 with heap := h' }) b1 ?_
    refine ⟨_, _, _, _, H1, rfl, I1.kept (t' := s1.toks) hk, turn_enum l1 _ _ D, ⟨⟨_, b1⟩, b2⟩, fun c hc => ?_, q⟩
    have hge : s1.heap.objs.size ≤ c := by
      simp only [List.mem_cons, List.not_mem_nil, or_false] at hc
      rcases hc with rfl | rfl
      · exact Nat.le_succ _
      · exact Nat.le_refl _
    exact I1.fpOk hge (I1.hok.fresh hge)
  · exact q1.elim
theorem q_enum {t : TA} (hm : X.mg "enumerate" = none) (ha : QA X [a] t) (hg : Gl X "enumerate" := by rfl) (hn : notStar a = true := by rfl) (hK : X.K = K := by rfl) : QI X (.Tuple elts x1 tpos) (.Call (.Name "enumerate" p) [a] [] pos) (uiEnum K t) := by
  subst hK; exact ⟨ui_enum_0 hm ha.run hg hn⟩
end
theorem for_enum {K : PySem.W.Frag} {a : Addr} {xs : List V} {g : TG} {tb : TS} {D : Ends} {σ : St} {H : Hp} (Pv : Nat → St → Hp → Prop) (h0 : Pv 0 σ H) (hl : ∀ i σ H, i ≤ xs.length → Pv i σ H → SqL K H a xs)
    (hs : ∀ i x T σ H, xs[i]? = some x → H T = none → Pv i σ H → g (.ref T) σ (upd H T (.tup [.int (i : Int), x])) fun σ2 H2 => tb { D with nx := Pv (i + 1), ct := Pv (i + 1), bk := D.nx } σ2 H2) (hd : ∀ σ H, Pv xs.length σ H → D.nx σ H) :
    ∃ W : Nat → Nat → St → Hp → Prop, (∃ m, W 0 m σ H) ∧ ∀ i m σ H, W i m σ H →
      ((Ite K a).stop i H ∧ D.nx σ H) ∨ ((Ite K a).go i H ∧ ∃ N : St → Hp → Prop, (∀ σ' H', N σ' H' → ∃ m', m' < m ∧ W (i + 1) m' σ' H') ∧ ∀ x H', (Ite K a).yld i H x H' → g x σ H' fun σ2 H2 => tb { D with nx := N, ct := N, bk := D.nx } σ2 H2) := by
  refine ⟨fun i m σ H => m = xs.length - i ∧ i ≤ xs.length ∧ Pv i σ H, ⟨xs.length, by simp, Nat.zero_le _, h0⟩, ?_⟩
  rintro i m σ H ⟨rfl, hi, p⟩
  have q1 := hl i σ H hi p
  by_cases hlt : i < xs.length
  · refine .inr ⟨⟨xs, xs[i], q1, by simp [hlt]⟩, Pv (i + 1), fun σ' H' p' => ⟨xs.length - (i + 1), by omega, rfl, hlt, p'⟩, fun v H' yl => ?_⟩
    obtain ⟨T, x, rfl, hT, rfl, y1⟩ := yl
    exact hs i x T σ _ (y1 xs q1) hT p
  · have e : i = xs.length := by omega
    subst e
    exact .inl ⟨⟨xs, q1, Nat.le_refl _⟩, hd σ H p⟩
/-! ### list.index of ints -/
section
variable {X : Cx}
noncomputable def uIndex (K : PySem.W.Frag) : V → List V → Hp → VK → Prop := fun x vs H Q => match x, vs with
  | .ref l, [.int k] => ∃ ns : List Int, SqL K H l (ns.map V.int) ∧ k ∈ ns ∧ Q (.int (ns.idxOf k : Nat)) H
  | _, _ => False
noncomputable def isIntK (k : Int) : Value → Bool
  | .int a _ => a == k
  | _ => false
/-! ### sorted(e, reverse=True) -/
noncomputable def uSortedR (K : PySem.W.Frag) : List V → Hp → VK → Prop := u1 fun x H Q => match x with
  | .ref p => ∃ ns : List Int, SqL K H p (ns.map V.int) ∧ ns.length < 64 ∧ ∀ (l : Addr) (ms : List Int), H l = none → ms.Perm ns → ms.Pairwise (· ≥ ·) → Q (.ref l) (upd H l (.lst (ms.map V.int)))
  | _ => False
/-! ### min, max of two; int of a truth -/
noncomputable def uMin2 : List V → Hp → VK → Prop := u2 fun x y H Q => match x, y with
  | .int i, .int j => Q (.int (if j < i then j else i)) H
  | _, _ => False
noncomputable def uMax2 : List V → Hp → VK → Prop := u2 fun x y H Q => match x, y with
  | .int i, .int j => Q (.int (if j > i then j else i)) H
  | _, _ => False
theorem uc_min2 (hc : X.calm = true) : CallR X (.builtin "min") uMin2 := (call_min2 hc).imp fun xs H Q h => by
  obtain ⟨x, y, rfl, h⟩ := u2_of h
  cases x <;> cases y <;> first
    | exact False.elim h
    | exact ⟨_, _, rfl, h⟩
theorem uc_max2 (hc : X.calm = true) : CallR X (.builtin "max") uMax2 := (call_max2 hc).imp fun xs H Q h => by
  obtain ⟨x, y, rfl, h⟩ := u2_of h
  cases x <;> cases y <;> first
    | exact False.elim h
    | exact ⟨_, _, rfl, h⟩
noncomputable def uInt : List V → Hp → VK → Prop := u1 fun x H Q => match x with
  | .int i => Q (.int i) H
  | .bl k => Q (.int (if k then 1 else 0)) H
  | _ => False
theorem uc_int : CallR X (.type "int") uInt := call_int1.imp fun xs H Q h => by
  obtain ⟨x, rfl, h⟩ := u1_of h
  cases x <;> first
    | exact False.elim h
    | exact .inl ⟨_, rfl, h⟩
    | exact .inr ⟨_, rfl, h⟩
/-! ### products of many figures -/
noncomputable def uMulB : R2 := fun x y H Q => match x, y with
  | .int i, .int j => IntMulOk i j ∧ Q (.int (i * j)) H
  | _, _ => False
end
end L2

set_option Elab.async false
set_option linter.all false
set_option maxRecDepth 100000
set_option maxHeartbeats 4000000
namespace L2
open PySem PySem.Spec PyProof.Rows
/-! ### xs[::-1] -/
section
variable {X : Cx} {K : PySem.W.Frag} {e : Expr} {te : TE} {pos p2 p3 p4 : Pos} {j : Nat}
noncomputable def tRevU (K : PySem.W.Frag) (te : TE) : TE := fun σ H Q => te σ H fun x H1 => match x with
  | .ref a => ∃ xs, SqL K H1 a xs ∧ ∀ p, H1 p = none → Q (.ref p) (upd H1 p (.lst xs.reverse))
  | _ => False
end
end L2

set_option Elab.async false
set_option linter.all false
set_option maxRecDepth 100000
set_option maxHeartbeats 4000000
namespace L2
open PySem PySem.Spec PyProof.Rows
/-! ### range(a, b, c), c from 1 on -/
noncomputable def stepsN (lo hi c : Int) : Nat := (if lo < hi then (hi - lo - 1) / c + 1 else 0).toNat
noncomputable def Its (lo c : Int) (n : Nat) : It := ⟨fun i _ => i < n, fun i H x H' => H' = H ∧ x = .int (lo + (i : Nat) * c), fun i _ => n ≤ i⟩
theorem turn_range3 {P : Program} {w : World} {K : PySem.W.Frag} {tg : Expr} (it : Addr) (lo c : Int) (n : Nat) : Turn P w K tg (Its lo c n) [it] it (fun i h => IsRangeIter h it (lo + (i : Nat) * c) ((n : Int) - (i : Nat)) c) where
  mem := by simp
  obj := fun i h st b hb => by
    have e : b = it := by simpa using hb
    subst e
    exact ⟨_, st, fun v z => by
      have z' : Data.fields _ = Data.cell v := z
      cases z'⟩
  keep := fun i h h' st k => k it (by simp) _ st
  item := by
    intro X hP hw hK hc i pins s σ H E I hf st hg
    subst hP hw hK
    obtain ⟨f0, f1, f2, f3, f4, f5⟩ := hf it (by simp)
    have W := Walks.range (prog := X.prog) (w := X.w) (I.ok.hd hc) it lo c n
    refine W.item i s _ _ hg st fun v h' tk hv st' kk => ?_
    obtain ⟨t, rfl⟩ := hv
    have I1 : Inv X pins σ H { s with heap := h', toks := tk } := I.turned (fun b o hb e => kk b o (by simpa using hb) e) f0 f1 f3 f4 f5
    exact ⟨_, rfl, go_of (s := { s with heap := h', toks := tk }) (n := "range_iterator") st' rfl rfl (by decide) ⟨.int (lo + (i : Nat) * c), H, I1, ⟨t, rfl⟩, ⟨rfl, rfl⟩, st', fun b hb => (hf b hb).1⟩⟩
  done := by
    intro X hP hw hK hc i pins s σ H E I hf st hg
    subst hP hw hK
    obtain ⟨f0, f1, f2, f3, f4, f5⟩ := hf it (by simp)
    exact wpAny_pyNext_range_end (I.ok.hd hc) st (by have : n ≤ i := hg; omega) fun h' eb => ⟨rfl, I.turned (t' := s.toks) (fun b o hb e => eb b o hb e) f0 f1 f3 f4 f5⟩
  self := fun _ _ _ _ _ st h => wpAny_pyIter_rangeiter st h
section
variable {X : Cx} {tg a b c : Expr} {t : TA} {p pos : Pos}
noncomputable def uiRng3 (ta : TA) : TI := fun σ H R => ta σ H fun vs H1 => match vs with
  | [.int i, .int j, .int k] => ((-1000000000000 ≤ i ∧ i ≤ 1000000000000) ∧ (-1000000000000 ≤ j ∧ j ≤ 1000000000000) ∧ (0 < k ∧ k ≤ 1000000000)) ∧ R (Its i k (stepsN i j k)) H1
  | _ => False
end
theorem for_range3 {lo c : Int} {n : Nat} {g : TG} {tb : TS} {D : Ends} {σ : St} {H : Hp} (Pv : Nat → St → Hp → Prop) (h0 : Pv 0 σ H)
    (hs : ∀ i σ H, i < n → Pv i σ H → g (.int (lo + (i : Nat) * c)) σ H fun σ2 H2 => tb { D with nx := Pv (i + 1), ct := Pv (i + 1), bk := D.nx } σ2 H2) (hd : ∀ σ H, Pv n σ H → D.nx σ H) :
    ∃ W : Nat → Nat → St → Hp → Prop, (∃ m, W 0 m σ H) ∧ ∀ i m σ H, W i m σ H →
      ((Its lo c n).stop i H ∧ D.nx σ H) ∨ ((Its lo c n).go i H ∧ ∃ N : St → Hp → Prop, (∀ σ' H', N σ' H' → ∃ m', m' < m ∧ W (i + 1) m' σ' H') ∧ ∀ x H', (Its lo c n).yld i H x H' → g x σ H' fun σ2 H2 => tb { D with nx := N, ct := N, bk := D.nx } σ2 H2) := by
  refine ⟨fun i m σ H => m = n - i ∧ i ≤ n ∧ Pv i σ H, ⟨n, by simp, Nat.zero_le _, h0⟩, ?_⟩
  rintro i m σ H ⟨rfl, hi, p⟩
  by_cases hlt : i < n
  · refine .inr ⟨hlt, Pv (i + 1), fun σ' H' p' => ⟨n - (i + 1), by omega, rfl, hlt, p'⟩, fun x H' y => ?_⟩
    obtain ⟨e, y⟩ := y
    subst e y
    exact hs i σ _ hlt p
  · have e : i = n := by omega
    subst e
    exact .inl ⟨Nat.le_refl _, hd σ H p⟩
/-! ### // by numbers of many figures -/
section
variable {X : Cx}
noncomputable def uDivB : R2 := fun x y H Q => match x, y with
  | .int i, .int j => (0 < j ∧ j.natAbs < 2 ^ 200) ∧ Q (.int (i / j)) H
  | _, _ => False
end
/-! ### comprehensions that make lists -/
end L2

set_option Elab.async false
set_option linter.all false
set_option maxRecDepth 100000
set_option maxHeartbeats 4000000
namespace L2
open PySem PySem.Spec PyProof.Rows
section
variable {X : Cx}
noncomputable def uAny (K : PySem.W.Frag) : List V → Hp → VK → Prop := u1 fun x H Q => match x with
  | .ref p => ∃ bs : List Bool, SqL K H p (bs.map V.bl) ∧ Q (.bl (bs.any id)) H
  | _ => False
end
end L2

set_option Elab.async false
set_option linter.all false
set_option maxRecDepth 100000
set_option maxHeartbeats 4000000
namespace L2
open PySem PySem.Spec PyProof.Rows
/-! ### f"..{x}.." of 0 or 1: some text -/
section
variable {X : Cx} {e : Expr} {te : TE} {a b : Str} {i j : Nat} {p1 p2 p3 pos : Pos}
noncomputable def uFs (te : TE) : TE := fun σ H Q => te σ H fun x H1 => match x with
  | .int n => (n = 0 ∨ n = 1) ∧ ∀ z : Str, Q (.str z) H1
  | _ => False
end
end L2

set_option Elab.async false
set_option linter.all false
set_option maxRecDepth 100000
set_option maxHeartbeats 4000000
namespace PG
open PySem L2 PyProof.Rows
noncomputable def CoinsV (xs : List V) : Prop := ∃ ns : List Int, xs = ns.map V.int ∧ Coins ns
noncomputable def PayV (n : Nat) (ys : List V) : Prop := ∃ ms : List Int, ys = ms.map V.int ∧ ms.length = n ∧ ∀ m ∈ ms, 0 ≤ m
noncomputable def dot : List Int → List Int → Int
  | n :: ns, m :: ms => n * m + dot ns ms
  | _, _ => 0
theorem dot_sum : ∀ (ns ms : List Int), ns.length = ms.length → ((List.range ns.length).map fun i => ns.getD i 0 * ms.getD i 0).sum = dot ns ms
  | [], [], _ => rfl
  | [], _ :: _, h => by cases h
  | _ :: _, [], h => by cases h
  | n :: ns, m :: ms, h => by
    rw [List.length_cons, List.range_succ_eq_map, List.map_cons, List.map_map, List.sum_cons]
    have := dot_sum ns ms (by simpa using h)
    show n * m + _ = n * m + dot ns ms
    rw [← this]
    rfl
theorem dot_append : ∀ (ns ms : List Int) (n m : Int), ns.length = ms.length → dot (ns ++ [n]) (ms ++ [m]) = dot ns ms + n * m
  | [], [], n, m, _ => by simp [dot]
  | [], _ :: _, _, _, h => by cases h
  | _ :: _, [], _, _, h => by cases h
  | a :: ns, b :: ms, n, m, h => by
    show a * b + dot (ns ++ [n]) (ms ++ [m]) = a * b + dot ns ms + n * m
    rw [dot_append ns ms n m (by simpa using h)]
    omega
noncomputable def isPayV : V → Bool
  | .int i => decide (0 ≤ i)
  | _ => false
theorem coinsV_all {xs : List V} (h : CoinsV xs) : 1 ≤ xs.length ∧ xs.length ≤ 40 ∧ xs.all isCoinV = true := by
  obtain ⟨ns, rfl, c⟩ := h
  refine ⟨by simpa using c.ne, by simpa using c.le, ?_⟩
  rw [List.all_map, List.all_eq_true]
  intro n hn
  have := c.rng n hn
  show (decide (1 ≤ n) && decide (n ≤ 1000)) = true
  simp [this]
/-- a list of truths by a test of each thing -/
theorem mapAtV {β : Type} (F : V → β) (g : β → V) (xs : List V) : ((List.range xs.length).filter fun _ => true).map (fun i => g (F (xs.getD i .non))) = (xs.map F).map g := by
  rw [rangeT]
  apply List.ext_getElem
  · simp
  · intro i h1 h2
    have hi : i < xs.length := by simpa using h1
    simp [List.getD_eq_getElem?_getD, hi]
/-! ### promises that speak of refusals -/
noncomputable def sCoin : Sp := fun vs H Q _ => match vs with
  | [x] => Kn H x ∧ Q (.bl (isCoinV x)) H
  | _ => False
noncomputable def sCheckC (K : PySem.W.Frag) (c : Addr) : Sp := fun vs H Q E => match vs with
  | [.ref a] => ∃ xs, SqL K H a xs ∧ (∀ x ∈ xs, Kn H x) ∧ (CoinsV xs → ∀ H', Same H H' → Q .non H') ∧ (¬ CoinsV xs → ∀ H', Same H H' → E (.ref c) none H')
  | _ => False
noncomputable def sCheckP (K : PySem.W.Frag) (c : Addr) : Sp := fun vs H Q E => match vs with
  | [.ref a, .ref b] => ∃ xs ys, SqL K H a xs ∧ SqL K H b ys ∧ (∀ y ∈ ys, Kn H y) ∧ ys.length ≤ 2000 ∧ (PayV xs.length ys → ∀ H', Same H H' → Q .non H') ∧ (¬ PayV xs.length ys → ∀ H', Same H H' → E (.ref c) none H')
  | _ => False
noncomputable def sSumPaid (K : PySem.W.Frag) (c1 c2 : Addr) : Sp := fun vs H Q E => match vs with
  | [.ref a, .ref b] => ∃ xs ys, SqL K H a xs ∧ SqL K H b ys ∧ (∀ x ∈ xs, Kn H x) ∧ (∀ y ∈ ys, Kn H y) ∧ ys.length ≤ 2000 ∧
    (∀ ns ms : List Int, xs = ns.map V.int → Coins ns → ys = ms.map V.int → ms.length = ns.length → (∀ m ∈ ms, 0 ≤ m) → ∀ H', Same H H' → Q (.int (dot ns ms)) H') ∧
    (¬ CoinsV xs → ∀ H', Same H H' → E (.ref c1) none H') ∧ (CoinsV xs → ¬ PayV xs.length ys → ∀ H', Same H H' → E (.ref c2) none H')
  | _ => False
/-- coins that are drawn, from the script's place on -/
noncomputable def sCoinsL (K : PySem.W.Frag) : Sp := fun vs H Q _ => match vs with
  | [.ref a, .int st, .int far, .int most] => ∃ ns, LI K H a ns ∧ ns.length ≤ 63 ∧ (0 ≤ st ∧ st ≤ 1000) ∧ (1 ≤ far ∧ far ≤ 1000000) ∧ (1 ≤ most ∧ most ≤ 1000) ∧
    ∀ (p : Addr) (cs : List Int) (H' : Hp), Same H H' → H p = none → H' p = some (.lst (cs.map V.int)) → 1 ≤ cs.length → (cs.length : Int) ≤ most → (∀ c ∈ cs, 1 ≤ c ∧ c ≤ far) → cs.Nodup → Q (.ref p) H'
  | _ => False
/-- whether the held exception is this one alone -/
noncomputable def sOnly (K : PySem.W.Frag) (c : Addr) : Sp := fun vs H Q _ => match vs with
  | [.ref e] => H e = some (excO e c) ∧ ∀ H', Same H H' → Q (.bl true) H'
  | _ => False
noncomputable def sTaken (K : PySem.W.Frag) : Sp := fun vs H Q _ => match vs with
  | [.ref a, .int m] => ∃ ns, LI K H a ns ∧ (0 ≤ m ∧ m ≤ 63) ∧ ∀ (p : Addr) (ts : List Int) (H' : Hp), Same H H' → H p = none → H' p = some (.lst (ts.map V.int)) → (ts.length : Int) = m → (∀ t ∈ ts, 0 ≤ t) → Q (.ref p) H'
  | _ => False
noncomputable def sBad (K : PySem.W.Frag) : Sp := fun vs H Q _ => match vs with
  | [.ref a, .int k] => ∃ ts : List Int, H a = some (.lst (ts.map V.int)) ∧ (1 ≤ ts.length ∧ ts.length ≤ 40) ∧ 0 ≤ k ∧
    ∀ (p : Addr) (ys : List V) (H' : Hp), Same H H' → H p = none → H' p = some (.lst ys) → (∀ y ∈ ys, Kn H' y) → ys.length ≤ 100 → ¬ PayV ts.length ys → Q (.ref p) H'
  | _ => False
noncomputable def sRefused (K : PySem.W.Frag) : Sp := fun vs H Q _ => match vs with
  | [.ref a, .ref b] => ∃ xs ys, SqL K H a xs ∧ SqL K H b ys ∧ (∀ x ∈ xs, Kn H x) ∧ (∀ y ∈ ys, Kn H y) ∧ ys.length ≤ 2000 ∧ CoinsV xs ∧ ¬ PayV xs.length ys ∧ ∀ H', Same H H' → Q (.bl true) H'
  | _ => False
noncomputable def sNoCoins (K : PySem.W.Frag) : Sp := fun vs H Q _ => match vs with
  | [.ref a, .ref b] => ∃ xs ys, SqL K H a xs ∧ SqL K H b ys ∧ (∀ x ∈ xs, Kn H x) ∧ (∀ y ∈ ys, Kn H y) ∧ ys.length ≤ 2000 ∧ ¬ CoinsV xs ∧ ∀ H', Same H H' → Q (.bl true) H'
  | _ => False
/-! ### slices, and lists held against each other -/
theorem cutV_take (xs : List V) (t : Nat) : cutV xs none (some (t : Int)) = xs.take t := by
  unfold cutV
  rw [HT.sIx_nat, HT.sIx_none, List.drop_zero, Nat.sub_zero]
  rcases Nat.le_total t xs.length with h | h
  · rw [Nat.min_eq_left h]
  · rw [Nat.min_eq_right h, List.take_of_length_le (Nat.le_refl _), List.take_of_length_le h]
theorem cutV_drop (xs : List V) (t : Nat) : cutV xs (some (t : Int)) none = xs.drop t := by
  unfold cutV
  rw [HT.sIx_nat, HT.sIx_none]
  rcases Nat.le_total t xs.length with h | h
  · rw [Nat.min_eq_left h, List.take_of_length_le (by rw [List.length_drop]; omega)]
  · rw [Nat.min_eq_right h, List.drop_of_length_le (Nat.le_refl _), List.drop_of_length_le h, List.take_nil]
theorem eqv_self {K : PySem.W.Frag} {H : Hp} {n : Nat} {x : V} (h : Kn H x) : EqV K H n x x true := by
  cases x with
  | non => exact EqV.flat (K := K) (H := H) (n := n) (x := .non) (y := .non) rfl rfl
  | bl b =>
    have := EqV.flat (K := K) (H := H) (n := n) (x := .bl b) (y := .bl b) rfl rfl
    rw [show eqV (.bl b) (.bl b) = true from beq_self_eq_true b] at this
    exact this
  | int b =>
    have := EqV.flat (K := K) (H := H) (n := n) (x := .int b) (y := .int b) rfl rfl
    rw [show eqV (.int b) (.int b) = true from beq_self_eq_true b] at this
    exact this
  | str b =>
    have := EqV.flat (K := K) (H := H) (n := n) (x := .str b) (y := .str b) rfl rfl
    rw [show eqV (.str b) (.str b) = true from beq_self_eq_true b] at this
    exact this
  | ref a => exact EqV.same a
  | _ => exact h.elim
theorem all_true (n : Nat) : (List.range n).all (fun _ => true) = true := by simp
theorem eqv_lists {K : PySem.W.Frag} {H : Hp} {n : Nat} {a b : Addr} {xs : List V} (ha : SqL K H a xs) (hb : SqL K H b xs) (kn : ∀ x ∈ xs, Kn H x) : EqV K H (n + 1) (.ref a) (.ref b) true := by
  by_cases hne : a = b
  · subst hne
    exact EqV.same a
  · have := EqV.lists (n := n) (e := fun _ => true) ha hb hne rfl fun j x y hx hy => by
      rw [hx] at hy
      cases hy
      exact eqv_self (kn x (List.mem_of_getElem? hx))
    rw [all_true] at this
    exact this
theorem neSelf {K : PySem.W.Frag} {H : Hp} {Q : VK} {a b : Addr} {xs ys : List V} (ha : SqL K H a xs) (hb : SqL K H b ys) (hl : xs.length = ys.length) (he : ∀ (j : Nat) x y, xs[j]? = some x → ys[j]? = some y → EqV K H 3 x y true) (q : Q (.bl false) H) : rEqL K true (.ref a) (.ref b) H Q := by
  refine ⟨a, b, xs, ys, rfl, rfl, ha, hb, .inl ⟨hl, fun _ => true, he, ?_⟩⟩
  rw [all_true]
  exact q
/-! ### what coins are told -/
theorem filter_one {c : Int} : ∀ {l : List Int}, l.Nodup → l.length ≤ (l.filter fun x => decide (x ≠ c)).length + 1
  | [], _ => by simp
  | x :: r, h => by
    have hr := (List.nodup_cons.mp h)
    by_cases e : x = c
    · subst e
      have : (r.filter fun y => decide (y ≠ x)) = r := List.filter_eq_self.mpr fun y hy => decide_eq_true (fun z => hr.1 (z ▸ hy))
      rw [List.filter_cons, this]
      simp
    · have := filter_one (c := c) hr.2
      rw [List.filter_cons, if_pos (decide_eq_true e)]
      simp only [List.length_cons]
      omega
noncomputable def sCoinList (K : PySem.W.Frag) (c : Addr) : Sp := fun vs H Q E => match vs with
  | [.ref a] => ∃ xs, SqL K H a xs ∧ (∀ x ∈ xs, Kn H x) ∧ (∀ ns : List Int, xs = ns.map V.int → Coins ns → ∀ (p : Addr) (ms : List Int) (H' : Hp), Same H H' → H p = none → H' p = some (.lst (ms.map V.int)) → ms.Perm ns → ms.Pairwise (· ≤ ·) → Q (.ref p) H') ∧ (¬ CoinsV xs → ∀ H', Same H H' → E (.ref c) none H')
  | _ => False
noncomputable def sShareBad (K : PySem.W.Frag) (c : Addr) : Sp := fun vs H _ E => match vs with
  | [.ref a] => ∃ xs, SqL K H a xs ∧ (∀ x ∈ xs, Kn H x) ∧ ¬ CoinsV xs ∧ ∀ H', Same H H' → E (.ref c) none H'
  | _ => False
noncomputable def sAsked (K : PySem.W.Frag) (c : Addr) : Sp := fun vs H _ E => match vs with
  | [.int _, .ref a] => ∃ xs, SqL K H a xs ∧ (∀ x ∈ xs, Kn H x) ∧ xs.length ≤ 2000 ∧ ¬ CoinsV xs ∧ ∀ H', Same H H' → E (.ref c) none H'
  | _ => False
noncomputable def sRefusedC (K : PySem.W.Frag) : Sp := fun vs H Q _ => match vs with
  | [.int _, .ref a] => ∃ xs, SqL K H a xs ∧ (∀ x ∈ xs, Kn H x) ∧ xs.length ≤ 2000 ∧ ¬ CoinsV xs ∧ ∀ H', Same H H' → Q (.bl true) H'
  | _ => False
noncomputable def sBadC (K : PySem.W.Frag) : Sp := fun vs H Q _ => match vs with
  | [.ref a, .int k] => ∃ cs : List Int, H a = some (.lst (cs.map V.int)) ∧ Coins cs ∧ 0 ≤ k ∧
    ∀ (p : Addr) (ys : List V) (H' : Hp), Same H H' → H p = none → H' p = some (.lst ys) → (∀ y ∈ ys, Kn H' y) → ys.length ≤ 100 → ¬ CoinsV ys → Q (.ref p) H'
  | _ => False
noncomputable def sRising (K : PySem.W.Frag) : Sp := fun vs H Q _ => match vs with
  | [.ref f, .ref c] => ∃ ms cs : List Int, H f = some (.lst (ms.map V.int)) ∧ SqL K H c (cs.map V.int) ∧ ms.length ≤ 1000 ∧ ms.length = cs.length ∧ (∀ m ∈ ms, m ∈ cs) ∧ ms.Pairwise (· < ·) ∧ Q (.bl true) H
  | _ => False
end PG

set_option Elab.async false
set_option linter.all false
namespace PG
/-! ### ways, sum by sum -/
noncomputable def wD (c : Nat) (F : Nat → Int) (n : Nat) : Int := if h : 0 < c ∧ c ≤ n then F n + wD c F (n - c) else F n
termination_by n
decreasing_by omega
noncomputable def wS (c : Nat) (G : Nat → Int) (n : Nat) : Int := G n - if c ≤ n then G (n - c) else 0
noncomputable def wOne (n : Nat) : Int := if n = 0 then 1 else 0
noncomputable def wW (cs : List Int) : Nat → Int := cs.foldl (fun F c => wD c.toNat F) wOne
/-- the list of ways so far: up to the place done, then as before -/
noncomputable def wPart (c : Nat) (F : Nat → Int) (i : Nat) (n : Nat) : Int := if n < c + i then wD c F n else F n
noncomputable def wList (m : Nat) (F : Nat → Int) : List Int := (List.range m).map F
end PG

set_option Elab.async false
set_option linter.all false
set_option maxRecDepth 100000
set_option maxHeartbeats 4000000
namespace PG
open PySem L2 PyProof.Rows
/-! ### lists by places -/
theorem getD_of {α : Type} {xs : List α} {d x : α} {i : Nat} (h : xs[i]? = some x) : xs.getD i d = x := by rw [List.getD_eq_getElem?_getD, h]; rfl
/-! ### fewest numbers -/
noncomputable def IsNext (ks : List Int) (o : Option Int) : Prop := (ks = [] ∧ o = none) ∨ ∃ m, m ∈ ks ∧ (∀ n ∈ ks, m ≤ n) ∧ o = some (m + 1)
noncomputable def before (cs : List Int) (fs : List (Option Int)) (a : Nat) : List (Option Int) := (cs.filter fun c => decide (c ≤ (a : Int))).map fun c => fs.getD ((a : Int) - c).toNat none
noncomputable def known (cs : List Int) (fs : List (Option Int)) (a : Nat) : List Int := (before cs fs a).filterMap id
noncomputable def FewP (cs : List Int) (fs : List (Option Int)) : Prop := fs[0]? = some (some 0) ∧ ∀ a : Nat, 1 ≤ a → a < fs.length → IsNext (known cs fs a) (fs.getD a none)
/-! ### promises without refusals -/
noncomputable def sCheck0 (K : PySem.W.Frag) : Sp := fun vs H Q _ => match vs with
  | [.ref a] => ∃ ns, LI K H a ns ∧ Coins ns ∧ ∀ H', Same H H' → Q .non H'
  | _ => False
noncomputable def sFrom0 : Sp := fun vs H Q _ => match vs with
  | [.int l, .int n] => l ≤ n ∧ Q .non H
  | _ => False
noncomputable def sListed0 : Sp := fun vs H Q _ => match vs with
  | [.int n] => n ≤ 2000 ∧ Q .non H
  | _ => False
noncomputable def sSum0 : Sp := fun vs H Q _ => match vs with
  | [.int n] => Q .non H
  | _ => False
noncomputable def sFewNums (K : PySem.W.Frag) : Sp := fun vs H Q _ => match vs with
  | [.ref a, .int m] => ∃ cs, LI K H a cs ∧ ((∀ c ∈ cs, 1 ≤ c) ∧ cs.length ≤ 1000) ∧ (0 ≤ m ∧ m ≤ 4000) ∧
    ∀ (p : Addr) (fs : List (Option Int)) (H' : Hp), Same H H' → H p = none → H' p = some (.lst (fs.map toV)) → FewP cs fs → (fs.length : Int) = m + 1 → Q (.ref p) H'
  | _ => False
noncomputable def sFewList (K : PySem.W.Frag) : Sp := fun vs H Q _ => match vs with
  | [.ref a, .int m] => ∃ cs, LI K H a cs ∧ Coins cs ∧ (0 ≤ m ∧ m ≤ 2000) ∧
    ∀ (p : Addr) (fs : List (Option Int)) (H' : Hp), Same H H' → H p = none → H' p = some (.lst (fs.map toV)) → FewP cs fs → (fs.length : Int) = m + 1 → Q (.ref p) H'
  | _ => False
noncomputable def sFollow (K : PySem.W.Frag) : Sp := fun vs H Q _ => match vs with
  | [.ref a, .ref b] => ∃ cs fs, LI K H a cs ∧ SqL K H b (fs.map toV) ∧ ((∀ c ∈ cs, 1 ≤ c) ∧ cs.length ≤ 1000) ∧ 0 < fs.length ∧
    ∀ (o : Option Int) (H' : Hp), Same H H' → IsNext (known cs fs fs.length) o → Q (toV o) H'
  | _ => False
noncomputable def mix (a b : Int) : Int := (a + b) * 1103515245 % 4294967291
theorem mix_rng (a b : Int) : 0 ≤ mix a b ∧ mix a b < 4294967291 := by unfold mix; omega
noncomputable def sMix : Sp := fun vs H Q _ => match vs with
  | [.int a, .int b] => Q (.int (mix a b)) H
  | _ => False
/-- unlike numbers, drawn -/
noncomputable def sSome (K : PySem.W.Frag) : Sp := fun vs H Q _ => match vs with
  | [.ref a, .int st, .int most, .int far] => ∃ ns, LI K H a ns ∧ (0 ≤ st ∧ st ≤ 1000) ∧ (1 ≤ most ∧ most ≤ 100) ∧ (1 ≤ far ∧ far ≤ 1000000) ∧
    ∀ (p : Addr) (cs : List Int) (H' : Hp), Same H H' → H p = none → H' p = some (.lst (cs.map V.int)) → 1 ≤ cs.length → (cs.length : Int) ≤ most → (∀ c ∈ cs, 1 ≤ c ∧ c ≤ far) → cs.Nodup → Q (.ref p) H'
  | _ => False
/-- what a sum asks of a fewest paying -/
noncomputable def FewAns (cs : List Int) (n : Int) (H : Hp) (Q : VK) : Prop :=
  (∀ fs, FewP cs fs → n < fs.length → fs.getD n.toNat none = none → ∀ H', Same H H' → Q .non H') ∧
  (∀ fs k, FewP cs fs → n < fs.length → fs.getD n.toNat none = some k → ∀ (p : Addr) (ps : List Int) (H' : Hp), Same H H' → H p = none → H' p = some (.lst (ps.map V.int)) → ps.length = cs.length → (∀ x ∈ ps, 0 ≤ x) → dot cs ps = n → ps.sum = k → Q (.ref p) H')
noncomputable def sFewPay (K : PySem.W.Frag) : Sp := fun vs H Q _ => match vs with
  | [.ref a, .int n] => ∃ cs, LI K H a cs ∧ ((∀ c ∈ cs, 1 ≤ c) ∧ cs.length ≤ 1000) ∧ (0 ≤ n ∧ n ≤ 4000) ∧ FewAns cs n H Q
  | _ => False
noncomputable def sFewest (K : PySem.W.Frag) : Sp := fun vs H Q _ => match vs with
  | [.ref a, .int n] => ∃ cs, LI K H a cs ∧ Coins cs ∧ n ≤ 2000 ∧ (n < 0 → ∀ H', Same H H' → Q .non H') ∧ (0 ≤ n → FewAns cs n H Q)
  | _ => False
noncomputable def sPlace (K : PySem.W.Frag) : Sp := fun vs H Q _ => match vs with
  | [.ref a, .ref b, .int n] => ∃ cs fs j, LI K H a cs ∧ SqL K H b (fs.map toV) ∧ (∀ c ∈ cs, 1 ≤ c) ∧ FewP cs fs ∧ (1 ≤ n ∧ n < fs.length) ∧ fs.getD n.toNat none = some j ∧
    ∀ (i : Nat) (c : Int) (H' : Hp), Same H H' → cs[i]? = some c → c ≤ n → fs.getD (n - c).toNat none = some (j - 1) → Q (.int i) H'
  | _ => False
theorem dot_set : ∀ (cs ps : List Int) (i : Nat) (c x t : Int), cs[i]? = some c → ps[i]? = some x → dot cs (ps.set i (x + t)) = dot cs ps + c * t
  | [], _, i, _, _, _, h, _ => by simp at h
  | _ :: _, [], i, _, _, _, _, h => by simp at h
  | a :: cs, b :: ps, 0, c, x, t, h1, h2 => by
    simp at h1 h2
    subst h1 h2
    simp only [List.set_cons_zero, dot]
    rw [Int.mul_add]
    omega
  | a :: cs, b :: ps, i + 1, c, x, t, h1, h2 => by
    have ih := dot_set cs ps i c x t (by simpa using h1) (by simpa using h2)
    simp only [List.set_cons_succ, dot]
    rw [ih]
    omega
theorem sum_set : ∀ (ps : List Int) (i : Nat) (x t : Int), ps[i]? = some x → (ps.set i (x + t)).sum = ps.sum + t
  | [], i, _, _, h => by simp at h
  | b :: ps, 0, x, t, h => by
    simp at h
    subst h
    simp only [List.set_cons_zero, List.sum_cons]
    omega
  | b :: ps, i + 1, x, t, h => by
    have ih := sum_set ps i x t (by simpa using h)
    simp only [List.set_cons_succ, List.sum_cons, ih]
    omega
theorem dot_zero : ∀ (cs : List Int) (n : Nat), dot cs (List.replicate n 0) = 0
  | [], _ => by cases ‹Nat› <;> rfl
  | _ :: _, 0 => rfl
  | c :: cs, n + 1 => by
    rw [List.replicate_succ]
    show c * 0 + dot cs (List.replicate n 0) = 0
    rw [dot_zero cs n]
    simp
theorem sum_zero (n : Nat) : (List.replicate n (0 : Int)).sum = 0 := by
  induction n with
  | zero => rfl
  | succ n ih => rw [List.replicate_succ, List.sum_cons, ih]; rfl
noncomputable def sNums32 (K : PySem.W.Frag) : Sp := fun vs H Q _ => match vs with
  | [.ref a, .int m] => ∃ cs, LI K H a cs ∧ ((∀ c ∈ cs, 1 ≤ c) ∧ cs.length ≤ 1000) ∧ (0 ≤ m ∧ m ≤ 4000) ∧
    ∀ (p : Addr) (fs : List (Option Int)) (H' : Hp), Same H H' → H p = none → H' p = some (.lst (fs.map toV)) → FewP cs fs → (fs.length : Int) = m + 1 → Q (.ref p) H'
  | _ => False
noncomputable def sGood32 (K : PySem.W.Frag) : Sp := fun vs H Q _ => match vs with
  | [x, .ref a, .int n, .ref b] => ∃ (cs : List Int) (fs : List (Option Int)), LI K H a cs ∧ cs.length ≤ 1000 ∧ SqL K H b (fs.map toV) ∧ n < fs.length ∧
    ((n < 0 ∨ fs.getD n.toNat none = none) → x = .non) ∧ (0 ≤ n → ∀ k, fs.getD n.toNat none = some k → ∃ (p : Addr) (ps : List Int), x = .ref p ∧ H p = some (.lst (ps.map V.int)) ∧ ps.length = cs.length ∧ (∀ y ∈ ps, 0 ≤ y) ∧ dot cs ps = n ∧ ps.sum = k) ∧
    (∀ c ∈ cs, 1 ≤ c ∧ c ≤ 1000) ∧ ∀ H', Same H H' → Q (.bl true) H'
  | _ => False
noncomputable def sGood31 (K : PySem.W.Frag) : Sp := fun vs H Q _ => match vs with
  | [.ref f, .ref a, .int m] => ∃ cs fs, H f = some (.lst (fs.map toV)) ∧ LI K H a cs ∧ ((∀ c ∈ cs, 1 ≤ c) ∧ cs.length ≤ 1000) ∧ FewP cs fs ∧ ((fs.length : Int) = m + 1 ∧ m ≤ 4000) ∧
    ∀ H', Same H H' → Q (.bl true) H'
  | _ => False
end PG

set_option Elab.async false
set_option linter.all false
set_option maxRecDepth 100000
set_option maxHeartbeats 4000000
namespace PG
open PySem L2 PyProof.Rows
/-! ### the greatest first -/
noncomputable def gStep (cs : List Int) (s : List Int × Int) (d : Int) : List Int × Int := (s.1.set (cs.idxOf d) (s.2 / d), s.2 % d)
noncomputable def gRun (cs ds : List Int) (s : List Int × Int) : List Int × Int := ds.foldl (gStep cs) s
noncomputable def dsc (cs : List Int) : List Int := cs.mergeSort fun a b => decide (b ≤ a)
noncomputable def gRes (cs : List Int) (n : Int) : List Int × Int := gRun cs (dsc cs) (List.replicate cs.length 0, n)
noncomputable def gAns (cs : List Int) (n : Int) : Option (List Int) := if n < 0 then none else if 0 < (gRes cs n).2 then none else some (gRes cs n).1
/-- what is told: None, or a new list of numbers -/
noncomputable def TOld (H : Hp) (v : V) (H' : Hp) : Option (List Int) → Prop
  | none => v = .non
  | some ps => ∃ p : Addr, v = .ref p ∧ H p = none ∧ H' p = some (.lst (ps.map V.int))
noncomputable def sGreedy (K : PySem.W.Frag) : Sp := fun vs H Q _ => match vs with
  | [.ref a, .int n] => ∃ cs, LI K H a cs ∧ Coins cs ∧ ∀ (v : V) (H' : Hp), Same H H' → TOld H v H' (gAns cs n) → Q v H'
  | _ => False
noncomputable def sGreedyP (K : PySem.W.Frag) : Sp := fun vs H Q _ => match vs with
  | [.ref a, .int n] => ∃ cs, LI K H a cs ∧ Coins cs ∧ 0 ≤ n ∧ ∀ (v : V) (H' : Hp), Same H H' → TOld H v H' (gAns cs n) → Q v H'
  | _ => False
noncomputable def sAmount33 : Sp := fun vs H Q _ => match vs with
  | [.int c] => (0 ≤ c ∧ c < 4294967296) ∧ ∀ n : Int, Q (.int n) H
  | _ => False
noncomputable def sGood33 (K : PySem.W.Frag) : Sp := fun vs H Q _ => match vs with
  | [x, y] => ((x = .non ∧ y = .non) ∨ ∃ (p r : Addr) (ps : List Int), x = .ref p ∧ y = .ref r ∧ H p = some (.lst (ps.map V.int)) ∧ H r = some (.lst (ps.map V.int)) ∧ ps.length ≤ 1000) ∧ ∀ H', Same H H' → Q (.bl true) H'
  | _ => False
end PG

set_option Elab.async false
set_option linter.all false
set_option maxRecDepth 100000
set_option maxHeartbeats 4000000
namespace PG
open PySem L2 PyProof.Rows
noncomputable def sWays (K : PySem.W.Frag) : Sp := fun vs H Q _ => match vs with
  | [.ref a, .int m] => ∃ cs, LI K H a cs ∧ Coins cs ∧ (0 ≤ m ∧ m ≤ 2000) ∧
    ∀ (p : Addr) (H' : Hp), Same H H' → H p = none → H' p = some (.lst ((wList (m.toNat + 1) (wW cs)).map V.int)) → Q (.ref p) H'
  | _ => False
noncomputable def sNums21 (K : PySem.W.Frag) : Sp := fun vs H Q _ => match vs with
  | [.ref p, .ref r] => ∃ ps : List Int, H p = some (.lst (ps.map V.int)) ∧ H r = some (.lst (ps.map V.int)) ∧ ∀ H', Same H H' → Q (.bl true) H'
  | _ => False
noncomputable def sMany21 (K : PySem.W.Frag) : Sp := fun vs H Q _ => match vs with
  | [.ref a] => ∃ ns, LI K H a ns ∧ ∀ (p : Addr) (cs : List Int) (H' : Hp), Same H H' → H p = none → H' p = some (.lst (cs.map V.int)) → Coins cs → Q (.ref p) H'
  | _ => False
noncomputable def sPlain21 (K : PySem.W.Frag) : Sp := fun vs H Q _ => match vs with
  | [.int n] => ∀ (p : Addr) (cs : List Int) (H' : Hp), Same H H' → H p = none → H' p = some (.lst (cs.map V.int)) → Coins cs → Q (.ref p) H'
  | _ => False
noncomputable def sOne21 (K : PySem.W.Frag) : Sp := fun vs H Q _ => match vs with
  | [.int c, .int m] => (1 ≤ c ∧ c ≤ 1000) ∧ (0 ≤ m ∧ m ≤ 2000) ∧ ∀ (p : Addr) (H' : Hp), Same H H' → H p = none → H' p = some (.lst ((wList (m.toNat + 1) (wW [c])).map V.int)) → Q (.ref p) H'
  | _ => False
end PG

set_option Elab.async false
set_option linter.all false
set_option maxRecDepth 100000
set_option maxHeartbeats 4000000
namespace PG
open PySem L2 PyProof.Rows
/-! ### how great the numbers of a house are -/
/-! ### needed coins -/
noncomputable def canB (h : List Int) (a : Int) : Bool := decide (h.getD (a % (h.length : Int)).toNat 0 ≤ a)
noncomputable def partedB (h : List Int) (x : Int) : Bool := (h.drop 1).any fun part => decide (0 < x - part) && canB h (x - part)
noncomputable def partsB (h : List Int) (x : Int) : Bool := (List.range (x - 1).toNat).any fun i => canB h (1 + (i : Int)) && canB h (x - (1 + (i : Int)))
noncomputable def need (h : List Int) : List Int := (h.length : Int) :: (h.drop 1).filter fun x => !partedB h x
theorem House.at {h : List Int} (a : House h) (n : Int) : h[(n % (h.length : Int)).toNat]? = some (h.getD (n % (h.length : Int)).toNat 0) := by
  have := a.pos
  have h1 := Int.emod_lt_of_pos n (show (0 : Int) < h.length by omega)
  have h0 := Int.emod_nonneg n (show (h.length : Int) ≠ 0 by omega)
  exact getD_some (by omega)
/-- a pair of a told list and its copy, apart from the list of them -/
noncomputable def Pr (H : Hp) (tl T : Addr) : Prop := T ≠ tl ∧ ∃ (f k : Addr) (zs : List Int), f ≠ tl ∧ k ≠ tl ∧ H T = some (.tup [.ref f, .ref k]) ∧ H f = some (.lst (zs.map V.int)) ∧ H k = some (.lst (zs.map V.int))
/-! ### promises -/
noncomputable def sParted (K : PySem.W.Frag) : Sp := fun vs H Q _ => match vs with
  | [.ref a, .int x] => ∃ h, LI K H a h ∧ House h ∧ ∀ H', Same H H' → Q (.bl (partedB h x)) H'
  | _ => False
noncomputable def sNeeded (K : PySem.W.Frag) : Sp := fun vs H Q _ => match vs with
  | [.ref a] => ∃ h, LI K H a h ∧ House h ∧ h.length < 64 ∧ ∀ (p : Addr) (ms : List Int) (H' : Hp), Same H H' → H p = none → H' p = some (.lst (ms.map V.int)) → ms.Perm (need h) → ms.Pairwise (· ≤ ·) → Q (.ref p) H'
  | _ => False
noncomputable def sCan (K : PySem.W.Frag) : Sp := fun vs H Q _ => match vs with
  | [.ref a, .int x] => ∃ h, LI K H a h ∧ 0 < h.length ∧ Q (.bl (canB h x)) H
  | _ => False
noncomputable def sDue11 (K : PySem.W.Frag) : Sp := fun vs H Q _ => match vs with
  | [.ref a] => ∃ h, LI K H a h ∧ House h ∧ h.length < 64 ∧ (∀ x ∈ h, x ≤ 1000000) ∧ ∀ (p : Addr) (ms : List Int) (H' : Hp), Same H H' → H p = none → H' p = some (.lst (ms.map V.int)) → ms.Perm (need h) → ms.Pairwise (· ≤ ·) → Q (.ref p) H'
  | _ => False
/-- drawn coins, sharing nothing, the first one of 1 to `first` -/
noncomputable def sDrawnH (K : PySem.W.Frag) : Sp := fun vs H Q _ => match vs with
  | [.ref a, .int st, .int first, .int far, .int most] => ∃ ns, LI K H a ns ∧ ns.length ≤ 63 ∧ (0 ≤ st ∧ st ≤ 100) ∧ (1 ≤ first ∧ first ≤ 900) ∧ (1 ≤ far ∧ far ≤ 1000) ∧ (1 ≤ most ∧ most ≤ 100) ∧
    ∀ (p : Addr) (cs : List Int) (H' : Hp), Same H H' → H p = none → H' p = some (.lst (cs.map V.int)) → 1 ≤ cs.length → (∀ c ∈ cs, 1 ≤ c ∧ c ≤ 1000) → (∃ c ∈ cs, c ≤ first) → gcdL cs = 1 → Q (.ref p) H'
  | _ => False
end PG

set_option Elab.async false
set_option linter.all false
set_option maxRecDepth 100000
set_option maxHeartbeats 4000000
namespace PG
open PySem L2 PyProof.Rows
/-! ### lowering a rest -/
noncomputable def lowR (v : Sums) (t : Int) : Sums :=
  match v[(t % (v.length : Int)).toNat]? with
  | some (some y) => if t < y then v.set (t % (v.length : Int)).toNat (some t) else v
  | some none => v.set (t % (v.length : Int)).toNat (some t)
  | none => v
theorem relax_low' {v : Sums} {p : Nat} {c x : Int} (h : v[p]? = some (some x)) : relax v p c = lowR v (x + c) := by
  unfold relax lowR
  rw [h]
  all_goals rfl
theorem lowR_length (v : Sums) (t : Int) : (lowR v t).length = v.length := by
  unfold lowR
  split
  · split <;> simp
  · simp
  · rfl
theorem rest_lt {n : Nat} (h : 0 < n) (t : Int) : (t % (n : Int)).toNat < n := by
  have h1 := Int.emod_lt_of_pos t (show (0 : Int) < n by omega)
  have h0 := Int.emod_nonneg t (show (n : Int) ≠ 0 by omega)
  omega
/-- the numbers are in S, each at its rest -/
noncomputable def InS (S : Int → Prop) (v : Sums) : Prop := ∀ (r : Nat) (x : Int), v[r]? = some (some x) → S x ∧ x % (v.length : Int) = r
theorem InS.set {S : Int → Prop} {v : Sums} {t : Int} (h : InS S v) (ht : S t) (h0 : 0 < v.length) : InS S (v.set (t % (v.length : Int)).toNat (some t)) := fun r x hx => by
  rw [List.length_set]
  rw [List.getElem?_set] at hx
  split at hx
  · rename_i e
    split at hx
    · cases hx
      refine ⟨ht, ?_⟩
      have := Int.emod_nonneg t (show (v.length : Int) ≠ 0 by omega)
      omega
    · cases hx
  · exact h r x hx
theorem InS.low {S : Int → Prop} {v : Sums} {t : Int} (h : InS S v) (ht : S t) (h0 : 0 < v.length) : InS S (lowR v t) := by
  unfold lowR
  split
  · split
    · exact h.set ht h0
    · exact h
  · exact h.set ht h0
  · exact h
theorem InS.relax {S : Int → Prop} {v : Sums} {p : Nat} {c : Int} (h : InS S v) (hc : ∀ x, S x → S (x + c)) (h0 : 0 < v.length) : InS S (relax v p c) := by
  cases e : v[p]? with
  | none => unfold PG.relax; rw [e]; exact h
  | some o => cases o with
    | none => unfold PG.relax; rw [e]; exact h
    | some x =>
      rw [relax_low' e]
      exact h.low (hc x (h p x e).1) h0
theorem low_has {v : Sums} {t : Int} (h0 : 0 < v.length) : Has (lowR v t) t := by
  have hlt := rest_lt h0 t
  unfold Has
  rw [lowR_length]
  unfold lowR
  cases e : v[(t % (v.length : Int)).toNat]? with
  | none => rw [List.getElem?_eq_getElem hlt] at e; cases e
  | some o => cases o with
    | none => exact ⟨t, by simp [hlt], Int.le_refl _⟩
    | some y =>
      dsimp only
      split
      · exact ⟨t, by simp [hlt], Int.le_refl _⟩
      · exact ⟨y, e, by omega⟩
theorem low_le (v : Sums) (t : Int) : LeS (lowR v t) v := fun r x hx => by
  unfold lowR
  have put : ∀ (i : Nat), (i = r → t ≤ x) → ∃ y, (v.set i (some t))[r]? = some (some y) ∧ y ≤ x := fun i hi => by
    rw [List.getElem?_set]
    split
    · rename_i e
      subst e
      have := getElem?_lt hx
      rw [if_pos this]
      exact ⟨t, rfl, hi rfl⟩
    · exact ⟨x, hx, Int.le_refl _⟩
  split
  · rename_i y e
    split
    · refine put _ fun z => ?_
      rw [z, hx] at e
      cases e
      omega
    · exact ⟨x, hx, Int.le_refl _⟩
  · rename_i e
    refine put _ fun z => ?_
    rw [z, hx] at e
    cases e
  · exact ⟨x, hx, Int.le_refl _⟩
theorem Has.low {v : Sums} {t s : Int} (h : Has v s) : Has (lowR v t) s := h.le (low_le v t) (lowR_length v t)
noncomputable def lows (v : Sums) (ts : List Int) : Sums := ts.foldl lowR v
theorem Has.lows {s : Int} : ∀ (ts : List Int) {v : Sums}, Has v s → Has (lows v ts) s
  | [], _, h => h
  | t :: r, v, h => Has.lows r h.low
noncomputable def nones (n : Nat) : Sums := List.replicate n none
/-- the least sums by rests of what comes of given ones by a step -/
noncomputable def sbr (gs : List Int) (step : Int) (n : Nat) : Sums := withCoin (lows (nones n) gs) step
/-! ### least sums of a set -/
structure LeastS (S : Int → Prop) (g : List Int) : Prop where
  pos : 0 < g.length
  mem : ∀ (r : Nat) (x : Int), g[r]? = some x → S x ∧ x % (g.length : Int) = r
  least : ∀ s, S s → g.getD (s % (g.length : Int)).toNat 0 ≤ s
/-! ### the sums of a house -/
noncomputable def Can (h : List Int) (a : Int) : Prop := canB h a = true
theorem can_iff {h : List Int} {a : Int} : Can h a ↔ h.getD (a % (h.length : Int)).toNat 0 ≤ a := by unfold Can canB; exact decide_eq_true_iff
theorem House.can0 {h : List Int} (a : House h) : Can h 0 := by
  rw [can_iff, Int.zero_emod, show (0 : Int).toNat = 0 from rfl, getD_at a.zero]
  exact Int.le_refl _
theorem House.canAdd {h : List Int} (a : House h) {x y : Int} (hx : Can h x) (hy : Can h y) : Can h (x + y) := by
  have hpos := a.pos
  rw [can_iff] at *
  have m1 := Int.emod_nonneg x (show (h.length : Int) ≠ 0 by omega)
  have m2 := Int.emod_nonneg y (show (h.length : Int) ≠ 0 by omega)
  have m3 := Int.emod_nonneg (x + y) (show (h.length : Int) ≠ 0 by omega)
  have := a.closed _ _ _ _ _ _ (a.at x) (a.at y) (a.at (x + y)) (by rw [Int.toNat_of_nonneg m1, Int.toNat_of_nonneg m2, Int.toNat_of_nonneg m3, ← Int.add_emod])
  omega
/-! ### houses mixed -/
noncomputable def MixS (h1 h2 : List Int) (b t : Int) (s : Int) : Prop := ∃ x y, Can h1 x ∧ Can h2 y ∧ s = b * x + t * y
noncomputable def stimes (h : List Int) (b : Int) (n : Nat) : List Int := (sbr (h.map fun x => x * b) ((h.length : Int) * b) n).filterMap id
noncomputable def mixL (h1 h2 : List Int) (b t : Int) (n : Nat) : Sums := lows (nones n) ((stimes h1 b n).flatMap fun x => (stimes h2 t n).map fun y => x + y)
end PG

set_option Elab.async false
set_option linter.all false
set_option maxRecDepth 100000
set_option maxHeartbeats 4000000
namespace PG
open PySem L2 PyProof.Rows
noncomputable def sLowRest (K : PySem.W.Frag) : Sp := fun vs H Q _ => match vs with
  | [.ref a, .int t] => ∃ v : Sums, H a = some (.lst (v.map toV)) ∧ 0 < v.length ∧ Q .non (upd H a (.lst ((lowR v t).map toV)))
  | _ => False
noncomputable def sLowNext (K : PySem.W.Frag) : Sp := fun vs H Q _ => match vs with
  | [.ref a, .int p, .int c] => ∃ v : Sums, H a = some (.lst (v.map toV)) ∧ (0 ≤ p ∧ p < v.length) ∧ Q .non (upd H a (.lst ((relax v p.toNat c).map toV)))
  | _ => False
noncomputable def sWithCoin (K : PySem.W.Frag) : Sp := fun vs H Q _ => match vs with
  | [.ref a, .int c] => ∃ v : Sums, SqL K H a (v.map toV) ∧ (0 < v.length ∧ v.length ≤ 100000) ∧ 1 ≤ c ∧ ∀ (p : Addr) (H' : Hp), Same H H' → H p = none → H' p = some (.lst ((withCoin v c).map toV)) → Q (.ref p) H'
  | _ => False
noncomputable def sShare0 (K : PySem.W.Frag) : Sp := fun vs H Q _ => match vs with
  | [.ref a] => ∃ cs, LI K H a cs ∧ Coins cs ∧ ∀ H', Same H H' → Q (.int (gcdL cs)) H'
  | _ => False
noncomputable def sHouseOf (K : PySem.W.Frag) : Sp := fun vs H Q _ => match vs with
  | [.ref a] => ∃ cs, LI K H a cs ∧ Coins cs ∧ gcdL cs = 1 ∧ ∀ (p : Addr) (h : List Int) (H' : Hp), Same H H' → H p = none → H' p = some (.lst (h.map V.int)) → Least cs h → (h.length : Int) ∈ cs → (∀ c ∈ cs, (h.length : Int) ≤ c) → Q (.ref p) H'
  | _ => False
noncomputable def sByRests (K : PySem.W.Frag) : Sp := fun vs H Q _ => match vs with
  | [.ref a, .int st, .int n] => ∃ gs, LI K H a gs ∧ 1 ≤ st ∧ (0 < n ∧ n ≤ 100000) ∧ ∀ (p : Addr) (H' : Hp), Same H H' → H p = none → H' p = some (.lst ((sbr gs st n.toNat).map toV)) → Q (.ref p) H'
  | _ => False
noncomputable def sTimes (K : PySem.W.Frag) : Sp := fun vs H Q _ => match vs with
  | [.ref a, .int b, .int n] => ∃ h, LI K H a h ∧ (0 < h.length ∧ h.length ≤ 100000) ∧ (1 ≤ b ∧ b ≤ 100000) ∧ (0 < n ∧ n ≤ 100000) ∧ ∀ (p : Addr) (H' : Hp), Same H H' → H p = none → H' p = some (.lst ((stimes h b n.toNat).map V.int)) → Q (.ref p) H'
  | _ => False
noncomputable def leastM (h1 h2 : List Int) (b t : Int) : Int := if t * (h2.length : Int) < b * (h1.length : Int) then t * (h2.length : Int) else b * (h1.length : Int)
noncomputable def sLeastM (K : PySem.W.Frag) : Sp := fun vs H Q _ => match vs with
  | [.ref a, .int b, .ref c, .int t] => ∃ h1 h2, LI K H a h1 ∧ LI K H c h2 ∧ (1 ≤ b ∧ b ≤ 100000) ∧ (1 ≤ t ∧ t ≤ 100000) ∧ Q (.int (leastM h1 h2 b t)) H
  | _ => False
noncomputable def sMixU (K : PySem.W.Frag) : Sp := fun vs H Q _ => match vs with
  | [.ref a, .int b, .ref c, .int t] => ∃ h1 h2, LI K H a h1 ∧ LI K H c h2 ∧ (House h1 ∧ h1.length ≤ 100000) ∧ (House h2 ∧ h2.length ≤ 100000) ∧ (1 ≤ b ∧ b ≤ 100000) ∧ (1 ≤ t ∧ t ≤ 100000) ∧ gcdL [b, t] = 1 ∧ leastM h1 h2 b t ≤ 100000 ∧
    ∀ (p : Addr) (g : List Int) (H' : Hp), Same H H' → H p = none → H' p = some (.lst (g.map V.int)) → LeastS (MixS h1 h2 b t) g → (g.length : Int) = leastM h1 h2 b t → Q (.ref p) H'
  | _ => False
noncomputable def sJoined (K : PySem.W.Frag) : Sp := fun vs H Q _ => match vs with
  | [.ref a, .ref c] => ∃ h1 h2, LI K H a h1 ∧ LI K H c h2 ∧ (House h1 ∧ h1.length ≤ 100000) ∧ (House h2 ∧ h2.length ≤ 100000) ∧
    ∀ (p : Addr) (g : List Int) (H' : Hp), Same H H' → H p = none → H' p = some (.lst (g.map V.int)) → LeastS (MixS h1 h2 1 1) g → (g.length : Int) = leastM h1 h2 1 1 → Q (.ref p) H'
  | _ => False
end PG

set_option Elab.async false
set_option linter.all false
set_option maxRecDepth 100000
set_option maxHeartbeats 4000000
namespace PG
open PySem L2 PyProof.Rows
/-! ### the house of all sums from a number on -/
noncomputable def fullL (m : Nat) : List Int := 0 :: (List.range (m - 1)).map fun (i : Nat) => (m : Int) + (1 + (i : Int))
/-! ### what joined houses are -/
/-- a list as the laws ask of a house's list, closure aside -/
structure Shape (g : List Int) : Prop where
  pos : 0 < g.length
  zero : g[0]? = some 0
  above : ∀ (r : Nat) (x : Int), g[r]? = some x → r ≠ 0 → (g.length : Int) < x
  rest : ∀ (r : Nat) (x : Int), g[r]? = some x → x % (g.length : Int) = r
/-! ### promises -/
noncomputable def sFull (K : PySem.W.Frag) : Sp := fun vs H Q _ => match vs with
  | [.int m] => (1 ≤ m ∧ m ≤ 1000) ∧ ∀ (p : Addr) (H' : Hp), Same H H' → H p = none → H' p = some (.lst ((fullL m.toNat).map V.int)) → Q (.ref p) H'
  | _ => False
noncomputable def HouseB (h : List Int) : Prop := House h ∧ h.length < 64 ∧ ∀ x ∈ h, x ≤ 1000000
noncomputable def sMadeH (K : PySem.W.Frag) : Sp := fun vs H Q _ => match vs with
  | [.ref a, .int k] => ∃ ns, LI K H a ns ∧ ns.length ≤ 63 ∧ (0 ≤ k ∧ k ≤ 1) ∧ ∀ (p : Addr) (h : List Int) (H' : Hp), Same H H' → H p = none → H' p = some (.lst (h.map V.int)) → HouseB h → Q (.ref p) H'
  | _ => False
noncomputable def sMoreH (K : PySem.W.Frag) : Sp := fun vs H Q _ => match vs with
  | [.ref a, .int k] => ∃ ns, LI K H a ns ∧ (0 ≤ k ∧ k ≤ 1) ∧
    ∀ (p : Addr) (cs : List Int) (H' : Hp), Same H H' → H p = none → H' p = some (.lst (cs.map V.int)) → 1 ≤ cs.length → (∀ c ∈ cs, 1 ≤ c ∧ c ≤ 1000) → (∃ c ∈ cs, c ≤ 9) → gcdL cs = 1 → Q (.ref p) H'
  | _ => False
noncomputable def sIsH (K : PySem.W.Frag) : Sp := fun vs H Q _ => match vs with
  | [.ref a] => ∃ g : List Int, H a = some (.lst (g.map V.int)) ∧ Shape g ∧ g.length ≤ 100000 ∧ ∀ H', Same H H' → Q (.bl true) H'
  | _ => False
noncomputable def sGood42 (K : PySem.W.Frag) : Sp := fun vs H Q _ => match vs with
  | [.ref f, .ref a, .ref b] => ∃ g h1 h2 : List Int, H f = some (.lst (g.map V.int)) ∧ H a = some (.lst (h1.map V.int)) ∧ H b = some (.lst (h2.map V.int)) ∧ HouseB h1 ∧ HouseB h2 ∧ LeastS (MixS h1 h2 1 1) g ∧ (g.length : Int) = leastM h1 h2 1 1 ∧
    ∀ H', Same H H' → Q (.bl true) H'
  | _ => False
end PG

set_option Elab.async false
set_option linter.all false
set_option maxRecDepth 100000
set_option maxHeartbeats 4000000
namespace PG
open PySem L2 PyProof.Rows
/-! ### common houses -/
noncomputable def Both (h1 h2 : List Int) (s : Int) : Prop := Can h1 s ∧ Can h2 s
/-- least of all from 1 on -/
structure LeastN (P : Int → Prop) (n : Int) : Prop where
  one : 1 ≤ n
  has : P n
  low : ∀ k, 1 ≤ k → k < n → ¬ P k
/-! ### houses whose numbers lie so many lengths above their places -/
noncomputable def farL (m K : Nat) : List Int := 0 :: (List.range (m - 1)).map fun (i : Nat) => (1 + (i : Int)) + (m : Int) * (K : Int)
/-! ### promises -/
noncomputable def sPays0 (K : PySem.W.Frag) : Sp := fun vs H Q _ => match vs with
  | [.ref a, .int x] => ∃ h, LI K H a h ∧ 0 < h.length ∧ Q (.bl (canB h x)) H
  | _ => False
noncomputable def sLeastC (K : PySem.W.Frag) (c : Addr) : Sp := fun vs H Q E => match vs with
  | [.ref a, .ref b] => ∃ h1 h2, LI K H a h1 ∧ LI K H b h2 ∧ 0 < h1.length ∧ 0 < h2.length ∧ (∀ n : Int, n ≤ 1000 → LeastN (Both h1 h2) n → Q (.int n) H) ∧ ((∀ k : Int, 1 ≤ k → k ≤ 1000 → ¬ Both h1 h2 k) → E (.ref c) none H)
  | _ => False
noncomputable def sCommon (K : PySem.W.Frag) (c : Addr) : Sp := fun vs H Q E => match vs with
  | [.ref a, .ref b] => ∃ h1 h2, LI K H a h1 ∧ LI K H b h2 ∧ House h1 ∧ House h2 ∧
    (∀ (p : Addr) (g : List Int) (H' : Hp), Same H H' → H p = none → H' p = some (.lst (g.map V.int)) → LeastS (Both h1 h2) g → LeastN (Both h1 h2) (g.length : Int) → g.length ≤ 1000 → Q (.ref p) H') ∧
    ((∀ k : Int, 1 ≤ k → k ≤ 1000 → ¬ Both h1 h2 k) → ∀ H', Same H H' → E (.ref c) none H')
  | _ => False
noncomputable def sBoth (K : PySem.W.Frag) : Sp := fun vs H Q _ => match vs with
  | [.ref a, .ref b, .int n] => ∃ h1 h2, LI K H a h1 ∧ LI K H b h2 ∧ 0 < h1.length ∧ 0 < h2.length ∧ Q (.bl (canB h1 n && canB h2 n)) H
  | _ => False
noncomputable def sGood41 (K : PySem.W.Frag) : Sp := fun vs H Q _ => match vs with
  | [.ref f, .ref a, .ref b] => ∃ g h1 h2 : List Int, H f = some (.lst (g.map V.int)) ∧ LI K H a h1 ∧ LI K H b h2 ∧ House h1 ∧ House h2 ∧ LeastS (Both h1 h2) g ∧ LeastN (Both h1 h2) (g.length : Int) ∧ g.length ≤ 1000 ∧
    ∀ H', Same H H' → Q (.bl true) H'
  | _ => False
noncomputable def sRef41 (K : PySem.W.Frag) : Sp := fun vs H Q _ => match vs with
  | [.ref a, .ref b] => ∃ h1 h2 : List Int, LI K H a h1 ∧ LI K H b h2 ∧ House h1 ∧ House h2 ∧ (∀ k : Int, 1 ≤ k → k ≤ 1000 → ¬ Both h1 h2 k) ∧ ∀ H', Same H H' → Q (.bl true) H'
  | _ => False
noncomputable def sFar (K : PySem.W.Frag) : Sp := fun vs H Q _ => match vs with
  | [.int m] => (1 ≤ m ∧ m ≤ 1000) ∧ ∀ (p : Addr) (H' : Hp), Same H H' → H p = none → H' p = some (.lst ((farL m.toNat (1000 / m + 1).toNat).map V.int)) → Q (.ref p) H'
  | _ => False
end PG
namespace PG
open PySem L2 PyProof.Rows
noncomputable def sMade41 (K : PySem.W.Frag) : Sp := fun vs H Q _ => match vs with
  | [.ref a, .int k] => ∃ ns, LI K H a ns ∧ ns.length ≤ 63 ∧ (0 ≤ k ∧ k ≤ 1) ∧ ∀ (p : Addr) (h : List Int) (H' : Hp), Same H H' → H p = none → H' p = some (.lst (h.map V.int)) → House h → h.length ≤ 10 → Q (.ref p) H'
  | _ => False
end PG

set_option Elab.async false
set_option linter.all false
set_option maxRecDepth 100000
set_option maxHeartbeats 4000000
namespace PG
open PySem L2 PyProof.Rows
/-! ### the first number from a start on, of a rest -/
noncomputable def firstF (s r n : Int) : Int := s + (r - s) % n
/-! ### divided, filled -/
noncomputable def DivS (h : List Int) (b s : Int) : Prop := 0 ≤ s ∧ Can h (s * b)
noncomputable def FillS (h : List Int) (st s : Int) : Prop := 0 ≤ s ∧ (st ≤ s ∨ Can h s)
/-- a set of sums as points 5 and 6 have them -/
structure Sums0 (S : Int → Prop) (m : Nat) : Prop where
  pos : 0 < m
  nn : ∀ s, S s → 0 ≤ s
  zero : S 0
  add : ∀ s t, S s → S t → S (s + t)
  len : S (m : Int)
noncomputable def divF (h : List Int) (b : Int) (r : Int) : Int := firstF ((h.getD ((r * b) % (h.length : Int)).toNat 0 + b - 1) / b) r (h.length : Int)
noncomputable def fillF (h : List Int) (st : Int) (r : Nat) : Int := if firstF st (r : Int) (h.length : Int) < h.getD r 0 then firstF st (r : Int) (h.length : Int) else h.getD r 0
/-! ### promises -/
noncomputable def sFromX (c : Addr) : Sp := fun vs H Q E => match vs with
  | [.int l, x] => (l = 0 ∨ l = 1) ∧ Kn H x ∧ (∀ n : Int, x = .int n → l ≤ n → Q .non H) ∧ ((¬ ∃ n : Int, x = .int n ∧ l ≤ n) → E (.ref c) none H)
  | _ => False
noncomputable def sFirst : Sp := fun vs H Q _ => match vs with
  | [.int s, .int r, .int n] => 0 < n ∧ Q (.int (firstF s r n)) H
  | _ => False
noncomputable def sLDiv (K : PySem.W.Frag) : Sp := fun vs H Q _ => match vs with
  | [.ref a, .int b, .int r] => ∃ h, LI K H a h ∧ 0 < h.length ∧ (1 ≤ b ∧ b.natAbs < 2 ^ 200) ∧ (0 ≤ r ∧ r ≤ 100000) ∧ Q (.int (divF h b r)) H
  | _ => False
noncomputable def sHBS (K : PySem.W.Frag) : Sp := fun vs H Q _ => match vs with
  | [.ref a] => ∃ (w : List Int) (S : Int → Prop), SqL K H a (w.map V.int) ∧ w.length ≤ 1000 ∧ LeastS S w ∧ Sums0 S w.length ∧
    ∀ (p : Addr) (g : List Int) (H' : Hp), Same H H' → H p = none → H' p = some (.lst (g.map V.int)) → LeastS S g → LeastN S (g.length : Int) → g.length ≤ w.length → Q (.ref p) H'
  | _ => False
noncomputable def S43 (wh : Int) (h : List Int) (nb : Int) : Int → Prop := if wh = 0 then DivS h nb else FillS h nb
noncomputable def sDivX (K : PySem.W.Frag) (c : Addr) : Sp := fun vs H Q E => match vs with
  | [.ref a, x] => ∃ h, LI K H a h ∧ House h ∧ h.length ≤ 1000 ∧ Kn H x ∧
    (∀ nb : Int, x = .int nb → 1 ≤ nb → nb.natAbs < 2 ^ 200 ∧ ∀ (p : Addr) (g : List Int) (H' : Hp), Same H H' → H p = none → H' p = some (.lst (g.map V.int)) → LeastS (DivS h nb) g → LeastN (DivS h nb) (g.length : Int) → g.length ≤ h.length → Q (.ref p) H') ∧
    ((¬ ∃ n : Int, x = .int n ∧ 1 ≤ n) → E (.ref c) none H)
  | _ => False
noncomputable def sFillX (K : PySem.W.Frag) (c : Addr) : Sp := fun vs H Q E => match vs with
  | [.ref a, x] => ∃ h, LI K H a h ∧ House h ∧ h.length ≤ 1000 ∧ Kn H x ∧
    (∀ nb : Int, x = .int nb → 1 ≤ nb → ∀ (p : Addr) (g : List Int) (H' : Hp), Same H H' → H p = none → H' p = some (.lst (g.map V.int)) → LeastS (FillS h nb) g → LeastN (FillS h nb) (g.length : Int) → g.length ≤ h.length → Q (.ref p) H') ∧
    ((¬ ∃ n : Int, x = .int n ∧ 1 ≤ n) → E (.ref c) none H)
  | _ => False
noncomputable def sAsked43 (K : PySem.W.Frag) (c : Addr) : Sp := fun vs H Q E => match vs with
  | [.int wh, .ref a, x] => ∃ h, LI K H a h ∧ House h ∧ h.length ≤ 1000 ∧ Kn H x ∧
    (∀ nb : Int, x = .int nb → 1 ≤ nb → nb.natAbs < 2 ^ 200 ∧ ∀ (p : Addr) (g : List Int) (H' : Hp), Same H H' → H p = none → H' p = some (.lst (g.map V.int)) → LeastS (S43 wh h nb) g → LeastN (S43 wh h nb) (g.length : Int) → g.length ≤ h.length → Q (.ref p) H') ∧
    ((¬ ∃ n : Int, x = .int n ∧ 1 ≤ n) → E (.ref c) none H)
  | _ => False
noncomputable def sThere (K : PySem.W.Frag) : Sp := fun vs H Q _ => match vs with
  | [.int wh, .ref a, .int nb, .int x] => ∃ h, LI K H a h ∧ House h ∧ (-(2 ^ 60) ≤ x ∧ x ≤ 2 ^ 60) ∧ ∀ b, (b = true ↔ S43 wh h nb x) → Q (.bl b) H
  | _ => False
noncomputable def sGood43 (K : PySem.W.Frag) : Sp := fun vs H Q _ => match vs with
  | [.ref f, .int wh, .ref a, .int nb] => ∃ g h : List Int, H f = some (.lst (g.map V.int)) ∧ LI K H a h ∧ House h ∧ (∀ x ∈ h, x ≤ 1000000) ∧ 1 ≤ nb ∧ LeastS (S43 wh h nb) g ∧ LeastN (S43 wh h nb) (g.length : Int) ∧ g.length ≤ 1000 ∧
    ∀ H', Same H H' → Q (.bl true) H'
  | _ => False
noncomputable def sRef43 (K : PySem.W.Frag) : Sp := fun vs H Q _ => match vs with
  | [.int wh, .ref a, x] => ∃ h : List Int, LI K H a h ∧ House h ∧ h.length ≤ 1000 ∧ Kn H x ∧ (¬ ∃ n : Int, x = .int n ∧ 1 ≤ n) ∧ ∀ H', Same H H' → Q (.bl true) H'
  | _ => False
end PG

set_option Elab.async false
set_option linter.all false
set_option maxRecDepth 100000
set_option maxHeartbeats 4000000
namespace PG
open PySem L2 PyProof.Rows
/-! ### the greatest first, as a paying -/
theorem idx_inj {cs : List Int} {d e : Int} (hd : d ∈ cs) (he : e ∈ cs) (h : cs.idxOf d = cs.idxOf e) : d = e := by
  have h1 : cs.idxOf d < cs.length := List.idxOf_lt_length_of_mem hd
  have e1 : cs[cs.idxOf d]? = some d := by rw [List.getElem?_eq_getElem h1]; simp
  have h2 : cs.idxOf e < cs.length := List.idxOf_lt_length_of_mem he
  have e2 : cs[cs.idxOf e]? = some e := by rw [List.getElem?_eq_getElem h2]; simp
  rw [h, e2] at e1
  exact (Option.some.inj e1).symm
theorem idx_get {cs : List Int} {d : Int} (hd : d ∈ cs) : cs[cs.idxOf d]? = some d := by
  have h1 : cs.idxOf d < cs.length := List.idxOf_lt_length_of_mem hd
  rw [List.getElem?_eq_getElem h1]; simp
theorem gRun_left0 {cs : List Int} : ∀ (ds ps : List Int), (gRun cs ds (ps, 0)).2 = 0
  | [], _ => rfl
  | d :: ds, ps => by
    show (gRun cs ds (ps.set (cs.idxOf d) (0 / d), 0 % d)).2 = 0
    rw [Int.zero_emod]
    exact gRun_left0 ds _
/-! ### the fewest are no more than any -/
noncomputable def gsum (cs : List Int) (n : Nat) : Int := (gRes cs (n : Int)).1.sum
/-! ### the bound -/
noncomputable def asc (cs : List Int) : List Int := cs.mergeSort fun a b => decide (a ≤ b)
noncomputable def bnd (cs : List Int) : Int := ((asc cs).drop (cs.length - 2)).sum
/-- the greatest first is as good as can be up to the n-th sum -/
noncomputable def GoodTo (cs : List Int) (n : Nat) : Prop := ∀ fs, FewP cs fs → ∀ m : Nat, m < n → m < fs.length → fs.getD m none = some (gsum cs m)
/-! ### promises -/
noncomputable def sCoinList0 (K : PySem.W.Frag) : Sp := fun vs H Q _ => match vs with
  | [.ref a] => ∃ cs, LI K H a cs ∧ Coins cs ∧ ∀ (p : Addr) (H' : Hp), Same H H' → H p = none → H' p = some (.lst ((asc cs).map V.int)) → Q (.ref p) H'
  | _ => False
/-- what is told of the greatest first -/
inductive Told (cs : List Int) (H H' : Hp) (T : Addr) : Prop
  | always (h0 : H T = none) (hT : H' T = some (.tup [.str "always", .int (bnd cs)])) (g : GoodTo cs (bnd cs).toNat)
  | fails (n : Nat) (P B : Addr) (bs : List Int) (h0 : H T = none) (hP0 : H P = none) (hB0 : H B = none) (nPB : P ≠ B) (hT : H' T = some (.tup [.str "fails", .int (n : Int), .ref P, .ref B])) (hP : H' P = some (.lst ((gRes cs (n : Int)).1.map V.int))) (hB : H' B = some (.lst (bs.map V.int)))
      (hn : (n : Int) < bnd cs) (g : GoodTo cs n) (hbad : ∀ fs, FewP cs fs → n < fs.length → ∃ k, fs.getD n none = some k ∧ k ≠ gsum cs n ∧ bs.sum = k) (hl : bs.length = cs.length) (hnn : ∀ x ∈ bs, 0 ≤ x) (hd : dot cs bs = (n : Int))
noncomputable def sAlw0 (K : PySem.W.Frag) : Sp := fun vs H Q _ => match vs with
  | [.ref a] => ∃ cs, LI K H a cs ∧ Coins cs ∧ 1 ∈ cs ∧ ∀ (T : Addr) (H' : Hp), Same H H' → Told cs H H' T → Q (.ref T) H'
  | _ => False
noncomputable def sDraws34 (K : PySem.W.Frag) : Sp := fun vs H Q _ => match vs with
  | [.ref a] => ∃ ns, LI K H a ns ∧ ns.length ≤ 63 ∧ ∀ (p : Addr) (ds : List Int) (H' : Hp), Same H H' → H p = none → H' p = some (.lst (ds.map V.int)) → 24 ≤ ds.length → ds.length ≤ 63 → (∀ d ∈ ds, 0 ≤ d) → Q (.ref p) H'
  | _ => False
noncomputable def sSome34 (K : PySem.W.Frag) : Sp := fun vs H Q _ => match vs with
  | [.ref a, .int st, .int most, .int far] => ∃ ds, LI K H a ds ∧ (0 ≤ st ∧ 0 ≤ most ∧ st + most ≤ ds.length ∧ most ≤ 30 ∧ st ≤ 1000) ∧ (1 ≤ far ∧ far ≤ 1000) ∧
    ∀ (p : Addr) (cs : List Int) (H' : Hp), Same H H' → H p = none → H' p = some (.lst (cs.map V.int)) → cs.length ≤ 30 → (∀ c ∈ cs, 1 ≤ c ∧ c ≤ 1000) → cs.Nodup → Q (.ref p) H'
  | _ => False
noncomputable def sDrawn34 (K : PySem.W.Frag) : Sp := fun vs H Q _ => match vs with
  | [.ref a] => ∃ ds, LI K H a ds ∧ (24 ≤ ds.length ∧ ds.length ≤ 63) ∧ (∀ d ∈ ds, 0 ≤ d) ∧ ∀ (p : Addr) (cs : List Int) (H' : Hp), Same H H' → H p = none → H' p = some (.lst (cs.map V.int)) → Coins cs → 1 ∈ cs → Q (.ref p) H'
  | _ => False
noncomputable def sNums34 (K : PySem.W.Frag) : Sp := fun vs H Q _ => match vs with
  | [.ref a, .int m] => ∃ cs, LI K H a cs ∧ Coins cs ∧ 1 ∈ cs ∧ (0 ≤ m ∧ m ≤ 4000) ∧
    ∀ (p : Addr) (ks : List Int) (H' : Hp), Same H H' → H p = none → H' p = some (.lst (ks.map V.int)) → FewP cs (ks.map some) → (ks.length : Int) = m + 1 → Q (.ref p) H'
  | _ => False
noncomputable def sGreatest34 (K : PySem.W.Frag) : Sp := fun vs H Q _ => match vs with
  | [.ref a, .int n] => ∃ cs, LI K H a cs ∧ Coins cs ∧ 0 ≤ n ∧ ∀ (p : Addr) (H' : Hp), Same H H' → H p = none → H' p = some (.lst ((gRes cs n).1.map V.int)) → Q (.ref p) H'
  | _ => False
noncomputable def sNumsIn (K : PySem.W.Frag) : Sp := fun vs H Q _ => match vs with
  | [.ref p, .int m] => ∃ ps : List Int, H p = some (.lst (ps.map V.int)) ∧ (ps.length : Int) = m ∧ ps.length ≤ 1000 ∧ (∀ x ∈ ps, 0 ≤ x) ∧ ∀ H', Same H H' → Q (.bl true) H'
  | _ => False
noncomputable def sGood34 (K : PySem.W.Frag) : Sp := fun vs H Q _ => match vs with
  | [.ref T, .ref a] => ∃ (cs : List Int) (H0 : Hp), LI K H a cs ∧ Coins cs ∧ 1 ∈ cs ∧ Told cs H0 H T ∧ ∀ H', Same H H' → Q (.bl true) H'
  | _ => False
end PG

set_option Elab.async false
set_option linter.all false
set_option maxRecDepth 100000
set_option maxHeartbeats 4000000
namespace L2
open PySem PySem.Spec PyProof.Rows
/-! ### range(a, b, -1) -/
theorem small_down {a b : Int} (h1 : -1000000000000 ≤ a) (h2 : a ≤ 1000000000000) (h3 : -1000000000000 ≤ b) (h4 : b ≤ 1000000000000) : Builtin.Range.small a b (-1) = true := by
  have q0 : 0 ≤ Builtin.Range.rangeSize a b (-1) ∧ Builtin.Range.rangeSize a b (-1) ≤ 2000000000001 := by
    unfold Builtin.Range.rangeSize
    rw [if_neg (by decide)]
    split
    · rw [show (-(-1) : Int) = 1 from rfl, Int.ediv_one]
      omega
    · omega
  unfold Builtin.Range.small
  have fits : ∀ x : Int, -4000000000000 ≤ x → x ≤ 4000000000000 → Builtin.Range.rangeFitsLong x = true := fun x l u => by
    unfold Builtin.Range.rangeFitsLong
    simp
    omega
  rw [fits a (by omega) (by omega), fits b (by omega) (by omega), fits (-1) (by omega) (by omega), fits _ (by omega) (by omega), if_neg (by decide), fits (b + (-1 + 1)) (by omega) (by omega)]
  simp
section
variable {X : Cx} {tg a b c : Expr} {t : TA} {p pos : Pos}
noncomputable def uiRngD (ta : TA) : TI := fun σ H R => ta σ H fun vs H1 => match vs with
  | [.int i, .int j, .int k] => ((-1000000000000 ≤ i ∧ i ≤ 1000000000000) ∧ (-1000000000000 ≤ j ∧ j ≤ 1000000000000) ∧ k = -1) ∧ R (Its i k (i - j).toNat) H1
  | _ => False
theorem ui_rangeD {ta : TA} (hm : X.mg "range" = none) (ha : PA X [a, b, c] ta) (hg : Gl X "range") (hn : notStar a = true) (hn2 : notStar b = true) (hn3 : notStar c = true) :
    PI X tg (.Call (.Name "range" p) [a, b, c] [] pos) (uiRngD ta) := by
  have hs3 : starEach [c] X.env = [(false, eval c X.env)] := by rw [se hn3, starEach]
  have hs2 : starEach [b, c] X.env = [(false, eval b X.env), (false, eval c X.env)] := by rw [se hn2, hs3]
  have hs : starEach [a, b, c] X.env = [(false, eval a X.env), (false, eval b X.env), (false, eval c X.env)] := by rw [se hn, hs2]
  intro pins s σ H R I h
  refine Call_ (ld_blt I hg hm boot_range (PyProof.Rows.callWith_type1 (thn (ha pos pins s σ H _ I h) fun us s1 ⟨vs, H1, I1, r1, q1⟩ => ?_) (by rw [hs, hs2]) (by rw [hs2]; rfl)))
  dsimp only at q1
  split at q1
  · rename_i i j k
    obtain ⟨⟨⟨q1, q2⟩, ⟨q3, q4⟩, rfl⟩, q⟩ := q1
    cases r1 with
    | cons r rr =>
      cases rr with
      | cons r' rr =>
        cases rr with
        | cons r'' rr =>
          cases rr
          obtain ⟨t1, rfl⟩ := r
          obtain ⟨t2, rfl⟩ := r'
          obtain ⟨t3, rfl⟩ := r''
          refine call_range_3 (by omega) ?_ (.inl (PyProof.noPylong_small (by omega)))
          refine wpAny_pyIter_range (IsRange.new ..) (small_down q1 q2 q3 q4) ?_
          have I2 : Inv X pins σ H1 { s1 with heap := s1.heap.push { cls := .type "range", data := .fields #[.int i t1, .int j t2, .int (-1) t3] } } := I1.kept (t' := s1.toks) fun b o e => Heap.get?_push_of_some _ e
          refine ⟨(s1.heap.push { cls := .type "range", data := .fields #[.int i t1, .int j t2, .int (-1) t3] }).objs.size, [(s1.heap.push { cls := .type "range", data := .fields #[.int i t1, .int j t2, .int (-1) t3] }).objs.size], _, _, H1, rfl,
            I2.kept (t' := s1.toks) fun b o e => Heap.get?_push_of_some _ e, turn_range3 _ i (-1) (i - j).toNat, ?_, fun b hb => ?_, q⟩
          · have e1 : i + ((0 : Nat) : Int) * (-1) = i := by simp
            have e2 : (((i - j).toNat : Nat) : Int) - ((0 : Nat) : Int) = Builtin.Range.rangeSize i j (-1) := by
              unfold Builtin.Range.rangeSize
              rw [if_neg (by decide)]
              split
              · rw [show (-(-1) : Int) = 1 from rfl, Int.ediv_one]
                omega
              · omega
            show IsRangeIter _ _ (i + ((0 : Nat) : Int) * (-1)) ((((i - j).toNat : Nat) : Int) - ((0 : Nat) : Int)) (-1)
            rw [e1, e2]
            exact Heap.get?_push_size _ rfl
          · have e : b = (s1.heap.push { cls := .type "range", data := .fields #[.int i t1, .int j t2, .int (-1) t3] }).objs.size := by simpa using hb
            subst e
            exact I2.fpOk (Nat.le_refl _) (I2.hok.fresh (Nat.le_refl _))
  · exact q1.elim
theorem q_rangeD (hm : X.mg "range" = none) (ha : QA X [a, b, c] t) (hg : Gl X "range" := by rfl) (hn : notStar a = true := by rfl) (hn2 : notStar b = true := by rfl) (hn3 : notStar c = true := by rfl) : QI X tg (.Call (.Name "range" p) [a, b, c] [] pos) (uiRngD t) := ⟨ui_rangeD hm ha.run hg hn hn2 hn3⟩
end
/-- pairs, the first list the shorter -/
theorem jp_zipS {K : PySem.W.Frag} {H : Hp} {a b : Addr} {xs ys : List V} (h1 : SqL K H a xs) (h2 : SqL K H b ys) (hl : xs.length ≤ ys.length) : JP (Itz K a b) H xs.length (fun i v H' => ∃ T x y, v = .ref T ∧ H' T = some (.tup [x, y]) ∧ xs[i]? = some x ∧ ys[i]? = some y) where
  go := fun i H' hi s => ⟨xs, ys, xs[i], ys[i], s.seq h1, s.seq h2, by simp [hi], by simp [show i < ys.length by omega]⟩
  yld := fun i H' v H'' hi s ⟨T, x, y, e, hT, eH, y1, y2⟩ => by
    subst eH
    exact ⟨Same.new hT, T, x, y, e, upd_same, y1 xs (s.seq h1), y2 ys (s.seq h2)⟩
  stop := fun H' s => ⟨xs, ys, s.seq h1, s.seq h2, .inl (Nat.le_refl _)⟩
theorem atI_end {α : Type} {xs : List α} {i : Nat} (h : xs.length = i + 1) : atI xs (-1) = xs[i]? := by
  have e : ixN xs.length (-1) = some i := by
    unfold ixN
    rw [if_neg (by decide), if_pos (by omega)]
    congr 1
    omega
  unfold atI
  rw [e]
  rfl
end L2
namespace PG
open PySem L2 PyProof.Rows
/-! ### what the first coins pay, each at most so often, and with how many -/
noncomputable def RC (cs ks : List Int) : Nat → Int → Int → Prop
  | 0, a, n => a = 0 ∧ n = 0
  | i + 1, a, n => ∃ o, 0 ≤ o ∧ o ≤ ks.getD i 0 ∧ RC cs ks i (a - cs.getD i 0 * o) (n - o)
/-- the same by bundles, each taken whole or not -/
noncomputable def RB (cs : List Int) (bs : List (Nat × Int)) : Nat → Int → Int → Prop
  | 0, a, n => a = 0 ∧ n = 0
  | j + 1, a, n => RB cs bs j a n ∨ RB cs bs j (a - cs.getD (bs.getD j (0, 0)).1 0 * (bs.getD j (0, 0)).2) (n - (bs.getD j (0, 0)).2)
noncomputable def psum (p : Nat) : List (Nat × Int) → Int
  | [] => 0
  | x :: r => (if x.1 = p then x.2 else 0) + psum p r
theorem psum_app (p : Nat) (x : Nat × Int) : ∀ bs, psum p (bs ++ [x]) = psum p bs + (if x.1 = p then x.2 else 0)
  | [] => by simp [psum]
  | y :: r => by
    have := psum_app p x r
    show (if y.1 = p then y.2 else 0) + psum p (r ++ [x]) = _
    rw [this]
    show _ = (if y.1 = p then y.2 else 0) + psum p r + _
    omega
theorem RB_app {cs : List Int} {bs : List (Nat × Int)} {x : Nat × Int} : ∀ {j : Nat} {a n : Int}, j ≤ bs.length → (RB cs (bs ++ [x]) j a n ↔ RB cs bs j a n)
  | 0, _, _, _ => Iff.rfl
  | j + 1, a, n, h => by
    have e : (bs ++ [x]).getD j (0, 0) = bs.getD j (0, 0) := by rw [List.getD_eq_getElem?_getD, List.getD_eq_getElem?_getD, List.getElem?_append_left (by omega)]
    show (_ ∨ _) ↔ (_ ∨ _)
    rw [e, RB_app (by omega), RB_app (by omega)]
theorem RB_mono {cs : List Int} {bs : List (Nat × Int)} {a n : Int} {j : Nat} (h : RB cs bs j a n) : ∀ k, RB cs bs (j + k) a n
  | 0 => h
  | k + 1 => .inl (RB_mono h k)
theorem getD_pos {cs : List Int} (hc : ∀ c ∈ cs, 1 ≤ c) (i : Nat) : 0 ≤ cs.getD i 0 := by
  by_cases h : i < cs.length
  · have := hc _ (List.mem_of_getElem? (getD_some h)); omega
  · rw [List.getD_eq_getElem?_getD, List.getElem?_eq_none (by omega)]; simp
theorem RC_nonneg {cs ks : List Int} (hc : ∀ c ∈ cs, 1 ≤ c) : ∀ {i : Nat} {a n : Int}, RC cs ks i a n → 0 ≤ a ∧ 0 ≤ n
  | 0, _, _, h => by obtain ⟨h1, h2⟩ := h; omega
  | i + 1, a, n, ⟨o, o0, _, h⟩ => by
    have := RC_nonneg hc h
    have := Int.mul_nonneg (getD_pos hc i) o0
    omega
theorem RC_le {cs ks : List Int} : ∀ {i : Nat} {a n : Int}, i ≤ ks.length → RC cs ks i a n → n ≤ (ks.take i).sum
  | 0, _, _, _, h => by obtain ⟨h1, h2⟩ := h; simp; omega
  | i + 1, a, n, hi, ⟨o, o0, ho, h⟩ => by
    have := RC_le (by omega) h
    have e : ks.take (i + 1) = ks.take i ++ [ks.getD i 0] := by rw [List.take_add_one, getD_some (by omega)]; rfl
    rw [e, List.sum_append, List.sum_cons, List.sum_nil]
    omega
/-- the least one, None where there is none -/
noncomputable def MinO (S : Int → Prop) : Option Int → Prop
  | none => ∀ n, ¬ S n
  | some m => S m ∧ ∀ n, S n → m ≤ n
noncomputable def MinU (S : Int → Prop) (t : Int) : Prop := (t = 4001 ∧ ∀ n, ¬ S n) ∨ (t ≤ 4000 ∧ S t ∧ ∀ n, S n → t ≤ n)
theorem MinO.uniq {S : Int → Prop} {o o' : Option Int} (h : MinO S o) (h' : MinO S o') : o = o' := by
  cases o with
  | none => cases o' with
    | none => rfl
    | some m => exact absurd h'.1 (h m)
  | some m => cases o' with
    | none => exact absurd h.1 (h' m)
    | some m' =>
      have h1 := h.2 m' h'.1
      have h2 := h'.2 m h.1
      rw [show m = m' by omega]
/-- a table of the program with one more bundle -/
noncomputable def wbAt (ts : List Int) (t w : Int) (a : Nat) : Int := if (a : Int) < w then ts.getD a 0 else if ts.getD (a - w.toNat) 0 + t < ts.getD a 0 then ts.getD (a - w.toNat) 0 + t else ts.getD a 0
theorem wb_step {cs : List Int} (hc : ∀ c ∈ cs, 1 ≤ c) {bs : List (Nat × Int)} {j m : Nat} {ts : List Int} (neg : ∀ a n, RB cs bs j a n → 0 ≤ a) (t0 : 1 ≤ (bs.getD j (0, 0)).2) (c0 : 1 ≤ cs.getD (bs.getD j (0, 0)).1 0)
    (hB : ∀ a n, RB cs bs (j + 1) a n → n ≤ 4000) (h : ∀ a : Nat, a ≤ m → MinU (RB cs bs j a) (ts.getD a 0)) :
    ∀ a : Nat, a ≤ m → MinU (RB cs bs (j + 1) a) (wbAt ts (bs.getD j (0, 0)).2 (cs.getD (bs.getD j (0, 0)).1 0 * (bs.getD j (0, 0)).2) a) := by
  intro a ha
  have h1 := h a ha
  unfold wbAt
  have hw0 : 1 ≤ cs.getD (bs.getD j (0, 0)).1 0 * (bs.getD j (0, 0)).2 := Int.mul_pos (by omega) (by omega)
  have hB' := hB (a : Int)
  have hRB : ∀ n, RB cs bs (j + 1) (a : Int) n ↔ (RB cs bs j (a : Int) n ∨ RB cs bs j ((a : Int) - cs.getD (bs.getD j (0, 0)).1 0 * (bs.getD j (0, 0)).2) (n - (bs.getD j (0, 0)).2)) := fun n => Iff.rfl
  suffices hs : MinU (fun n => RB cs bs j (a : Int) n ∨ RB cs bs j ((a : Int) - cs.getD (bs.getD j (0, 0)).1 0 * (bs.getD j (0, 0)).2) (n - (bs.getD j (0, 0)).2)) _ from hs
  replace hB' : ∀ n, (RB cs bs j (a : Int) n ∨ RB cs bs j ((a : Int) - cs.getD (bs.getD j (0, 0)).1 0 * (bs.getD j (0, 0)).2) (n - (bs.getD j (0, 0)).2)) → n ≤ 4000 := hB'
  clear hRB
  generalize (bs.getD j (0, 0)).2 = t at *
  generalize cs.getD (bs.getD j (0, 0)).1 0 * t = w at *
  split
  · rename_i hw
    have no : ∀ n, ¬ RB cs bs j ((a : Int) - w) n := fun n z => by have := neg _ _ z; omega
    rcases h1 with ⟨e, z⟩ | ⟨e, z1, z2⟩
    · exact .inl ⟨e, fun n q => q.elim (z n) (no _)⟩
    · exact .inr ⟨e, .inl z1, fun n q => q.elim (z2 n) fun y => absurd y (no _)⟩
  · rename_i hw
    have h2 := h (a - w.toNat) (by omega)
    have ea : ((a - w.toNat : Nat) : Int) = (a : Int) - w := by omega
    rw [ea] at h2
    generalize ts.getD (a - w.toNat) 0 = l at *
    generalize ts.getD a 0 = u at *
    split
    · rename_i hlt
      rcases h2 with ⟨e, z⟩ | ⟨e, z1, z2⟩
      · rcases h1 with ⟨e', _⟩ | ⟨e', _⟩ <;> omega
      · have z1' : RB cs bs j ((a : Int) - w) (l + t - t) := by rw [show l + t - t = l by omega]; exact z1
        refine .inr ⟨hB' _ (.inr z1'), .inr z1', fun n q => ?_⟩
        rcases q with q | q
        · rcases h1 with ⟨e', y⟩ | ⟨e', y1, y2⟩
          · exact absurd q (y n)
          · have := y2 n q; omega
        · have := z2 _ q; omega
    · rename_i hge
      rcases h1 with ⟨e', y⟩ | ⟨e', y1, y2⟩
      · refine .inl ⟨e', fun n q => q.elim (y n) fun q => ?_⟩
        rcases h2 with ⟨e, z⟩ | ⟨e, z1, z2⟩
        · exact z _ q
        · have z1' : RB cs bs j ((a : Int) - w) (l + t - t) := by rw [show l + t - t = l by omega]; exact z1
          have := hB' _ (.inr z1')
          omega
      · refine .inr ⟨e', .inl y1, fun n q => ?_⟩
        rcases q with q | q
        · exact y2 n q
        · rcases h2 with ⟨e, z⟩ | ⟨e, z1, z2⟩
          · exact absurd q (z _)
          · have := z2 _ q; omega
/-- bundles of counts -/
structure Bun (ks : List Int) (bs : List (Nat × Int)) : Prop where
  pl : ∀ x ∈ bs, x.1 < ks.length ∧ 1 ≤ x.2 ∧ x.2 ≤ 100
  ps : ∀ p, p < ks.length → psum p bs ≤ ks.getD p 0
  rb : ∀ cs a n, RB cs bs bs.length a n ↔ RC cs ks ks.length a n
  le : (bs.length : Int) ≤ ks.sum
/-- under way: the first i counts, and of the next one so many -/
structure BunI (ks : List Int) (i : Nat) (done : Int) (bs : List (Nat × Int)) : Prop where
  pl : ∀ x ∈ bs, x.1 < ks.length ∧ 1 ≤ x.2 ∧ x.2 ≤ 100
  ps : ∀ p, p < ks.length → psum p bs ≤ (if p < i then ks.getD p 0 else if p = i then done else 0)
  rb : ∀ cs a n, RB cs bs bs.length a n ↔ ∃ o, 0 ≤ o ∧ o ≤ done ∧ RC cs ks i (a - cs.getD i 0 * o) (n - o)
  le : (bs.length : Int) ≤ (ks.take i).sum + done
theorem BunI.start {ks : List Int} (h0 : ∀ k ∈ ks, 0 ≤ k) : BunI ks 0 0 [] where
  pl := by simp
  ps := fun p hp => by show (0 : Int) ≤ _; split <;> (try split) <;> omega
  rb := fun cs a n => by
    show (a = 0 ∧ n = 0) ↔ _
    constructor
    · rintro ⟨rfl, rfl⟩
      exact ⟨0, by omega, by omega, by simp, by omega⟩
    · rintro ⟨o, h1, h2, h3, h4⟩
      have : o = 0 := by omega
      subst this
      simp at h3 h4
      exact ⟨h3, h4⟩
  le := by simp
theorem BunI.more {ks : List Int} {i : Nat} {done t : Int} {bs : List (Nat × Int)} (h : BunI ks i done bs) (hi : i < ks.length) (d0 : 0 ≤ done) (t1 : 1 ≤ t) (t2 : t ≤ 100) (t3 : t ≤ done + 1) : BunI ks i (done + t) (bs ++ [(i, t)]) where
  pl := fun x hx => by
    rcases List.mem_append.mp hx with z | z
    · exact h.pl x z
    · rw [List.mem_singleton.mp z]; exact ⟨hi, t1, t2⟩
  ps := fun p hp => by
    have := h.ps p hp
    rw [psum_app]
    show _ + (if i = p then t else 0) ≤ _
    by_cases e : i = p
    · subst e
      rw [if_neg (Nat.lt_irrefl _), if_pos rfl] at this
      rw [if_pos rfl, if_neg (Nat.lt_irrefl _), if_pos rfl]
      omega
    · rw [if_neg e]
      rw [if_neg (fun z : p = i => e z.symm)] at this ⊢
      omega
  rb := fun cs a n => by
    rw [List.length_append, List.length_singleton]
    have e : (bs ++ [(i, t)]).getD bs.length (0, 0) = (i, t) := by rw [List.getD_eq_getElem?_getD, List.getElem?_append_right (by omega)]; simp
    show (_ ∨ _) ↔ _
    rw [e, RB_app (Nat.le_refl _), RB_app (Nat.le_refl _), h.rb, h.rb]
    show (_ ∨ ∃ o, 0 ≤ o ∧ o ≤ done ∧ RC cs ks i (a - cs.getD i 0 * t - cs.getD i 0 * o) (n - t - o)) ↔ _
    constructor
    · rintro (⟨o, o0, o1, r⟩ | ⟨o, o0, o1, r⟩)
      · exact ⟨o, o0, by omega, r⟩
      · refine ⟨o + t, by omega, by omega, ?_⟩
        rw [Int.mul_add, show a - (cs.getD i 0 * o + cs.getD i 0 * t) = a - cs.getD i 0 * t - cs.getD i 0 * o by omega, show n - (o + t) = n - t - o by omega]
        exact r
    · rintro ⟨o, o0, o1, r⟩
      by_cases z : o ≤ done
      · exact .inl ⟨o, o0, z, r⟩
      · refine .inr ⟨o - t, by omega, by omega, ?_⟩
        rw [Int.mul_sub, show a - cs.getD i 0 * t - (cs.getD i 0 * o - cs.getD i 0 * t) = a - cs.getD i 0 * o by omega, show n - t - (o - t) = n - o by omega]
        exact r
  le := by
    have := h.le
    rw [List.length_append, List.length_singleton]
    omega
theorem BunI.next {ks : List Int} {i : Nat} {bs : List (Nat × Int)} (hi : i < ks.length) (h : BunI ks i (ks.getD i 0) bs) (h0 : ∀ k ∈ ks, 0 ≤ k) : BunI ks (i + 1) 0 bs where
  pl := h.pl
  ps := fun p hp => by
    have := h.ps p hp
    by_cases e : p < i
    · rw [if_pos e] at this; rw [if_pos (by omega)]; exact this
    · rw [if_neg e] at this
      by_cases e2 : p = i
      · subst e2; rw [if_pos rfl] at this; rw [if_pos (by omega)]; exact this
      · rw [if_neg e2] at this
        rw [if_neg (by omega)]
        split <;> omega
  rb := fun cs a n => by
    rw [h.rb]
    constructor
    · intro r
      refine ⟨0, by omega, by omega, ?_⟩
      rw [Int.mul_zero, Int.sub_zero, Int.sub_zero]
      exact r
    · rintro ⟨o, o0, o1, r⟩
      have : o = 0 := by omega
      subst this
      rw [Int.mul_zero, Int.sub_zero, Int.sub_zero] at r
      exact r
  le := by
    have := h.le
    have e : ks.take (i + 1) = ks.take i ++ [ks.getD i 0] := by rw [List.take_add_one, getD_some (by omega)]; rfl
    rw [e, List.sum_append, List.sum_cons, List.sum_nil]
    omega
theorem BunI.whole {ks : List Int} {bs : List (Nat × Int)} (h : BunI ks ks.length 0 bs) : Bun ks bs where
  pl := h.pl
  ps := fun p hp => by have := h.ps p hp; rw [if_pos hp] at this; exact this
  rb := fun cs a n => by
    rw [h.rb]
    constructor
    · rintro ⟨o, o0, o1, r⟩
      have : o = 0 := by omega
      subst this
      rw [Int.mul_zero, Int.sub_zero, Int.sub_zero] at r
      exact r
    · intro r
      refine ⟨0, by omega, by omega, ?_⟩
      rw [Int.mul_zero, Int.sub_zero, Int.sub_zero]
      exact r
  le := by have := h.le; rw [List.take_length] at this; omega
theorem sum_le {ks : List Int} {m : Int} (h : ∀ k ∈ ks, k ≤ m) : ks.sum ≤ ks.length * m := by
  induction ks with
  | nil => simp
  | cons k r ih =>
    have := h k List.mem_cons_self
    have := ih fun x hx => h x (List.mem_cons_of_mem _ hx)
    rw [List.sum_cons, List.length_cons]
    rw [show ((r.length + 1 : Nat) : Int) * m = (r.length : Int) * m + m by rw [Int.natCast_add, Int.add_mul]; simp]
    omega
theorem Bun.top {cs ks : List Int} {bs : List (Nat × Int)} (h : Bun ks bs) (kl : ks.length ≤ 40) (kr : ∀ k ∈ ks, 0 ≤ k ∧ k ≤ 100) {j : Nat} (hj : j ≤ bs.length) {a n : Int} (r : RB cs bs j a n) : n ≤ 4000 := by
  have r2 := RB_mono r (bs.length - j)
  rw [show j + (bs.length - j) = bs.length by omega] at r2
  have := RC_le (Nat.le_refl _) ((h.rb cs a n).mp r2)
  rw [List.take_length] at this
  have := sum_le (m := 100) fun k hk => (kr k hk).2
  have : (ks.length : Int) * 100 ≤ 40 * 100 := by omega
  omega
theorem Bun.neg {cs ks : List Int} (hc : ∀ c ∈ cs, 1 ≤ c) {bs : List (Nat × Int)} (h : Bun ks bs) {j : Nat} (hj : j ≤ bs.length) {a n : Int} (r : RB cs bs j a n) : 0 ≤ a := by
  have r2 := RB_mono r (bs.length - j)
  rw [show j + (bs.length - j) = bs.length by omega] at r2
  exact (RC_nonneg hc ((h.rb cs a n).mp r2)).1
/-- a list of bundles in the heap -/
noncomputable def BunAt (H : Hp) (b : Addr) (bs : List (Nat × Int)) : Prop := ∃ ts : List Addr, H b = some (.lst (ts.map V.ref)) ∧ ts.length = bs.length ∧ ∀ (j : Nat) T x, ts[j]? = some T → bs[j]? = some x → H T = some (.tup [.int ((x : Nat × Int).1 : Nat), .int x.2])
theorem BunAt.same {H H' : Hp} {b : Addr} {bs : List (Nat × Int)} (h : BunAt H b bs) (s : Same H H') : BunAt H' b bs := by
  obtain ⟨ts, h1, h2, h3⟩ := h
  exact ⟨ts, s _ _ h1, h2, fun j T x e1 e2 => s _ _ (h3 j T x e1 e2)⟩
/-- the tables in the heap -/
noncomputable def TabAt (cs : List Int) (bs : List (Nat × Int)) (m : Nat) (H : Hp) (T : Addr) (j : Nat) : Prop := ∃ ts : List Int, H T = some (.lst (ts.map V.int)) ∧ ts.length = m + 1 ∧ ∀ a : Nat, a ≤ m → MinU (RB cs bs j a) (ts.getD a 0)
theorem TabAt.same {cs : List Int} {bs : List (Nat × Int)} {m j : Nat} {H H' : Hp} {T : Addr} (h : TabAt cs bs m H T j) (s : Same H H') : TabAt cs bs m H' T j := by
  obtain ⟨ts, h1, h2, h3⟩ := h
  exact ⟨ts, s _ _ h1, h2, h3⟩
theorem BunAt.push {H : Hp} {p T : Addr} {bs : List (Nat × Int)} {x : Nat × Int} {ts : List Addr} (h1 : H p = some (.lst (ts.map V.ref))) (h2 : ts.length = bs.length) (h3 : ∀ (j : Nat) T x, ts[j]? = some T → bs[j]? = some x → H T = some (.tup [.int ((x : Nat × Int).1 : Nat), .int x.2])) (hT : H T = none) :
    BunAt (upd (upd H T (.tup [.int (x.1 : Nat), .int x.2])) p (.lst (ts.map V.ref ++ [.ref T]))) p (bs ++ [x]) := by
  have nT : T ≠ p := by intro z; subst z; rw [h1] at hT; cases hT
  refine ⟨ts ++ [T], by rw [upd_same, List.map_append]; rfl, by simp [h2], fun j T' x' e1 e2 => ?_⟩
  by_cases hj : j < ts.length
  · rw [List.getElem?_append_left hj] at e1
    rw [List.getElem?_append_left (by omega)] at e2
    have := h3 j T' x' e1 e2
    rw [upd_ne (by intro z; subst z; rw [h1] at this; cases this), upd_ne (by intro z; subst z; rw [this] at hT; cases hT)]
    exact this
  · rw [List.getElem?_append_right (by omega)] at e1
    rw [List.getElem?_append_right (by omega)] at e2
    have j0 : j - ts.length = 0 := by
      rcases Nat.eq_zero_or_pos (j - ts.length) with z | z
      · exact z
      · rw [List.getElem?_eq_none (by simp; omega)] at e1; cases e1
    rw [j0] at e1
    rw [show j - bs.length = 0 by omega] at e2
    cases e1
    cases e2
    rw [upd_ne nT, upd_same]
/-! ### the law's own numbers -/
noncomputable def RO (cs ks : List Int) (i : Nat) (c A O n : Int) : Prop := ∃ o, 0 ≤ o ∧ o < O ∧ RC cs ks i (A - c * o) (n - o)
noncomputable def minUp (o b : Option Int) (O : Int) : Option Int := match b with
  | none => o
  | some x => match o with
    | none => some (x + O)
    | some y => if x + O < y then some (x + O) else some y
theorem getD_set {α : Type} (xs : List α) (i j : Nat) (x d : α) (h : i < xs.length) : (xs.set i x).getD j d = if j = i then x else xs.getD j d := by
  rw [List.getD_eq_getElem?_getD, List.getElem?_set, List.getD_eq_getElem?_getD]
  by_cases e : i = j
  · subst e; rw [if_pos rfl, if_pos h, if_pos rfl]; rfl
  · rw [if_neg e, if_neg (fun z => e z.symm)]
/-- the paying on the way back -/
theorem back_take {cs : List Int} {bs : List (Nat × Int)} {r : Nat} {left j u v : Int} (h1 : RB cs bs (r + 1) left j) (h2 : ∀ m, RB cs bs (r + 1) left m → j ≤ m) (hu : MinU (RB cs bs (r + 1) left) u) (hv : MinU (RB cs bs r left) v) :
    u = j ∧ (u < v → RB cs bs r (left - cs.getD (bs.getD r (0, 0)).1 0 * (bs.getD r (0, 0)).2) (j - (bs.getD r (0, 0)).2) ∧ ∀ m, RB cs bs r (left - cs.getD (bs.getD r (0, 0)).1 0 * (bs.getD r (0, 0)).2) m → j - (bs.getD r (0, 0)).2 ≤ m) ∧
    (¬ u < v → RB cs bs r left j ∧ ∀ m, RB cs bs r left m → j ≤ m) := by
  have eu : u = j := by
    rcases hu with ⟨_, z⟩ | ⟨_, z1, z2⟩
    · exact absurd h1 (z _)
    · have := z2 _ h1; have := h2 _ z1; omega
  refine ⟨eu, fun lt => ?_, fun ge => ?_⟩
  · refine ⟨?_, fun m hm => ?_⟩
    · rcases h1 with z | z
      · exfalso
        rcases hv with ⟨_, y⟩ | ⟨_, _, y⟩
        · exact y _ z
        · have := y _ z; omega
      · exact z
    · have := h2 (m + (bs.getD r (0, 0)).2) (.inr (by rw [show m + (bs.getD r (0, 0)).2 - (bs.getD r (0, 0)).2 = m by omega]; exact hm))
      omega
  · refine ⟨?_, fun m hm => h2 m (.inl hm)⟩
    rcases hv with ⟨y1, y2⟩ | ⟨y1, y2, y3⟩
    · rcases hu with ⟨z1, z2⟩ | ⟨z1, _⟩
      · exact absurd h1 (z2 _)
      · omega
    · have := h2 _ (.inl y2)
      rw [show j = v by omega]
      exact y2
/-! ### promises -/
noncomputable def sCheckP0 (K : PySem.W.Frag) : Sp := fun vs H Q _ => match vs with
  | [.ref a, .ref b] => ∃ ns ms, LI K H a ns ∧ LI K H b ms ∧ ns.length = ms.length ∧ ms.length ≤ 1000 ∧ (∀ m ∈ ms, 0 ≤ m) ∧ ∀ H', Same H H' → Q .non H'
  | _ => False
noncomputable def sCounts0 (K : PySem.W.Frag) : Sp := fun vs H Q _ => match vs with
  | [.ref a, .ref b] => ∃ ns ms, LI K H a ns ∧ LI K H b ms ∧ ns.length = ms.length ∧ (1 ≤ ms.length ∧ ms.length ≤ 1000) ∧ (∀ m ∈ ms, 0 ≤ m ∧ m ≤ 100) ∧ ∀ H', Same H H' → Q .non H'
  | _ => False
noncomputable def sBunOf (K : PySem.W.Frag) : Sp := fun vs H Q _ => match vs with
  | [.ref a] => ∃ ks, LI K H a ks ∧ ks.length ≤ 40 ∧ (∀ k ∈ ks, 0 ≤ k ∧ k ≤ 100) ∧ ∀ (p : Addr) (bs : List (Nat × Int)) (H' : Hp), Same H H' → H p = none → BunAt H' p bs → Bun ks bs → Q (.ref p) H'
  | _ => False
noncomputable def sWithB (K : PySem.W.Frag) : Sp := fun vs H Q _ => match vs with
  | [.ref a, .int t, .int w] => ∃ ts, LI K H a ts ∧ ts.length ≤ 100000 ∧ 1 ≤ w ∧ ∀ (p : Addr) (us : List Int) (H' : Hp), Same H H' → H p = none → H' p = some (.lst (us.map V.int)) → us.length = ts.length → (∀ a : Nat, a < ts.length → us.getD a 0 = wbAt ts t w a) → Q (.ref p) H'
  | _ => False
noncomputable def sTables (K : PySem.W.Frag) : Sp := fun vs H Q _ => match vs with
  | [.ref a, .ref b, .int n] => ∃ cs ks bs, LI K H a cs ∧ BunAt H b bs ∧ Bun ks bs ∧ (∀ c ∈ cs, 1 ≤ c ∧ c ≤ 1000) ∧ ks.length = cs.length ∧ ks.length ≤ 40 ∧ (∀ k ∈ ks, 0 ≤ k ∧ k ≤ 100) ∧ (0 ≤ n ∧ n ≤ 2000) ∧
    ∀ (p : Addr) (rs : List Addr) (H' : Hp), Same H H' → H p = none → H' p = some (.lst (rs.map V.ref)) → rs.length = bs.length + 1 → (∀ (j : Nat) T, rs[j]? = some T → TabAt cs bs n.toNat H' T j) → Q (.ref p) H'
  | _ => False
noncomputable def HeldAns (cs ks : List Int) (n : Int) (H : Hp) (Q : VK) : Prop :=
  ((∀ k, ¬ RC cs ks cs.length n k) → ∀ H', Same H H' → Q .non H') ∧
  (∀ k, RC cs ks cs.length n k → (∀ m, RC cs ks cs.length n m → k ≤ m) → ∀ (p : Addr) (ps : List Int) (H' : Hp), Same H H' → H p = none → H' p = some (.lst (ps.map V.int)) → ps.length = cs.length → (∀ i, i < ps.length → 0 ≤ ps.getD i 0 ∧ ps.getD i 0 ≤ ks.getD i 0) → dot cs ps = n → ps.sum = k → Q (.ref p) H')
noncomputable def sHeldP (K : PySem.W.Frag) : Sp := fun vs H Q _ => match vs with
  | [.ref a, .ref b, .int n] => ∃ cs ks, LI K H a cs ∧ LI K H b ks ∧ ((∀ c ∈ cs, 1 ≤ c ∧ c ≤ 1000) ∧ ks.length = cs.length ∧ ks.length ≤ 40) ∧ (∀ k ∈ ks, 0 ≤ k ∧ k ≤ 100) ∧ (0 ≤ n ∧ n ≤ 2000) ∧ HeldAns cs ks n H Q
  | _ => False
noncomputable def sHeld (K : PySem.W.Frag) : Sp := fun vs H Q _ => match vs with
  | [.ref a, .ref b, .int n] => ∃ cs ks, LI K H a cs ∧ LI K H b ks ∧ Coins cs ∧ ks.length = cs.length ∧ (∀ k ∈ ks, 0 ≤ k ∧ k ≤ 100) ∧ (0 ≤ n ∧ n ≤ 2000) ∧ HeldAns cs ks n H Q
  | _ => False
/-- the law's numbers -/
noncomputable def sNums71 (K : PySem.W.Frag) : Sp := fun vs H Q _ => match vs with
  | [.ref a, .ref b, .int m] => ∃ cs ks, LI K H a cs ∧ LI K H b ks ∧ ((∀ c ∈ cs, 1 ≤ c ∧ c ≤ 1000) ∧ ks.length = cs.length ∧ ks.length ≤ 1000) ∧ (∀ k ∈ ks, 0 ≤ k ∧ k ≤ 100) ∧ (0 ≤ m ∧ m ≤ 2000) ∧
    ∀ (p : Addr) (fs : List (Option Int)) (H' : Hp), Same H H' → H p = none → H' p = some (.lst (fs.map toV)) → (fs.length : Int) = m + 1 → (∀ a : Nat, a < fs.length → MinO (RC cs ks cs.length a) (fs.getD a none)) → Q (.ref p) H'
  | _ => False
noncomputable def sGood71 (K : PySem.W.Frag) : Sp := fun vs H Q _ => match vs with
  | [.ref f, .ref a, .ref b, .int n, .int k] => ∃ cs ks ps, H f = some (.lst (ps.map V.int)) ∧ LI K H a cs ∧ LI K H b ks ∧ (ps.length = cs.length ∧ ks.length = cs.length ∧ cs.length ≤ 1000) ∧ (∀ c ∈ cs, 1 ≤ c ∧ c ≤ 1000) ∧ (∀ i, i < ps.length → 0 ≤ ps.getD i 0 ∧ ps.getD i 0 ≤ ks.getD i 0) ∧ dot cs ps = n ∧ ps.sum = k ∧
    ∀ H', Same H H' → Q (.bl true) H'
  | _ => False
noncomputable def sAmounts71 (K : PySem.W.Frag) : Sp := fun vs H Q _ => match vs with
  | [.ref s, .ref a, .ref b, .int first] => ∃ ns cs ks, LI K H s ns ∧ ns.length ≤ 63 ∧ LI K H a cs ∧ LI K H b ks ∧ (ks.length = cs.length ∧ 1 ≤ cs.length ∧ cs.length ≤ 1000) ∧ (∀ c ∈ cs, 1 ≤ c ∧ c ≤ 1000) ∧ (∀ k ∈ ks, 0 ≤ k ∧ k ≤ 100) ∧ 0 ≤ first ∧
    ∀ (p : Addr) (ms : List Int) (H' : Hp), Same H H' → H p = none → H' p = some (.lst (ms.map V.int)) → (1 ≤ ms.length ∧ ms.length ≤ 10) → (∀ m ∈ ms, 0 ≤ m ∧ m ≤ 2000) → Q (.ref p) H'
  | _ => False
end PG

set_option Elab.async false
set_option linter.all false
set_option maxRecDepth 100000
set_option maxHeartbeats 4000000
namespace L2
open PySem PySem.Spec PyProof.Rows
/-! ### list.count, list.index of truths -/
section
variable {X : Cx}
noncomputable def isBlK (k : Bool) : Value → Bool
  | .bool b => b == k
  | _ => false
noncomputable def uCountB (K : PySem.W.Frag) : V → List V → Hp → VK → Prop := fun x vs H Q => match x, vs with
  | .ref l, [.bl k] => ∃ bs : List Bool, SqL K H l (bs.map V.bl) ∧ Q (.int (bs.countP (· == k) : Nat)) H
  | _, _ => False
noncomputable def uIndexB (K : PySem.W.Frag) : V → List V → Hp → VK → Prop := fun x vs H Q => match x, vs with
  | .ref l, [.bl k] => ∃ bs : List Bool, SqL K H l (bs.map V.bl) ∧ k ∈ bs ∧ Q (.int (bs.idxOf k : Nat)) H
  | _, _ => False
end
end L2
namespace PG
open PySem L2 PyProof.Rows
/-! ### what is due -/
noncomputable def code36 (w : Int) (x : V) (one : Bool) : Nat := if w = 3 then (if one = true then 0 else 4) else match x with
  | .int m => if w = 0 ∧ m < 0 then 2 else if w < 2 ∧ 2000 < m then 3 else 0
  | _ => 2
noncomputable def word36 : Nat → Str
  | 0 => "taken"
  | 1 => "coins"
  | 2 => "sum"
  | 3 => "many"
  | _ => "one"
noncomputable def Fin36 (c1 c2 c3 c4 : Addr) (Q : VK) (E : XK) : Nat → V → Hp → Prop
  | 0, v, H => Q v H
  | 1, _, H => E (.ref c1) none H
  | 2, _, H => E (.ref c2) none H
  | 3, _, H => E (.ref c3) none H
  | _, _, H => E (.ref c4) none H
noncomputable def Ans36 (c1 c2 c3 c4 : Addr) (w : Int) (xs : List V) (x : V) (H : Hp) (Q : VK) (E : XK) : Prop :=
  (¬ CoinsV xs → ∀ H', Same H H' → E (.ref c1) none H') ∧ ∀ cs : List Int, xs = cs.map V.int → Coins cs → ∀ v H', Same H H' → Fin36 c1 c2 c3 c4 Q E (code36 w x (decide (1 ∈ cs))) v H'
noncomputable def sSumX36 (c : Addr) : Sp := fun vs H Q E => match vs with
  | [x] => Kn H x ∧ (∀ n : Int, x = .int n → Q .non H) ∧ (isNumV x = false → E (.ref c) none H)
  | _ => False
noncomputable def sFromX36 (c : Addr) : Sp := fun vs H Q E => match vs with
  | [.int l, x] => (l = 0 ∨ l = 1) ∧ Kn H x ∧ (∀ n : Int, x = .int n → l ≤ n → Q .non H) ∧ ((¬ ∃ n : Int, x = .int n ∧ l ≤ n) → E (.ref c) none H)
  | _ => False
noncomputable def sListedX (c : Addr) : Sp := fun vs H Q E => match vs with
  | [.int n] => (n ≤ 2000 → Q .non H) ∧ (2000 < n → E (.ref c) none H)
  | _ => False
noncomputable def sF36 (K : PySem.W.Frag) (w : Int) (c1 c2 c3 c4 : Addr) : Sp := fun vs H Q E => match vs with
  | [.ref a, x] => ∃ xs, SqL K H a xs ∧ (∀ x ∈ xs, Kn H x) ∧ Kn H x ∧ Ans36 c1 c2 c3 c4 w xs x H Q E
  | _ => False
noncomputable def sAlw36 (K : PySem.W.Frag) (c1 c2 c3 c4 : Addr) : Sp := fun vs H Q E => match vs with
  | [.ref a] => ∃ xs x, SqL K H a xs ∧ (∀ x ∈ xs, Kn H x) ∧ Ans36 c1 c2 c3 c4 3 xs x H Q E
  | _ => False
noncomputable def sAsk36 (K : PySem.W.Frag) (c1 c2 c3 c4 : Addr) : Sp := fun vs H Q E => match vs with
  | [.int w, .ref a, x] => ∃ xs, (0 ≤ w ∧ w ≤ 3) ∧ SqL K H a xs ∧ (∀ x ∈ xs, Kn H x) ∧ Kn H x ∧ Ans36 c1 c2 c3 c4 w xs x H Q E
  | _ => False
noncomputable def sWord36 (K : PySem.W.Frag) : Sp := fun vs H Q _ => match vs with
  | [.int w, .ref a, x] => ∃ xs, (0 ≤ w ∧ w ≤ 3) ∧ SqL K H a xs ∧ (∀ x ∈ xs, Kn H x) ∧ Kn H x ∧ (¬ CoinsV xs → ∀ H', Same H H' → Q (.str "coins") H') ∧ ∀ cs : List Int, xs = cs.map V.int → Coins cs → ∀ H', Same H H' → Q (.str (word36 (code36 w x (decide (1 ∈ cs))))) H'
  | _ => False
noncomputable def sAmt36 : Sp := fun vs H Q _ => match vs with
  | [.int n] => 0 ≤ n ∧ ∀ v H', Same H H' → Kn H' v → (∀ b, v = .ref b → H b = none) → Q v H'
  | _ => False
noncomputable def sDue36 : Sp := fun vs H Q _ => match vs with
  | [.int w, x, .bl one] => (0 ≤ w ∧ w ≤ 3) ∧ Kn H x ∧ ∀ H', Same H H' → Q (.str (word36 (code36 w x one))) H'
  | _ => False
end PG

set_option Elab.async false
set_option linter.all false
set_option maxRecDepth 100000
set_option maxHeartbeats 4000000
/-! own classes: fields, methods, what is made; and a try whose body sets a name -/
namespace L2
open PySem PySem.Spec PyProof.Rows
structure GM (P : Program) (w : World) (K : PySem.W.Frag) (mg : Str → Option Value) (base : Heap) (CX : CXT) (C : Addr) (m : Str) (ps : List Str) (k : Nat) (sp : Sp) : Prop where
  cl : Cls K C
  ex : ∃ f fd, Meth K C m f ∧ Binds K fd ps [] ∧ FnOk P w K mg base CX k f fd ps sp
structure GC (P : Program) (w : World) (K : PySem.W.Frag) (mg : Str → Option Value) (base : Heap) (CX : CXT) (C : Addr) (x : Str) (ps : List Str) (k : Nat) (sp : Sp) : Prop where
  ex : ∃ f fd, Mk K C f ∧ mg x = some (.ref C) ∧ Binds K fd ps [] ∧ FnOk P w K mg base CX k f fd ps sp
section
variable {X : Cx} {CX : CXT} {K : PySem.W.Frag} {C : Addr} {m x : Str} {ps : List Str} {k : Nat} {sp : Sp} {E : XK} {o e value : Expr} {es : List Expr} {f : Str} {pos pos' apos p : Pos} {ta tv te : TE} {t : TA}
theorem q_fld (h : QE X e te) (hb : attributeBase e f X.env (eval e X.env) = eval e X.env := by rfl) (hK : X.K = K := by rfl) : QE X (.Attribute e f pos) (tFld K te f) := by subst hK; exact ⟨pe_fld h.run hb⟩
theorem q_sfld (ho : QE X o ta) (hv : QE X value tv) (hs : swapsWith value (some (.Attribute o f pos')) pos.line X.env = pure false := by rfl) (hK : X.K = K := by rfl) : QS X (.Assign [.Attribute o f pos'] value pos) (sFld K ta tv f) := by subst hK; exact ⟨ps_fld ho.run hv.run hs⟩
theorem q_meth {pl : Sem Bool} (g : GM X.prog X.w X.K X.mg X.base CX C m ps k sp) (hr : Room k X.A) (hx : Passes CX X E) (ho : QE X o ta) (ha : QA X (e :: es) t) (hs : (e :: es).all notStar = true := by rfl)
    (ht : eval (.Call (.Attribute o m apos) (e :: es) [] pos) X.env = (do
      let ov ← eval o X.env
      standAt apos.atName
      let (f, first) ← holding [ov] (getMethod ov m pl)
      callWith pos f first (backTo pos (starEach (e :: es) X.env)) (backToKw pos (keywordEach [] X.env))) := by rfl) : QE X (.Call (.Attribute o m apos) (e :: es) [] pos) (tMeth C m sp [] E ta t) := by
  obtain ⟨f, fd, hm, hb, F⟩ := g.ex
  exact ⟨pe_meth (pl := pl) ho.run g.cl hm F hr hb .nil hx ha.run (se (seHd hs).1) (seAny (seHd hs).2) ht⟩
theorem q_meth0 {pl : Sem Bool} (g : GM X.prog X.w X.K X.mg X.base CX C m ps k sp) (hr : Room k X.A) (hx : Passes CX X E) (ho : QE X o ta)
    (ht : eval (.Call (.Attribute o m apos) [] [] pos) X.env = (do
      let ov ← eval o X.env
      standAt apos.atName
      let (f, first) ← holding [ov] (getMethod ov m pl)
      callWith pos f first (backTo pos (starEach [] X.env)) (backToKw pos (keywordEach [] X.env))) := by rfl) : QE X (.Call (.Attribute o m apos) [] [] pos) (tMeth C m sp [] E ta tNil) := by
  obtain ⟨f, fd, hm, hb, F⟩ := g.ex
  exact ⟨pe_meth0 (pl := pl) ho.run g.cl hm F hr hb .nil hx ht⟩
theorem q_make (g : GC X.prog X.w X.K X.mg X.base CX C x ps k sp) (hr : Room (k + 1) X.A) (hx : Passes CX X E) (ha : QA X (e :: es) t) (hg : Gl X x := by rfl) (hdb : (x == ("__debug__" : Str)) = false := by decide) (hs : (e :: es).all notStar = true := by rfl) :
    QE X (.Call (.Name x p) (e :: es) [] pos) (tMake C sp [] E t) := by
  obtain ⟨f, fd, M, hm, hb, F⟩ := g.ex
  exact ⟨pe_make M F hr hg hm hb .nil hx ha.run hdb (se (seHd hs).1) (seAny (seHd hs).2)⟩
/-- o.m(..) that may raise, in a try -/
theorem q_xmeth {pl : Sem Bool} (g : GM X.prog X.w X.K X.mg X.base (CX1 X.prog X.w) C m ps k sp) (hr : Room k X.A) (ho : QE X.nox o ta) (ha : QA X.nox (e :: es) t) (hs : (e :: es).all notStar = true := by rfl)
    (ht : eval (.Call (.Attribute o m apos) (e :: es) [] pos) X.env = (do
      let ov ← eval o X.env
      standAt apos.atName
      let (f, first) ← holding [ov] (getMethod ov m pl)
      callWith pos f first (backTo pos (starEach (e :: es) X.env)) (backToKw pos (keywordEach [] X.env))) := by rfl) :
    QEX X (.Call (.Attribute o m apos) (e :: es) [] pos) (fun σ H Q E => ta σ H fun x H1 => ∃ a dx fs, x = .ref a ∧ H1 a = some (.ins C dx fs) ∧ fs.lookup m = none ∧ t σ H1 fun vs H2 => sp (x :: (vs ++ [])) H2 Q E) := by
  obtain ⟨f, fd, hm, hb, F⟩ := g.ex
  refine ⟨fun pins s σ H Q E I h => ?_⟩
  refine PySem.W.methodCall_KW (pl := pl) (wpAny_mono (ho.run pins s σ H _ (I.wish _) h) (fun u s1 hq => ?_) fun _ _ z => z.elim) ht
  obtain ⟨x, H1, I1, rx, a, dx, fs, ex, ea, l, q⟩ := hq
  have I1 := I1.unwish
  subst ex
  obtain rfl : u = Value.ref a := rx
  refine getmeth_ok I1 ea g.cl hm l ?_
  refine PySem.W.callWith_K (first := [.ref a]) (h₀ := X.base) I.ok.mod.kin hm.kp (wpAny_mono (ha.run pos pins s1 σ H1 _ (I1.wish _) q) (fun us s2 hq => ?_) fun _ _ z => z.elim) (se (seHd hs).1) (seAny (seHd hs).2)
  obtain ⟨vs, H2, I2, r, q2⟩ := hq
  have I2 := I2.unwish
  refine ⟨I2.kIn, ?_⟩
  have r2 : Vals (V.ref a :: (vs ++ [])) (Value.ref a :: us ++ []) := .cons rfl (r.append .nil)
  have hl : (Value.ref a :: us ++ []).length = ps.length := by rw [← r2.length]; exact F.len _ _ _ _ q2
  refine wpAny_call (codeAny_mono (F.run X.A X.stack s2 H2 ⟨Value.ref a :: us, []⟩ (Value.ref a :: us ++ []) (V.ref a :: (vs ++ [])) Q E hr I2.env0 (hb s2 (Value.ref a :: us) I2.kIn hl) r2 q2) fun r s' hq => ?_)
  cases r with
  | error e => exact ⟨H2, s2, I2, hq⟩
  | ok fl =>
    cases fl with
    | ret u => exact I2.after hq
    | next => exact False.elim hq
    | brk => exact False.elim hq
    | cont => exact False.elim hq
theorem q_xset {i : Nat} {y : Str} {tx : TEX} (hN : X.N.Nodup) (hi : X.N[i]? = some y) (hx : Loc X.env.scope y) (h : QEX X e tx) (hs : swapsWith e (some (.Name y pos')) pos.line X.env = pure false := by rfl) (hf : X.fn y = true ∨ X.env.scope.names.lookup y = some .local := by first | exact .inl rfl | exact .inr rfl | assumption) :
    QSX X [.Assign [.Name y pos'] e pos] (fun D E σ H => tx σ H (fun v H1 => D.nx (σ.set i (some v)) H1) E) := by
  refine ⟨fun pins s σ H D E I hw => ?_⟩
  refine wpAny_execs_cons (thn (Q := SP X pins D) (wpAny_Assign_Name (thn (h.run pins s σ H (fun v H1 => D.nx (σ.set i (some v)) H1) E I hw) fun v s1 ⟨z, H1, I1, r1, q1⟩ => ?_) hs) fun f s1 q => ?_)
  · exact store_ok I1 hN hi hx r1 (fun s2 I2 => (show SP X pins D .next s2 from ⟨_, H1, I2, q1⟩)) hf
  · cases f with
    | next => exact wpAny_execs_nil q
    | ret v => exact q
    | brk => exact q
    | cont => exact q
end
end L2

set_option Elab.async false
set_option linter.all false
set_option maxRecDepth 100000
set_option maxHeartbeats 4000000
namespace L2
open PySem PySem.Spec PyProof.Rows
/-! ### try: .. except C: .. [except C2: ..], without a name -/
noncomputable def tTry1 (K : PySem.W.Frag) (C1 : Addr) (tx : TSX) (th1 : TS) : TS := fun D σ H =>
  tx D (fun cls _ H' => ∃ Ce, cls = .ref Ce ∧ PySem.W.exmOne K (.ref Ce) (.ref C1) = some true ∧ ∀ ea, H' ea = none → th1 D σ (upd H' ea (excO ea Ce))) σ H
noncomputable def tTry2 (K : PySem.W.Frag) (C1 C2 : Addr) (tx : TSX) (th1 th2 : TS) : TS := fun D σ H =>
  tx D (fun cls _ H' => ∃ Ce, cls = .ref Ce ∧ ((PySem.W.exmOne K (.ref Ce) (.ref C1) = some true ∧ ∀ ea, H' ea = none → th1 D σ (upd H' ea (excO ea Ce))) ∨
    (PySem.W.exmOne K (.ref Ce) (.ref C1) = some false ∧ PySem.W.exmOne K (.ref Ce) (.ref C2) = some true ∧ ∀ ea, H' ea = none → th2 D σ (upd H' ea (excO ea Ce))))) σ H
theorem ps_try1 {X : Cx} {x1 : Str} {C1 : Addr} {tx : TSX} {th1 : TS} {body su1 : List Stmt} {b1 : Stmt} {np hpos pos : Pos} (hst : X.stack = X.env :: X.outer) (hfr : X.env.frame = some X.env.locals)
    (hm1 : X.mg x1 = some (.ref C1)) (hb : PSX (CX1 X.prog X.w) X body tx) (hh1 : ∀ v, PSs (X.marked v).nox (b1 :: su1) th1)
    (hxe : X.ex = [] := by rfl) (hg1 : Gl X x1 := by rfl) (hd1 : (x1 == ("__debug__" : Str)) = false := by decide) :
    PS X (.Try body [.ExceptHandler (some (.Name x1 np)) none (b1 :: su1) hpos] [] [] pos) (tTry1 X.K C1 tx th1) := by
  intro pins s σ H D I h
  refine wpAny_Try_except (wpAny_mono (hb pins s σ H D _ I h) (fun f s1 q => ?_) fun e s1 hx => ?_)
  · cases f with
    | next => exact wpAny_execs_nil q
    | ret v => exact q
    | brk => exact q
    | cont => exact q
  obtain ⟨H1, s0, I1, hx⟩ := hx
  obtain ⟨ea, Ce', H', B, a0, rfl, os, bare, fl, hok, un, hB, thB, hE⟩ := hx
  obtain ⟨Ce, hCe, hex⟩ := hE
  cases hCe
  have fr : X.A.frames = some (X.env :: X.outer) := by rw [← hst]; exact I1.ok.frames
  have nx : ∀ {b : Addr}, b ∉ ([] : List Addr) := fun {b} z => by cases z
  have ff := fl.2.2.1
  -- the exception is new
  have new : s0.heap.get? ea = none := by
    cases q : s0.heap.get? ea with
    | none => rfl
    | some o =>
      exfalso
      by_cases hb : ea ∈ frs X.stack
      · obtain ⟨_, o3, e3, hd3⟩ := ff.mem hb
        obtain ⟨oe, vs, _, _, _, e4, _, hd4, _⟩ := fl.2.2.2
        rw [e3] at e4
        cases e4
        exact hd3 _ hd4
      · obtain ⟨o', e'⟩ := thB ea o q hb
        rw [fl.2.1] at e'
        cases e'
  have fl0 : Heap.FlyingW B (X.env :: X.outer) ea (.ref Ce') a0 s1.heap := by rw [← hst]; exact fl
  refine wpAny_looks_onW fr hfr fl0 fun h4 held4 up4 => ?_
  refine wpAny_landsW held4 fun h5 fl5 up5 => ?_
  have I5 : Inv X pins σ H' { s1 with heap := h5 } := I1.caught hst os bare hok un hB thB ff fl5.1 (up4.trans up5)
  obtain ⟨ob, hob, hobc⟩ := fl5.there
  have LT : PySem.W.Looks (model X.prog X.w) h5 (typeOf (.ref ea)) (.ref Ce') := hobc ▸ (PySem.W.Looks.ld hob).andThen .now
  obtain ⟨hex, hth⟩ := hex
  refine wpAny_handleBy_cons (codeAny_handlers_test (ld_glob (X := X.marked (.ref ea)) (I5.marked _) hg1 hm1 ?_ hd1)) (by intro q; cases q)
  refine (PySem.W.exm_one I5.kIn LT hex).here ?_
  refine codeAny_handlers_suite ?_
  refine lands_againW fl5 fun h6 fl6 up6 => ?_
  have I6 : Inv X pins σ H' { s1 with heap := h6 } := I1.caught hst os bare hok un hB thB ff fl6.1 ((up4.trans up5).trans up6)
  obtain ⟨oe, vs, T, oT, ts, e6, ⟨ec, _⟩, ed, _⟩ := fl6.2.2.2
  have hn0 : X.s₀.heap.get? ea = none := by
    cases q : X.s₀.heap.get? ea with
    | none => rfl
    | some o =>
      exfalso
      have hx : ea ∉ X.ex := by rw [hxe]; exact nx
      obtain ⟨o', e'⟩ := I1.base.there ea o q hx
      rw [new] at e'
      cases e'
  have hHn : H' ea = none := by
    cases q : H' ea with
    | none => rfl
    | some u =>
      exfalso
      obtain ⟨o, e⟩ := (hok ea u q).there
      rw [fl.2.1] at e
      cases e
  have hL : ea ≠ X.env.locals := by
    intro z
    obtain ⟨m, ⟨o, es, ep, ho, r⟩, _⟩ := id I1.loc
    rw [← z, new] at ho
    cases ho
  have I7 := I6.track (u := excO ea Ce') e6 hHn hn0 hL (fun x c q z => by
      obtain ⟨v, o, ho, _⟩ := I1.cell x c q
      rw [z, new] at ho
      cases ho) (fun p hp z => by
      have := (I1.pin p hp).1
      rw [z, new] at this
      cases this) ⟨⟨oe, vs, e6, ec, ed⟩, ⟨oe, e6⟩, fun h1 h2 ⟨o, ws, q1, q2, q3⟩ k => ⟨o, ws, k o q1, q2, q3⟩⟩
  refine wpAny_mono (hh1 (.ref ea) pins _ _ _ _ ((I7.marked _).wish _) (hth ea hHn)) (fun f s9 q => ?_) fun _ _ z => z.elim
  cases f with
  | next =>
    obtain ⟨σ9, H9, I9, q9⟩ := q
    exact ⟨σ9, H9, I9.unwish.unmarked I1.ok, q9⟩
  | brk =>
    obtain ⟨σ9, H9, I9, q9⟩ := q
    exact ⟨σ9, H9, I9.unwish.unmarked I1.ok, q9⟩
  | cont =>
    obtain ⟨σ9, H9, I9, q9⟩ := q
    exact ⟨σ9, H9, I9.unwish.unmarked I1.ok, q9⟩
  | ret v =>
    obtain ⟨x9, σ9, H9, I9, r9, q9⟩ := q
    exact ⟨x9, σ9, H9, I9.unwish.unmarked I1.ok, r9, q9⟩
theorem ps_try2 {X : Cx} {x1 x2 : Str} {C1 C2 : Addr} {tx : TSX} {th1 th2 : TS} {body su1 su2 : List Stmt} {b1 b2 : Stmt} {np hpos np2 hpos2 pos : Pos} (hst : X.stack = X.env :: X.outer) (hfr : X.env.frame = some X.env.locals)
    (hm1 : X.mg x1 = some (.ref C1)) (hm2 : X.mg x2 = some (.ref C2)) (hb : PSX (CX1 X.prog X.w) X body tx) (hh1 : ∀ v, PSs (X.marked v).nox (b1 :: su1) th1) (hh2 : ∀ v, PSs (X.marked v).nox (b2 :: su2) th2)
    (hxe : X.ex = [] := by rfl) (hg1 : Gl X x1 := by rfl) (hd1 : (x1 == ("__debug__" : Str)) = false := by decide) (hg2 : Gl X x2 := by rfl) (hd2 : (x2 == ("__debug__" : Str)) = false := by decide) :
    PS X (.Try body [.ExceptHandler (some (.Name x1 np)) none (b1 :: su1) hpos, .ExceptHandler (some (.Name x2 np2)) none (b2 :: su2) hpos2] [] [] pos) (tTry2 X.K C1 C2 tx th1 th2) := by
  intro pins s σ H D I h
  refine wpAny_Try_except (wpAny_mono (hb pins s σ H D _ I h) (fun f s1 q => ?_) fun e s1 hx => ?_)
  · cases f with
    | next => exact wpAny_execs_nil q
    | ret v => exact q
    | brk => exact q
    | cont => exact q
  obtain ⟨H1, s0, I1, hx⟩ := hx
  obtain ⟨ea, Ce', H', B, a0, rfl, os, bare, fl, hok, un, hB, thB, hE⟩ := hx
  obtain ⟨Ce, hCe, hex⟩ := hE
  cases hCe
  have fr : X.A.frames = some (X.env :: X.outer) := by rw [← hst]; exact I1.ok.frames
  have nx : ∀ {b : Addr}, b ∉ ([] : List Addr) := fun {b} z => by cases z
  have ff := fl.2.2.1
  -- the exception is new
  have new : s0.heap.get? ea = none := by
    cases q : s0.heap.get? ea with
    | none => rfl
    | some o =>
      exfalso
      by_cases hb : ea ∈ frs X.stack
      · obtain ⟨_, o3, e3, hd3⟩ := ff.mem hb
        obtain ⟨oe, vs, _, _, _, e4, _, hd4, _⟩ := fl.2.2.2
        rw [e3] at e4
        cases e4
        exact hd3 _ hd4
      · obtain ⟨o', e'⟩ := thB ea o q hb
        rw [fl.2.1] at e'
        cases e'
  have fl0 : Heap.FlyingW B (X.env :: X.outer) ea (.ref Ce') a0 s1.heap := by rw [← hst]; exact fl
  refine wpAny_looks_onW fr hfr fl0 fun h4 held4 up4 => ?_
  refine wpAny_landsW held4 fun h5 fl5 up5 => ?_
  have I5 : Inv X pins σ H' { s1 with heap := h5 } := I1.caught hst os bare hok un hB thB ff fl5.1 (up4.trans up5)
  obtain ⟨ob, hob, hobc⟩ := fl5.there
  have LT : PySem.W.Looks (model X.prog X.w) h5 (typeOf (.ref ea)) (.ref Ce') := hobc ▸ (PySem.W.Looks.ld hob).andThen .now
  rcases hex with ⟨hex, hth⟩ | ⟨hex, hex2, hth⟩
  · refine wpAny_handleBy_cons (codeAny_handlers_test (ld_glob (X := X.marked (.ref ea)) (I5.marked _) hg1 hm1 ?_ hd1)) (by intro q; cases q)
    refine (PySem.W.exm_one I5.kIn LT hex).here ?_
    refine codeAny_handlers_suite ?_
    refine lands_againW fl5 fun h6 fl6 up6 => ?_
    have I6 : Inv X pins σ H' { s1 with heap := h6 } := I1.caught hst os bare hok un hB thB ff fl6.1 ((up4.trans up5).trans up6)
    obtain ⟨oe, vs, T, oT, ts, e6, ⟨ec, _⟩, ed, _⟩ := fl6.2.2.2
    have hn0 : X.s₀.heap.get? ea = none := by
      cases q : X.s₀.heap.get? ea with
      | none => rfl
      | some o =>
        exfalso
        have hx : ea ∉ X.ex := by rw [hxe]; exact nx
        obtain ⟨o', e'⟩ := I1.base.there ea o q hx
        rw [new] at e'
        cases e'
    have hHn : H' ea = none := by
      cases q : H' ea with
      | none => rfl
      | some u =>
        exfalso
        obtain ⟨o, e⟩ := (hok ea u q).there
        rw [fl.2.1] at e
        cases e
    have hL : ea ≠ X.env.locals := by
      intro z
      obtain ⟨m, ⟨o, es, ep, ho, r⟩, _⟩ := id I1.loc
      rw [← z, new] at ho
      cases ho
    have I7 := I6.track (u := excO ea Ce') e6 hHn hn0 hL (fun x c q z => by
        obtain ⟨v, o, ho, _⟩ := I1.cell x c q
        rw [z, new] at ho
        cases ho) (fun p hp z => by
        have := (I1.pin p hp).1
        rw [z, new] at this
        cases this) ⟨⟨oe, vs, e6, ec, ed⟩, ⟨oe, e6⟩, fun h1 h2 ⟨o, ws, q1, q2, q3⟩ k => ⟨o, ws, k o q1, q2, q3⟩⟩
    refine wpAny_mono (hh1 (.ref ea) pins _ _ _ _ ((I7.marked _).wish _) (hth ea hHn)) (fun f s9 q => ?_) fun _ _ z => z.elim
    cases f with
    | next =>
      obtain ⟨σ9, H9, I9, q9⟩ := q
      exact ⟨σ9, H9, I9.unwish.unmarked I1.ok, q9⟩
    | brk =>
      obtain ⟨σ9, H9, I9, q9⟩ := q
      exact ⟨σ9, H9, I9.unwish.unmarked I1.ok, q9⟩
    | cont =>
      obtain ⟨σ9, H9, I9, q9⟩ := q
      exact ⟨σ9, H9, I9.unwish.unmarked I1.ok, q9⟩
    | ret v =>
      obtain ⟨x9, σ9, H9, I9, r9, q9⟩ := q
      exact ⟨x9, σ9, H9, I9.unwish.unmarked I1.ok, r9, q9⟩
  · refine wpAny_handleBy_cons (codeAny_handlers_test (ld_glob (X := X.marked (.ref ea)) (I5.marked _) hg1 hm1 ?_ hd1)) (by intro q; cases q)
    refine (PySem.W.exm_one I5.kIn LT hex).here ?_
    refine wpAny_handleBy_cons (codeAny_handlers_test (ld_glob (X := X.marked (.ref ea)) (I5.marked _) hg2 hm2 ?_ hd2)) (by intro q; cases q)
    refine (PySem.W.exm_one I5.kIn LT hex2).here ?_
    refine codeAny_handlers_suite ?_
    refine lands_againW fl5 fun h6 fl6 up6 => ?_
    have I6 : Inv X pins σ H' { s1 with heap := h6 } := I1.caught hst os bare hok un hB thB ff fl6.1 ((up4.trans up5).trans up6)
    obtain ⟨oe, vs, T, oT, ts, e6, ⟨ec, _⟩, ed, _⟩ := fl6.2.2.2
    have hn0 : X.s₀.heap.get? ea = none := by
      cases q : X.s₀.heap.get? ea with
      | none => rfl
      | some o =>
        exfalso
        have hx : ea ∉ X.ex := by rw [hxe]; exact nx
        obtain ⟨o', e'⟩ := I1.base.there ea o q hx
        rw [new] at e'
        cases e'
    have hHn : H' ea = none := by
      cases q : H' ea with
      | none => rfl
      | some u =>
        exfalso
        obtain ⟨o, e⟩ := (hok ea u q).there
        rw [fl.2.1] at e
        cases e
    have hL : ea ≠ X.env.locals := by
      intro z
      obtain ⟨m, ⟨o, es, ep, ho, r⟩, _⟩ := id I1.loc
      rw [← z, new] at ho
      cases ho
    have I7 := I6.track (u := excO ea Ce') e6 hHn hn0 hL (fun x c q z => by
        obtain ⟨v, o, ho, _⟩ := I1.cell x c q
        rw [z, new] at ho
        cases ho) (fun p hp z => by
        have := (I1.pin p hp).1
        rw [z, new] at this
        cases this) ⟨⟨oe, vs, e6, ec, ed⟩, ⟨oe, e6⟩, fun h1 h2 ⟨o, ws, q1, q2, q3⟩ k => ⟨o, ws, k o q1, q2, q3⟩⟩
    refine wpAny_mono (hh2 (.ref ea) pins _ _ _ _ ((I7.marked _).wish _) (hth ea hHn)) (fun f s9 q => ?_) fun _ _ z => z.elim
    cases f with
    | next =>
      obtain ⟨σ9, H9, I9, q9⟩ := q
      exact ⟨σ9, H9, I9.unwish.unmarked I1.ok, q9⟩
    | brk =>
      obtain ⟨σ9, H9, I9, q9⟩ := q
      exact ⟨σ9, H9, I9.unwish.unmarked I1.ok, q9⟩
    | cont =>
      obtain ⟨σ9, H9, I9, q9⟩ := q
      exact ⟨σ9, H9, I9.unwish.unmarked I1.ok, q9⟩
    | ret v =>
      obtain ⟨x9, σ9, H9, I9, r9, q9⟩ := q
      exact ⟨x9, σ9, H9, I9.unwish.unmarked I1.ok, r9, q9⟩
section
variable {X : Cx} {x1 x2 : Str} {C1 C2 : Addr} {tx : TSX} {th1 th2 : TS} {body su1 su2 : List Stmt} {b1 b2 : Stmt} {np hpos np2 hpos2 pos : Pos} {K : PySem.W.Frag}
theorem q_try1 (hm1 : X.mg x1 = some (.ref C1)) (hb : QSX X body tx) (hh1 : ∀ v, QSs (X.marked v).nox (b1 :: su1) th1)
    (hst : X.stack = X.env :: X.outer := by rfl) (hfr : X.env.frame = some X.env.locals := by rfl) (hxe : X.ex = [] := by rfl) (hg1 : Gl X x1 := by rfl) (hd1 : (x1 == ("__debug__" : Str)) = false := by decide) (hK : X.K = K := by rfl) :
    QS X (.Try body [.ExceptHandler (some (.Name x1 np)) none (b1 :: su1) hpos] [] [] pos) (tTry1 K C1 tx th1) := by
  subst hK
  exact ⟨ps_try1 hst hfr hm1 hb.run (fun v => (hh1 v).run) hxe hg1 hd1⟩
theorem q_try2 (hm1 : X.mg x1 = some (.ref C1)) (hm2 : X.mg x2 = some (.ref C2)) (hb : QSX X body tx) (hh1 : ∀ v, QSs (X.marked v).nox (b1 :: su1) th1) (hh2 : ∀ v, QSs (X.marked v).nox (b2 :: su2) th2)
    (hst : X.stack = X.env :: X.outer := by rfl) (hfr : X.env.frame = some X.env.locals := by rfl) (hxe : X.ex = [] := by rfl) (hg1 : Gl X x1 := by rfl) (hd1 : (x1 == ("__debug__" : Str)) = false := by decide) (hg2 : Gl X x2 := by rfl) (hd2 : (x2 == ("__debug__" : Str)) = false := by decide) (hK : X.K = K := by rfl) :
    QS X (.Try body [.ExceptHandler (some (.Name x1 np)) none (b1 :: su1) hpos, .ExceptHandler (some (.Name x2 np2)) none (b2 :: su2) hpos2] [] [] pos) (tTry2 K C1 C2 tx th1 th2) := by
  subst hK
  exact ⟨ps_try2 hst hfr hm1 hm2 hb.run (fun v => (hh1 v).run) (fun v => (hh2 v).run) hxe hg1 hd1 hg2 hd2⟩
end
/-! ### e is None, of a call that may raise -/
theorem q_xisnone {X : Cx} {e : Expr} {j} {tx : TEX} {pos p2 : Pos} (h : QEX X e tx) (hm : behindInMarks .Is (.Constant .none j p2) = false := by rfl) : QEX X (.Compare e [.Is] [.Constant .none j p2] pos) (fun σ H Q E => tx σ H (fun v H1 => v = .non ∧ Q (.bl true) H1) E) := by
  refine ⟨fun pins s σ H Q E I hw => ?_⟩
  refine wpAny_Compare1 (thn (h.run pins s σ H _ E I hw) fun v s1 ⟨x, H1, I1, r1, ex, q1⟩ => ?_) hm
  subst ex
  refine wpAny_mono (pe_non (X := X.nox) pins s1 σ H1 (fun y H2 => y = .non ∧ H2 = H1) (I1.wish _) ⟨rfl, rfl⟩) (fun u s2 ⟨y, H2, I2, r2, ey, eH⟩ => ?_) fun _ _ z => z.elim
  subst ey eH
  refine wpAny_mono (uo_is (X := X.nox) pins s2 σ H2 .non .non v u Q I2 r1 r2 q1) (fun c s3 ⟨z, H3, I3, r3, q⟩ => ⟨z, H3, I3.unwish, r3, q⟩) fun _ _ z => z.elim
end L2

set_option Elab.async false
set_option linter.all false
set_option maxRecDepth 100000
set_option maxHeartbeats 4000000
namespace PG
open PySem L2 PyProof.Rows
/-! ### a till in the heap -/
/-- all but what stands at x is as it was -/
noncomputable def Upto (x : Addr) (H H' : Hp) : Prop := ∀ b o, b ≠ x → H b = some o → H' b = some o
theorem Same.upto {H H' : Hp} {x : Addr} (s : Same H H') : Upto x H H' := fun b o _ e => s b o e
theorem Upto.trans {x : Addr} {H H' H2 : Hp} (a : Upto x H H') (b : Upto x H' H2) : Upto x H H2 := fun c o n e => b c o n (a c o n e)
theorem Upto.put {x : Addr} {H H' : Hp} {o : HO} (a : Upto x H H') : Upto x H (upd H' x o) := fun c u n e => by rw [upd_ne n]; exact a c u n e
/-- what was there ahead of x stays -/
theorem Upto.same {x : Addr} {H0 H H' : Hp} (s : Same H0 H) (a : Upto x H H') (h : H0 x = none) : Same H0 H' := fun b o e => a b o (by intro z; subst z; rw [h] at e; cases e) (s b o e)
/-- a till: its address, its dict, its two lists -/
structure TillAt (T : Addr) (H : Hp) (x dx p q : Addr) (cs ks : List Int) : Prop where
  ins : H x = some (.ins T dx [("coins", .ref p), ("counts", .ref q)])
  co : H p = some (.lst (cs.map V.int))
  ct : H q = some (.lst (ks.map V.int))
theorem TillAt.nx {T : Addr} {H : Hp} {x dx p q : Addr} {cs ks : List Int} (t : TillAt T H x dx p q cs ks) : x ≠ p ∧ x ≠ q := by
  constructor
  · intro z
    have := t.co
    rw [← z, t.ins] at this
    cases this
  · intro z
    have := t.ct
    rw [← z, t.ins] at this
    cases this
theorem TillAt.same {T : Addr} {H H' : Hp} {x dx p q : Addr} {cs ks : List Int} (t : TillAt T H x dx p q cs ks) (s : Same H H') : TillAt T H' x dx p q cs ks := ⟨s _ _ t.ins, s _ _ t.co, s _ _ t.ct⟩
noncomputable def addL (ks ms : List Int) : List Int := (List.range ks.length).map fun i => ks.getD i 0 + ms.getD i 0
noncomputable def subL (ks ms : List Int) : List Int := (List.range ks.length).map fun i => ks.getD i 0 - ms.getD i 0
theorem addL_len (ks ms : List Int) : (addL ks ms).length = ks.length := by unfold addL; simp
theorem subL_len (ks ms : List Int) : (subL ks ms).length = ks.length := by unfold subL; simp
theorem addL_at (ks ms : List Int) {i : Nat} (h : i < ks.length) : (addL ks ms).getD i 0 = ks.getD i 0 + ms.getD i 0 := by
  unfold addL
  rw [List.getD_eq_getElem?_getD, List.getElem?_map, List.getElem?_range h]
  rfl
theorem subL_at (ks ms : List Int) {i : Nat} (h : i < ks.length) : (subL ks ms).getD i 0 = ks.getD i 0 - ms.getD i 0 := by
  unfold subL
  rw [List.getD_eq_getElem?_getD, List.getElem?_map, List.getElem?_range h]
  rfl
theorem mem_range_getD {ks : List Int} {k : Int} (h : k ∈ ks) : ∃ i, i < ks.length ∧ ks.getD i 0 = k := by
  obtain ⟨i, hi, e⟩ := List.mem_iff_getElem.mp h
  exact ⟨i, hi, by rw [getD_at (List.getElem?_eq_getElem hi), e]⟩
/-! ### promises -/
noncomputable def sSumPaid0 (K : PySem.W.Frag) : Sp := fun vs H Q _ => match vs with
  | [.ref a, .ref b] => ∃ cs ms, LI K H a cs ∧ LI K H b ms ∧ Coins cs ∧ ms.length = cs.length ∧ (∀ m ∈ ms, 0 ≤ m) ∧ ∀ H', Same H H' → Q (.int (dot cs ms)) H'
  | _ => False
noncomputable def sInit73 (K : PySem.W.Frag) (T : Addr) : Sp := fun vs H Q _ => match vs with
  | [.ref x, .ref a, .ref b] => ∃ dx cs ks, H x = some (.ins T dx []) ∧ LI K H a cs ∧ LI K H b ks ∧ a ≠ x ∧ b ≠ x ∧ Coins cs ∧ ks.length = cs.length ∧ (∀ k ∈ ks, 0 ≤ k ∧ k ≤ 100) ∧
    ∀ (p q : Addr) (H' : Hp), Upto x H H' → TillAt T H' x dx p q cs ks → H p = none → H q = none → p ≠ q → Q .non H'
  | _ => False
noncomputable def sHeld73 (K : PySem.W.Frag) (T : Addr) : Sp := fun vs H Q _ => match vs with
  | [.ref x] => ∃ dx p q cs ks, TillAt T H x dx p q cs ks ∧ ∀ (l : Addr) (H' : Hp), Same H H' → H l = none → H' l = some (.lst (ks.map V.int)) → Q (.ref l) H'
  | _ => False
noncomputable def sWorth73 (K : PySem.W.Frag) (T : Addr) : Sp := fun vs H Q _ => match vs with
  | [.ref x] => ∃ dx p q cs ks, TillAt T H x dx p q cs ks ∧ Coins cs ∧ ks.length = cs.length ∧ (∀ k ∈ ks, 0 ≤ k) ∧ ∀ H', Same H H' → Q (.int (dot cs ks)) H'
  | _ => False
noncomputable def sCountsW (K : PySem.W.Frag) (c : Addr) : Sp := fun vs H Q E => match vs with
  | [.ref a, .ref b] => ∃ ks ms, LI K H a ks ∧ LI K H b ms ∧ ms.length = ks.length ∧ (1 ≤ ks.length ∧ ks.length ≤ 1000) ∧
    ((∀ k ∈ addL ks ms, k ≤ 100) → ∀ (p : Addr) (H' : Hp), Same H H' → H p = none → H' p = some (.lst ((addL ks ms).map V.int)) → Q (.ref p) H') ∧
    ((∃ k ∈ addL ks ms, 100 < k) → ∀ H', Same H H' → E (.ref c) none H')
  | _ => False
/-- what is given, and what is left -/
noncomputable def Given (T : Addr) (cs ks : List Int) (n : Int) (x : Addr) (H : Hp) (Q : VK) (E : XK) (c : Addr) (dx p : Addr) : Prop :=
  ((∀ k, ¬ RC cs ks cs.length n k) → ∀ H', Same H H' → E (.ref c) none H') ∧
  (∀ k, RC cs ks cs.length n k → (∀ m, RC cs ks cs.length n m → k ≤ m) → ∀ (g q2 : Addr) (ps : List Int) (H' : Hp), Upto x H H' → H g = none → H' g = some (.lst (ps.map V.int)) → ps.length = cs.length → (∀ i, i < ps.length → 0 ≤ ps.getD i 0 ∧ ps.getD i 0 ≤ ks.getD i 0) → dot cs ps = n → ps.sum = k → TillAt T H' x dx p q2 cs (subL ks ps) → g ≠ q2 → H q2 = none → Q (.ref g) H')
noncomputable def sGiveOf (K : PySem.W.Frag) (T c : Addr) : Sp := fun vs H Q E => match vs with
  | [.ref x, .ref b, .int n] => ∃ dx p q cs ks0 ks, TillAt T H x dx p q cs ks0 ∧ LI K H b ks ∧ Coins cs ∧ ks.length = cs.length ∧ (∀ k ∈ ks, 0 ≤ k ∧ k ≤ 100) ∧ (0 ≤ n ∧ n ≤ 2000) ∧ Given T cs ks n x H Q E c dx p
  | _ => False
noncomputable def sSale73 (K : PySem.W.Frag) (T cL cM cN : Addr) : Sp := fun vs H Q E => match vs with
  | [.ref x, .int price, .ref b] => ∃ dx p q cs ks ms, TillAt T H x dx p q cs ks ∧ LI K H b ms ∧ Coins cs ∧ ks.length = cs.length ∧ ms.length = cs.length ∧ (∀ k ∈ ks, 0 ≤ k) ∧ (∀ m ∈ ms, 0 ≤ m) ∧ (0 ≤ price ∧ dot cs ms - price ≤ 2000) ∧
    (dot cs ms - price < 0 → ∀ H', Same H H' → E (.ref cL) none H') ∧ (0 ≤ dot cs ms - price → (∃ k ∈ addL ks ms, 100 < k) → ∀ H', Same H H' → E (.ref cM) none H') ∧
    (0 ≤ dot cs ms - price → (∀ k ∈ addL ks ms, k ≤ 100) → Given T cs (addL ks ms) (dot cs ms - price) x H Q E cN dx p)
  | _ => False
/-- the law's own -/
noncomputable def word73 : Nat → Str
  | 0 => "little"
  | 1 => "many"
  | 2 => "change"
  | _ => "sold"
noncomputable def sWord73 (K : PySem.W.Frag) (cL cM cN : Addr) : Sp := fun vs H Q _ => match vs with
  | [.ref e] => ∃ (i : Nat), ((i = 0 ∧ H e = some (excO e cL)) ∨ (i = 1 ∧ H e = some (excO e cM)) ∨ (i = 2 ∧ H e = some (excO e cN))) ∧ ∀ H', Same H H' → Q (.str (word73 i)) H'
  | _ => False
/-- what is due: by code, with the number -/
noncomputable def Due73 (cs fu : List Int) (ch : Int) (i : Nat) (o : Option Int) : Prop :=
  (ch < 0 ∧ i = 0 ∧ o = none) ∨ (0 ≤ ch ∧ (∃ k ∈ fu, 100 < k) ∧ i = 1 ∧ o = none) ∨ (0 ≤ ch ∧ (∀ k ∈ fu, k ≤ 100) ∧ MinO (RC cs fu cs.length ch) o ∧ ((o = none ∧ i = 2) ∨ (o ≠ none ∧ i = 3)))
noncomputable def sDue73 (K : PySem.W.Frag) : Sp := fun vs H Q _ => match vs with
  | [.ref a, .ref b, .int ch] => ∃ cs fu, LI K H a cs ∧ LI K H b fu ∧ ((∀ c ∈ cs, 1 ≤ c ∧ c ≤ 1000) ∧ fu.length = cs.length ∧ 1 ≤ fu.length ∧ fu.length ≤ 1000) ∧ (∀ k ∈ fu, 0 ≤ k) ∧ ch ≤ 2000 ∧
    ∀ (p : Addr) (i : Nat) (o : Option Int) (H' : Hp), Same H H' → H p = none → Due73 cs fu ch i o → H' p = some (.lst [.str (word73 i), toV o]) → Q (.ref p) H'
  | _ => False
theorem dot_nn : ∀ (cs ms : List Int), (∀ c ∈ cs, 0 ≤ c) → (∀ m ∈ ms, 0 ≤ m) → 0 ≤ dot cs ms
  | [], _, _, _ => by simp [dot]
  | _ :: _, [], _, _ => by simp [dot]
  | c :: cs, m :: ms, h1, h2 => by
    have := dot_nn cs ms (fun x hx => h1 x (List.mem_cons_of_mem _ hx)) fun x hx => h2 x (List.mem_cons_of_mem _ hx)
    have := Int.mul_nonneg (h1 c List.mem_cons_self) (h2 m List.mem_cons_self)
    show 0 ≤ c * m + dot cs ms
    omega
/-- a sale, held against the counts kept -/
noncomputable def sSold73 (K : PySem.W.Frag) (T : Addr) : Sp := fun vs H Q _ => match vs with
  | [.ref x, .ref a, .ref b, .ref c, .int price] => ∃ dx p q cs ks ms, TillAt T H x dx p q cs ks ∧ H a = some (.lst (cs.map V.int)) ∧ H b = some (.lst (ks.map V.int)) ∧ H c = some (.lst (ms.map V.int)) ∧ Coins cs ∧ ks.length = cs.length ∧ ms.length = cs.length ∧ (∀ k ∈ ks, 0 ≤ k ∧ k ≤ 100) ∧ (∀ m ∈ ms, 0 ≤ m) ∧ (0 ≤ price ∧ dot cs ms - price ≤ 2000) ∧
    ∀ (r q' : Addr) (ks' : List Int) (H' : Hp), Upto x H H' → TillAt T H' x dx p q' cs ks' → H' r = some (.lst (ks'.map V.int)) → ks'.length = cs.length → (∀ k ∈ ks', 0 ≤ k ∧ k ≤ 100) → r ≠ x → Q (.ref r) H'
  | _ => False
end PG

set_option Elab.async false
set_option linter.all false
set_option maxRecDepth 100000
set_option maxHeartbeats 4000000
namespace PG
open PySem L2 PyProof PyProof.Rows
theorem nodup_leN : ∀ (n : Nat) (l : List Nat), l.Nodup → (∀ x ∈ l, x < n) → l.length ≤ n
  | 0, l, _, h => by
    cases l with
    | nil => simp
    | cons x r => exact absurd (h x List.mem_cons_self) (by omega)
  | n + 1, l, hn, h => by
    by_cases hm : n ∈ l
    · have h1 := nodup_leN n (l.erase n) (hn.erase n) fun x hx => by
        have h2 := (hn.mem_erase_iff).mp hx
        have := h x h2.2
        have := h2.1
        omega
      have := List.length_erase_of_mem hm
      omega
    · have := nodup_leN n l hn fun x hx => by
        have := h x hx
        have : x ≠ n := fun e => hm (e ▸ hx)
        omega
      omega
/-- a dict of least numbers: what stands at v is the least of C v -/
structure DM (A : Int) (C : Int → Int → Prop) (kvs : List (Key × V)) : Prop where
  all : ∀ kv ∈ kvs, ∃ v n : Int, kv = (Sum.inl v, V.int n) ∧ 0 ≤ v ∧ v ≤ A
  nd : (kvs.map (·.1)).Nodup
  val : ∀ v : Int, ∃ o : Option Int, valV kvs (Sum.inl v) = o.map V.int ∧ MinO (C v) o
theorem DM.len {A : Int} {C : Int → Int → Prop} {kvs : List (Key × V)} (d : DM A C kvs) (A0 : 0 ≤ A) : (kvs.length : Int) ≤ A + 1 := by
  have h := nodup_leN (A + 1).toNat (kvs.map fun kv => match kv.1 with | .inl v => v.toNat | .inr _ => 0) ?_ ?_
  · rw [List.length_map] at h; omega
  · have hd := d.nd
    rw [List.Nodup, List.pairwise_map] at hd ⊢
    refine hd.imp_of_mem fun {a b} ha hb hab e => ?_
    obtain ⟨v, n, rfl, v0, v1⟩ := d.all a ha
    obtain ⟨v', n', rfl, v0', v1'⟩ := d.all b hb
    apply hab
    have e' : v.toNat = v'.toNat := e
    rw [show v = v' by omega]
  · intro x hx
    obtain ⟨kv, hkv, rfl⟩ := List.mem_map.mp hx
    obtain ⟨v, n, rfl, v0, v1⟩ := d.all kv hkv
    show v.toNat < _
    omega
theorem MinO.imp {S T : Int → Prop} {o : Option Int} (h : MinO S o) (h1 : ∀ n, S n → T n) (h2 : ∀ n, T n → ∃ m, S m ∧ m ≤ n) : MinO T o := by
  cases o with
  | none => exact fun n hn => by obtain ⟨m, hm, _⟩ := h2 n hn; exact h m hm
  | some x => exact ⟨h1 _ h.1, fun n hn => by obtain ⟨m, hm, le⟩ := h2 n hn; have := h.2 m hm; omega⟩
theorem DM.imp {A : Int} {C C' : Int → Int → Prop} {kvs : List (Key × V)} (d : DM A C kvs) (h1 : ∀ v n, C v n → C' v n) (h2 : ∀ v n, C' v n → ∃ m, C v m ∧ m ≤ n) : DM A C' kvs :=
  ⟨d.all, d.nd, fun v => by
    obtain ⟨o, e, m⟩ := d.val v
    exact ⟨o, e, m.imp (h1 v) (h2 v)⟩⟩
theorem keys_put {κ : Type} [DecidableEq κ] {kvs : List (κ × V)} {k : κ} {y : V} (hn : (kvs.map (·.1)).Nodup) : ((putK kvs k y).map (·.1)).Nodup := by
  unfold putK
  split
  · rw [List.map_map]
    have e : (kvs.map ((·.1) ∘ fun kv => if kv.1 = k then (kv.1, y) else kv)) = kvs.map (·.1) := by
      apply List.map_congr_left
      intro kv _
      show (if kv.1 = k then (kv.1, y) else kv).1 = kv.1
      split <;> rfl
    rw [e]
    exact hn
  · rename_i h
    rw [List.map_append]
    refine List.nodup_append.mpr ⟨hn, by simp, fun a ha b hb e => ?_⟩
    rw [List.map_cons, List.map_nil, List.mem_singleton] at hb
    obtain ⟨kv, hkv, e2⟩ := List.mem_map.mp ha
    apply h
    rw [List.any_eq_true]
    exact ⟨kv, hkv, by rw [decide_eq_true_iff, e2, e, hb]⟩
theorem put_all {A : Int} {kvs : List (Key × V)} {t x : Int} (h : ∀ kv ∈ kvs, ∃ v n : Int, kv = ((Sum.inl v : Key), V.int n) ∧ 0 ≤ v ∧ v ≤ A) (t0 : 0 ≤ t) (t1 : t ≤ A) : ∀ kv ∈ putK kvs (Sum.inl t : Key) (V.int x), ∃ v n : Int, kv = (Sum.inl v, V.int n) ∧ 0 ≤ v ∧ v ≤ A := fun kv hkv => by
  unfold putK at hkv
  split at hkv
  · obtain ⟨kv', hm, rfl⟩ := List.mem_map.mp hkv
    obtain ⟨v, n, rfl, v0, v1⟩ := h kv' hm
    split
    · exact ⟨v, x, rfl, v0, v1⟩
    · exact ⟨v, n, rfl, v0, v1⟩
  · rcases List.mem_append.mp hkv with z | z
    · exact h kv z
    · rw [List.mem_singleton.mp z]
      exact ⟨t, x, rfl, t0, t1⟩
/-- one more, where it is the least -/
theorem DM.put {A : Int} {C : Int → Int → Prop} {kvs : List (Key × V)} (d : DM A C kvs) {t x : Int} (t0 : 0 ≤ t) (t1 : t ≤ A) (h : ∀ m, valV kvs (Sum.inl t) = some (V.int m) → x < m) :
    DM A (fun v n => C v n ∨ (v = t ∧ n = x)) (putK kvs (Sum.inl t) (V.int x)) := by
  refine ⟨put_all d.all t0 t1, keys_put d.nd, fun v => ?_⟩
  rw [valV_put]
  by_cases e : v = t
  · subst e
    rw [if_pos rfl]
    refine ⟨some x, rfl, .inr ⟨rfl, rfl⟩, fun n hn => ?_⟩
    rcases hn with hn | ⟨_, hn⟩
    · obtain ⟨o, e1, m⟩ := d.val v
      cases o with
      | none => exact absurd hn (m n)
      | some y =>
        have := h y e1
        have := m.2 n hn
        omega
    · omega
  · rw [if_neg (fun z => e (Sum.inl.inj z))]
    obtain ⟨o, e1, m⟩ := d.val v
    exact ⟨o, e1, m.imp (fun n hn => .inl hn) fun n hn => by
      rcases hn with hn | ⟨hn, _⟩
      · exact ⟨n, hn, Int.le_refl _⟩
      · exact absurd hn e⟩
/-- one more, where it is not -/
theorem DM.skip {A : Int} {C : Int → Int → Prop} {kvs : List (Key × V)} (d : DM A C kvs) {t x m : Int} (hv : valV kvs (Sum.inl t) = some (V.int m)) (h : ¬ x < m) :
    DM A (fun v n => C v n ∨ (v = t ∧ n = x)) kvs := by
  refine d.imp (fun v n hn => .inl hn) fun v n hn => ?_
  rcases hn with hn | ⟨rfl, rfl⟩
  · exact ⟨n, hn, Int.le_refl _⟩
  · obtain ⟨o, e1, mo⟩ := d.val v
    rw [hv] at e1
    cases o with
    | none => cases e1
    | some y =>
      cases e1
      exact ⟨_, mo.1, by omega⟩
/-- what stands at a place is told of its key -/
theorem DM.place {A : Int} {C : Int → Int → Prop} {kvs : List (Key × V)} (d : DM A C kvs) {i : Nat} {k : Key} {y : V} (h : kvs[i]? = some (k, y)) : ∃ p m : Int, k = Sum.inl p ∧ y = V.int m ∧ 0 ≤ p ∧ p ≤ A ∧ valV kvs (Sum.inl p) = some (V.int m) ∧ C p m ∧ ∀ n, C p n → m ≤ n := by
  obtain ⟨p, m, e, p0, p1⟩ := d.all _ (List.mem_of_getElem? h)
  cases e
  have hv : valV kvs (Sum.inl p : Key) = some (V.int m) := by
    have nd := d.nd
    clear d p0 p1
    induction kvs generalizing i with
    | nil => simp at h
    | cons a r ih =>
      cases i with
      | zero =>
        rw [List.getElem?_cons_zero] at h
        cases h
        rw [valV_pos rfl]
      | succ j =>
        rw [List.getElem?_cons_succ] at h
        rw [List.map_cons, List.nodup_cons] at nd
        rw [valV_neg (fun z => nd.1 (z ▸ List.mem_map.mpr ⟨_, List.mem_of_getElem? h, rfl⟩))]
        exact ih h nd.2
  obtain ⟨o, e1, mo⟩ := d.val p
  rw [hv] at e1
  cases o with
  | none => cases e1
  | some y =>
    cases e1
    exact ⟨p, _, rfl, rfl, p0, p1, hv, mo.1, mo.2⟩
/-- the other way: what is told of a key stands at a place -/
theorem DM.at {A : Int} {C : Int → Int → Prop} {kvs : List (Key × V)} (d : DM A C kvs) {p n : Int} (h : C p n) : ∃ (i : Nat) (m : Int), i < kvs.length ∧ kvs[i]? = some (Sum.inl p, V.int m) ∧ m ≤ n := by
  obtain ⟨o, e1, mo⟩ := d.val p
  cases o with
  | none => exact absurd h (mo n)
  | some m =>
    have hf : ∃ kv ∈ kvs, kv.1 = (Sum.inl p : Key) ∧ kv.2 = V.int m := by
      unfold valV at e1
      cases hq : kvs.find? (fun kv => decide (kv.1 = (Sum.inl p : Key))) with
      | none => rw [hq] at e1; cases e1
      | some kv =>
        rw [hq] at e1
        exact ⟨kv, List.mem_of_find?_eq_some hq, by simpa using List.find?_some hq, Option.some.inj e1⟩
    obtain ⟨⟨k, y⟩, hm, e2, e3⟩ := hf
    obtain ⟨i, hi⟩ := List.mem_iff_getElem?.mp hm
    have e2' : k = Sum.inl p := e2
    have e3' : y = V.int m := e3
    subst e2' e3'
    exact ⟨i, m, (List.getElem?_eq_some_iff.mp hi).1, hi, mo.2 n h⟩
noncomputable def lim (A c k p : Int) : Int := if (A - p) / c < k then (A - p) / c else k
/-- what was added out of the first places of a dict -/
noncomputable def Cand (A c k : Int) (kvs : List (Key × V)) (B : Int → Int → Prop) (i0 : Nat) (v n : Int) : Prop := B v n ∨ ∃ (i : Nat) (p m o : Int), i < i0 ∧ kvs[i]? = some (Sum.inl p, V.int m) ∧ 1 ≤ o ∧ o ≤ lim A c k p ∧ v = p + o * c ∧ n = m + o
noncomputable def CandI (A c k : Int) (kvs : List (Key × V)) (B : Int → Int → Prop) (i0 : Nat) (p m : Int) (o0 : Nat) (v n : Int) : Prop := Cand A c k kvs B i0 v n ∨ ∃ o : Int, 1 ≤ o ∧ o < 1 + (o0 : Int) ∧ v = p + o * c ∧ n = m + o
theorem lim_ok {A c k p o : Int} (hc : 1 ≤ c) (h : o ≤ lim A c k p) : p + o * c ≤ A ∧ o ≤ k := by
  have h1 : o ≤ (A - p) / c := by unfold lim at h; split at h <;> omega
  have h2 : o ≤ k := by unfold lim at h; split at h <;> omega
  have := (Int.le_ediv_iff_mul_le (show 0 < c by omega)).mp h1
  exact ⟨by omega, h2⟩
theorem lim_of {A c k p o : Int} (hc : 1 ≤ c) (h1 : p + o * c ≤ A) (h2 : o ≤ k) : o ≤ lim A c k p := by
  have := (Int.le_ediv_iff_mul_le (a := o) (b := A - p) (show 0 < c by omega)).mpr (by omega)
  unfold lim
  split <;> omega
theorem cand_zero {A c k : Int} {kvs : List (Key × V)} {B : Int → Int → Prop} (d : DM A B kvs) : DM A (Cand A c k kvs B 0) kvs := d.imp (fun v n h => .inl h) fun v n h => by
  rcases h with h | ⟨i, p, m, o, hi, _⟩
  · exact ⟨n, h, Int.le_refl _⟩
  · omega
theorem candI_zero {A c k : Int} {kvs kv2 : List (Key × V)} {B : Int → Int → Prop} {i p m} (d : DM A (Cand A c k kvs B i) kv2) : DM A (CandI A c k kvs B i p m 0) kv2 := d.imp (fun v n h => .inl h) fun v n h => by
  rcases h with h | ⟨o, o1, o2, _⟩
  · exact ⟨n, h, Int.le_refl _⟩
  · omega
theorem DM.congr {A : Int} {C C' : Int → Int → Prop} {kvs : List (Key × V)} (d : DM A C kvs) (h : ∀ v n, C v n ↔ C' v n) : DM A C' kvs := d.imp (fun v n z => (h v n).mp z) fun v n z => ⟨n, (h v n).mpr z, Int.le_refl _⟩
theorem candI_succ {A c k : Int} {kvs : List (Key × V)} {B : Int → Int → Prop} {i : Nat} {p m : Int} {o : Nat} (v n : Int) : (CandI A c k kvs B i p m o v n ∨ (v = p + (1 + (o : Int)) * c ∧ n = m + (1 + (o : Int)))) ↔ CandI A c k kvs B i p m (o + 1) v n := by
  constructor
  · rintro ((h | ⟨x, x1, x2, h⟩) | ⟨h1, h2⟩)
    · exact .inl h
    · exact .inr ⟨x, x1, by omega, h⟩
    · exact .inr ⟨1 + (o : Int), by omega, by omega, h1, h2⟩
  · rintro (h | ⟨x, x1, x2, h1, h2⟩)
    · exact .inl (.inl h)
    · by_cases e : x = 1 + (o : Int)
      · subst e; exact .inr ⟨h1, h2⟩
      · exact .inl (.inr ⟨x, x1, by omega, h1, h2⟩)
theorem candI_all {A c k : Int} {kvs : List (Key × V)} {B : Int → Int → Prop} {i : Nat} {p m : Int} {L : Nat} (hk : kvs[i]? = some (Sum.inl p, V.int m)) (hL : (L : Int) = if lim A c k p < 0 then 0 else lim A c k p) (v n : Int) : CandI A c k kvs B i p m L v n ↔ Cand A c k kvs B (i + 1) v n := by
  constructor
  · rintro ((h | ⟨i', p', m', o, hi, h⟩) | ⟨o, o1, o2, h1, h2⟩)
    · exact .inl h
    · exact .inr ⟨i', p', m', o, by omega, h⟩
    · exact .inr ⟨i, p, m, o, by omega, hk, o1, by split at hL <;> omega, h1, h2⟩
  · rintro (h | ⟨i', p', m', o, hi, hk', o1, o2, h1, h2⟩)
    · exact .inl (.inl h)
    · by_cases e : i' = i
      · subst e
        rw [hk] at hk'
        cases hk'
        exact .inr ⟨o, o1, by split at hL <;> omega, h1, h2⟩
      · exact .inl (.inr ⟨i', p', m', o, by omega, hk', o1, o2, h1, h2⟩)
/-- one coin more -/
theorem cand_rc {cs ks : List Int} (hc : ∀ c ∈ cs, 1 ≤ c) {j : Nat} {A : Int} (hj : j < cs.length) (k0 : 0 ≤ ks.getD j 0) {kv0 kv2 : List (Key × V)} (d0 : DM A (fun v n => v ≤ A ∧ RC cs ks j v n) kv0)
    (d : DM A (Cand A (cs.getD j 0) (ks.getD j 0) kv0 (fun v n => v ≤ A ∧ RC cs ks j v n) kv0.length) kv2) : DM A (fun v n => v ≤ A ∧ RC cs ks (j + 1) v n) kv2 := by
  have c0 : 1 ≤ cs.getD j 0 := hc _ (by rw [List.getD_eq_getElem?_getD, List.getElem?_eq_getElem hj]; exact List.getElem_mem _)
  refine d.imp (fun v n h => ?_) fun v n ⟨hv, o, o0, o1, h⟩ => ?_
  · rcases h with ⟨h1, h2⟩ | ⟨i, p, m, o, hi, hk, o1, o2, rfl, rfl⟩
    · exact ⟨h1, 0, Int.le_refl _, k0, by rw [Int.mul_zero, Int.sub_zero, Int.sub_zero]; exact h2⟩
    · obtain ⟨l1, l2⟩ := lim_ok c0 o2
      obtain ⟨p', m', e1, e2, _, _, _, hC, _⟩ := d0.place hk
      cases e1
      cases e2
      refine ⟨l1, o, by omega, l2, ?_⟩
      rw [show p + o * cs.getD j 0 - cs.getD j 0 * o = p by rw [Int.mul_comm]; omega, show m + o - o = m by omega]
      exact hC.2
  · have nn := RC_nonneg hc h
    have hm : 0 ≤ cs.getD j 0 * o := Int.mul_nonneg (by omega) o0
    obtain ⟨i, m, hi, hk, hle⟩ := d0.at (p := v - cs.getD j 0 * o) (n := n - o) ⟨by omega, h⟩
    by_cases z : o = 0
    · subst z
      rw [Int.mul_zero, Int.sub_zero, Int.sub_zero] at h
      exact ⟨n, .inl ⟨hv, h⟩, Int.le_refl _⟩
    · refine ⟨m + o, .inr ⟨i, _, m, o, hi, hk, by omega, lim_of c0 (by rw [Int.mul_comm o]; omega) o1, by rw [Int.mul_comm o]; omega, rfl⟩, by omega⟩
theorem dm_first (cs ks : List Int) {A : Int} (A0 : 0 ≤ A) : DM A (fun v n => v ≤ A ∧ RC cs ks 0 v n) [((Sum.inl 0 : Key), V.int 0)] := by
  refine ⟨fun kv hkv => ⟨0, 0, List.mem_singleton.mp hkv, Int.le_refl _, A0⟩, by simp, fun v => ?_⟩
  by_cases e : v = 0
  · subst e
    exact ⟨some 0, by rw [valV_pos rfl]; rfl, ⟨A0, rfl, rfl⟩, fun n hn => by have := hn.2.2; omega⟩
  · exact ⟨none, by rw [valV_neg (fun z => e (Sum.inl.inj z).symm)]; rfl, fun n hn => e hn.2.1⟩
/-! ### what is asked of the readings -/
noncomputable def sLeast72 (K : PySem.W.Frag) : Sp := fun vs H Q _ => match vs with
  | [.ref a, .ref b, .int A] => ∃ cs ks, LI K H a cs ∧ LI K H b ks ∧ ks.length = cs.length ∧ cs.length ≤ 1000 ∧ (∀ c ∈ cs, 1 ≤ c ∧ c ≤ 1000) ∧ (∀ k ∈ ks, 0 ≤ k ∧ k ≤ 1000) ∧ (0 ≤ A ∧ A ≤ 2000) ∧
    ∀ (o : Option Int) (H' : Hp), MinO (RC cs ks cs.length A) o → Same H H' → Q (toV o) H'
  | _ => False
noncomputable def sPut72 (K : PySem.W.Frag) (T c : Addr) : Sp := fun vs H Q E => match vs with
  | [.ref x, .ref b] => ∃ dx p q cs ks ms, TillAt T H x dx p q cs ks ∧ LI K H b ms ∧ b ≠ x ∧ Coins cs ∧ ks.length = cs.length ∧ ms.length = cs.length ∧ (∀ m ∈ ms, 0 ≤ m) ∧
    ((∃ k ∈ addL ks ms, 100 < k) → ∀ H', Same H H' → E (.ref c) none H') ∧
    ((∀ k ∈ addL ks ms, k ≤ 100) → ∀ (q2 : Addr) (H' : Hp), Upto x H H' → TillAt T H' x dx p q2 cs (addL ks ms) → H q2 = none → Q .non H')
  | _ => False
noncomputable def sGive72 (K : PySem.W.Frag) (T c : Addr) : Sp := fun vs H Q E => match vs with
  | [.ref x, .int n] => ∃ dx p q cs ks, TillAt T H x dx p q cs ks ∧ Coins cs ∧ ks.length = cs.length ∧ (∀ k ∈ ks, 0 ≤ k ∧ k ≤ 100) ∧ (0 ≤ n ∧ n ≤ 2000) ∧ Given T cs ks n x H Q E c dx p
  | _ => False
noncomputable def sKept72 (K : PySem.W.Frag) (T : Addr) : Sp := fun vs H Q _ => match vs with
  | [.ref x, .ref a, .ref b] => ∃ dx p q cs ks, TillAt T H x dx p q cs ks ∧ H a = some (.lst (cs.map V.int)) ∧ H b = some (.lst (ks.map V.int)) ∧ Coins cs ∧ ks.length = cs.length ∧ (∀ k ∈ ks, 0 ≤ k ∧ k ≤ 100) ∧ ∀ H', Same H H' → Q (.bl true) H'
  | _ => False
/-- a turn is over -/
noncomputable def Turn72 (T : Addr) (x dx p : Addr) (cs : List Int) (H : Hp) (Q : VK) : Prop :=
  ∀ (r q' : Addr) (ks' : List Int) (H' : Hp), Upto x H H' → TillAt T H' x dx p q' cs ks' → H' r = some (.lst (ks'.map V.int)) → ks'.length = cs.length → (∀ k ∈ ks', 0 ≤ k ∧ k ≤ 100) → Q (.ref r) H'
noncomputable def sPutL72 (K : PySem.W.Frag) (T : Addr) : Sp := fun vs H Q _ => match vs with
  | [.ref x, .ref b, .int n] => ∃ dx p q cs ks, TillAt T H x dx p q cs ks ∧ H b = some (.lst (ks.map V.int)) ∧ Coins cs ∧ ks.length = cs.length ∧ (∀ k ∈ ks, 0 ≤ k ∧ k ≤ 100) ∧ 0 ≤ n ∧ Turn72 T x dx p cs H Q
  | _ => False
noncomputable def sTurn72 (K : PySem.W.Frag) (T : Addr) : Sp := fun vs H Q _ => match vs with
  | [.ref x, .ref a, .ref b, .int n, .int most] => ∃ dx p q cs ks, TillAt T H x dx p q cs ks ∧ H a = some (.lst (cs.map V.int)) ∧ H b = some (.lst (ks.map V.int)) ∧ Coins cs ∧ ks.length = cs.length ∧ (∀ k ∈ ks, 0 ≤ k ∧ k ≤ 100) ∧ 0 ≤ n ∧ (0 ≤ most ∧ most ≤ 2000) ∧ Turn72 T x dx p cs H Q
  | _ => False
noncomputable def sAmt72 (K : PySem.W.Frag) : Sp := fun vs H Q _ => match vs with
  | [.ref a, .ref b, .int n, .int most] => ∃ cs ks, LI K H a cs ∧ LI K H b ks ∧ Coins cs ∧ ks.length = cs.length ∧ (∀ k ∈ ks, 0 ≤ k ∧ k ≤ 100) ∧ 0 ≤ n ∧ (0 ≤ most ∧ most ≤ 2000) ∧ ∀ (A : Int) (H' : Hp), 0 ≤ A → A ≤ most → Same H H' → Q (.int A) H'
  | _ => False
noncomputable def sLess72 (K : PySem.W.Frag) : Sp := fun vs H Q _ => match vs with
  | [.ref g, .ref a, .ref b, .int n, .int k] => ∃ cs ks ps, H g = some (.lst (ps.map V.int)) ∧ H a = some (.lst (cs.map V.int)) ∧ H b = some (.lst (ks.map V.int)) ∧ (ps.length = cs.length ∧ ks.length = cs.length ∧ 1 ≤ cs.length ∧ cs.length ≤ 1000) ∧ (∀ c ∈ cs, 1 ≤ c ∧ c ≤ 1000) ∧ (∀ i, i < ps.length → 0 ≤ ps.getD i 0 ∧ ps.getD i 0 ≤ ks.getD i 0) ∧ dot cs ps = n ∧ ps.sum = k ∧
    ∀ (r : Addr) (H' : Hp), Upto g H H' → H r = none → r ≠ g → H' r = some (.lst ((subL ks ps).map V.int)) → Q (.ref r) H'
  | _ => False
theorem subL_in {ks ps : List Int} (kr : ∀ k ∈ ks, 0 ≤ k ∧ k ≤ 100) (hl : ps.length = ks.length) (h2 : ∀ i, i < ps.length → 0 ≤ ps.getD i 0 ∧ ps.getD i 0 ≤ ks.getD i 0) : ∀ k ∈ subL ks ps, 0 ≤ k ∧ k ≤ 100 := fun k hk => by
  obtain ⟨i, hi, e⟩ := mem_range_getD hk
  rw [subL_len] at hi
  rw [← e, subL_at _ _ hi]
  have a1 := h2 i (by omega)
  have a2 := kr _ (List.mem_of_getElem? (getD_some (ns := ks) (i := i) hi))
  omega
/-- what is left behind a giving, told as it is -/
theorem turn_less {T x dx p q2 g r : Addr} {cs ks ps : List Int} {H H2 H3 H4 : Hp} {Q : VK} (q : Turn72 T x dx p cs H Q) (t2 : Same H H2) (up : Upto x H2 H3) (hg0 : H2 g = none) (tp : H p ≠ none) (tx : H x ≠ none) (tg : TillAt T H3 x dx p q2 cs (subL ks ps)) (ng : g ≠ q2) (up4 : Upto g H3 H4) (hr : H4 r = some (.lst ((subL ks ps).map V.int))) (kl : ks.length = cs.length) (rng : ∀ k ∈ subL ks ps, 0 ≤ k ∧ k ≤ 100) : Q (.ref r) H4 := by
  have gH : H g = none := t2.free hg0
  have ngx : x ≠ g := by intro z; rw [z] at tx; exact tx gH
  have ngp : p ≠ g := by intro z; rw [z] at tp; exact tp gH
  refine q r q2 (subL ks ps) H4 (fun bb u nb e => ?_) ⟨up4 _ _ ngx tg.ins, up4 _ _ ngp tg.co, up4 _ _ (Ne.symm ng) tg.ct⟩ hr (by rw [subL_len]; exact kl) rng
  have nbg : bb ≠ g := by intro z; rw [z, gH] at e; cases e
  exact up4 _ _ nbg (up _ _ nb (t2 _ _ e))
theorem ne_ir {H : Hp} {a b u : Addr} {zs : List Int} {r : List V} (h1 : H a = some (.lst (zs.map V.int))) (h2 : H b = some (.lst (.ref u :: r))) : a ≠ b := by
  intro z
  rw [z, h2] at h1
  cases zs with
  | nil => cases h1
  | cons y s => cases h1
end PG

set_option Elab.async false
set_option linter.all false
set_option maxRecDepth 100000
set_option maxHeartbeats 4000000
namespace PG
open PySem L2 PyProof.Rows

noncomputable def top (i : Nat) : Stmt := PySem.Challenge.pw_paygaps_k72_a_till.main.body.getD i (.Pass ⟨0, 0, 0, 0⟩)
noncomputable abbrev s_PayError : Stmt := top 1
noncomputable abbrev s_NoCoins : Stmt := top 2
noncomputable abbrev s_NoPaying : Stmt := top 3
noncomputable abbrev s_NoSum : Stmt := top 4
noncomputable abbrev s_TooMany : Stmt := top 5
noncomputable abbrev s_NoChange : Stmt := top 6
noncomputable abbrev s_TooLittle : Stmt := top 7
noncomputable abbrev s_is_number : Stmt := top 12
noncomputable abbrev s_is_coin : Stmt := top 13
noncomputable abbrev s_check_coins : Stmt := top 14
noncomputable abbrev s_check_paying : Stmt := top 15
noncomputable abbrev s_check_sum_from : Stmt := top 16
noncomputable abbrev s_check_listed : Stmt := top 17
noncomputable abbrev s_sum_paid : Stmt := top 18
noncomputable abbrev s_check_counts : Stmt := top 22
noncomputable abbrev s_held_paying : Stmt := top 23
noncomputable abbrev s_bundles_of : Stmt := top 24
noncomputable abbrev s_fewest_tables : Stmt := top 25
noncomputable abbrev s_with_bundle : Stmt := top 26
noncomputable abbrev s_Till : Stmt := top 27
noncomputable abbrev s_counts_with : Stmt := top 28
noncomputable abbrev s__law_cell : Stmt := top 30
noncomputable abbrev s__law_whole : Stmt := top 31
noncomputable abbrev s__law_mix : Stmt := top 32
noncomputable abbrev s__law_some : Stmt := top 33
noncomputable abbrev s__law_least : Stmt := top 34
noncomputable abbrev s__law_good : Stmt := top 35
noncomputable abbrev s__law_kept : Stmt := top 36
noncomputable abbrev s__law_put : Stmt := top 37
noncomputable abbrev s__law_amount : Stmt := top 38
noncomputable abbrev s__law_less : Stmt := top 39
noncomputable abbrev s__law_give : Stmt := top 40
noncomputable abbrev s__law_sale : Stmt := top 41
noncomputable abbrev s__law_done : Stmt := top 42
noncomputable abbrev s_law : Stmt := top 43
noncomputable abbrev s_Till___init__ : Stmt := inClass (top 27) 0
noncomputable abbrev s_Till_held : Stmt := inClass (top 27) 1
noncomputable abbrev s_Till_worth : Stmt := inClass (top 27) 2
noncomputable abbrev s_Till_put : Stmt := inClass (top 27) 3
noncomputable abbrev s_Till_give : Stmt := inClass (top 27) 4
noncomputable abbrev s_Till_sale : Stmt := inClass (top 27) 5
noncomputable abbrev s_Till_give_of : Stmt := inClass (top 27) 6
structure Owns (K : PySem.W.Frag) (mg : Str → Option Value) where
  a_Till : Addr
  m_Till : mg "Till" = some (.ref a_Till)
  cl_Till : Cls K a_Till
  n_Till_coins : NoAttr K a_Till "coins"
  n_Till_counts : NoAttr K a_Till "counts"
structure Errs (K : PySem.W.Frag) (mg : Str → Option Value) where
  a_PayError : Addr
  m_PayError : mg "PayError" = some (.ref a_PayError)
  a_NoCoins : Addr
  m_NoCoins : mg "NoCoins" = some (.ref a_NoCoins)
  a_NoPaying : Addr
  m_NoPaying : mg "NoPaying" = some (.ref a_NoPaying)
  a_NoSum : Addr
  m_NoSum : mg "NoSum" = some (.ref a_NoSum)
  a_TooMany : Addr
  m_TooMany : mg "TooMany" = some (.ref a_TooMany)
  a_NoChange : Addr
  m_NoChange : mg "NoChange" = some (.ref a_NoChange)
  a_TooLittle : Addr
  m_TooLittle : mg "TooLittle" = some (.ref a_TooLittle)
  x_TooLittle : ExcC K a_TooLittle
  c_TooLittle : PySem.W.ErrC K a_TooLittle
  t_TooLittle : PySem.W.exmOne K (.ref a_TooLittle) (.ref a_PayError) = some true
  v_TooLittle : PySem.W.kitOne K (.ref a_TooLittle) (.type "ValueError") = some true
  h_TooLittle_TooMany : PySem.W.exmOne K (.ref a_TooLittle) (.ref a_TooMany) = some false
  h_TooLittle_NoChange : PySem.W.exmOne K (.ref a_TooLittle) (.ref a_NoChange) = some false
  k_TooLittle_PayError : PySem.W.kitOne K (.ref a_TooLittle) (.ref a_PayError) = some true
  k_TooLittle_NoCoins : PySem.W.kitOne K (.ref a_TooLittle) (.ref a_NoCoins) = some false
  k_TooLittle_NoPaying : PySem.W.kitOne K (.ref a_TooLittle) (.ref a_NoPaying) = some false
  k_TooLittle_NoSum : PySem.W.kitOne K (.ref a_TooLittle) (.ref a_NoSum) = some false
  k_TooLittle_TooMany : PySem.W.kitOne K (.ref a_TooLittle) (.ref a_TooMany) = some false
  k_TooLittle_NoChange : PySem.W.kitOne K (.ref a_TooLittle) (.ref a_NoChange) = some false
  k_TooLittle_TooLittle : PySem.W.kitOne K (.ref a_TooLittle) (.ref a_TooLittle) = some true
  x_TooMany : ExcC K a_TooMany
  c_TooMany : PySem.W.ErrC K a_TooMany
  t_TooMany : PySem.W.exmOne K (.ref a_TooMany) (.ref a_PayError) = some true
  v_TooMany : PySem.W.kitOne K (.ref a_TooMany) (.type "ValueError") = some true
  h_TooMany_TooMany : PySem.W.exmOne K (.ref a_TooMany) (.ref a_TooMany) = some true
  h_TooMany_NoChange : PySem.W.exmOne K (.ref a_TooMany) (.ref a_NoChange) = some false
  k_TooMany_PayError : PySem.W.kitOne K (.ref a_TooMany) (.ref a_PayError) = some true
  k_TooMany_NoCoins : PySem.W.kitOne K (.ref a_TooMany) (.ref a_NoCoins) = some false
  k_TooMany_NoPaying : PySem.W.kitOne K (.ref a_TooMany) (.ref a_NoPaying) = some false
  k_TooMany_NoSum : PySem.W.kitOne K (.ref a_TooMany) (.ref a_NoSum) = some false
  k_TooMany_TooMany : PySem.W.kitOne K (.ref a_TooMany) (.ref a_TooMany) = some true
  k_TooMany_NoChange : PySem.W.kitOne K (.ref a_TooMany) (.ref a_NoChange) = some false
  k_TooMany_TooLittle : PySem.W.kitOne K (.ref a_TooMany) (.ref a_TooLittle) = some false
  x_NoChange : ExcC K a_NoChange
  c_NoChange : PySem.W.ErrC K a_NoChange
  t_NoChange : PySem.W.exmOne K (.ref a_NoChange) (.ref a_PayError) = some true
  v_NoChange : PySem.W.kitOne K (.ref a_NoChange) (.type "ValueError") = some true
  h_NoChange_TooMany : PySem.W.exmOne K (.ref a_NoChange) (.ref a_TooMany) = some false
  h_NoChange_NoChange : PySem.W.exmOne K (.ref a_NoChange) (.ref a_NoChange) = some true
  k_NoChange_PayError : PySem.W.kitOne K (.ref a_NoChange) (.ref a_PayError) = some true
  k_NoChange_NoCoins : PySem.W.kitOne K (.ref a_NoChange) (.ref a_NoCoins) = some false
  k_NoChange_NoPaying : PySem.W.kitOne K (.ref a_NoChange) (.ref a_NoPaying) = some false
  k_NoChange_NoSum : PySem.W.kitOne K (.ref a_NoChange) (.ref a_NoSum) = some false
  k_NoChange_TooMany : PySem.W.kitOne K (.ref a_NoChange) (.ref a_TooMany) = some false
  k_NoChange_NoChange : PySem.W.kitOne K (.ref a_NoChange) (.ref a_NoChange) = some true
  k_NoChange_TooLittle : PySem.W.kitOne K (.ref a_NoChange) (.ref a_TooLittle) = some false
end PG

set_option Elab.async false
set_option linter.all false
set_option maxRecDepth 100000
set_option maxHeartbeats 4000000
namespace PG
open PySem L2 PyProof.Rows

section
variable {P : Program} {w : World} {K : PySem.W.Frag} {mg : Str → Option Value} {base : Heap}

theorem sc_is_number : FnScope ["thing"] ["thing"] (defScope s_is_number) := ⟨rfl, rfl, rfl, by decide +kernel, rfl, by decide +kernel, by decide +kernel⟩
theorem ok_is_number {f : Addr} {fd : FuncData} (F : Fun K "is_number" "is_number" s_is_number f fd) (B : Blt mg) (ER : Errs K mg) (OW : Owns K mg) : FnOk P w K mg base (CX1 P w) 1 f fd ["thing"] sNum := by
  refine F.okN sc_is_number (fun vs H Q E h => ?_) (fun cdv A outer s H vs Q E hr h => ?_)
  · unfold sNum at h; split at h
    · rfl
    · exact h.elim
  · unfold sNum at h; split at h
    rotate_left
    · exact h.elim
    rename_i x
    refine ⟨_, (q_sone (q_ret (q_and (q_callB (uc_isi (K := K)) (by rfl) B.isi boot_isinstance (q_cons (q_v 0) (q_cons (q_bltn (v := .ty "int") (by rfl) B.int boot_int rfl) q_nil))) (q_one (q_not (q_callB (uc_isi (K := K)) (by rfl) B.isi boot_isinstance (q_cons (q_v 0) (q_cons (q_bltn (v := .ty "bool") (by rfl) B.bool boot_bool rfl) q_nil)))))))), ?_⟩
    obtain ⟨kn, q⟩ := h
    cases x with
    | non => exact ⟨_, false, TyOf.non, by kernel_rfl, iteF q⟩
    | bl b => exact ⟨_, true, TyOf.bl b, by kernel_rfl, iteT ⟨_, true, TyOf.bl b, by kernel_rfl, q⟩⟩
    | int i => exact ⟨_, true, TyOf.int i, by kernel_rfl, iteT ⟨_, false, TyOf.int i, by kernel_rfl, q⟩⟩
    | str x => exact ⟨_, false, TyOf.str x, by kernel_rfl, iteF q⟩
    | ref a =>
      rcases kn with ⟨xs, e⟩ | ⟨xs, e⟩ | ⟨kvs, e⟩
      · exact ⟨_, false, TyOf.lst e, by kernel_rfl, iteF q⟩
      · exact ⟨_, false, TyOf.tup e, by kernel_rfl, iteF q⟩
      · exact ⟨_, false, TyOf.dK e, by kernel_rfl, iteF q⟩
    | _ => exact kn.elim

theorem sc__law_whole : FnScope ["_law_found"] ["_law_found"] (defScope s__law_whole) := ⟨rfl, rfl, rfl, by decide +kernel, rfl, by decide +kernel, by decide +kernel⟩
theorem ok__law_whole {f : Addr} {fd : FuncData} (F : Fun K "_law_whole" "_law_whole" s__law_whole f fd) (B : Blt mg) (ER : Errs K mg) (OW : Owns K mg) : FnOk P w K mg base (CX1 P w) 1 f fd ["_law_found"] sNum := by
  refine F.okN sc__law_whole (fun vs H Q E h => ?_) (fun cdv A outer s H vs Q E hr h => ?_)
  · unfold sNum at h; split at h
    · rfl
    · exact h.elim
  · unfold sNum at h; split at h
    rotate_left
    · exact h.elim
    rename_i x
    refine ⟨_, (q_sone (q_ret (q_and (q_callB (uc_isi (K := K)) (by rfl) B.isi boot_isinstance (q_cons (q_v 0) (q_cons (q_bltn (v := .ty "int") (by rfl) B.int boot_int rfl) q_nil))) (q_one (q_not (q_callB (uc_isi (K := K)) (by rfl) B.isi boot_isinstance (q_cons (q_v 0) (q_cons (q_bltn (v := .ty "bool") (by rfl) B.bool boot_bool rfl) q_nil)))))))), ?_⟩
    obtain ⟨kn, q⟩ := h
    cases x with
    | non => exact ⟨_, false, TyOf.non, by kernel_rfl, iteF q⟩
    | bl b => exact ⟨_, true, TyOf.bl b, by kernel_rfl, iteT ⟨_, true, TyOf.bl b, by kernel_rfl, q⟩⟩
    | int i => exact ⟨_, true, TyOf.int i, by kernel_rfl, iteT ⟨_, false, TyOf.int i, by kernel_rfl, q⟩⟩
    | str x => exact ⟨_, false, TyOf.str x, by kernel_rfl, iteF q⟩
    | ref a =>
      rcases kn with ⟨xs, e⟩ | ⟨xs, e⟩ | ⟨kvs, e⟩
      · exact ⟨_, false, TyOf.lst e, by kernel_rfl, iteF q⟩
      · exact ⟨_, false, TyOf.tup e, by kernel_rfl, iteF q⟩
      · exact ⟨_, false, TyOf.dK e, by kernel_rfl, iteF q⟩
    | _ => exact kn.elim

theorem sc__law_cell : FnScope ["_law_script", "_law_k"] ["_law_script", "_law_k"] (defScope s__law_cell) := ⟨rfl, rfl, rfl, by decide +kernel, rfl, by decide +kernel, by decide +kernel⟩
theorem ok__law_cell {f : Addr} {fd : FuncData} (F : Fun K "_law_cell" "_law_cell" s__law_cell f fd) (B : Blt mg) (ER : Errs K mg) (OW : Owns K mg) : FnOk P w K mg base (CX1 P w) 1 f fd ["_law_script", "_law_k"] (sCell K) := by
  refine F.okN sc__law_cell (fun vs H Q E h => ?_) (fun cdv A outer s H vs Q E hr h => ?_)
  · unfold sCell at h; split at h
    · rfl
    · exact h.elim
  · unfold sCell at h; split at h
    rotate_left
    · exact h.elim
    rename_i a k
    refine ⟨_, (q_scons (q_sif (q_tcmp uo_lt (q_v 1) (q_callB (uc_len (K := K)) (by rfl) B.len PySem.boot_len (q_cons (q_v 0) q_nil)) (nomark _)) (q_sone (q_ret (q_ix (ux (K := K)) (q_v 0) (q_v 1) (fun _ _ => rfl)))) q_snil) (q_sone (q_ret q_int))), ?_⟩
    obtain ⟨ns, hS, hk, q⟩ := h
    refine ⟨_, .inl hS, ifB (fun h1 => ?_) fun h1 => ?_⟩
    · have h1' := of_decide_eq_true h1
      rw [List.length_map] at h1'
      exact ⟨_, _, .inl hS, atInt hk h1', q⟩
    · have h1' := of_decide_eq_false h1
      rw [List.length_map] at h1'
      have e : ns.getD k.toNat 0 = 0 := getD_out (by omega)
      rw [e] at q
      exact q

end
end PG

set_option Elab.async false
set_option linter.all false
set_option maxRecDepth 100000
set_option maxHeartbeats 4000000
namespace PG
open PySem L2 PyProof.Rows

section
variable {P : Program} {w : World} {K : PySem.W.Frag} {mg : Str → Option Value} {base : Heap}

theorem sc_is_coin : FnScope ["thing"] ["thing"] (defScope s_is_coin) := ⟨rfl, rfl, rfl, by decide +kernel, rfl, by decide +kernel, by decide +kernel⟩
theorem ok_is_coin {f : Addr} {fd : FuncData} {tk_GREATEST_COIN : Tok} (F : Fun K "is_coin" "is_coin" s_is_coin f fd) (ER : Errs K mg) (OW : Owns K mg) (mc_GREATEST_COIN : mg "GREATEST_COIN" = some (.int 1000 tk_GREATEST_COIN)) (g_is_number : G P w K mg base (CX1 P w) "is_number" ["thing"] 1 sNum) : FnOk P w K mg base (CX1 P w) 2 f fd ["thing"] sCoin := by
  refine F.okN sc_is_coin (fun vs H Q E h => ?_) (fun cdv A outer s H vs Q E hr h => ?_)
  · unfold sCoin at h; split at h
    · rfl
    · exact h.elim
  · unfold sCoin at h; split at h
    rotate_left
    · exact h.elim
    rename_i x
    refine ⟨_, (q_sone (q_ret (q_and (q_g g_is_number (hr.mono (by decide)) pass1E (q_cons (q_v 0) q_nil)) (q_and (q_cmp uo_le q_int (q_v 0) (nomark _)) (q_one (q_cmp uo_le (q_v 0) (q_glob (v := .int 1000) (by rfl) mc_GREATEST_COIN ⟨_, rfl⟩) (nomark _))))))), ?_⟩
    obtain ⟨kn, q⟩ := h
    refine ⟨kn, ?_⟩
    cases x with
    | int i =>
      have q' : Q (.bl (decide (1 ≤ i) && decide (i ≤ 1000))) H := q
      refine ifT rfl (ifB (fun h1 => ?_) fun h1 => ?_)
      · have h1' : decide ((1 : Int) ≤ i) = true := h1
        rw [h1', Bool.true_and] at q'
        exact q'
      · have h1' : decide ((1 : Int) ≤ i) = false := h1
        rw [h1', Bool.false_and] at q'
        exact q'
    | _ => exact q

theorem sc_check_coins : FnScope ["coins"] ["coins"] (defScope s_check_coins) := ⟨rfl, rfl, rfl, by decide +kernel, rfl, by decide +kernel, by decide +kernel⟩
theorem ok_check_coins {f : Addr} {fd : FuncData} {tk_MOST_COINS : Tok} (F : Fun K "check_coins" "check_coins" s_check_coins f fd) (B : Blt mg) (ER : Errs K mg) (OW : Owns K mg) (mc_MOST_COINS : mg "MOST_COINS" = some (.int 40 tk_MOST_COINS)) (g_is_coin : G P w K mg base (CX1 P w) "is_coin" ["thing"] 2 sCoin) : FnOk P w K mg base (CX1 P w) 3 f fd ["coins"] (sCheck0 K) := by
  refine F.okN sc_check_coins (fun vs H Q E h => ?_) (fun cdv A outer s H vs Q E hr h => ?_)
  · unfold sCheck0 at h; split at h
    · rfl
    · exact h.elim
  · unfold sCheck0 at h; split at h
    rotate_left
    · exact h.elim
    rename_i a
    refine ⟨_, (q_scons (q_sif (q_tw (q_tor (q_tcmp uo_lt (q_callB (uc_len (K := K)) (by rfl) B.len PySem.boot_len (q_cons (q_v 0) q_nil)) q_int (nomark _)) (q_tor1 (q_tcmp uo_gt (q_callB (uc_len (K := K)) (by rfl) B.len PySem.boot_len (q_cons (q_v 0) q_nil)) (q_glob (v := .int 40) (by rfl) mc_MOST_COINS ⟨_, rfl⟩) (nomark _))))) (q_sone q_never) q_snil) (q_scons (q_sif (q_tnot (q_tval (K := K) (q_callB (uc_all (K := K) rfl) (by rfl) B.all boot_all (q_cons (q_comp [none] ["coin"] rfl (by kernel_rfl) (q_seq (K := K) (q_v 0)) (fun _ _ _ _ _ => (q_name (i := 0) (show List.Nodup (["coin"] : List Str) from by decide +kernel) rfl (Or.inl rfl))) (fun _ _ _ _ _ => q_fnil) (fun _ _ _ _ _ => (q_g g_is_coin (hr.mono (by decide)) pass1E (q_cons (q_v 0) q_nil)))) q_nil)))) (q_sone q_never) q_snil) (q_sone (q_sif (q_tcmp uo_lt (q_callB uc_lenSet (by rfl) B.len PySem.boot_len (q_cons (q_callTy (uc_set (K := K) rfl) (by rfl) B.set boot_set (q_cons (q_v 0) q_nil)) q_nil)) (q_callB (uc_len (K := K)) (by rfl) B.len PySem.boot_len (q_cons (q_v 0) q_nil)) (nomark _)) (q_sone q_never) q_snil)))), ?_⟩
    obtain ⟨ns, hS, cn, q⟩ := h
    have l1 := cn.ne
    have l2 := cn.le
    refine ⟨_, .inl hS, ifB (fun g1 => by exfalso; have := of_decide_eq_true g1; rw [List.length_map] at this; omega) fun g1 => ⟨_, .inl hS, ifB (fun g2 => by exfalso; have := of_decide_eq_true g2; rw [List.length_map] at this; omega) fun g2 => ?_⟩⟩
    refine .inl ⟨_, hS, comp_by (fun i => V.bl (isCoinV ((ns.map V.int).getD i .non))) (fun _ => true) (jp_list hS) (by rw [List.length_map]; exact small1000 (by omega)) (keepName rfl) (fun i x H' R Z hi sm hx hR hZ => ?_) (fun D H' hD sm hL => ?_)⟩
    · obtain ⟨n, hn, rfl⟩ := int_at hx
      refine tT ?_
      refine ⟨trivial, ?_⟩
      have := hR rfl H' (Same.refl _)
      have e : (ns.map V.int).getD i .non = .int n := by rw [List.getD_eq_getElem?_getD, hx]; rfl
      rw [e] at this
      exact this
    · rw [mapAtV isCoinV V.bl] at hL
      refine ⟨_, SqL.of hL, ?_⟩
      have eall : ((ns.map V.int).map isCoinV).all id = true := by rw [List.all_map]; exact (coinsV_all ⟨ns, rfl, cn⟩).2.2
      rw [eall]
      refine ⟨ns, sm.seq hS, by omega, fun r hr => ⟨_, _, upd_same, _, .inl ((sm.trans (Same.new hr)).seq hS), ifB (fun c2 => ?_) fun c2 => ?_⟩⟩
      · exfalso
        have := of_decide_eq_true c2
        rw [List.length_map] at this
        have := dd_nodup cn.nd
        omega
      · exact q _ (sm.trans (Same.new hr))

theorem sc_check_sum_from : FnScope ["least", "amount"] ["least", "amount"] (defScope s_check_sum_from) := ⟨rfl, rfl, rfl, by decide +kernel, rfl, by decide +kernel, by decide +kernel⟩
theorem ok_check_sum_from {f : Addr} {fd : FuncData} (F : Fun K "check_sum_from" "check_sum_from" s_check_sum_from f fd) (ER : Errs K mg) (OW : Owns K mg) (g_is_number : G P w K mg base (CX1 P w) "is_number" ["thing"] 1 sNum) : FnOk P w K mg base (CX1 P w) 2 f fd ["least", "amount"] sFrom0 := by
  refine F.okN sc_check_sum_from (fun vs H Q E h => ?_) (fun cdv A outer s H vs Q E hr h => ?_)
  · unfold sFrom0 at h; split at h
    · rfl
    · exact h.elim
  · unfold sFrom0 at h; split at h
    rotate_left
    · exact h.elim
    rename_i l n
    refine ⟨_, (q_sone (q_sif (q_tw (q_tor (q_tnot (q_tval (K := K) (q_g g_is_number (hr.mono (by decide)) pass1E (q_cons (q_v 1) q_nil)))) (q_tor1 (q_tcmp uo_lt (q_v 1) (q_v 0) (nomark _))))) (q_sone q_never) q_snil)), ?_⟩
    obtain ⟨hl, q⟩ := h
    refine ⟨trivial, ifB (fun g => by exfalso; have := of_decide_eq_true g; omega) fun _ => q⟩

theorem sc_check_listed : FnScope ["amount"] ["amount"] (defScope s_check_listed) := ⟨rfl, rfl, rfl, by decide +kernel, rfl, by decide +kernel, by decide +kernel⟩
theorem ok_check_listed {f : Addr} {fd : FuncData} {tk_GREATEST_LISTED_SUM : Tok} (F : Fun K "check_listed" "check_listed" s_check_listed f fd) (ER : Errs K mg) (OW : Owns K mg) (mc_GREATEST_LISTED_SUM : mg "GREATEST_LISTED_SUM" = some (.int 2000 tk_GREATEST_LISTED_SUM)) : FnOk P w K mg base (CX1 P w) 1 f fd ["amount"] sListed0 := by
  refine F.okN sc_check_listed (fun vs H Q E h => ?_) (fun cdv A outer s H vs Q E hr h => ?_)
  · unfold sListed0 at h; split at h
    · rfl
    · exact h.elim
  · unfold sListed0 at h; split at h
    rotate_left
    · exact h.elim
    rename_i n
    refine ⟨_, (q_sone (q_sif (q_tcmp uo_gt (q_v 0) (q_glob (v := .int 2000) (by rfl) mc_GREATEST_LISTED_SUM ⟨_, rfl⟩) (nomark _)) (q_sone q_never) q_snil)), ?_⟩
    obtain ⟨hl, q⟩ := h
    exact ifB (fun g => by exfalso; have := of_decide_eq_true g; omega) fun _ => q

end
end PG

set_option Elab.async false
set_option linter.all false
set_option maxRecDepth 100000
set_option maxHeartbeats 4000000
namespace PG
open PySem L2 PyProof.Rows

section
variable {P : Program} {w : World} {K : PySem.W.Frag} {mg : Str → Option Value} {base : Heap}

theorem sc__law_mix : FnScope ["_law_cell_here", "_law_by"] ["_law_cell_here", "_law_by"] (defScope s__law_mix) := ⟨rfl, rfl, rfl, by decide +kernel, rfl, by decide +kernel, by decide +kernel⟩
theorem ok__law_mix {f : Addr} {fd : FuncData} (F : Fun K "_law_mix" "_law_mix" s__law_mix f fd) (ER : Errs K mg) (OW : Owns K mg) : FnOk P w K mg base (CX1 P w) 1 f fd ["_law_cell_here", "_law_by"] sMix := by
  refine F.okN sc__law_mix (fun vs H Q E h => ?_) (fun cdv A outer s H vs Q E hr h => ?_)
  · unfold sMix at h; split at h
    · rfl
    · exact h.elim
  · unfold sMix at h; split at h
    rotate_left
    · exact h.elim
    rename_i a b
    refine ⟨_, (q_sone (q_ret (q_op uo_mod (q_op uo_mul (q_op uo_add (q_v 0) (q_v 1)) q_int) q_int))), ?_⟩
    exact ⟨.inr ⟨by decide, by decide⟩, by decide, h⟩

theorem sc__law_some : FnScope ["_law_script", "_law_start", "_law_most", "_law_far", "_law_coins", "_law_k", "_law_number"] ["_law_script", "_law_start", "_law_most", "_law_far"] (defScope s__law_some) := ⟨rfl, rfl, rfl, by decide +kernel, rfl, by decide +kernel, by decide +kernel⟩
theorem ok__law_some {f : Addr} {fd : FuncData} (F : Fun K "_law_some" "_law_some" s__law_some f fd) (B : Blt mg) (ER : Errs K mg) (OW : Owns K mg) (g__law_cell : G P w K mg base (CX1 P w) "_law_cell" ["_law_script", "_law_k"] 1 (sCell K)) (g__law_mix : G P w K mg base (CX1 P w) "_law_mix" ["_law_cell_here", "_law_by"] 1 sMix) : FnOk P w K mg base (CX1 P w) 2 f fd ["_law_script", "_law_start", "_law_most", "_law_far"] (sSome K) := by
  refine F.okN sc__law_some (fun vs H Q E h => ?_) (fun cdv A outer s H vs Q E hr h => ?_)
  · unfold sSome at h; split at h
    · rfl
    · exact h.elim
  · unfold sSome at h; split at h
    rotate_left
    · exact h.elim
    rename_i a st most far
    refine ⟨_, (q_scons (q_set (i := 4) sc__law_some.nd rfl (Or.inl rfl) (q_lst q_nil)) (q_scons (q_for PassesOwn.never rfl (q_range2 B.range (q_cons (q_v 1) (q_cons (q_op uo_add (q_v 1) (q_v 2)) q_nil))) (q_name (i := 5) sc__law_some.nd rfl (Or.inl rfl)) (q_scons (q_set (i := 6) sc__law_some.nd rfl (Or.inl rfl) (q_cut (q_op uo_add q_int (q_op uo_mod (q_op uo_fdiv (q_g g__law_mix (hr.mono (by decide)) pass1E (q_cons (q_g g__law_cell (hr.mono (by decide)) pass1E (q_cons (q_v 0) (q_cons (q_v 5) q_nil))) (q_cons (q_op uo_mul q_int (q_v 5)) q_nil))) q_int) (q_v 3))))) (q_sone (q_sif (q_tcmp (uo_notIn (K := K)) (q_v 6) (q_v 4) rfl) (q_sone (q_expr (q_bm (K := K) PySem.F.slot_list_append PySem.F.type_list_append um_append (q_v 4) (q_cons (q_v 6) q_nil)))) q_snil)))) (q_sone (q_ret (q_v 4))))), ?_⟩
    obtain ⟨ns, hS, ⟨hs0, hs1⟩, ⟨hm0, hm1⟩, ⟨hf0, hf1⟩, q⟩ := h
    refine ⟨by show 0 ≤ _; omega, fun p hp => ⟨⟨by omega, by omega, by omega, by omega⟩, ?_⟩⟩
    refine for_range (fun i σ H' => ∃ (cs : List Int) (v w : Option V), σ = [some (.ref a), some (.int st), some (.int most), some (.int far), some (.ref p), v, w] ∧ Same H H' ∧ H' p = some (.lst (cs.map V.int)) ∧ cs.length ≤ i ∧ (0 < i → 1 ≤ cs.length) ∧ (∀ c ∈ cs, 1 ≤ c ∧ c ≤ far) ∧ cs.Nodup)
      ⟨[], none, none, rfl, Same.new hp, upd_same, by simp, by simp, by simp, List.nodup_nil⟩ ?_ ?_
    · rintro i σ H' hi ⟨cs, v, w', rfl, sm, hc, h1, h0, h2, h3⟩
      refine ⟨fun v H2 => ∃ c : Int, v = .int c ∧ (1 ≤ c ∧ c ≤ far) ∧ H' = H2, ⟨ns, sm.seq hS, by omega, .inl ⟨by decide, by decide⟩, ⟨by decide, by decide⟩, by omega, _, rfl, ⟨?_, ?_⟩, rfl⟩, ?_⟩
      · have := Int.emod_nonneg (mix (ns.getD (st + (i : Int)).toNat 0) (3 * (st + (i : Int))) / 7) (show far ≠ 0 by omega)
        omega
      · have := Int.emod_lt_of_pos (mix (ns.getD (st + (i : Int)).toNat 0) (3 * (st + (i : Int))) / 7) (show 0 < far by omega)
        omega
      rintro _ _ ⟨c, rfl, ⟨c1, c2⟩, rfl⟩
      refine ⟨_, .inl (SqL.of hc), ⟨rfl, flat_ints cs⟩, ifB (fun g1 => ?_) fun g1 => ?_⟩
      · rw [inV_ints] at g1
        have g1' : c ∉ cs := by simpa using g1
        refine ⟨⟨_, SqL.of hc⟩, _, hc, by rw [List.length_map]; exact small1000 (by omega), ?_⟩
        refine ⟨cs ++ [c], _, _, rfl, sm.put hp, by rw [upd_same, List.map_append]; rfl, by simp; omega, fun _ => by simp, fun d hd => ?_, ?_⟩
        · rcases List.mem_append.mp hd with z | z
          · exact h2 d z
          · rw [List.mem_singleton.mp z]; exact ⟨c1, c2⟩
        · rw [List.nodup_append]
          refine ⟨h3, by simp, fun x hx y hy e => ?_⟩
          rw [List.mem_singleton.mp hy] at e
          rw [e] at hx
          exact g1' hx
      · rw [inV_ints] at g1
        have g1' : c ∈ cs := by simpa using g1
        exact ⟨cs, _, _, rfl, sm, hc, by omega, fun _ => List.length_pos_of_mem g1', h2, h3⟩
    · rintro σ H' ⟨cs, v, w', rfl, sm, hc, h1, h0, h2, h3⟩
      exact q p cs H' sm hp hc (h0 (by omega)) (by omega) h2 h3

end
end PG

set_option Elab.async false
set_option linter.all false
set_option maxRecDepth 100000
set_option maxHeartbeats 4000000
namespace PG
open PySem L2 PyProof.Rows

section
variable {P : Program} {w : World} {K : PySem.W.Frag} {mg : Str → Option Value} {base : Heap}

theorem sc_check_paying : FnScope ["coins", "paying"] ["coins", "paying"] (defScope s_check_paying) := ⟨rfl, rfl, rfl, by decide +kernel, rfl, by decide +kernel, by decide +kernel⟩
theorem ok_check_paying {f : Addr} {fd : FuncData} (F : Fun K "check_paying" "check_paying" s_check_paying f fd) (B : Blt mg) (ER : Errs K mg) (OW : Owns K mg) (g_is_number : G P w K mg base (CX1 P w) "is_number" ["thing"] 1 sNum) : FnOk P w K mg base (CX1 P w) 2 f fd ["coins", "paying"] (sCheckP0 K) := by
  refine F.okN sc_check_paying (fun vs H Q E h => ?_) (fun cdv A outer s H vs Q E hr h => ?_)
  · unfold sCheckP0 at h; split at h
    · rfl
    · exact h.elim
  · unfold sCheckP0 at h; split at h
    rotate_left
    · exact h.elim
    rename_i a b
    refine ⟨_, (q_scons (q_sif (q_tcmp (uo_ne (K := K) hr.u8) (q_callB (uc_len (K := K)) (by rfl) B.len PySem.boot_len (q_cons (q_v 1) q_nil)) (q_callB (uc_len (K := K)) (by rfl) B.len PySem.boot_len (q_cons (q_v 0) q_nil)) (nomark _)) (q_sone q_never) q_snil) (q_sone (q_sif (q_tnot (q_tval (K := K) (q_callB (uc_all (K := K) rfl) (by rfl) B.all boot_all (q_cons (q_comp [none] ["times"] rfl (by kernel_rfl) (q_seq (K := K) (q_v 1)) (fun _ _ _ _ _ => (q_name (i := 0) (show List.Nodup (["times"] : List Str) from by decide +kernel) rfl (Or.inl rfl))) (fun _ _ _ _ _ => q_fnil) (fun _ _ _ _ _ => (q_and (q_g g_is_number (hr.mono (by decide)) pass1E (q_cons (q_v 0) q_nil)) (q_one (q_cmp uo_ge (q_v 0) q_int (nomark _)))))) q_nil)))) (q_sone q_never) q_snil))), ?_⟩
    obtain ⟨ns, ms, hS, hY, hl, hl2, h0, q⟩ := h
    refine ⟨_, .inl hY, _, .inl hS, ifB (fun g1 => ?_) fun g1 => ?_⟩
    · exfalso
      rw [List.length_map, List.length_map] at g1
      have g1' : ¬ (ms.length : Int) = (ns.length : Int) := by simpa using g1
      omega
    · refine .inl ⟨_, hY, comp_by (fun i => V.bl (isPayV ((ms.map V.int).getD i .non))) (fun _ => true) (jp_list hY) (by rw [List.length_map]; exact small1000 hl2) (keepName rfl) (fun i x H' R Z hi sm hx hR hZ => ?_) (fun D H' hD sm hL => ?_)⟩
      · obtain ⟨n, hn, rfl⟩ := int_at hx
        refine tT ?_
        refine ⟨trivial, ?_⟩
        have := hR rfl H' (Same.refl _)
        have e : (ms.map V.int).getD i .non = .int n := by rw [List.getD_eq_getElem?_getD, hx]; rfl
        rw [e] at this
        exact this
      · rw [mapAtV isPayV V.bl] at hL
        refine ⟨_, SqL.of hL, ?_⟩
        have eall : ((ms.map V.int).map isPayV).all id = true := by
          rw [List.map_map, List.all_map, List.all_eq_true]
          intro m hm
          exact decide_eq_true (h0 m hm)
        rw [eall]
        exact q H' sm

theorem sc_check_counts : FnScope ["coins", "counts"] ["coins", "counts"] (defScope s_check_counts) := ⟨rfl, rfl, rfl, by decide +kernel, rfl, by decide +kernel, by decide +kernel⟩
theorem ok_check_counts {f : Addr} {fd : FuncData} {tk_MOST_HELD : Tok} (F : Fun K "check_counts" "check_counts" s_check_counts f fd) (B : Blt mg) (ER : Errs K mg) (OW : Owns K mg) (mc_MOST_HELD : mg "MOST_HELD" = some (.int 100 tk_MOST_HELD)) (g_check_paying : G P w K mg base (CX1 P w) "check_paying" ["coins", "paying"] 2 (sCheckP0 K)) : FnOk P w K mg base (CX1 P w) 3 f fd ["coins", "counts"] (sCounts0 K) := by
  refine F.okN sc_check_counts (fun vs H Q E h => ?_) (fun cdv A outer s H vs Q E hr h => ?_)
  · unfold sCounts0 at h; split at h
    · rfl
    · exact h.elim
  · unfold sCounts0 at h; split at h
    rotate_left
    · exact h.elim
    rename_i a b
    refine ⟨_, (q_scons (q_expr (q_g g_check_paying (hr.mono (by decide)) pass1E (q_cons (q_v 0) (q_cons (q_v 1) q_nil)))) (q_sone (q_sif (q_tcmp uo_gt (q_callB (uc_max (K := K) rfl) (by rfl) B.max boot_max (q_cons (q_v 1) q_nil)) (q_glob (v := .int 100) (by rfl) mc_MOST_HELD ⟨_, rfl⟩) (nomark _)) (q_sone q_never) q_snil))), ?_⟩
    obtain ⟨ns, ms, hS, hY, hl, ⟨l1, l2⟩, hr, q⟩ := h
    refine ⟨ns, ms, hS, hY, hl, l2, fun m hm => (hr m hm).1, fun H1 s1 => ⟨ms, s1.seq hY, l1, fun m hm hmax => ifB (fun g => ?_) fun g => q H1 s1⟩⟩
    exfalso
    have := of_decide_eq_true g
    have := hr m hm
    omega

theorem sc_bundles_of : FnScope ["counts", "bundles", "place", "count", "times", "left", "taken"] ["counts"] (defScope s_bundles_of) := ⟨rfl, rfl, rfl, by decide +kernel, rfl, by decide +kernel, by decide +kernel⟩
theorem ok_bundles_of {f : Addr} {fd : FuncData} (F : Fun K "bundles_of" "bundles_of" s_bundles_of f fd) (B : Blt mg) (ER : Errs K mg) (OW : Owns K mg) : FnOk P w K mg base (CX1 P w) 1 f fd ["counts"] (sBunOf K) := by
  refine F.okN sc_bundles_of (fun vs H Q E h => ?_) (fun cdv A outer s H vs Q E hr h => ?_)
  · unfold sBunOf at h; split at h
    · rfl
    · exact h.elim
  · unfold sBunOf at h; split at h
    rotate_left
    · exact h.elim
    rename_i a
    refine ⟨_, (q_scons (q_set (i := 1) sc_bundles_of.nd rfl (Or.inl rfl) (q_lst q_nil)) (q_scons (q_for PassesOwn.never rfl (q_enum B.enumerate (q_cons (q_v 0) q_nil)) (q_gtup (K := K) (n := 2) rfl (q_gcons (q_name (i := 2) sc_bundles_of.nd rfl (Or.inl rfl)) (q_gcons (q_name (i := 3) sc_bundles_of.nd rfl (Or.inl rfl)) q_gnil))) (q_scons (q_set (i := 4) sc_bundles_of.nd rfl (Or.inl rfl) q_int) (q_scons (q_set (i := 5) sc_bundles_of.nd rfl (Or.inl rfl) (q_v 3)) (q_sone (q_while PassesOwn.never (q_tcmp uo_gt (q_v 5) q_int (nomark _)) (q_scons (q_set (i := 6) sc_bundles_of.nd rfl (Or.inl rfl) (q_cut (q_callB (uc_min2 rfl) (by rfl) B.min boot_min (q_cons (q_v 4) (q_cons (q_v 5) q_nil))))) (q_scons (q_expr (q_bm (K := K) PySem.F.slot_list_append PySem.F.type_list_append um_append (q_v 1) (q_cons (q_tup (q_cons (q_v 2) (q_cons (q_v 6) q_nil))) q_nil))) (q_scons (q_set (i := 5) sc_bundles_of.nd rfl (Or.inl rfl) (q_op uo_sub (q_v 5) (q_v 6))) (q_sone (q_set (i := 4) sc_bundles_of.nd rfl (Or.inl rfl) (q_op uo_mul q_int (q_v 4)))))))))))) (q_sone (q_ret (q_v 1))))), ?_⟩
    obtain ⟨ks, hS, kl, kr, q⟩ := h
    have k0 : ∀ k ∈ ks, 0 ≤ k := fun k hk => (kr k hk).1
    refine ⟨by show 0 ≤ _; omega, fun p hp => ?_⟩
    refine ⟨_, (Same.new hp).seq hS, for_enum (K := K) (a := a) (xs := ks.map V.int) (fun i σ H' => ∃ (v w x y z : Option V) (bs : List (Nat × Int)), σ = [some (.ref a), some (.ref p), v, w, x, y, z] ∧ Same H H' ∧ BunAt H' p bs ∧ BunI ks i 0 bs) ⟨none, none, none, none, none, [], rfl, Same.new hp, ⟨[], upd_same, rfl, fun j T x e => by simp at e⟩, BunI.start k0⟩ (fun i σ H' _ ⟨_, _, _, _, _, _, _, s, _⟩ => s.seq hS) ?_ ?_⟩
    · rintro i x T σ H1 hx hT ⟨v, w', x', y', z', bs, rfl, s1, hb, inv⟩
      obtain ⟨k, hk, rfl⟩ := int_at hx
      have hil := getElem?_lt hk
      have krk := kr k (List.mem_of_getElem? hk)
      have ek : ks.getD i 0 = k := getD_at hk
      have tks : (ks.take i).sum ≤ 4000 := by
        have h1 := sum_le (ks := ks.take i) (m := 100) fun k hk => (kr k (List.mem_of_mem_take hk)).2
        have h2 : (ks.take i).length ≤ 40 := by rw [List.length_take]; omega
        omega
      have s2 := s1.trans (Same.new (o := .tup [.int (i : Int), .int k]) hT)
      refine ⟨T, _, rfl, SqT.of upd_same, rfl, _, _, rfl, _, _, rfl, rfl, ?_⟩
      refine while_of (fun σ H' => ∃ (t l : Int) (z : Option V) (bs : List (Nat × Int)), σ = [some (.ref a), some (.ref p), some (.int i), some (.int k), some (.int t), some (.int l), z] ∧ Same H H' ∧ BunAt H' p bs ∧ BunI ks i (k - l) bs ∧ (0 ≤ l ∧ l ≤ k) ∧ (0 < l → t = k - l + 1)) (fun σ _ => match σ with | [_, _, _, _, _, some (.int l), _] => l.toNat | _ => 0) ⟨1, k, z', bs, rfl, s2, hb.same (Same.new hT), by rw [show k - k = 0 by omega]; exact inv, ⟨by omega, by omega⟩, fun _ => by omega⟩ ?_
      rintro σ H2 ⟨t, l, z, bs, rfl, s3, hb, inv, ⟨l0, l1⟩, ht⟩
      refine ifB (fun g => while_go ?_) fun g => ?_
      · have g' : 0 < l := of_decide_eq_true g
        have ht' := ht g'
        refine ⟨fun v H' => ∃ tk : Int, v = .int tk ∧ (1 ≤ tk ∧ tk ≤ l ∧ tk ≤ t ∧ (tk = t ∨ tk = l)) ∧ H2 = H', ⟨_, rfl, ?_, rfl⟩, ?_⟩
        · split <;> omega
        rintro _ _ ⟨tk, rfl, ⟨k1, k2, k3, k4⟩, rfl⟩
        obtain ⟨ts, hb1, hb2, hb3⟩ := hb
        have ble := inv.le
        refine ⟨⟨_, SqL.of hb1⟩, by show 2 ≤ sizeLine; decide, fun T2 hT2 => ⟨_, (Same.new hT2) _ _ hb1, by rw [List.length_map, sizeLine_eq]; omega, ?_⟩⟩
        refine ⟨.inl ⟨by decide, by decide⟩, ⟨2 * t, l - tk, _, bs ++ [(i, tk)], rfl, (s3.trans (Same.new hT2)).put hp, BunAt.push (x := (i, tk)) hb1 hb2 hb3 hT2, ?_, ⟨by omega, by omega⟩, fun z => ?_⟩, ?_⟩
        · rw [show k - (l - tk) = k - l + tk by omega]
          exact inv.more hil (by omega) k1 (by omega) (by omega)
        · rcases k4 with e | e
          · omega
          · omega
        · show (l - tk).toNat < l.toNat
          omega
      · have g' : ¬ 0 < l := of_decide_eq_false g
        have el : l = 0 := by omega
        subst el
        rw [Int.sub_zero] at inv
        exact ⟨_, _, _, _, _, bs, rfl, s3, hb, BunI.next hil (by rw [ek]; exact inv) k0⟩
    · rintro σ H1 ⟨v, w', x', y', z', bs, rfl, s1, hb, inv⟩
      rw [List.length_map] at inv
      exact q p bs H1 s1 hp hb inv.whole

theorem sc_with_bundle : FnScope ["numbers", "times", "worth", "fewer"] ["numbers", "times", "worth"] (defScope s_with_bundle) := ⟨rfl, rfl, rfl, by decide +kernel, rfl, by decide +kernel, by decide +kernel⟩
theorem ok_with_bundle {f : Addr} {fd : FuncData} (F : Fun K "with_bundle" "with_bundle" s_with_bundle f fd) (B : Blt mg) (ER : Errs K mg) (OW : Owns K mg) : FnOk P w K mg base (CX1 P w) 1 f fd ["numbers", "times", "worth"] (sWithB K) := by
  refine F.okN sc_with_bundle (fun vs H Q E h => ?_) (fun cdv A outer s H vs Q E hr h => ?_)
  · unfold sWithB at h; split at h
    · rfl
    · exact h.elim
  · unfold sWithB at h; split at h
    rotate_left
    · exact h.elim
    rename_i a t w
    refine ⟨_, (q_scons (q_setC (i := 3) [none, none, some 1] ["without", "left", "times"] sc_with_bundle.nd rfl rfl rfl (by kernel_rfl) (q_zip B.zip (q_cons (q_slice (usl (K := K)) (q_v 0) (q_some (q_v 2)) q_none) (q_cons (q_v 0) q_nil))) (fun _ _ _ _ _ => (q_gtup (K := K) (n := 2) rfl (q_gcons (q_name (i := 0) (show List.Nodup (["without", "left", "times"] : List Str) from by decide +kernel) rfl (Or.inl rfl)) (q_gcons (q_name (i := 1) (show List.Nodup (["without", "left", "times"] : List Str) from by decide +kernel) rfl (Or.inl rfl)) q_gnil)))) (fun _ _ _ _ _ => q_fnil) (fun _ _ _ _ _ => (q_callB (uc_min2 rfl) (by rfl) B.min boot_min (q_cons (q_v 0) (q_cons (q_op uo_add (q_v 1) (q_v 2)) q_nil))))) (q_sone (q_ret (q_op uo_add (q_slice (usl (K := K)) (q_v 0) q_none (q_some (q_v 2))) (q_v 3))))), ?_⟩
    obtain ⟨ts, hS, tl, w1, q⟩ := h
    have ec1 : cutV (ts.map V.int) (some w) none = (ts.drop w.toNat).map V.int := by
      have := cutV_drop (ts.map V.int) w.toNat
      rw [Int.toNat_of_nonneg (by omega)] at this
      rw [this, List.map_drop]
    have ec2 : cutV (ts.map V.int) none (some w) = (ts.take w.toNat).map V.int := by
      have := cutV_take (ts.map V.int) w.toNat
      rw [Int.toNat_of_nonneg (by omega)] at this
      rw [this, List.map_take]
    refine ⟨_, hS, fun u hu => ?_⟩
    rw [ec1]
    have s1 : Same H (upd H u (.lst ((ts.drop w.toNat).map V.int))) := Same.new hu
    refine ⟨_, _, SqL.of upd_same, s1.seq hS, comp_by (fun i => V.int (wbAt ts t w (i + w.toNat))) (fun _ => true) (jp_zipS (SqL.of upd_same) (s1.seq hS) (by simp)) (by rw [List.length_map, List.length_drop, sizeLine_eq]; omega) (keepTup2 rfl rfl) (fun i x H' R Z hi sm hx hR hZ => ?_) (fun D H2 hD s2 hL => ?_)⟩
    · obtain ⟨T, x1, y1, rfl, hT, e1, e2⟩ := hx
      obtain ⟨u1, eu, rfl⟩ := int_at e1
      obtain ⟨v1, ev, rfl⟩ := int_at e2
      have := hR rfl H' (Same.refl _)
      rw [List.getElem?_drop] at eu
      have eq : wbAt ts t w (i + w.toNat) = if v1 + t < u1 then v1 + t else u1 := by
        unfold wbAt
        rw [if_neg (by omega), show i + w.toNat - w.toNat = i by omega, show i + w.toNat = w.toNat + i by omega, getD_at eu, getD_at ev]
      rw [eq] at this
      exact ⟨T, _, rfl, SqT.of hT, rfl, _, _, rfl, _, _, rfl, rfl, this⟩
    rw [range_ints (fun i => wbAt ts t w (i + w.toNat))] at hL
    refine ⟨_, (s1.trans s2).seq hS, fun v hv => ?_⟩
    rw [ec2]
    have s3 := Same.new (o := .lst ((ts.take w.toNat).map V.int)) hv
    have eul : (ts.take w.toNat ++ (List.range ((ts.drop w.toNat).map V.int).length).map fun i => wbAt ts t w (i + w.toNat)).length = ts.length := by
      rw [List.length_append, List.length_take, List.length_map, List.length_range, List.length_map, List.length_drop]
      omega
    refine ⟨_, _, upd_same, s3 _ _ hL, ?_, fun p hp => ?_⟩
    · rw [List.length_map, List.length_map, List.length_map, List.length_range, List.length_map, List.length_take, List.length_drop, sizeLine_eq]
      omega
    have t3 := (s1.trans s2).trans s3
    refine q p (ts.take w.toNat ++ (List.range ((ts.drop w.toNat).map V.int).length).map fun i => wbAt ts t w (i + w.toNat)) _ (t3.trans (Same.new hp)) (t3.free hp) (by rw [upd_same, List.map_append]) eul fun b hb => ?_
    by_cases hbw : b < w.toNat
    · rw [List.getD_eq_getElem?_getD, List.getElem?_append_left (by rw [List.length_take]; omega), List.getElem?_take, if_pos hbw, ← List.getD_eq_getElem?_getD]
      unfold wbAt
      rw [if_pos (by omega)]
    · rw [List.getD_eq_getElem?_getD, List.getElem?_append_right (by rw [List.length_take]; omega), List.length_take, List.getElem?_map, List.getElem?_range (by rw [List.length_map, List.length_drop]; omega)]
      show wbAt ts t w _ = _
      congr 1
      omega

theorem sc_fewest_tables : FnScope ["coins", "bundles", "amount", "tables", "place", "times"] ["coins", "bundles", "amount"] (defScope s_fewest_tables) := ⟨rfl, rfl, rfl, by decide +kernel, rfl, by decide +kernel, by decide +kernel⟩
theorem ok_fewest_tables {f : Addr} {fd : FuncData} {tk_UNPAID : Tok} (F : Fun K "fewest_tables" "fewest_tables" s_fewest_tables f fd) (ER : Errs K mg) (OW : Owns K mg) (mc_UNPAID : mg "UNPAID" = some (.int 4001 tk_UNPAID)) (g_with_bundle : G P w K mg base (CX1 P w) "with_bundle" ["numbers", "times", "worth"] 1 (sWithB K)) : FnOk P w K mg base (CX1 P w) 2 f fd ["coins", "bundles", "amount"] (sTables K) := by
  refine F.okN sc_fewest_tables (fun vs H Q E h => ?_) (fun cdv A outer s H vs Q E hr h => ?_)
  · unfold sTables at h; split at h
    · rfl
    · exact h.elim
  · unfold sTables at h; split at h
    rotate_left
    · exact h.elim
    rename_i a b n
    refine ⟨_, (q_scons (q_set (i := 3) sc_fewest_tables.nd rfl (Or.inl rfl) (q_lst (q_cons (q_op uo_add (q_lst (q_cons q_int q_nil)) (q_op uo_mul (q_lst (q_cons (q_glob (v := .int 4001) (by rfl) mc_UNPAID ⟨_, rfl⟩) q_nil)) (q_v 2))) q_nil))) (q_scons (q_for PassesOwn.never rfl (q_seq (K := K) (q_v 1)) (q_gtup (K := K) (n := 2) rfl (q_gcons (q_name (i := 4) sc_fewest_tables.nd rfl (Or.inl rfl)) (q_gcons (q_name (i := 5) sc_fewest_tables.nd rfl (Or.inl rfl)) q_gnil))) (q_sone (q_expr (q_bm (K := K) PySem.F.slot_list_append PySem.F.type_list_append um_append (q_v 3) (q_cons (q_g g_with_bundle (hr.mono (by decide)) pass1E (q_cons (q_ix (ux (K := K)) (q_v 3) (q_un uu_neg q_int) (fun _ _ => rfl)) (q_cons (q_v 5) (q_cons (q_op uo_mul (q_ix (ux (K := K)) (q_v 0) (q_v 4) (fun _ _ => rfl)) (q_v 5)) q_nil)))) q_nil))))) (q_sone (q_ret (q_v 3))))), ?_⟩
    obtain ⟨cs, ks, bs, hS, hB, bun, cr, hl, kl, kr, ⟨n0, n1⟩, q⟩ := h
    have hc1 : ∀ c ∈ cs, 1 ≤ c := fun c hc => (cr c hc).1
    have hbl : bs.length ≤ 4000 := by
      have h1 := bun.le
      have h2 := sum_le (m := 100) fun k hk => (kr k hk).2
      omega
    refine ⟨by show 1 ≤ sizeLine; decide, fun r1 h1 => ⟨by show 1 ≤ sizeLine; decide, fun r2 h2 => ⟨_, upd_same, ⟨by omega, by omega⟩, ?_, fun r3 h3 => ?_⟩⟩⟩
    · show 1 * _ ≤ _
      rw [sizeLine_eq]; omega
    rw [rep_int]
    have s1 : Same H (upd H r1 (.lst [.int 0])) := Same.new h1
    have s2 := s1.trans (Same.new (o := .lst [.int 4001]) h2)
    have s3 := s2.trans (Same.new (o := .lst ((List.replicate n.toNat 4001).map V.int)) h3)
    refine ⟨_, _, ((Same.new h2).trans (Same.new h3)) _ _ upd_same, upd_same, ?_, fun r4 h4 => ⟨by show 1 ≤ sizeLine; decide, fun p hp => ?_⟩⟩
    · rw [List.length_map, List.length_replicate, sizeLine_eq]; show 1 + _ ≤ _; omega
    have s4 := s3.trans (Same.new (o := .lst ([V.int 0] ++ (List.replicate n.toNat 4001).map V.int)) h4)
    have hpH : H p = none := s4.free hp
    have s5 := s4.trans (Same.new (o := .lst [.ref r4]) hp)
    have n4p : r4 ≠ p := by intro z; subst z; rw [upd_same] at hp; cases hp
    have tab0 : TabAt cs bs n.toNat (upd (upd (upd (upd (upd H r1 (.lst [.int 0])) r2 (.lst [.int 4001])) r3 (.lst ((List.replicate n.toNat 4001).map V.int))) r4 (.lst ([V.int 0] ++ (List.replicate n.toNat 4001).map V.int))) p (.lst [.ref r4])) r4 0 := by
      refine ⟨0 :: List.replicate n.toNat 4001, by rw [upd_ne n4p, upd_same]; rfl, by simp, fun x hx => ?_⟩
      cases x with
      | zero => exact .inr ⟨by show (0 : Int) ≤ 4000; decide, ⟨rfl, rfl⟩, fun m hm => by obtain ⟨_, e⟩ := hm; rw [e]; show (0 : Int) ≤ 0; decide⟩
      | succ x =>
        refine .inl ⟨?_, fun m hm => by obtain ⟨e, _⟩ := hm; omega⟩
        rw [List.getD_eq_getElem?_getD, List.getElem?_cons_succ, List.getElem?_replicate, if_pos (by omega)]
        rfl
    obtain ⟨bt, hb1, hb2, hb3⟩ := hB
    refine .inl ⟨_, SqL.of (s5 _ _ hb1), for_list (K := K) (a := b) (xs := bt.map V.ref) (fun i σ H' => ∃ (v w : Option V) (rs : List Addr), σ = [some (.ref a), some (.ref b), some (.int n), some (.ref p), v, w] ∧ Same H H' ∧ H' p = some (.lst (rs.map V.ref)) ∧ rs.length = i + 1 ∧ ∀ (j : Nat) T, rs[j]? = some T → T ≠ p ∧ TabAt cs bs n.toNat H' T j) ⟨none, none, [r4], rfl, s5, upd_same, rfl, fun j T hT => ?_⟩ (fun i σ H' _ ⟨_, _, _, _, s, _⟩ => SqL.of (s _ _ hb1)) ?_ ?_⟩
    · cases j with
      | zero => cases hT; exact ⟨n4p, tab0⟩
      | succ j => simp at hT
    · rintro i y σ H6 hy ⟨v, w', rs, rfl, s6, hp6, rl, tabs⟩
      rw [List.getElem?_map] at hy
      cases eT : bt[i]? with
      | none => rw [eT] at hy; cases hy
      | some Ti =>
        rw [eT] at hy
        cases hy
        have hil := getElem?_lt eT
        obtain ⟨x, hx⟩ : ∃ x, bs[i]? = some x := ⟨_, List.getElem?_eq_getElem (by omega)⟩
        have hTi := s6 _ _ (hb3 i Ti x eT hx)
        obtain ⟨x1, x2, x3⟩ := bun.pl x (List.mem_of_getElem? hx)
        have ebx : bs.getD i (0, 0) = x := getD_of hx
        have hxc : cs[x.1]? = some (cs.getD x.1 0) := getD_some (by omega)
        have cx := cr _ (List.mem_of_getElem? hxc)
        obtain ⟨TL, hTL⟩ : ∃ T, rs[i]? = some T := ⟨_, List.getElem?_eq_getElem (by omega)⟩
        obtain ⟨nTp, ts, hts, tsl, tsm⟩ := tabs i TL hTL
        have hatE : atI (rs.map V.ref) (-1) = some (.ref TL) := by rw [atI_end (i := i) (by rw [List.length_map]; omega), List.getElem?_map, hTL]; rfl
        refine ⟨Ti, _, rfl, SqT.of hTi, rfl, _, _, rfl, _, _, rfl, rfl, ?_⟩
        have hatc := atInt (ns := cs) (k := ((x.1 : Nat) : Int)) (by omega) (by omega)
        rw [Int.toNat_natCast] at hatc
        have hw1 : 1 ≤ cs.getD x.1 0 * x.2 := Int.mul_pos (by omega) (by omega)
        refine ⟨⟨_, SqL.of hp6⟩, _, _, .inl (SqL.of hp6), hatE, _, _, .inl (s6.seq hS), hatc, .inl ⟨by omega, by omega⟩, ts, SqL.of hts, by omega, hw1, fun T2 us H7 s7 hT2 hu ul uw => ?_⟩
        refine ⟨_, s7 _ _ hp6, by rw [List.length_map, sizeLine_eq]; omega, ?_⟩
        have nT2 : T2 ≠ p := by intro z; subst z; rw [hp6] at hT2; cases hT2
        refine ⟨_, _, rs ++ [T2], rfl, (s6.trans s7).put hpH, by rw [upd_same, List.map_append]; rfl, by simp [rl], fun j T hT => ?_⟩
        by_cases hj : j < rs.length
        · rw [List.getElem?_append_left hj] at hT
          obtain ⟨z1, z2⟩ := tabs j T hT
          obtain ⟨us', e1, e2, e3⟩ := z2.same s7
          exact ⟨z1, us', by rw [upd_ne z1]; exact e1, e2, e3⟩
        · rw [List.getElem?_append_right (by omega)] at hT
          have j0 : j - rs.length = 0 := by
            rcases Nat.eq_zero_or_pos (j - rs.length) with z | z
            · exact z
            · rw [List.getElem?_eq_none (by simp; omega)] at hT; cases hT
          rw [j0] at hT
          cases hT
          have ej : j = i + 1 := by omega
          subst ej
          refine ⟨nT2, us, by rw [upd_ne nT2]; exact hu, by omega, fun z hz => ?_⟩
          rw [uw z (by omega)]
          have st := wb_step (m := n.toNat) hc1 (fun a' n' r => bun.neg hc1 (j := i) (by omega) r) (by rw [ebx]; exact x2) (by rw [ebx]; omega) (fun a' n' r => bun.top kl kr (j := i + 1) (by omega) r) tsm z hz
          rw [ebx] at st
          exact st
    · rintro σ H6 ⟨v, w', rs, rfl, s6, hp6, rl, tabs⟩
      rw [List.length_map] at rl
      exact q p rs H6 s6 hpH hp6 (by omega) fun j T hT => (tabs j T hT).2

theorem sc_held_paying : FnScope ["coins", "counts", "amount", "bundles", "tables", "paying", "left", "before", "place", "times"] ["coins", "counts", "amount"] (defScope s_held_paying) := ⟨rfl, rfl, rfl, by decide +kernel, rfl, by decide +kernel, by decide +kernel⟩
theorem ok_held_paying {f : Addr} {fd : FuncData} {tk_UNPAID : Tok} (F : Fun K "held_paying" "held_paying" s_held_paying f fd) (B : Blt mg) (ER : Errs K mg) (OW : Owns K mg) (mc_UNPAID : mg "UNPAID" = some (.int 4001 tk_UNPAID)) (g_bundles_of : G P w K mg base (CX1 P w) "bundles_of" ["counts"] 1 (sBunOf K)) (g_fewest_tables : G P w K mg base (CX1 P w) "fewest_tables" ["coins", "bundles", "amount"] 2 (sTables K)) : FnOk P w K mg base (CX1 P w) 3 f fd ["coins", "counts", "amount"] (sHeldP K) := by
  refine F.okN sc_held_paying (fun vs H Q E h => ?_) (fun cdv A outer s H vs Q E hr h => ?_)
  · unfold sHeldP at h; split at h
    · rfl
    · exact h.elim
  · unfold sHeldP at h; split at h
    rotate_left
    · exact h.elim
    rename_i a b n
    refine ⟨_, (q_scons (q_set (i := 3) sc_held_paying.nd rfl (Or.inl rfl) (q_g g_bundles_of (hr.mono (by decide)) pass1E (q_cons (q_v 1) q_nil))) (q_scons (q_set (i := 4) sc_held_paying.nd rfl (Or.inl rfl) (q_g g_fewest_tables (hr.mono (by decide)) pass1E (q_cons (q_v 0) (q_cons (q_v 3) (q_cons (q_v 2) q_nil))))) (q_scons (q_sif (q_tcmp (uo_eq (K := K) hr.u8) (q_ix (ux (K := K)) (q_ix (ux (K := K)) (q_v 4) (q_un uu_neg q_int) (fun _ _ => rfl)) (q_v 2) (fun _ _ => rfl)) (q_glob (v := .int 4001) (by rfl) mc_UNPAID ⟨_, rfl⟩) (nomark _)) (q_sone (q_ret q_non)) q_snil) (q_scons (q_set (i := 5) sc_held_paying.nd rfl (Or.inl rfl) (q_op uo_mul (q_lst (q_cons q_int q_nil)) (q_callB (uc_len (K := K)) (by rfl) B.len PySem.boot_len (q_cons (q_v 0) q_nil)))) (q_scons (q_set (i := 6) sc_held_paying.nd rfl (Or.inl rfl) (q_v 2)) (q_scons (q_for PassesOwn.never rfl (q_rangeD B.range (q_cons (q_op uo_sub (q_callB (uc_len (K := K)) (by rfl) B.len PySem.boot_len (q_cons (q_v 3) q_nil)) q_int) (q_cons (q_un uu_neg q_int) (q_cons (q_un uu_neg q_int) q_nil)))) (q_name (i := 7) sc_held_paying.nd rfl (Or.inl rfl)) (q_sone (q_sif (q_tcmp uo_lt (q_ix (ux (K := K)) (q_ix (ux (K := K)) (q_v 4) (q_op uo_add (q_v 7) q_int) (fun _ _ => rfl)) (q_v 6) (fun _ _ => rfl)) (q_ix (ux (K := K)) (q_ix (ux (K := K)) (q_v 4) (q_v 7) (fun _ _ => rfl)) (q_v 6) (fun _ _ => rfl)) (nomark _)) (q_scons (q_set (i := 8) sc_held_paying.nd rfl (Or.inl rfl) (q_ix (ux (K := K)) (q_ix (ux (K := K)) (q_v 3) (q_v 7) (fun _ _ => rfl)) q_int (fun _ _ => rfl))) (q_scons (q_set (i := 9) sc_held_paying.nd rfl (Or.inl rfl) (q_ix (ux (K := K)) (q_ix (ux (K := K)) (q_v 3) (q_v 7) (fun _ _ => rfl)) q_int (fun _ _ => rfl))) (q_scons (q_asg (q_op uo_add (q_ix (ux (K := K)) (q_v 5) (q_v 8) (fun _ _ => rfl)) (q_v 9)) (q_gsub (q_v 5) (q_v 8) us_set)) (q_sone (q_set (i := 6) sc_held_paying.nd rfl (Or.inl rfl) (q_op uo_sub (q_v 6) (q_op uo_mul (q_ix (ux (K := K)) (q_v 0) (q_v 8) (fun _ _ => rfl)) (q_v 9)))))))) q_snil))) (q_sone (q_ret (q_v 5))))))))), ?_⟩
    obtain ⟨cs, ks, hS, hK, ⟨cr, hl, kl⟩, kr, ⟨n0, n1⟩, q0, q1⟩ := h
    have hc1 : ∀ c ∈ cs, 1 ≤ c := fun c hc => (cr c hc).1
    refine ⟨ks, hK, kl, kr, fun B bs H1 s1 hB0 hB bun => ?_⟩
    have hbl : bs.length ≤ 4000 := by
      have h1 := bun.le
      have h2 := sum_le (m := 100) fun k hk => (kr k hk).2
      omega
    refine ⟨cs, ks, bs, s1.seq hS, hB, bun, cr, hl, kl, kr, ⟨n0, n1⟩, fun P rs H2 s2 hP0 hP rl tabs => ?_⟩
    have t2 := s1.trans s2
    have hB2 := hB.same s2
    obtain ⟨TL, hTL⟩ : ∃ T, rs[bs.length]? = some T := ⟨_, List.getElem?_eq_getElem (by omega)⟩
    obtain ⟨tl, htl, tll, tlm⟩ := tabs _ _ hTL
    have hatE : atI (rs.map V.ref) (-1) = some (.ref TL) := by rw [atI_end (i := bs.length) (by rw [List.length_map]; omega), List.getElem?_map, hTL]; rfl
    refine ⟨_, _, .inl (SqL.of hP), hatE, _, _, .inl (SqL.of htl), atInt n0 (by omega), ?_⟩
    have M := tlm n.toNat (Nat.le_refl _)
    rw [Int.toNat_of_nonneg n0] at M
    have rbE : ∀ k, RB cs bs bs.length n k ↔ RC cs ks cs.length n k := fun k => by rw [bun.rb, hl]
    generalize tl.getD n.toNat 0 = k0 at M
    refine ifB (fun g => ?_) fun g => ?_
    · have g' : k0 = 4001 := of_decide_eq_true g
      refine q0 (fun k z => ?_) H2 t2
      rcases M with ⟨_, no⟩ | ⟨le, _⟩
      · exact no k ((rbE k).mpr z)
      · omega
    have g' : ¬ k0 = 4001 := of_decide_eq_false g
    obtain ⟨Mle, Mr, Mmin⟩ := M.resolve_left (fun z => g' z.1)
    refine ⟨by show 1 ≤ sizeLine; decide, fun r hr0 => ⟨_, .inl ((t2.trans (Same.new hr0)).seq hS), _, upd_same, ⟨by omega, by rw [List.length_map]; omega⟩, ?_, fun p hp => ?_⟩⟩
    · rw [List.length_map, sizeLine_eq]
      show 1 * _ ≤ _
      omega
    have hrp : r ≠ p := by intro z; subst z; rw [upd_same] at hp; cases hp
    have hHp : H2 p = none := by rw [upd_ne (Ne.symm hrp)] at hp; exact hp
    rw [rep_int]
    have el : (((cs.map V.int).length : Nat) : Int).toNat = cs.length := by rw [List.length_map]; omega
    rw [el]
    have s3 : Same H2 (upd (upd H2 r (.lst [.int 0])) p (.lst ((List.replicate cs.length (0 : Int)).map V.int))) := (Same.new hr0).put hHp
    obtain ⟨bt, hb1, hb2, hb3⟩ := hB2
    refine ⟨_, .inl (SqL.of (s3 _ _ hb1)), ?_⟩
    rw [List.length_map]
    refine ⟨⟨⟨by omega, by omega⟩, ⟨by decide, by decide⟩, rfl⟩, ?_⟩
    refine for_range3 (fun i σ H' => ∃ (left : Int) (ps : List Int) (j : Int) (v w x : Option V), σ = [some (.ref a), some (.ref b), some (.int n), some (.ref B), some (.ref P), some (.ref p), some (.int left), v, w, x] ∧ Same H2 H' ∧ H' p = some (.lst (ps.map V.int)) ∧ ps.length = cs.length ∧ (∀ y, y < ps.length → 0 ≤ ps.getD y 0 ∧ ps.getD y 0 + psum y (bs.take (bs.length - i)) ≤ ks.getD y 0) ∧ (0 ≤ left ∧ left ≤ n) ∧ dot cs ps = n - left ∧ RB cs bs (bs.length - i) left j ∧ (∀ m, RB cs bs (bs.length - i) left m → j ≤ m) ∧ ps.sum + j = k0)
      ⟨n, _, k0, none, none, none, rfl, s3, upd_same, by simp, fun y hy => ?_, ⟨n0, by omega⟩, by rw [dot_zero]; omega, by rw [Nat.sub_zero]; exact Mr, by rw [Nat.sub_zero]; exact Mmin, by rw [sum_zero]; omega⟩ ?_ ?_
    · rw [List.length_replicate] at hy
      have e0 : (List.replicate cs.length (0 : Int)).getD y 0 = 0 := by rw [List.getD_eq_getElem?_getD, List.getElem?_replicate, if_pos hy]; rfl
      rw [e0, Nat.sub_zero, List.take_length]
      have := bun.ps y (by omega)
      omega
    · rintro i σ H3 hi ⟨left, ps, j, v, w', x', rfl, s4, hps, pl, pr, ⟨l0, l1⟩, hd, hj, hjm, hsum⟩
      have hib : i < bs.length := by omega
      have er : bs.length - i = (bs.length - 1 - i) + 1 := by omega
      generalize hb' : bs.length - 1 - i = b' at er
      have eb : ((bt.length : Nat) : Int) - 1 + ((i : Nat) : Int) * -1 = (b' : Int) := by omega
      rw [eb]
      rw [er] at pr hj hjm
      obtain ⟨x, hx⟩ : ∃ x, bs[b']? = some x := ⟨_, List.getElem?_eq_getElem (by omega)⟩
      obtain ⟨Tb, hTb⟩ : ∃ T, bt[b']? = some T := ⟨_, List.getElem?_eq_getElem (by omega)⟩
      have hTx := s4 _ _ (hb3 b' Tb x hTb hx)
      obtain ⟨x1, x2, x3⟩ := bun.pl x (List.mem_of_getElem? hx)
      have ebx : bs.getD b' (0, 0) = x := getD_of hx
      have hxc : cs[x.1]? = some (cs.getD x.1 0) := getD_some (by omega)
      have cx := cr _ (List.mem_of_getElem? hxc)
      obtain ⟨TU, hTU⟩ : ∃ T, rs[b' + 1]? = some T := ⟨_, List.getElem?_eq_getElem (by omega)⟩
      obtain ⟨TV, hTV⟩ : ∃ T, rs[b']? = some T := ⟨_, List.getElem?_eq_getElem (by omega)⟩
      obtain ⟨us, hus, usl, usm⟩ := (tabs _ _ hTU).same s4
      obtain ⟨vs, hvs, vsl, vsm⟩ := (tabs _ _ hTV).same s4
      have Mu := usm left.toNat (by omega)
      have Mv := vsm left.toNat (by omega)
      rw [Int.toNat_of_nonneg l0] at Mu Mv
      have hat1 : atI (rs.map V.ref) ((b' : Int) + 1) = some (.ref TU) := atI_of (by omega) (by rw [show ((b' : Int) + 1).toNat = b' + 1 by omega, List.getElem?_map, hTU]; rfl)
      have hat2 : atI (rs.map V.ref) (b' : Int) = some (.ref TV) := atI_of (by omega) (by rw [show ((b' : Int)).toNat = b' by omega, List.getElem?_map, hTV]; rfl)
      have hat3 : atI (bt.map V.ref) (b' : Int) = some (.ref Tb) := atI_of (by omega) (by rw [show ((b' : Int)).toNat = b' by omega, List.getElem?_map, hTb]; rfl)
      have bk := back_take hj hjm Mu Mv
      rw [ebx] at bk
      have etk : bs.take (b' + 1) = bs.take b' ++ [x] := by rw [List.take_add_one, hx]; rfl
      have er2 : bs.length - (i + 1) = b' := by omega
      rw [etk] at pr
      refine ⟨_, _, .inl (s4.seq (SqL.of hP)), hat1, _, _, .inl (SqL.of hus), atInt l0 (by omega), _, _, .inl (s4.seq (SqL.of hP)), hat2, _, _, .inl (SqL.of hvs), atInt l0 (by omega), ?_⟩
      generalize us.getD left.toNat 0 = u at Mu bk
      generalize vs.getD left.toNat 0 = v' at Mv bk
      refine ifB (fun g => ?_) fun g => ?_
      · have g' : u < v' := of_decide_eq_true g
        obtain ⟨k1, k2⟩ := bk.2.1 g'
        have lneg := bun.neg hc1 (j := b') (by omega) k1
        refine ⟨_, _, .inl (s4.seq (SqL.of hb1)), hat3, _, _, .inr (SqT.of hTx), rfl, _, _, .inl (s4.seq (SqL.of hb1)), hat3, _, _, .inr (SqT.of hTx), rfl, ?_⟩
        have hpi : ps[x.1]? = some (ps.getD x.1 0) := getD_some (by omega)
        have ei : ((x.1 : Nat) : Int).toNat = x.1 := by omega
        refine ⟨_, _, .inl (SqL.of hps), atInt (by omega) (by omega), _, _, hps, ixN_pos (by omega) (by rw [List.length_map]; omega), ?_⟩
        rw [set_int, ei]
        have s5 := s4.put (o := .lst ((ps.set x.1 (ps.getD x.1 0 + x.2)).map V.int)) hHp
        refine ⟨_, _, .inl ((t2.trans s5).seq hS), atInt (by omega) (by omega), .inl ⟨by rw [ei]; omega, by rw [ei]; omega⟩, ?_⟩
        rw [ei]
        have wpos : 0 ≤ cs.getD x.1 0 * x.2 := Int.mul_nonneg (by omega) (by omega)
        refine ⟨left - cs.getD x.1 0 * x.2, _, j - x.2, _, _, _, rfl, s5, upd_same, by rw [List.length_set]; exact pl, fun y hy => ?_, ⟨lneg, by omega⟩, ?_, by rw [er2]; exact k1, by rw [er2]; exact k2, ?_⟩
        · rw [List.length_set] at hy
          have := pr y hy
          rw [psum_app] at this
          rw [er2, getD_set ps x.1 y _ 0 (by omega)]
          by_cases e : y = x.1
          · subst e
            rw [if_pos rfl] at this ⊢
            omega
          · rw [if_neg (fun z => e z.symm)] at this
            rw [if_neg e]
            omega
        · rw [dot_set cs ps x.1 _ _ x.2 hxc hpi, hd]
          omega
        · rw [sum_set ps x.1 _ x.2 hpi]
          omega
      · have g' : ¬ u < v' := of_decide_eq_false g
        obtain ⟨k1, k2⟩ := bk.2.2 g'
        refine ⟨left, ps, j, _, _, _, rfl, s4, hps, pl, fun y hy => ?_, ⟨l0, l1⟩, hd, by rw [er2]; exact k1, by rw [er2]; exact k2, hsum⟩
        have := pr y hy
        rw [psum_app] at this
        rw [er2]
        split at this <;> omega
    · rintro σ H3 ⟨left, ps, j, v, w', x', rfl, s4, hps, pl, pr, ⟨l0, l1⟩, hd, hj, hjm, hsum⟩
      have e0 : bs.length - (((bt.length : Nat) : Int) - 1 - -1).toNat = 0 := by omega
      rw [e0] at hj pr
      obtain ⟨z1, z2⟩ := hj
      refine q1 k0 ((rbE k0).mp Mr) (fun m hm => Mmin m ((rbE m).mpr hm)) p ps H3 (t2.trans s4) (t2.free hHp) hps pl (fun y hy => ?_) (by omega) (by omega)
      have := pr y hy
      rw [List.take_zero] at this
      exact ⟨this.1, by have := this.2; simp only [psum] at this; omega⟩

end
end PG

set_option Elab.async false
set_option linter.all false
set_option maxRecDepth 100000
set_option maxHeartbeats 4000000
namespace PG
open PySem L2 PyProof.Rows

section
variable {P : Program} {w : World} {K : PySem.W.Frag} {mg : Str → Option Value} {base : Heap}

theorem sc_sum_paid : FnScope ["coins", "paying"] ["coins", "paying"] (defScope s_sum_paid) := ⟨rfl, rfl, rfl, by decide +kernel, rfl, by decide +kernel, by decide +kernel⟩
theorem ok_sum_paid {f : Addr} {fd : FuncData} (F : Fun K "sum_paid" "sum_paid" s_sum_paid f fd) (B : Blt mg) (ER : Errs K mg) (OW : Owns K mg) (g_check_coins : G P w K mg base (CX1 P w) "check_coins" ["coins"] 3 (sCheck0 K)) (g_check_paying : G P w K mg base (CX1 P w) "check_paying" ["coins", "paying"] 2 (sCheckP0 K)) : FnOk P w K mg base (CX1 P w) 4 f fd ["coins", "paying"] (sSumPaid0 K) := by
  refine F.okN sc_sum_paid (fun vs H Q E h => ?_) (fun cdv A outer s H vs Q E hr h => ?_)
  · unfold sSumPaid0 at h; split at h
    · rfl
    · exact h.elim
  · unfold sSumPaid0 at h; split at h
    rotate_left
    · exact h.elim
    rename_i a b
    refine ⟨_, (q_scons (q_expr (q_g g_check_coins (hr.mono (by decide)) pass1E (q_cons (q_v 0) q_nil))) (q_scons (q_expr (q_g g_check_paying (hr.mono (by decide)) pass1E (q_cons (q_v 0) (q_cons (q_v 1) q_nil)))) (q_sone (q_ret (q_callB (uc_sum (K := K) rfl) (by rfl) B.sum boot_sum (q_cons (q_comp [none, none] ["coin", "times"] rfl (by kernel_rfl) (q_zip B.zip (q_cons (q_v 0) (q_cons (q_v 1) q_nil))) (fun _ _ _ _ _ => (q_gtup (K := K) (n := 2) rfl (q_gcons (q_name (i := 0) (show List.Nodup (["coin", "times"] : List Str) from by decide +kernel) rfl (Or.inl rfl)) (q_gcons (q_name (i := 1) (show List.Nodup (["coin", "times"] : List Str) from by decide +kernel) rfl (Or.inl rfl)) q_gnil)))) (fun _ _ _ _ _ => q_fnil) (fun _ _ _ _ _ => (q_op uo_mul (q_v 0) (q_v 1)))) q_nil)))))), ?_⟩
    obtain ⟨ns, ms, hS, hY, cn, l1, m0, q⟩ := h
    have cl := cn.le
    refine ⟨ns, hS, cn, fun H1 s1 => ⟨ns, ms, s1.seq hS, s1.seq hY, l1.symm, by omega, m0, fun H2 s2 => ?_⟩⟩
    have s12 := s1.trans s2
    refine ⟨_, _, s12.seq hS, s12.seq hY, comp_by (fun i => V.int (ns.getD i 0 * ms.getD i 0)) (fun _ => true) (jp_zip (s12.seq hS) (s12.seq hY) (by simp [l1])) (by rw [List.length_map]; exact small1000 (by omega)) (keepTup2 rfl rfl) (fun i x H' R Z hi sm hx hR hZ => ?_) (fun D H' hD sm hL => ?_)⟩
    · obtain ⟨T, x1, y1, rfl, hT, e1, e2⟩ := hx
      obtain ⟨n, en, rfl⟩ := int_at e1
      obtain ⟨m, em, rfl⟩ := int_at e2
      have hn := cn.rng n (List.mem_of_getElem? en)
      have := hR rfl H' (Same.refl _)
      rw [getD_at en, getD_at em] at this
      exact ⟨T, _, rfl, SqT.of hT, rfl, _, _, rfl, _, _, rfl, rfl, .inl ⟨by omega, by omega⟩, this⟩
    · rw [List.length_map, range_ints (fun i => ns.getD i 0 * ms.getD i 0)] at hL
      refine ⟨_, SqL.of hL, isNumB_ints _, ?_⟩
      rw [numV_ints, dot_sum ns ms l1.symm]
      exact q H' (s12.trans sm)

theorem sc_Till___init__ : FnScope ["self", "coins", "counts"] ["self", "coins", "counts"] (defScope s_Till___init__) := ⟨rfl, rfl, rfl, by decide +kernel, rfl, by decide +kernel, by decide +kernel⟩
theorem ok_Till___init__ {f : Addr} {fd : FuncData} (F : Fun K "__init__" "Till.__init__" s_Till___init__ f fd) (B : Blt mg) (ER : Errs K mg) (OW : Owns K mg) (g_check_coins : G P w K mg base (CX1 P w) "check_coins" ["coins"] 3 (sCheck0 K)) (g_check_counts : G P w K mg base (CX1 P w) "check_counts" ["coins", "counts"] 3 (sCounts0 K)) : FnOk P w K mg base (CX1 P w) 4 f fd ["self", "coins", "counts"] (sInit73 K OW.a_Till) := by
  refine F.okN sc_Till___init__ (fun vs H Q E h => ?_) (fun cdv A outer s H vs Q E hr h => ?_)
  · unfold sInit73 at h; split at h
    · rfl
    · exact h.elim
  · unfold sInit73 at h; split at h
    rotate_left
    · exact h.elim
    rename_i x a b
    refine ⟨_, (q_scons (q_expr (q_g g_check_coins (hr.mono (by decide)) pass1E (q_cons (q_v 1) q_nil))) (q_scons (q_expr (q_g g_check_counts (hr.mono (by decide)) pass1E (q_cons (q_v 1) (q_cons (q_v 2) q_nil)))) (q_scons (q_sfld (K := K) (q_v 0) (q_callTy (uc_list (K := K)) (by rfl) B.list boot_list (q_cons (q_v 1) q_nil))) (q_sone (q_sfld (K := K) (q_v 0) (q_callTy (uc_list (K := K)) (by rfl) B.list boot_list (q_cons (q_v 2) q_nil))))))), ?_⟩
    obtain ⟨dx, cs, ks, hx, hS, hK, nax, nbx, cn, kl, kr, q⟩ := h
    have cl := cn.le
    have c1 := cn.ne
    refine ⟨cs, hS, cn, fun H1 s1 => ⟨cs, ks, s1.seq hS, s1.seq hK, kl.symm, ⟨by omega, by omega⟩, kr, fun H2 s2 => ?_⟩⟩
    have t2 := s1.trans s2
    refine ⟨_, .inl (t2.seq hS), fun p hp => ?_⟩
    have s3 := t2.trans (Same.new (o := .lst (cs.map V.int)) hp)
    have hx3 := s3 _ _ hx
    have npx : p ≠ x := by intro z; subst z; rw [t2 _ _ hx] at hp; cases hp
    refine ⟨x, OW.a_Till, dx, _, rfl, hx3, OW.cl_Till, OW.n_Till_coins, by decide, ?_⟩
    have hK4 : SqL K (upd (upd H2 p (.lst (cs.map V.int))) x (.ins OW.a_Till dx (putF "coins" (.ref p) []))) b (ks.map V.int) := by
      rcases s3.seq hK with z | z
      · rcases z with z | ⟨o, z⟩
        · exact SqL.of (by rw [upd_ne nbx]; exact z)
        · exact .inl (.inr ⟨o, by rw [upd_ne nbx]; exact z⟩)
      · exact .inr z
    refine ⟨_, .inl hK4, fun q2 hq2 => ?_⟩
    have nqx : q2 ≠ x := by intro z; subst z; rw [upd_same] at hq2; cases hq2
    have nqp : q2 ≠ p := by intro z; subst z; rw [upd_ne npx, upd_same] at hq2; cases hq2
    have hx5 := (Same.new (o := .lst (ks.map V.int)) hq2) _ _ (upd_same (H := upd H2 p (.lst (cs.map V.int))) (a := x) (o := .ins OW.a_Till dx (putF "coins" (.ref p) [])))
    refine ⟨x, OW.a_Till, dx, _, rfl, hx5, OW.cl_Till, OW.n_Till_counts, by show (1 : Nat) < 1000; decide, ?_⟩
    have hq2H : H q2 = none := by
      have : (upd H2 p (.lst (cs.map V.int))) q2 = none := by rw [upd_ne nqx] at hq2; exact hq2
      exact s3.free this
    refine q p q2 _ (((Upto.put (Same.upto s3)).trans (Same.upto (Same.new hq2))).put) ⟨by rw [upd_same]; rfl, ?_, ?_⟩ (t2.free hp) hq2H (Ne.symm nqp)
    · rw [upd_ne npx, upd_ne (Ne.symm nqp), upd_ne npx, upd_same]
    · rw [upd_ne nqx, upd_same]

theorem sc_Till_held : FnScope ["self"] ["self"] (defScope s_Till_held) := ⟨rfl, rfl, rfl, by decide +kernel, rfl, by decide +kernel, by decide +kernel⟩
theorem ok_Till_held {f : Addr} {fd : FuncData} (F : Fun K "held" "Till.held" s_Till_held f fd) (B : Blt mg) (ER : Errs K mg) (OW : Owns K mg) : FnOk P w K mg base (CX1 P w) 1 f fd ["self"] (sHeld73 K OW.a_Till) := by
  refine F.okN sc_Till_held (fun vs H Q E h => ?_) (fun cdv A outer s H vs Q E hr h => ?_)
  · unfold sHeld73 at h; split at h
    · rfl
    · exact h.elim
  · unfold sHeld73 at h; split at h
    rotate_left
    · exact h.elim
    rename_i x
    refine ⟨_, (q_sone (q_ret (q_callTy (uc_list (K := K)) (by rfl) B.list boot_list (q_cons (q_fld (K := K) (q_v 0)) q_nil)))), ?_⟩
    obtain ⟨dx, p, q0, cs, ks, t, q⟩ := h
    exact ⟨x, OW.a_Till, dx, _, _, rfl, t.ins, OW.cl_Till, OW.n_Till_counts, rfl, _, .inl (SqL.of t.ct), fun l hl => q l _ (Same.new hl) hl upd_same⟩

theorem sc_Till_worth : FnScope ["self"] ["self"] (defScope s_Till_worth) := ⟨rfl, rfl, rfl, by decide +kernel, rfl, by decide +kernel, by decide +kernel⟩
theorem ok_Till_worth {f : Addr} {fd : FuncData} (F : Fun K "worth" "Till.worth" s_Till_worth f fd) (ER : Errs K mg) (OW : Owns K mg) (g_sum_paid : G P w K mg base (CX1 P w) "sum_paid" ["coins", "paying"] 4 (sSumPaid0 K)) : FnOk P w K mg base (CX1 P w) 5 f fd ["self"] (sWorth73 K OW.a_Till) := by
  refine F.okN sc_Till_worth (fun vs H Q E h => ?_) (fun cdv A outer s H vs Q E hr h => ?_)
  · unfold sWorth73 at h; split at h
    · rfl
    · exact h.elim
  · unfold sWorth73 at h; split at h
    rotate_left
    · exact h.elim
    rename_i x
    refine ⟨_, (q_sone (q_ret (q_g g_sum_paid (hr.mono (by decide)) pass1E (q_cons (q_fld (K := K) (q_v 0)) (q_cons (q_fld (K := K) (q_v 0)) q_nil))))), ?_⟩
    obtain ⟨dx, p, q0, cs, ks, t, cn, kl, kr, q⟩ := h
    exact ⟨x, OW.a_Till, dx, _, _, rfl, t.ins, OW.cl_Till, OW.n_Till_coins, rfl, x, OW.a_Till, dx, _, _, rfl, t.ins, OW.cl_Till, OW.n_Till_counts, rfl, cs, ks, SqL.of t.co, SqL.of t.ct, cn, kl, kr, q⟩

theorem sc_counts_with : FnScope ["counts", "paying", "more"] ["counts", "paying"] (defScope s_counts_with) := ⟨rfl, rfl, rfl, by decide +kernel, rfl, by decide +kernel, by decide +kernel⟩
theorem ok_counts_with {f : Addr} {fd : FuncData} {tk_MOST_HELD : Tok} (F : Fun K "counts_with" "counts_with" s_counts_with f fd) (B : Blt mg) (ER : Errs K mg) (OW : Owns K mg) (mc_MOST_HELD : mg "MOST_HELD" = some (.int 100 tk_MOST_HELD)) : FnOk P w K mg base (CX1 P w) 1 f fd ["counts", "paying"] (sCountsW K ER.a_TooMany) := by
  refine F.okX sc_counts_with (fun vs H Q E h => ?_) (fun cdv A outer s H vs Q E hr h => ?_)
  · unfold sCountsW at h; split at h
    · rfl
    · exact h.elim
  · unfold sCountsW at h; split at h
    rotate_left
    · exact h.elim
    rename_i a b
    refine ⟨_, (q_scons (q_setC (i := 2) [none, none] ["count", "times"] sc_counts_with.nd rfl rfl rfl (by kernel_rfl) (q_zip B.zip (q_cons (q_v 0) (q_cons (q_v 1) q_nil))) (fun _ _ _ _ _ => (q_gtup (K := K) (n := 2) rfl (q_gcons (q_name (i := 0) (show List.Nodup (["count", "times"] : List Str) from by decide +kernel) rfl (Or.inl rfl)) (q_gcons (q_name (i := 1) (show List.Nodup (["count", "times"] : List Str) from by decide +kernel) rfl (Or.inl rfl)) q_gnil)))) (fun _ _ _ _ _ => q_fnil) (fun _ _ _ _ _ => (q_op uo_add (q_v 0) (q_v 1)))) (q_scons (q_sif (q_tcmp uo_gt (q_callB (uc_max (K := K) rfl) (by rfl) B.max boot_max (q_cons (q_v 2) q_nil)) (q_glob (v := .int 100) (by rfl) mc_MOST_HELD ⟨_, rfl⟩) (nomark _)) (q_sone (q_raise raises1 rfl ER.m_TooMany ER.x_TooMany (q_cons q_str q_nil))) q_snil) (q_sone (q_ret (q_v 2))))), ?_⟩
    obtain ⟨ks, ms, hS, hB, ml, ⟨k1, k2⟩, q, hE⟩ := h
    refine ⟨_, _, hS, hB, comp_by (fun i => V.int (ks.getD i 0 + ms.getD i 0)) (fun _ => true) (jp_zip hS hB (by simp [ml])) (by rw [List.length_map]; exact small1000 k2) (keepTup2 rfl rfl) (fun i x H' R Z hi sm hx hR hZ => ?_) (fun D H1 hD s1 hL => ?_)⟩
    · obtain ⟨T, x1, y1, rfl, hT, e1, e2⟩ := hx
      obtain ⟨n, en, rfl⟩ := int_at e1
      obtain ⟨m, em, rfl⟩ := int_at e2
      have := hR rfl H' (Same.refl _)
      rw [getD_at en, getD_at em] at this
      exact ⟨T, _, rfl, SqT.of hT, rfl, _, _, rfl, _, _, rfl, rfl, this⟩
    rw [List.length_map, range_ints (fun i => ks.getD i 0 + ms.getD i 0)] at hL
    have hL' : H1 D = some (.lst ((addL ks ms).map V.int)) := hL
    have al := addL_len ks ms
    refine ⟨addL ks ms, SqL.of hL', by omega, fun mx hmx hmax => ifB (fun g => ?_) fun g => ?_⟩
    · exact ⟨by show 1 ≤ sizeLine; decide, hE ⟨mx, hmx, of_decide_eq_true g⟩ H1 s1⟩
    · have g' := of_decide_eq_false g
      exact q (fun k hk => by have := hmax k hk; omega) D H1 s1 hD hL'

theorem sc_Till_give_of : FnScope ["self", "counts", "amount", "given"] ["self", "counts", "amount"] (defScope s_Till_give_of) := ⟨rfl, rfl, rfl, by decide +kernel, rfl, by decide +kernel, by decide +kernel⟩
theorem ok_Till_give_of {f : Addr} {fd : FuncData} (F : Fun K "give_of" "Till.give_of" s_Till_give_of f fd) (B : Blt mg) (ER : Errs K mg) (OW : Owns K mg) (g_held_paying : G P w K mg base (CX1 P w) "held_paying" ["coins", "counts", "amount"] 3 (sHeldP K)) : FnOk P w K mg base (CX1 P w) 4 f fd ["self", "counts", "amount"] (sGiveOf K OW.a_Till ER.a_NoChange) := by
  refine F.okX sc_Till_give_of (fun vs H Q E h => ?_) (fun cdv A outer s H vs Q E hr h => ?_)
  · unfold sGiveOf at h; split at h
    · rfl
    · exact h.elim
  · unfold sGiveOf at h; split at h
    rotate_left
    · exact h.elim
    rename_i x b n
    refine ⟨_, (q_scons (q_set (i := 3) sc_Till_give_of.nd rfl (Or.inl rfl) (q_g g_held_paying (hr.mono (by decide)) pass1 (q_cons (q_fld (K := K) (q_v 0)) (q_cons (q_v 1) (q_cons (q_v 2) q_nil))))) (q_scons (q_sif (q_tcmp uo_is (q_v 3) q_non (nomark _)) (q_sone (q_raise raises1 rfl ER.m_NoChange ER.x_NoChange (q_cons q_str q_nil))) q_snil) (q_scons (q_sfld (K := K) (q_v 0) (q_comp [none, none] ["count", "times"] rfl (by kernel_rfl) (q_zip B.zip (q_cons (q_v 1) (q_cons (q_v 3) q_nil))) (fun _ _ _ _ _ => (q_gtup (K := K) (n := 2) rfl (q_gcons (q_name (i := 0) (show List.Nodup (["count", "times"] : List Str) from by decide +kernel) rfl (Or.inl rfl)) (q_gcons (q_name (i := 1) (show List.Nodup (["count", "times"] : List Str) from by decide +kernel) rfl (Or.inl rfl)) q_gnil)))) (fun _ _ _ _ _ => q_fnil) (fun _ _ _ _ _ => (q_op uo_sub (q_v 0) (q_v 1))))) (q_sone (q_ret (q_v 3)))))), ?_⟩
    obtain ⟨dx, p, q0, cs, ks0, ks, t, hB, cn, kl, kr, ⟨n0, n1⟩, q1, q2⟩ := h
    have cl := cn.le
    refine ⟨x, OW.a_Till, dx, _, _, rfl, t.ins, OW.cl_Till, OW.n_Till_coins, rfl, ?_⟩
    refine ⟨cs, ks, SqL.of t.co, hB, ⟨cn.rng, kl, by omega⟩, kr, ⟨n0, n1⟩, fun no H1 s1 => ?_, fun k r1 r2 g ps H1 s1 hg0 hg pl pr pd psum => ?_⟩
    · exact ⟨by show 1 ≤ sizeLine; decide, q1 no H1 s1⟩
    have nxg : x ≠ g := by intro z; subst z; rw [t.ins] at hg0; cases hg0
    refine ⟨_, _, s1.seq hB, SqL.of hg, comp_by (fun i => V.int (ks.getD i 0 - ps.getD i 0)) (fun _ => true) (jp_zip (s1.seq hB) (SqL.of hg) (by simp [pl, kl])) (by rw [List.length_map]; exact small1000 (by omega)) (keepTup2 rfl rfl) (fun i y H' R Z hi sm hy hR hZ => ?_) (fun D H2 hD s2 hL => ?_)⟩
    · obtain ⟨T, x1, y1, rfl, hT, e1, e2⟩ := hy
      obtain ⟨c, ec, rfl⟩ := int_at e1
      obtain ⟨m, em, rfl⟩ := int_at e2
      have := hR rfl H' (Same.refl _)
      rw [getD_at ec, getD_at em] at this
      exact ⟨T, _, rfl, SqT.of hT, rfl, _, _, rfl, _, _, rfl, rfl, this⟩
    rw [List.length_map, range_ints (fun i => ks.getD i 0 - ps.getD i 0)] at hL
    have hL' : H2 D = some (.lst ((subL ks ps).map V.int)) := hL
    have t2 := s1.trans s2
    have hx2 := t2 _ _ t.ins
    have nxD : x ≠ D := by intro z; subst z; rw [hx2] at hL'; cases hL'
    have ngD : g ≠ D := by intro z; subst z; rw [hg] at hD; cases hD
    refine ⟨x, OW.a_Till, dx, _, rfl, hx2, OW.cl_Till, OW.n_Till_counts, by show (2 : Nat) < 1000; decide, ?_⟩
    refine q2 k r1 r2 g D ps _ (Same.upto t2).put hg0 (by rw [upd_ne (Ne.symm nxg)]; exact s2 _ _ hg) pl pr pd psum ⟨by rw [upd_same]; rfl, by rw [upd_ne (Ne.symm t.nx.1)]; exact t2 _ _ t.co, by rw [upd_ne (Ne.symm nxD)]; exact hL'⟩ ngD (s1.free hD)

theorem sc_Till_sale : FnScope ["self", "price", "paying", "change", "counts"] ["self", "price", "paying"] (defScope s_Till_sale) := ⟨rfl, rfl, rfl, by decide +kernel, rfl, by decide +kernel, by decide +kernel⟩
theorem ok_Till_sale {f : Addr} {fd : FuncData} (F : Fun K "sale" "Till.sale" s_Till_sale f fd) (ER : Errs K mg) (OW : Owns K mg) (g_Till_give_of : GM P w K mg base (CX1 P w) OW.a_Till "give_of" ["self", "counts", "amount"] 4 (sGiveOf K OW.a_Till ER.a_NoChange)) (g_check_sum_from : G P w K mg base (CX1 P w) "check_sum_from" ["least", "amount"] 2 sFrom0) (g_check_listed : G P w K mg base (CX1 P w) "check_listed" ["amount"] 1 sListed0) (g_sum_paid : G P w K mg base (CX1 P w) "sum_paid" ["coins", "paying"] 4 (sSumPaid0 K)) (g_counts_with : G P w K mg base (CX1 P w) "counts_with" ["counts", "paying"] 1 (sCountsW K ER.a_TooMany)) : FnOk P w K mg base (CX1 P w) 5 f fd ["self", "price", "paying"] (sSale73 K OW.a_Till ER.a_TooLittle ER.a_TooMany ER.a_NoChange) := by
  refine F.okX sc_Till_sale (fun vs H Q E h => ?_) (fun cdv A outer s H vs Q E hr h => ?_)
  · unfold sSale73 at h; split at h
    · rfl
    · exact h.elim
  · unfold sSale73 at h; split at h
    rotate_left
    · exact h.elim
    rename_i x pr b
    refine ⟨_, (q_scons (q_expr (q_g g_check_sum_from (hr.mono (by decide)) pass1 (q_cons q_int (q_cons (q_v 1) q_nil)))) (q_scons (q_set (i := 3) sc_Till_sale.nd rfl (Or.inl rfl) (q_op uo_sub (q_g g_sum_paid (hr.mono (by decide)) pass1 (q_cons (q_fld (K := K) (q_v 0)) (q_cons (q_v 2) q_nil))) (q_v 1))) (q_scons (q_sif (q_tcmp uo_lt (q_v 3) q_int (nomark _)) (q_sone (q_raise raises1 rfl ER.m_TooLittle ER.x_TooLittle (q_cons q_str q_nil))) q_snil) (q_scons (q_set (i := 4) sc_Till_sale.nd rfl (Or.inl rfl) (q_g g_counts_with (hr.mono (by decide)) pass1 (q_cons (q_fld (K := K) (q_v 0)) (q_cons (q_v 2) q_nil)))) (q_scons (q_expr (q_g g_check_listed (hr.mono (by decide)) pass1 (q_cons (q_v 3) q_nil))) (q_sone (q_ret (q_meth g_Till_give_of (hr.mono (by decide)) pass1 (q_v 0) (q_cons (q_v 4) (q_cons (q_v 3) q_nil)))))))))), ?_⟩
    obtain ⟨dx, p, q0, cs, ks, ms, t, hB, cn, kl, ml, kr, mr, ⟨p0, ch⟩, qL, qM, qG⟩ := h
    have cl := cn.le
    have c1 := cn.ne
    refine ⟨p0, x, OW.a_Till, dx, _, _, rfl, t.ins, OW.cl_Till, OW.n_Till_coins, rfl, ?_⟩
    refine ⟨cs, ms, SqL.of t.co, hB, cn, ml, mr, fun H1 s1 => ifB (fun g => ?_) fun g => ?_⟩
    · exact ⟨by show 1 ≤ sizeLine; decide, qL (of_decide_eq_true g) H1 s1⟩
    have g' := of_decide_eq_false g
    have t1 := t.same s1
    refine ⟨x, OW.a_Till, dx, _, _, rfl, t1.ins, OW.cl_Till, OW.n_Till_counts, rfl, ?_⟩
    refine ⟨ks, ms, SqL.of t1.ct, s1.seq hB, by omega, ⟨by omega, by omega⟩, fun le P H2 s2 hP0 hP => ?_, fun gt H2 s2 => qM (by omega) gt H2 (s1.trans s2)⟩
    have t2 := t1.same s2
    have s12 := s1.trans s2
    obtain ⟨qN, qS⟩ := qG (by omega) le
    have al := addL_len ks ms
    refine ⟨ch, x, dx, _, rfl, t2.ins, rfl, dx, p, q0, cs, ks, addL ks ms, t2, SqL.of hP, cn, by omega, fun k hk => ⟨?_, le k hk⟩, ⟨by omega, ch⟩, fun no H3 s3 => qN no H3 (s12.trans s3), fun k r1 r2 g q2 ps H3 s3 hg0 hg pl pr pd psum tt ng hq2 => qS k r1 r2 g q2 ps H3 ((Same.upto s12).trans s3) (s12.free hg0) hg pl pr pd psum tt ng (s12.free hq2)⟩
    obtain ⟨i, hi, e⟩ := mem_range_getD hk
    rw [← e, addL_at ks ms (by omega)]
    have h1 := kr _ (List.mem_of_getElem? (getD_some (ns := ks) (i := i) (by omega)))
    have h2 := mr _ (List.mem_of_getElem? (getD_some (ns := ms) (i := i) (by omega)))
    omega

end
end PG

set_option Elab.async false
set_option linter.all false
set_option maxRecDepth 100000
set_option maxHeartbeats 4000000
namespace PG
open PySem L2 PyProof.Rows

section
variable {P : Program} {w : World} {K : PySem.W.Frag} {mg : Str → Option Value} {base : Heap}

theorem sc_Till_put : FnScope ["self", "paying"] ["self", "paying"] (defScope s_Till_put) := ⟨rfl, rfl, rfl, by decide +kernel, rfl, by decide +kernel, by decide +kernel⟩
theorem ok_Till_put {f : Addr} {fd : FuncData} (F : Fun K "put" "Till.put" s_Till_put f fd) (ER : Errs K mg) (OW : Owns K mg) (g_check_paying : G P w K mg base (CX1 P w) "check_paying" ["coins", "paying"] 2 (sCheckP0 K)) (g_counts_with : G P w K mg base (CX1 P w) "counts_with" ["counts", "paying"] 1 (sCountsW K ER.a_TooMany)) : FnOk P w K mg base (CX1 P w) 3 f fd ["self", "paying"] (sPut72 K OW.a_Till ER.a_TooMany) := by
  refine F.okX sc_Till_put (fun vs H Q E h => ?_) (fun cdv A outer s H vs Q E hr h => ?_)
  · unfold sPut72 at h; split at h
    · rfl
    · exact h.elim
  · unfold sPut72 at h; split at h
    rotate_left
    · exact h.elim
    rename_i x b
    refine ⟨_, (q_scons (q_expr (q_g g_check_paying (hr.mono (by decide)) pass1 (q_cons (q_fld (K := K) (q_v 0)) (q_cons (q_v 1) q_nil)))) (q_sone (q_sfld (K := K) (q_v 0) (q_g g_counts_with (hr.mono (by decide)) pass1 (q_cons (q_fld (K := K) (q_v 0)) (q_cons (q_v 1) q_nil)))))), ?_⟩
    obtain ⟨dx, p, q0, cs, ks, ms, t, hB, nbx, cn, kl, ml, mr, hE, q⟩ := h
    have cl := cn.le
    have c1 := cn.ne
    refine ⟨x, OW.a_Till, dx, _, _, rfl, t.ins, OW.cl_Till, OW.n_Till_coins, rfl, ?_⟩
    refine ⟨cs, ms, SqL.of t.co, hB, by omega, by omega, mr, fun H1 s1 => ?_⟩
    have t1 := t.same s1
    refine ⟨x, OW.a_Till, dx, _, _, rfl, t1.ins, OW.cl_Till, OW.n_Till_counts, rfl, ?_⟩
    refine ⟨ks, ms, SqL.of t1.ct, s1.seq hB, by omega, ⟨by omega, by omega⟩, fun le P H2 s2 hP0 hP => ?_, fun ex H2 s2 => hE ex H2 (s1.trans s2)⟩
    have t2 := t1.same s2
    have s12 := s1.trans s2
    have npx : P ≠ x := by intro z; subst z; rw [t1.ins] at hP0; cases hP0
    have nx := t2.nx
    refine ⟨x, OW.a_Till, dx, _, rfl, t2.ins, OW.cl_Till, OW.n_Till_counts, by show (2 : Nat) < 1000; decide, ?_⟩
    refine q le P _ ((Same.upto s12).put) ⟨by rw [upd_same]; rfl, by rw [upd_ne (Ne.symm nx.1)]; exact t2.co, by rw [upd_ne npx]; exact hP⟩ (s1.free hP0)

theorem sc_Till_give : FnScope ["self", "amount"] ["self", "amount"] (defScope s_Till_give) := ⟨rfl, rfl, rfl, by decide +kernel, rfl, by decide +kernel, by decide +kernel⟩
theorem ok_Till_give {f : Addr} {fd : FuncData} (F : Fun K "give" "Till.give" s_Till_give f fd) (ER : Errs K mg) (OW : Owns K mg) (g_Till_give_of : GM P w K mg base (CX1 P w) OW.a_Till "give_of" ["self", "counts", "amount"] 4 (sGiveOf K OW.a_Till ER.a_NoChange)) (g_check_sum_from : G P w K mg base (CX1 P w) "check_sum_from" ["least", "amount"] 2 sFrom0) (g_check_listed : G P w K mg base (CX1 P w) "check_listed" ["amount"] 1 sListed0) : FnOk P w K mg base (CX1 P w) 5 f fd ["self", "amount"] (sGive72 K OW.a_Till ER.a_NoChange) := by
  refine F.okX sc_Till_give (fun vs H Q E h => ?_) (fun cdv A outer s H vs Q E hr h => ?_)
  · unfold sGive72 at h; split at h
    · rfl
    · exact h.elim
  · unfold sGive72 at h; split at h
    rotate_left
    · exact h.elim
    rename_i x n
    refine ⟨_, (q_scons (q_expr (q_g g_check_sum_from (hr.mono (by decide)) pass1 (q_cons q_int (q_cons (q_v 1) q_nil)))) (q_scons (q_expr (q_g g_check_listed (hr.mono (by decide)) pass1 (q_cons (q_v 1) q_nil))) (q_sone (q_ret (q_meth g_Till_give_of (hr.mono (by decide)) pass1 (q_v 0) (q_cons (q_fld (K := K) (q_v 0)) (q_cons (q_v 1) q_nil))))))), ?_⟩
    obtain ⟨dx, p, q0, cs, ks, t, cn, kl, kr, ⟨n0, n1⟩, g⟩ := h
    exact ⟨n0, n1, x, dx, _, rfl, t.ins, rfl, x, OW.a_Till, dx, _, _, rfl, t.ins, OW.cl_Till, OW.n_Till_counts, rfl, dx, p, q0, cs, ks, ks, t, SqL.of t.ct, cn, kl, kr, ⟨n0, n1⟩, g⟩

end
end PG

set_option Elab.async false
set_option linter.all false
set_option maxRecDepth 100000
set_option maxHeartbeats 4000000
namespace PG
open PySem L2 PyProof.Rows

section
variable {P : Program} {w : World} {K : PySem.W.Frag} {mg : Str → Option Value} {base : Heap}

theorem sc__law_good : FnScope ["_law_found", "_law_coins", "_law_counts", "_law_amount_here", "_law_number", "_law_many", "_law_count", "_law_paid"] ["_law_found", "_law_coins", "_law_counts", "_law_amount_here", "_law_number"] (defScope s__law_good) := ⟨rfl, rfl, rfl, by decide +kernel, rfl, by decide +kernel, by decide +kernel⟩
theorem ok__law_good {f : Addr} {fd : FuncData} (F : Fun K "_law_good" "_law_good" s__law_good f fd) (B : Blt mg) (ER : Errs K mg) (OW : Owns K mg) (g__law_whole : G P w K mg base (CX1 P w) "_law_whole" ["_law_found"] 1 sNum) : FnOk P w K mg base (CX1 P w) 2 f fd ["_law_found", "_law_coins", "_law_counts", "_law_amount_here", "_law_number"] (sGood71 K) := by
  refine F.okN sc__law_good (fun vs H Q E h => ?_) (fun cdv A outer s H vs Q E hr h => ?_)
  · unfold sGood71 at h; split at h
    · rfl
    · exact h.elim
  · unfold sGood71 at h; split at h
    rotate_left
    · exact h.elim
    rename_i f a b n k
    refine ⟨_, (q_scons (q_sif (q_tw (q_tor (q_tnot (q_tval (K := K) (q_callB (uc_isi (K := K)) (by rfl) B.isi boot_isinstance (q_cons (q_v 0) (q_cons (q_bltn (v := .ty "list") (by rfl) B.list boot_list rfl) q_nil))))) (q_tor1 (q_tcmp (uo_ne (K := K) hr.u8) (q_callB (uc_len (K := K)) (by rfl) B.len PySem.boot_len (q_cons (q_v 0) q_nil)) (q_callB (uc_len (K := K)) (by rfl) B.len PySem.boot_len (q_cons (q_v 1) q_nil)) (nomark _))))) (q_sone (q_ret q_bl)) q_snil) (q_scons (q_for PassesOwn.never rfl (q_zip B.zip (q_cons (q_v 0) (q_cons (q_v 2) q_nil))) (q_gtup (K := K) (n := 2) rfl (q_gcons (q_name (i := 5) sc__law_good.nd rfl (Or.inl rfl)) (q_gcons (q_name (i := 6) sc__law_good.nd rfl (Or.inl rfl)) q_gnil))) (q_sone (q_sif (q_tw (q_tor (q_tnot (q_tval (K := K) (q_g g__law_whole (hr.mono (by decide)) pass1E (q_cons (q_v 5) q_nil)))) (q_tor (q_tcmp uo_lt (q_v 5) q_int (nomark _)) (q_tor1 (q_tcmp uo_gt (q_v 5) (q_v 6) (nomark _)))))) (q_sone (q_ret q_bl)) q_snil))) (q_scons (q_set (i := 7) sc__law_good.nd rfl (Or.inl rfl) (q_callB (uc_sum (K := K) rfl) (by rfl) B.sum boot_sum (q_cons (q_comp [none, none] ["_law_coin", "_law_many"] rfl (by kernel_rfl) (q_zip B.zip (q_cons (q_v 1) (q_cons (q_v 0) q_nil))) (fun _ _ _ _ _ => (q_gtup (K := K) (n := 2) rfl (q_gcons (q_name (i := 0) (show List.Nodup (["_law_coin", "_law_many"] : List Str) from by decide +kernel) rfl (Or.inl rfl)) (q_gcons (q_name (i := 1) (show List.Nodup (["_law_coin", "_law_many"] : List Str) from by decide +kernel) rfl (Or.inl rfl)) q_gnil)))) (fun _ _ _ _ _ => q_fnil) (fun _ _ _ _ _ => (q_op uo_mul (q_v 0) (q_v 1)))) q_nil))) (q_sone (q_ret (q_and (q_cmp (uo_eq (K := K) hr.u8) (q_v 7) (q_v 3) (nomark _)) (q_one (q_cmp (uo_eq (K := K) hr.u8) (q_callB (uc_sum (K := K) rfl) (by rfl) B.sum boot_sum (q_cons (q_v 0) q_nil)) (q_v 4) (nomark _))))))))), ?_⟩
    obtain ⟨cs, ks, ps, hp, hS, hK, ⟨pl, kl, cl⟩, hc, hr, hd, hsum, q⟩ := h
    refine ⟨_, true, TyOf.lst hp, by kernel_rfl, ⟨_, .inl (SqL.of hp), _, .inl hS, ifB (fun g => ?_) fun g => ?_⟩⟩
    · exfalso
      rw [List.length_map, List.length_map] at g
      have : ¬ (ps.length : Int) = (cs.length : Int) := by simpa using g
      omega
    refine ⟨_, _, SqL.of hp, hK, for_zip (K := K) (a := f) (b := b) (xs := ps.map V.int) (ys := ks.map V.int) (fun i σ H' => ∃ v w x : Option V, σ = [some (.ref f), some (.ref a), some (.ref b), some (.int n), some (.int k), v, w, x] ∧ Same H H') (by simp [pl, kl]) ⟨none, none, none, rfl, Same.refl _⟩ (fun i σ H' _ ⟨_, _, _, _, s⟩ => ⟨s.seq (SqL.of hp), s.seq hK⟩) ?_ ?_⟩
    · rintro i x y T σ H1 hx hy hT ⟨v1, v2, v3, rfl, s1⟩
      obtain ⟨p, hpx, rfl⟩ := int_at hx
      obtain ⟨o, hox, rfl⟩ := int_at hy
      have hi := hr i (getElem?_lt hpx)
      rw [getD_at hpx, getD_at hox] at hi
      refine ⟨T, _, rfl, SqT.of upd_same, rfl, _, _, rfl, _, _, rfl, rfl, ?_⟩
      refine ⟨trivial, ifB (fun g => ?_) fun g => ifB (fun g2 => ?_) fun g2 => ⟨_, _, _, rfl, s1.trans (Same.new hT)⟩⟩
      · exfalso
        have := of_decide_eq_true g
        omega
      · exfalso
        have := of_decide_eq_true g2
        omega
    · rintro σ H1 ⟨v1, v2, v3, rfl, s1⟩
      have hp1 := s1 _ _ hp
      refine ⟨_, _, s1.seq hS, SqL.of hp1, comp_by (fun i => V.int (cs.getD i 0 * ps.getD i 0)) (fun _ => true) (jp_zip (s1.seq hS) (SqL.of hp1) (by simp [pl])) (by rw [List.length_map]; exact small1000 cl) (keepTup2 rfl rfl) (fun i x H2 R Z hi sm hx hR hZ => ?_) (fun D H2 hD sm hL => ?_)⟩
      · obtain ⟨T, x1, y1, rfl, hT, e1, e2⟩ := hx
        obtain ⟨c, ec, rfl⟩ := int_at e1
        obtain ⟨y, ey, rfl⟩ := int_at e2
        have hcc := hc c (List.mem_of_getElem? ec)
        have := hR rfl H2 (Same.refl _)
        rw [getD_at ec, getD_at ey] at this
        exact ⟨T, _, rfl, SqT.of hT, rfl, _, _, rfl, _, _, rfl, rfl, .inl ⟨by omega, by omega⟩, this⟩
      · rw [List.length_map, range_ints (fun i => cs.getD i 0 * ps.getD i 0)] at hL
        refine ⟨_, SqL.of hL, isNumB_ints _, ?_⟩
        rw [numV_ints, dot_sum cs ps pl.symm, hd]
        refine ifB (fun g => ?_) fun g => ?_
        · refine ⟨_, SqL.of (sm _ _ hp1), isNumB_ints _, ?_⟩
          rw [numV_ints, hsum]
          have : decide (k = k) = true := by simp
          show Q (.bl (decide (k = k))) _
          rw [this]
          exact q _ (s1.trans sm)
        · exfalso
          simp at g

end
end PG

set_option Elab.async false
set_option linter.all false
set_option maxRecDepth 100000
set_option maxHeartbeats 4000000
namespace PG
open PySem L2 PyProof.Rows

section
variable {P : Program} {w : World} {K : PySem.W.Frag} {mg : Str → Option Value} {base : Heap}

theorem sc__law_least : FnScope ["_law_coins", "_law_counts", "_law_amount_here", "_law_found", "_law_coin", "_law_count", "_law_more", "_law_paid", "_law_often", "_law_there"] ["_law_coins", "_law_counts", "_law_amount_here"] (defScope s__law_least) := ⟨rfl, rfl, rfl, by decide +kernel, rfl, by decide +kernel, by decide +kernel⟩
theorem ok__law_least {f : Addr} {fd : FuncData} (F : Fun K "_law_least" "_law_least" s__law_least f fd) (B : Blt mg) (ER : Errs K mg) (OW : Owns K mg) : FnOk P w K mg base (CX1 P w) 1 f fd ["_law_coins", "_law_counts", "_law_amount_here"] (sLeast72 K) := by
  refine F.okN sc__law_least (fun vs H Q E h => ?_) (fun cdv A outer s H vs Q E hr h => ?_)
  · unfold sLeast72 at h; split at h
    · rfl
    · exact h.elim
  · unfold sLeast72 at h; split at h
    rotate_left
    · exact h.elim
    rename_i a b A
    refine ⟨_, (q_scons (q_set (i := 3) sc__law_least.nd rfl (Or.inl rfl) (q_disp1 q_int q_int)) (q_scons (q_for PassesOwn.never rfl (q_zip B.zip (q_cons (q_v 0) (q_cons (q_v 1) q_nil))) (q_gtup (K := K) (n := 2) rfl (q_gcons (q_name (i := 4) sc__law_least.nd rfl (Or.inl rfl)) (q_gcons (q_name (i := 5) sc__law_least.nd rfl (Or.inl rfl)) q_gnil))) (q_scons (q_set (i := 6) sc__law_least.nd rfl (Or.inl rfl) (q_callTy uc_dict (by rfl) B.dict boot_dict (q_cons (q_v 3) q_nil))) (q_scons (q_for PassesOwn.never rfl (q_dseq (q_v 3)) (q_name (i := 7) sc__law_least.nd rfl (Or.inl rfl)) (q_sone (q_for PassesOwn.never rfl (q_range2 B.range (q_cons q_int (q_cons (q_op uo_add (q_callB (uc_min2 rfl) (by rfl) B.min boot_min (q_cons (q_v 5) (q_cons (q_op uo_fdiv (q_op uo_sub (q_v 2) (q_v 7)) (q_v 4)) q_nil))) q_int) q_nil))) (q_name (i := 8) sc__law_least.nd rfl (Or.inl rfl)) (q_scons (q_set (i := 9) sc__law_least.nd rfl (Or.inl rfl) (q_cut (q_op uo_add (q_v 7) (q_op uo_mul (q_v 8) (q_v 4))))) (q_sone (q_sif (q_tw (q_tor (q_tcmp (uo_notInD hr.u8) (q_v 9) (q_v 6) rfl) (q_tor1 (q_tcmp uo_lt (q_op uo_add (q_dix hr.u8 (q_v 3) (q_v 7) (fun _ _ => rfl)) (q_v 8)) (q_dix hr.u8 (q_v 6) (q_v 9) (fun _ _ => rfl)) (nomark _))))) (q_sone (q_asg (q_op uo_add (q_dix hr.u8 (q_v 3) (q_v 7) (fun _ _ => rfl)) (q_v 8)) (q_gsub (q_v 6) (q_v 9) (us_setD hr.u8)))) q_snil)))))) (q_sone (q_set (i := 3) sc__law_least.nd rfl (Or.inl rfl) (q_v 6)))))) (q_sone (q_ret (q_dget hr.u8 (q_v 3) (q_v 2)))))), ?_⟩
    obtain ⟨cs, ks, hS, hK, kl, cl, cr, kr, ⟨A0, A1⟩, q⟩ := h
    intro p0 hp0
    refine ⟨upd_same, [(Sum.inl 0, .int 0)], rfl, by show 1 ≤ 15; decide, ?_⟩
    rw [upd_upd]
    refine ⟨_, _, (Same.new hp0).seq hS, (Same.new hp0).seq hK, ?_⟩
    refine for_zip (K := K) (xs := cs.map V.int) (ys := ks.map V.int) (fun j σ H' => ∃ (f : Addr) (kvs : List (Key × V)) (v1 v2 v3 v4 v5 v6 : Option V), σ = [some (.ref a), some (.ref b), some (.int A), some (.ref f), v1, v2, v3, v4, v5, v6] ∧ Same H H' ∧ H f = none ∧ H' f = some (.dK kvs) ∧ DM A (fun v n => v ≤ A ∧ RC cs ks j v n) kvs) (by simp [kl]) ⟨p0, _, none, none, none, none, none, none, rfl, Same.new hp0, hp0, upd_same, dm_first cs ks A0⟩ (fun j σ H' _ ⟨_, _, _, _, _, _, _, _, _, s, _⟩ => ⟨s.seq hS, s.seq hK⟩) ?_ ?_
    · rintro j x y T σ H1 hx hy hT ⟨f, kvs, v1, v2, v3, v4, v5, v6, rfl, s1, hf0, hf, dm⟩
      obtain ⟨c, ec, rfl⟩ := int_at hx
      obtain ⟨k, ek, rfl⟩ := int_at hy
      have cc := cr c (List.mem_of_getElem? ec)
      have kk := kr k (List.mem_of_getElem? ek)
      have hjl := getElem?_lt ec
      obtain rfl : c = cs.getD j 0 := (getD_at ec).symm
      obtain rfl : k = ks.getD j 0 := (getD_at ek).symm
      refine ⟨T, _, rfl, SqT.of upd_same, rfl, _, _, rfl, _, _, rfl, rfl, ?_⟩
      have n1 : Same H1 (upd H1 T (.tup [.int (cs.getD j 0), .int (ks.getD j 0)])) := Same.new hT
      refine ⟨kvs, .inl (n1 _ _ hf), fun m hm0 => ?_⟩
      have n2 := n1.trans (Same.new (o := .dK kvs) hm0)
      have hm : (upd (upd H1 T (.tup [.int (cs.getD j 0), .int (ks.getD j 0)])) m (.dK kvs)) m = some (.dK kvs) := upd_same
      have hf2 := n2 _ _ hf
      have nmf : m ≠ f := by intro z; subst z; rw [n1 _ _ hf] at hm0; cases hm0
      have hmH : H m = none := (s1.trans n1).free hm0
      have s2 := s1.trans n2
      generalize upd (upd H1 T (.tup [.int (cs.getD j 0), .int (ks.getD j 0)])) m (.dK kvs) = H2 at n2 hm hf2 s2
      refine ⟨kvs, hf2, fun o => ?_⟩
      refine for_dict (fun i σ H' => ∃ (kv2 : List (Key × V)) (v4 v5 v6 : Option V), σ = [some (.ref a), some (.ref b), some (.int A), some (.ref f), some (.int (cs.getD j 0)), some (.int (ks.getD j 0)), some (.ref m), v4, v5, v6] ∧ Same H H' ∧ H' f = some (.frz o (.dK kvs)) ∧ H' m = some (.dK kv2) ∧ DM A (Cand A (cs.getD j 0) (ks.getD j 0) kvs (fun v n => v ≤ A ∧ RC cs ks j v n) i) kv2) ⟨kvs, _, _, _, rfl, s2.put hf0, upd_same, by rw [upd_ne nmf]; exact hm, cand_zero dm⟩ (fun i σ H' _ ⟨_, _, _, _, _, _, z, _⟩ => z) ?_ ?_
      · rintro i k v σ H3 hk ⟨kv2, v4, v5, v6, rfl, s3, hf3, hm3, dm2⟩
        obtain ⟨p, mm, rfl, rfl, p0', p1, hv, hC, hCm⟩ := dm.place hk
        have hlim : lim A (cs.getD j 0) (ks.getD j 0) p ≤ 1000 := by unfold lim; split <;> omega
        have hlow : -10000 ≤ lim A (cs.getD j 0) (ks.getD j 0) p := by
          have := Int.ediv_nonneg (a := A - p) (b := cs.getD j 0) (by omega) (by omega)
          unfold lim
          split <;> omega
        refine ⟨⟨by omega, by omega⟩, ⟨by decide, by decide, ?_, ?_⟩, ?_⟩
        · have := hlow; unfold lim at this; omega
        · have := hlim; unfold lim at this; omega
        refine for_range (fun u σ H' => ∃ (kv2 : List (Key × V)) (v5 v6 : Option V), σ = [some (.ref a), some (.ref b), some (.int A), some (.ref f), some (.int (cs.getD j 0)), some (.int (ks.getD j 0)), some (.ref m), some (.int p), v5, v6] ∧ Same H H' ∧ H' f = some (.frz o (.dK kvs)) ∧ H' m = some (.dK kv2) ∧ DM A (CandI A (cs.getD j 0) (ks.getD j 0) kvs (fun v n => v ≤ A ∧ RC cs ks j v n) i p mm u) kv2) ⟨kv2, _, _, rfl, s3, hf3, hm3, candI_zero dm2⟩ ?_ ?_
        · rintro u σ H4 hu ⟨kv2, v5, v6, rfl, s4, hf4, hm4, dm3⟩
          have hu' : u < (lim A (cs.getD j 0) (ks.getD j 0) p + 1 - 1).toNat := hu
          have ul : 1 + (u : Int) ≤ lim A (cs.getD j 0) (ks.getD j 0) p := by omega
          obtain ⟨l1, l2⟩ := lim_ok cc.1 ul
          have t0 : 0 ≤ (1 + (u : Int)) * cs.getD j 0 := Int.mul_nonneg (by omega) (by omega)
          refine ⟨fun v H' => v = .int (p + (1 + (u : Int)) * cs.getD j 0) ∧ H4 = H', ⟨.inl ⟨by omega, by omega⟩, rfl, rfl⟩, ?_⟩
          rintro _ _ ⟨rfl, rfl⟩
          have kvl := dm3.len A0
          obtain ⟨oo, e1, mo⟩ := dm3.val (p + (1 + (u : Int)) * cs.getD j 0)
          have put : (∀ y, valV kv2 (Sum.inl (p + (1 + (u : Int)) * cs.getD j 0)) = some (V.int y) → mm + (1 + (u : Int)) < y) → DM A (CandI A (cs.getD j 0) (ks.getD j 0) kvs (fun v n => v ≤ A ∧ RC cs ks j v n) i p mm (u + 1)) (putK kv2 (Sum.inl (p + (1 + (u : Int)) * cs.getD j 0)) (V.int (mm + (1 + (u : Int))))) := fun h => (dm3.put (by omega) l1 h).congr candI_succ
          have hst : kv2.length < sizeLine := by rw [sizeLine_eq]; omega
          cases oo with
          | none =>
            refine ⟨kv2, .inl hm4, ?_⟩
            rw [e1]
            refine ⟨kvs, _, .inr ⟨o, hf4⟩, hv, kv2, hm4, hst, ?_⟩
            exact ⟨_, _, _, rfl, s4.put hmH, by rw [upd_ne (Ne.symm nmf)]; exact hf4, upd_same, put fun y hy => by rw [e1] at hy; cases hy⟩
          | some y =>
            refine ⟨kv2, .inl hm4, ?_⟩
            rw [e1]
            refine ⟨kvs, _, .inr ⟨o, hf4⟩, hv, kv2, _, .inl hm4, e1, ifB (fun g => ?_) fun g => ?_⟩
            · have g' := of_decide_eq_true g
              refine ⟨kvs, _, .inr ⟨o, hf4⟩, hv, kv2, hm4, hst, ?_⟩
              exact ⟨_, _, _, rfl, s4.put hmH, by rw [upd_ne (Ne.symm nmf)]; exact hf4, upd_same, put fun y' hy => by rw [e1] at hy; cases hy; exact g'⟩
            · have g' := of_decide_eq_false g
              exact ⟨kv2, _, _, rfl, s4, hf4, hm4, (dm3.skip e1 g').congr candI_succ⟩
        · rintro σ H4 ⟨kv2, v5, v6, rfl, s4, hf4, hm4, dm3⟩
          exact ⟨kv2, _, _, _, rfl, s4, hf4, hm4, dm3.congr (candI_all hk (by show (((lim A (cs.getD j 0) (ks.getD j 0) p + 1 - 1).toNat : Nat) : Int) = _; split <;> omega))⟩
      · rintro σ H3 ⟨kv2, v4, v5, v6, rfl, s3, hf3, hm3, dm2⟩
        exact ⟨m, kv2, _, _, _, _, _, _, rfl, s3, hmH, hm3, cand_rc (fun c hc => (cr c hc).1) hjl kk.1 dm dm2⟩
    · rintro σ H' ⟨f, kvs, v1, v2, v3, v4, v5, v6, rfl, s1, hf0, hf, dm⟩
      rw [List.length_map] at dm
      refine ⟨⟨kvs, .inl hf⟩, kvs, .inl hf, ?_⟩
      obtain ⟨oo, e, mo⟩ := dm.val A
      rw [e]
      have := q oo H' (mo.imp (fun n h => h.2) fun n h => ⟨n, ⟨Int.le_refl _, h⟩, Int.le_refl _⟩) s1
      cases oo with
      | none => exact this
      | some z => exact this

end
end PG

set_option Elab.async false
set_option linter.all false
set_option maxRecDepth 100000
set_option maxHeartbeats 4000000
namespace PG
open PySem L2 PyProof.Rows

section
variable {P : Program} {w : World} {K : PySem.W.Frag} {mg : Str → Option Value} {base : Heap}

theorem sc__law_kept : FnScope ["_law_till", "_law_coins", "_law_counts", "_law_held", "_law_worth", "_law_count"] ["_law_till", "_law_coins", "_law_counts"] (defScope s__law_kept) := ⟨rfl, rfl, rfl, by decide +kernel, rfl, by decide +kernel, by decide +kernel⟩
theorem ok__law_kept {f : Addr} {fd : FuncData} (F : Fun K "_law_kept" "_law_kept" s__law_kept f fd) (B : Blt mg) (ER : Errs K mg) (OW : Owns K mg) (g_Till_held : GM P w K mg base (CX1 P w) OW.a_Till "held" ["self"] 1 (sHeld73 K OW.a_Till)) (g_Till_worth : GM P w K mg base (CX1 P w) OW.a_Till "worth" ["self"] 5 (sWorth73 K OW.a_Till)) (g__law_whole : G P w K mg base (CX1 P w) "_law_whole" ["_law_found"] 1 sNum) : FnOk P w K mg base (CX1 P w) 6 f fd ["_law_till", "_law_coins", "_law_counts"] (sKept72 K OW.a_Till) := by
  refine F.okN sc__law_kept (fun vs H Q E h => ?_) (fun cdv A outer s H vs Q E hr h => ?_)
  · unfold sKept72 at h; split at h
    · rfl
    · exact h.elim
  · unfold sKept72 at h; split at h
    rotate_left
    · exact h.elim
    rename_i x a b
    refine ⟨_, (q_scons (q_set (i := 3) sc__law_kept.nd rfl (Or.inl rfl) (q_meth0 g_Till_held (hr.mono (by decide)) pass1E (q_v 0))) (q_scons (q_set (i := 4) sc__law_kept.nd rfl (Or.inl rfl) (q_meth0 g_Till_worth (hr.mono (by decide)) pass1E (q_v 0))) (q_scons (q_sif (q_tw (q_tor (q_tnot (q_tval (K := K) (q_callB (uc_isi (K := K)) (by rfl) B.isi boot_isinstance (q_cons (q_v 3) (q_cons (q_bltn (v := .ty "list") (by rfl) B.list boot_list rfl) q_nil))))) (q_tor (q_tcmp (uo_ne (K := K) hr.u8) (q_v 3) (q_v 2) (nomark _)) (q_tor1 (q_tnot (q_tval (K := K) (q_g g__law_whole (hr.mono (by decide)) pass1E (q_cons (q_v 4) q_nil)))))))) (q_sone (q_ret q_bl)) q_snil) (q_scons (q_sif (q_tcmp (uo_ne (K := K) hr.u8) (q_v 4) (q_callB (uc_sum (K := K) rfl) (by rfl) B.sum boot_sum (q_cons (q_comp [none, none] ["_law_coin", "_law_count"] rfl (by kernel_rfl) (q_zip B.zip (q_cons (q_v 1) (q_cons (q_v 2) q_nil))) (fun _ _ _ _ _ => (q_gtup (K := K) (n := 2) rfl (q_gcons (q_name (i := 0) (show List.Nodup (["_law_coin", "_law_count"] : List Str) from by decide +kernel) rfl (Or.inl rfl)) (q_gcons (q_name (i := 1) (show List.Nodup (["_law_coin", "_law_count"] : List Str) from by decide +kernel) rfl (Or.inl rfl)) q_gnil)))) (fun _ _ _ _ _ => q_fnil) (fun _ _ _ _ _ => (q_op uo_mul (q_v 0) (q_v 1)))) q_nil)) (nomark _)) (q_sone (q_ret q_bl)) q_snil) (q_scons (q_for PassesOwn.never rfl (q_seq (K := K) (q_v 3)) (q_name (i := 5) sc__law_kept.nd rfl (Or.inl rfl)) (q_sone (q_sif (q_tnot (q_tval (K := K) (q_g g__law_whole (hr.mono (by decide)) pass1E (q_cons (q_v 5) q_nil)))) (q_sone (q_ret q_bl)) q_snil))) (q_scons (q_expr (q_bm (K := K) PySem.F.slot_list_append PySem.F.type_list_append um_append (q_v 3) (q_cons q_int q_nil))) (q_scons (q_asg (q_op uo_add (q_ix (ux (K := K)) (q_v 3) q_int (fun _ _ => rfl)) q_int) (q_gsub (q_v 3) q_int us_set)) (q_sone (q_ret q_bl))))))))), ?_⟩
    obtain ⟨dx, p, q0, cs, ks, t, hA, hB, cn, kl, kr, q⟩ := h
    have cl := cn.le
    have c1 := cn.ne
    refine ⟨x, dx, _, rfl, t.ins, rfl, dx, p, q0, cs, ks, t, fun l H1 s1 hl0 hl => ?_⟩
    have t1 := t.same s1
    refine ⟨x, dx, _, rfl, t1.ins, rfl, dx, p, q0, cs, ks, t1, cn, kl, fun k hk => (kr k hk).1, fun H2 s2 => ?_⟩
    have t2 := s1.trans s2
    have hl2 := s2 _ _ hl
    have hA2 := t2 _ _ hA
    have hB2 := t2 _ _ hB
    refine ⟨_, true, TyOf.lst hl2, by kernel_rfl, ?_⟩
    refine eqInts (neg := true) (SqL.of hl2) (SqL.of hB2) (ifB (fun g => by simp at g) fun _ => ⟨trivial, ?_⟩)
    refine ⟨_, _, SqL.of hA2, SqL.of hB2, comp_by (fun i => V.int (cs.getD i 0 * ks.getD i 0)) (fun _ => true) (jp_zip (SqL.of hA2) (SqL.of hB2) (by simp [kl])) (by rw [List.length_map]; exact small1000 (by omega)) (keepTup2 rfl rfl) (fun i y H' R Z hi sm hy hR hZ => ?_) (fun D H3 hD s3 hL => ?_)⟩
    · obtain ⟨T, x1, y1, rfl, hT, e1, e2⟩ := hy
      obtain ⟨n, en, rfl⟩ := int_at e1
      obtain ⟨m, em, rfl⟩ := int_at e2
      have hn := cn.rng n (List.mem_of_getElem? en)
      have := hR rfl H' (Same.refl _)
      rw [getD_at en, getD_at em] at this
      exact ⟨T, _, rfl, SqT.of hT, rfl, _, _, rfl, _, _, rfl, rfl, .inl ⟨by omega, by omega⟩, this⟩
    rw [List.length_map, range_ints (fun i => cs.getD i 0 * ks.getD i 0)] at hL
    refine ⟨_, SqL.of hL, isNumB_ints _, ?_⟩
    rw [numV_ints, dot_sum cs ks kl.symm]
    refine ifB (fun g => by simp at g) fun _ => ?_
    have t3 := t2.trans s3
    have hl3 := s3 _ _ hl2
    refine .inl ⟨_, SqL.of hl3, for_list (K := K) (a := l) (xs := ks.map V.int) (fun i σ H' => ∃ v : Option V, σ = [some (.ref x), some (.ref a), some (.ref b), some (.ref l), some (.int (dot cs ks)), v] ∧ H3 = H') ⟨none, rfl, rfl⟩ (fun i σ H' _ ⟨_, _, e⟩ => by rw [← e]; exact SqL.of hl3) ?_ ?_⟩
    · rintro i y σ H' hy ⟨v, rfl, rfl⟩
      obtain ⟨n, en, rfl⟩ := int_at hy
      exact ⟨trivial, _, rfl, rfl⟩
    · rintro σ H' ⟨v, rfl, rfl⟩
      refine ⟨⟨_, SqL.of hl3⟩, _, hl3, by rw [List.length_map]; exact small1000 (by omega), ?_⟩
      have hl4 : (upd H3 l (.lst (ks.map V.int ++ [.int 0]))) l = some (.lst ((ks ++ [0]).map V.int)) := by rw [upd_same, List.map_append]; rfl
      refine ⟨_, _, .inl (SqL.of hl4), atInt (ns := ks ++ [0]) (k := 0) (by omega) (by rw [List.length_append, List.length_singleton]; omega), _, 0, hl4, ixN_pos (k := 0) (by omega) (by simp), ?_⟩
      rw [upd_upd]
      exact q _ (t3.put hl0)

theorem sc__law_put : FnScope ["_law_till", "_law_counts", "_law_cell_here", "_law_far", "_law_paying", "_law_handed", "_law_fuller", "_law_refused", "_law_told"] ["_law_till", "_law_counts", "_law_cell_here"] (defScope s__law_put) := ⟨rfl, rfl, rfl, by decide +kernel, rfl, by decide +kernel, by decide +kernel⟩
theorem ok__law_put {f : Addr} {fd : FuncData} (F : Fun K "_law_put" "_law_put" s__law_put f fd) (B : Blt mg) (ER : Errs K mg) (OW : Owns K mg) (g_Till_put : GM P w K mg base (CX1 P w) OW.a_Till "put" ["self", "paying"] 3 (sPut72 K OW.a_Till ER.a_TooMany)) : FnOk P w K mg base (CX1 P w) 4 f fd ["_law_till", "_law_counts", "_law_cell_here"] (sPutL72 K OW.a_Till) := by
  refine F.okN sc__law_put (fun vs H Q E h => ?_) (fun cdv A outer s H vs Q E hr h => ?_)
  · unfold sPutL72 at h; split at h
    · rfl
    · exact h.elim
  · unfold sPutL72 at h; split at h
    rotate_left
    · exact h.elim
    rename_i x b n
    refine ⟨_, (q_scons (q_set (i := 3) sc__law_put.nd rfl (Or.inr rfl) (q_cut (q_ix (ux (K := K)) (q_lst (q_cons q_int (q_cons q_int (q_cons q_int (q_cons q_int (q_cons q_int (q_cons q_int (q_cons q_int (q_cons q_int q_nil))))))))) (q_op uo_mod (q_v 2) q_int) (fun _ _ => rfl)))) (q_scons (q_setC (i := 4) [none, some 3, some 2] ["_law_k", "_law_far", "_law_cell_here"] sc__law_put.nd rfl rfl rfl (by kernel_rfl) (q_range1 B.range (q_cons (q_callB (uc_len (K := K)) (by rfl) B.len PySem.boot_len (q_cons (q_v 1) q_nil)) q_nil)) (fun _ _ _ _ _ => (q_name (i := 0) (show List.Nodup (["_law_k", "_law_far", "_law_cell_here"] : List Str) from by decide +kernel) rfl (Or.inl rfl))) (fun _ _ _ _ _ => q_fnil) (fun _ _ _ _ _ => (q_op uo_mod (q_op uo_fdiv (q_v 2) (q_op uo_add q_int (q_op uo_mul q_int (q_v 0)))) (q_v 1)))) (q_scons (q_set (i := 5) sc__law_put.nd rfl (Or.inl rfl) (q_callTy (uc_list (K := K)) (by rfl) B.list boot_list (q_cons (q_v 4) q_nil))) (q_scons (q_setC (i := 6) [none, none] ["_law_count", "_law_many"] sc__law_put.nd rfl rfl rfl (by kernel_rfl) (q_zip B.zip (q_cons (q_v 1) (q_cons (q_v 4) q_nil))) (fun _ _ _ _ _ => (q_gtup (K := K) (n := 2) rfl (q_gcons (q_name (i := 0) (show List.Nodup (["_law_count", "_law_many"] : List Str) from by decide +kernel) rfl (Or.inl rfl)) (q_gcons (q_name (i := 1) (show List.Nodup (["_law_count", "_law_many"] : List Str) from by decide +kernel) rfl (Or.inl rfl)) q_gnil)))) (fun _ _ _ _ _ => q_fnil) (fun _ _ _ _ _ => (q_op uo_add (q_v 0) (q_v 1)))) (q_scons (q_set (i := 7) sc__law_put.nd rfl (Or.inl rfl) q_bl) (q_scons (q_set (i := 8) sc__law_put.nd rfl (Or.inl rfl) q_bl) (q_scons (q_try1 (K := K) ER.m_TooMany (q_xset (i := 8) sc__law_put.nd rfl (Or.inl rfl) (q_xisnone (q_xmeth g_Till_put (hr.mono (by decide)) (q_v 0) (q_cons (q_v 5) q_nil)))) (fun _ => (q_sone (q_set (i := 7) sc__law_put.nd rfl (Or.inl rfl) q_bl)))) (q_scons (q_sif (q_tw (q_tor (q_tnot (q_tval (K := K) (q_v 8))) (q_tor (q_tcmp (uo_ne (K := K) hr.u8) (q_v 5) (q_v 4) (nomark _)) (q_tor1 (q_tcmp (uo_ne (K := K) hr.u8) (q_v 7) (q_cmp uo_gt (q_callB (uc_max (K := K) rfl) (by rfl) B.max boot_max (q_cons (q_v 6) q_nil)) q_int (nomark _)) (nomark _)))))) (q_sone (q_ret q_non)) q_snil) (q_scons (q_expr (q_bm0 (K := K) PySem.F.slot_list_clear PySem.F.type_list_clear um_clear (q_v 5))) (q_scons (q_sif (q_tval (K := K) (q_v 7)) (q_sone (q_ret (q_v 1))) q_snil) (q_sone (q_ret (q_v 6))))))))))))), ?_⟩
    obtain ⟨dx, p, q0, cs, ks, t, hB, cn, kl, kr, n0, q⟩ := h
    have cl := cn.le
    have c1 := cn.ne
    have e0 := Int.emod_nonneg n (show (8 : Int) ≠ 0 by omega)
    have e1 := Int.emod_lt_of_pos n (show (0 : Int) < 8 by omega)
    have hat := atInt (ns := [5, 5, 5, 5, 5, 5, 5, 61]) (k := n % 8) e0 e1
    have hfar : 1 ≤ ([5, 5, 5, 5, 5, 5, 5, 61] : List Int).getD (n % 8).toNat 0 := by
      have hj : (n % 8).toNat = 0 ∨ (n % 8).toNat = 1 ∨ (n % 8).toNat = 2 ∨ (n % 8).toNat = 3 ∨ (n % 8).toNat = 4 ∨ (n % 8).toNat = 5 ∨ (n % 8).toNat = 6 ∨ (n % 8).toNat = 7 := by omega
      rcases hj with e | e | e | e | e | e | e | e <;> rw [e] <;> decide
    refine ⟨fun v H' => ∃ far : Int, v = .int far ∧ 1 ≤ far ∧ Same H H', ⟨by show 8 ≤ sizeLine; decide, fun r hr => ⟨by decide, _, _, .inl (SqL.of upd_same), hat, _, rfl, hfar, Same.new hr⟩⟩, ?_⟩
    rintro _ H1 ⟨far, rfl, far1, s1⟩
    clear hat hfar
    refine ⟨_, .inl (SqL.of (s1 _ _ hB)), ?_⟩
    rw [List.length_map]
    refine ⟨⟨by omega, by omega⟩, comp_by (fun j => V.int (n / (8 + 5 * (0 + (j : Int))) % far)) (fun _ => true) jp_range (by exact small1000 (by omega)) (keepName rfl) (fun j y H' R Z hj sm hy hR hZ => ?_) (fun M H2 hM0 s2 hL => ?_)⟩
    · subst hy
      exact tT ⟨.inl ⟨by decide, by decide⟩, ⟨by omega, by omega⟩, by omega, hR rfl H' (Same.refl _)⟩
    rw [range_ints (fun j => n / (8 + 5 * (0 + (j : Int))) % far)] at hL
    have msl : ((List.range ((ks.length : Nat) : Int).toNat).map fun (j : Nat) => n / (8 + 5 * (0 + (j : Int))) % far).length = cs.length := by rw [List.length_map, List.length_range]; omega
    have msr : ∀ m ∈ (List.range ((ks.length : Nat) : Int).toNat).map fun (j : Nat) => n / (8 + 5 * (0 + (j : Int))) % far, 0 ≤ m := fun m hm => by
      obtain ⟨j, _, rfl⟩ := List.mem_map.mp hm
      exact Int.emod_nonneg _ (by omega)
    generalize ((List.range ((ks.length : Nat) : Int).toNat).map fun (j : Nat) => n / (8 + 5 * (0 + (j : Int))) % far) = ms at hL msl msr
    have t2 := s1.trans s2
    refine ⟨_, .inl (SqL.of hL), fun hd hhd => ?_⟩
    have s3 := Same.new (o := .lst (ms.map V.int)) hhd
    have hd3 : (upd H2 hd (.lst (ms.map V.int))) hd = some (.lst (ms.map V.int)) := upd_same
    generalize upd H2 hd (.lst (ms.map V.int)) = H3 at s3 hd3
    have t3 := t2.trans s3
    have hB3 := t3 _ _ hB
    have hM3 := s3 _ _ hL
    have hdH : H hd = none := t2.free hhd
    refine ⟨_, _, SqL.of hB3, SqL.of hM3, comp_by (fun i => V.int (ks.getD i 0 + ms.getD i 0)) (fun _ => true) (jp_zip (SqL.of hB3) (SqL.of hM3) (by simp [msl, kl])) (by rw [List.length_map]; exact small1000 (by omega)) (keepTup2 rfl rfl) (fun i y H' R Z hi sm hy hR hZ => ?_) (fun F H4 hF0 s4 hLF => ?_)⟩
    · obtain ⟨T, x1, y1, rfl, hT, e1, e2⟩ := hy
      obtain ⟨n, en, rfl⟩ := int_at e1
      obtain ⟨m, em, rfl⟩ := int_at e2
      have := hR rfl H' (Same.refl _)
      rw [getD_at en, getD_at em] at this
      exact ⟨T, _, rfl, SqT.of hT, rfl, _, _, rfl, _, _, rfl, rfl, this⟩
    rw [List.length_map, range_ints (fun i => ks.getD i 0 + ms.getD i 0)] at hLF
    have hF : H4 F = some (.lst ((addL ks ms).map V.int)) := hLF
    clear hLF
    have al := addL_len ks ms
    have t4 := t3.trans s4
    have tt := t.same t4
    have hd4 := s4 _ _ hd3
    have hM4 := s4 _ _ hM3
    have hB4 := t4 _ _ hB
    have nhx : hd ≠ x := by intro z; subst z; rw [t.ins] at hdH; cases hdH
    have a0 : ∀ k ∈ addL ks ms, 0 ≤ k := fun k hk => by
      obtain ⟨i, hi, e⟩ := mem_range_getD hk
      rw [← e, addL_at ks ms (by omega)]
      have h1 := (kr _ (List.mem_of_getElem? (getD_some (ns := ks) (i := i) (by omega)))).1
      have h2 := msr _ (List.mem_of_getElem? (getD_some (ns := ms) (i := i) (by omega)))
      omega
    refine ⟨x, dx, _, rfl, tt.ins, rfl, dx, p, q0, cs, ks, ms, tt, SqL.of hd4, nhx, cn, kl, msl, msr, fun ex H5 s5 => ?_, fun le q2 H5 up t5 hq2 => ⟨rfl, ?_⟩⟩
    · refine ⟨ER.a_TooMany, rfl, ER.h_TooMany_TooMany, fun ea hea => ?_⟩
      have s6 := s5.trans (Same.new (o := excO ea ER.a_TooMany) hea)
      generalize upd H5 ea (excO ea ER.a_TooMany) = H6 at s6
      refine eqInts (neg := true) (SqL.of (s6 _ _ hd4)) (SqL.of (s6 _ _ hM4)) (ifB (fun g => by simp at g) fun _ => ?_)
      refine ⟨addL ks ms, SqL.of (s6 _ _ hF), by omega, fun X hX mx => ?_⟩
      have gt : 100 < X := by
        obtain ⟨k, hk, gk⟩ := ex
        have := mx k hk
        omega
      refine ifB (fun g => by simp [gt] at g) fun _ => ?_
      refine ⟨⟨_, SqL.of (s6 _ _ hd4)⟩, rfl, _, s6 _ _ hd4, ?_⟩
      have s7 := (t4.trans s6).put (o := .lst []) hdH
      exact q b q0 ks _ (Same.upto s7) (t.same s7) (s7 _ _ hB) kl kr
    · have nFx : F ≠ x := by intro z; subst z; rw [tt.ins] at hF; cases hF
      have nMx : M ≠ x := by intro z; subst z; rw [tt.ins] at hM4; cases hM4
      have hd5 := up _ _ nhx hd4
      have hF5 := up _ _ nFx hF
      have hM5 := up _ _ nMx hM4
      refine eqInts (neg := true) (SqL.of hd5) (SqL.of hM5) (ifB (fun g => by simp at g) fun _ => ?_)
      refine ⟨addL ks ms, SqL.of hF5, by omega, fun X hX mx => ?_⟩
      have le2 : ¬ 100 < X := by have := le X hX; omega
      refine ifB (fun g => by simp [le2] at g) fun _ => ?_
      refine ⟨⟨_, SqL.of hd5⟩, rfl, _, hd5, ?_⟩
      have ndF : hd ≠ F := by intro z; subst z; rw [hd3] at hF0; cases hF0
      have ndq : hd ≠ q2 := by intro z; subst z; rw [hd4] at hq2; cases hq2
      have ndp : hd ≠ p := by intro z; subst z; rw [t.co] at hdH; cases hdH
      refine q F q2 (addL ks ms) _ (fun bb u nb e => ?_) ⟨by rw [upd_ne (Ne.symm nhx)]; exact t5.ins, by rw [upd_ne (Ne.symm ndp)]; exact t5.co, by rw [upd_ne (Ne.symm ndq)]; exact t5.ct⟩ (by rw [upd_ne (Ne.symm ndF)]; exact hF5) (by omega) fun k hk => ⟨a0 k hk, le k hk⟩
      have nbd : bb ≠ hd := by intro z; subst z; rw [hdH] at e; cases e
      rw [upd_ne nbd]
      exact up _ _ nb (t4 _ _ e)

theorem sc__law_amount : FnScope ["_law_coins", "_law_counts", "_law_cell_here", "_law_most", "_law_amount_here", "_law_k", "_law_coin", "_law_more"] ["_law_coins", "_law_counts", "_law_cell_here", "_law_most"] (defScope s__law_amount) := ⟨rfl, rfl, rfl, by decide +kernel, rfl, by decide +kernel, by decide +kernel⟩
theorem ok__law_amount {f : Addr} {fd : FuncData} (F : Fun K "_law_amount" "_law_amount" s__law_amount f fd) (B : Blt mg) (ER : Errs K mg) (OW : Owns K mg) : FnOk P w K mg base (CX1 P w) 1 f fd ["_law_coins", "_law_counts", "_law_cell_here", "_law_most"] (sAmt72 K) := by
  refine F.okN sc__law_amount (fun vs H Q E h => ?_) (fun cdv A outer s H vs Q E hr h => ?_)
  · unfold sAmt72 at h; split at h
    · rfl
    · exact h.elim
  · unfold sAmt72 at h; split at h
    rotate_left
    · exact h.elim
    rename_i a b n most
    refine ⟨_, (q_scons (q_set (i := 4) sc__law_amount.nd rfl (Or.inl rfl) (q_cut (q_op uo_mod (q_op uo_fdiv (q_v 2) q_int) (q_op uo_add (q_v 3) q_int)))) (q_scut (q_sif (q_tcmp (uo_eq (K := K) hr.u8) (q_op uo_mod (q_v 2) q_int) q_int (nomark _)) (q_scons (q_set (i := 4) sc__law_amount.nd rfl (Or.inl rfl) (q_cut q_int)) (q_sone (q_for PassesOwn.never rfl (q_enum B.enumerate (q_cons (q_v 0) q_nil)) (q_gtup (K := K) (n := 2) rfl (q_gcons (q_name (i := 5) sc__law_amount.nd rfl (Or.inl rfl)) (q_gcons (q_name (i := 6) sc__law_amount.nd rfl (Or.inl rfl)) q_gnil))) (q_scons (q_set (i := 7) sc__law_amount.nd rfl (Or.inl rfl) (q_cut (q_op uo_mul (q_v 6) (q_op uo_mod (q_op uo_fdiv (q_v 2) (q_op uo_add (q_op uo_mul q_int (q_v 5)) q_int)) (q_op uo_add (q_callB (uc_min2 rfl) (by rfl) B.min boot_min (q_cons q_int (q_cons (q_ix (ux (K := K)) (q_v 1) (q_v 5) (fun _ _ => rfl)) q_nil))) q_int))))) (q_sone (q_sif (q_tcmp uo_le (q_op uo_add (q_v 4) (q_v 7)) (q_v 3) (nomark _)) (q_sone (q_set (i := 4) sc__law_amount.nd rfl (Or.inl rfl) (q_cut (q_op uo_add (q_v 4) (q_v 7))))) q_snil)))))) q_snil) (q_sone (q_ret (q_v 4))))), ?_⟩
    obtain ⟨cs, ks, hS, hK, cn, kl, kr, n0, ⟨m0, m1⟩, q⟩ := h
    have cl := cn.le
    refine ⟨fun v H' => ∃ A : Int, v = .int A ∧ (0 ≤ A ∧ A ≤ most) ∧ H = H', ⟨⟨by decide, by decide⟩, by omega, _, rfl, ?_, rfl⟩, ?_⟩
    · have e0 := Int.emod_nonneg (n / 2) (show most + 1 ≠ 0 by omega)
      have e1 := Int.emod_lt_of_pos (n / 2) (show 0 < most + 1 by omega)
      exact ⟨by omega, by omega⟩
    rintro _ _ ⟨A, rfl, hA, rfl⟩
    refine ⟨fun σ' H' => ∃ (A : Int) (v1 v2 v3 : Option V), σ' = [some (.ref a), some (.ref b), some (.int n), some (.int most), some (.int A), v1, v2, v3] ∧ (0 ≤ A ∧ A ≤ most) ∧ Same H H', ⟨by decide, ifB (fun g => ?_) fun g => ⟨A, _, _, _, rfl, hA, Same.refl _⟩⟩, ?_⟩
    · refine ⟨fun v H' => v = .int 0 ∧ H = H', ⟨rfl, rfl⟩, ?_⟩
      rintro _ _ ⟨rfl, rfl⟩
      refine ⟨_, hS, for_enum (K := K) (a := a) (xs := cs.map V.int) (fun i σ H' => ∃ (A : Int) (v1 v2 v3 : Option V), σ = [some (.ref a), some (.ref b), some (.int n), some (.int most), some (.int A), v1, v2, v3] ∧ (0 ≤ A ∧ A ≤ most) ∧ Same H H') ⟨0, _, _, _, rfl, ⟨by omega, by omega⟩, Same.refl _⟩ (fun i σ H' _ ⟨_, _, _, _, _, _, z⟩ => z.seq hS) ?_ ?_⟩
      · rintro i x T σ H2 hx hT ⟨A, v1, v2, v3, rfl, hA, s2⟩
        obtain ⟨c, hcx, rfl⟩ := int_at hx
        have cc := cn.rng c (List.mem_of_getElem? hcx)
        have hil := getElem?_lt hcx
        have s3 := s2.trans (Same.new (o := .tup [.int (i : Int), .int c]) hT)
        have hat := atInt (ns := ks) (k := ((i : Nat) : Int)) (by omega) (by omega)
        rw [Int.toNat_natCast] at hat
        have kk := kr _ (List.mem_of_getElem? (getD_some (ns := ks) (i := i) (by omega)))
        refine ⟨T, _, rfl, SqT.of upd_same, rfl, _, _, rfl, _, _, rfl, rfl, ?_⟩
        have md : 0 < (if ks.getD i 0 < 9 then ks.getD i 0 else 9) + 1 := by split <;> omega
        refine ⟨fun v H' => ∃ y : Int, v = .int y ∧ 0 ≤ y ∧ upd H2 T (.tup [.int (i : Int), .int c]) = H', ⟨.inl ⟨by decide, by decide⟩, ⟨by omega, by omega⟩, _, _, .inl (s3.seq hK), hat, md, .inl ⟨by omega, by omega⟩, _, rfl, ?_, rfl⟩, ?_⟩
        · exact Int.mul_nonneg (by omega) (Int.emod_nonneg _ (by omega))
        rintro _ _ ⟨y, rfl, y0, rfl⟩
        refine ifB (fun g => ?_) fun g => ⟨A, _, _, _, rfl, hA, s3⟩
        have g' := of_decide_eq_true g
        refine ⟨fun v H' => v = .int (A + y) ∧ upd H2 T (.tup [.int (i : Int), .int c]) = H', ⟨rfl, rfl⟩, ?_⟩
        rintro _ _ ⟨rfl, rfl⟩
        exact ⟨A + y, _, _, _, rfl, ⟨by omega, by omega⟩, s3⟩
      · rintro σ H2 ⟨A, v1, v2, v3, rfl, hA, s2⟩
        exact ⟨A, _, _, _, rfl, hA, s2⟩
    rintro _ H2 ⟨A, v1, v2, v3, rfl, hA, s2⟩
    exact q A H2 hA.1 hA.2 s2

theorem sc__law_less : FnScope ["_law_found", "_law_coins", "_law_counts", "_law_amount_here", "_law_number", "_law_less_here"] ["_law_found", "_law_coins", "_law_counts", "_law_amount_here", "_law_number"] (defScope s__law_less) := ⟨rfl, rfl, rfl, by decide +kernel, rfl, by decide +kernel, by decide +kernel⟩
theorem ok__law_less {f : Addr} {fd : FuncData} (F : Fun K "_law_less" "_law_less" s__law_less f fd) (B : Blt mg) (ER : Errs K mg) (OW : Owns K mg) (g__law_good : G P w K mg base (CX1 P w) "_law_good" ["_law_found", "_law_coins", "_law_counts", "_law_amount_here", "_law_number"] 2 (sGood71 K)) : FnOk P w K mg base (CX1 P w) 3 f fd ["_law_found", "_law_coins", "_law_counts", "_law_amount_here", "_law_number"] (sLess72 K) := by
  refine F.okN sc__law_less (fun vs H Q E h => ?_) (fun cdv A outer s H vs Q E hr h => ?_)
  · unfold sLess72 at h; split at h
    · rfl
    · exact h.elim
  · unfold sLess72 at h; split at h
    rotate_left
    · exact h.elim
    rename_i g a b n k
    refine ⟨_, (q_scons (q_sif (q_tw (q_tor (q_tcmp uo_is (q_v 4) q_non (nomark _)) (q_tor1 (q_tnot (q_tval (K := K) (q_g g__law_good (hr.mono (by decide)) pass1E (q_cons (q_v 0) (q_cons (q_v 1) (q_cons (q_v 2) (q_cons (q_v 3) (q_cons (q_v 4) q_nil))))))))))) (q_sone (q_ret q_non)) q_snil) (q_scons (q_setC (i := 5) [none, none] ["_law_count", "_law_many"] sc__law_less.nd rfl rfl rfl (by kernel_rfl) (q_zip B.zip (q_cons (q_v 2) (q_cons (q_v 0) q_nil))) (fun _ _ _ _ _ => (q_gtup (K := K) (n := 2) rfl (q_gcons (q_name (i := 0) (show List.Nodup (["_law_count", "_law_many"] : List Str) from by decide +kernel) rfl (Or.inl rfl)) (q_gcons (q_name (i := 1) (show List.Nodup (["_law_count", "_law_many"] : List Str) from by decide +kernel) rfl (Or.inl rfl)) q_gnil)))) (fun _ _ _ _ _ => q_fnil) (fun _ _ _ _ _ => (q_op uo_sub (q_v 0) (q_v 1)))) (q_scons (q_asg (q_op uo_add (q_ix (ux (K := K)) (q_v 0) q_int (fun _ _ => rfl)) q_int) (q_gsub (q_v 0) q_int us_set)) (q_scons (q_expr (q_bm0 (K := K) PySem.F.slot_list_clear PySem.F.type_list_clear um_clear (q_v 0))) (q_sone (q_ret (q_v 5))))))), ?_⟩
    obtain ⟨cs, ks, ps, hg, hA, hB, ⟨pl, kl, c1, cl⟩, cr, pr, pd, psum, q⟩ := h
    refine ⟨cs, ks, ps, hg, SqL.of hA, SqL.of hB, ⟨pl, by omega, by omega⟩, cr, pr, pd, psum, fun H1 s1 => ?_⟩
    have hg1 := s1 _ _ hg
    have hB1 := s1 _ _ hB
    refine ⟨_, _, SqL.of hB1, SqL.of hg1, comp_by (fun i => V.int (ks.getD i 0 - ps.getD i 0)) (fun _ => true) (jp_zip (SqL.of hB1) (SqL.of hg1) (by simp [pl]; omega)) (by rw [List.length_map]; exact small1000 (by omega)) (keepTup2 rfl rfl) (fun i y H' R Z hi sm hy hR hZ => ?_) (fun LS H2 hLS0 s2 hL => ?_)⟩
    · obtain ⟨T, x1, y1, rfl, hT, e1, e2⟩ := hy
      obtain ⟨n, en, rfl⟩ := int_at e1
      obtain ⟨m, em, rfl⟩ := int_at e2
      have := hR rfl H' (Same.refl _)
      rw [getD_at en, getD_at em] at this
      exact ⟨T, _, rfl, SqT.of hT, rfl, _, _, rfl, _, _, rfl, rfl, this⟩
    rw [List.length_map, range_ints (fun i => ks.getD i 0 - ps.getD i 0)] at hL
    have hLS : H2 LS = some (.lst ((subL ks ps).map V.int)) := hL
    have hg2 := s2 _ _ hg1
    have ngL : g ≠ LS := by intro z; subst z; rw [hg1] at hLS0; cases hLS0
    refine ⟨_, _, .inl (SqL.of hg2), atInt (ns := ps) (k := 0) (by omega) (by omega), _, 0, hg2, ixN_pos (k := 0) (by omega) (by rw [List.length_map]; omega), ?_⟩
    rw [set_int]
    refine ⟨⟨_, SqL.of upd_same⟩, rfl, _, upd_same, ?_⟩
    rw [upd_upd]
    exact q LS _ ((Same.upto (s1.trans s2)).put) (s1.free hLS0) (Ne.symm ngL) (by rw [upd_ne (Ne.symm ngL)]; exact hLS)

end
end PG

set_option Elab.async false
set_option linter.all false
set_option maxRecDepth 100000
set_option maxHeartbeats 4000000
namespace PG
open PySem L2 PyProof.Rows

section
variable {P : Program} {w : World} {K : PySem.W.Frag} {mg : Str → Option Value} {base : Heap}

theorem sc__law_give : FnScope ["_law_till", "_law_coins", "_law_counts", "_law_cell_here", "_law_most", "_law_amount_here", "_law_number", "_law_found", "_law_refused"] ["_law_till", "_law_coins", "_law_counts", "_law_cell_here", "_law_most"] (defScope s__law_give) := ⟨rfl, rfl, rfl, by decide +kernel, rfl, by decide +kernel, by decide +kernel⟩
theorem ok__law_give {f : Addr} {fd : FuncData} (F : Fun K "_law_give" "_law_give" s__law_give f fd) (ER : Errs K mg) (OW : Owns K mg) (g_Till_give : GM P w K mg base (CX1 P w) OW.a_Till "give" ["self", "amount"] 5 (sGive72 K OW.a_Till ER.a_NoChange)) (g__law_least : G P w K mg base (CX1 P w) "_law_least" ["_law_coins", "_law_counts", "_law_amount_here"] 1 (sLeast72 K)) (g__law_amount : G P w K mg base (CX1 P w) "_law_amount" ["_law_coins", "_law_counts", "_law_cell_here", "_law_most"] 1 (sAmt72 K)) (g__law_less : G P w K mg base (CX1 P w) "_law_less" ["_law_found", "_law_coins", "_law_counts", "_law_amount_here", "_law_number"] 3 (sLess72 K)) : FnOk P w K mg base (CX1 P w) 6 f fd ["_law_till", "_law_coins", "_law_counts", "_law_cell_here", "_law_most"] (sTurn72 K OW.a_Till) := by
  refine F.okN sc__law_give (fun vs H Q E h => ?_) (fun cdv A outer s H vs Q E hr h => ?_)
  · unfold sTurn72 at h; split at h
    · rfl
    · exact h.elim
  · unfold sTurn72 at h; split at h
    rotate_left
    · exact h.elim
    rename_i x a b n most
    refine ⟨_, (q_scons (q_set (i := 5) sc__law_give.nd rfl (Or.inl rfl) (q_g g__law_amount (hr.mono (by decide)) pass1E (q_cons (q_v 1) (q_cons (q_v 2) (q_cons (q_v 3) (q_cons (q_v 4) q_nil)))))) (q_scons (q_set (i := 6) sc__law_give.nd rfl (Or.inl rfl) (q_g g__law_least (hr.mono (by decide)) pass1E (q_cons (q_v 1) (q_cons (q_v 2) (q_cons (q_v 5) q_nil))))) (q_scons (q_set (i := 7) sc__law_give.nd rfl (Or.inl rfl) q_non) (q_scons (q_set (i := 8) sc__law_give.nd rfl (Or.inl rfl) q_bl) (q_scons (q_try1 (K := K) ER.m_NoChange (q_xset (i := 7) sc__law_give.nd rfl (Or.inl rfl) (q_xmeth g_Till_give (hr.mono (by decide)) (q_v 0) (q_cons (q_v 5) q_nil))) (fun _ => (q_sone (q_set (i := 8) sc__law_give.nd rfl (Or.inl rfl) q_bl)))) (q_scons (q_sif (q_tnot (q_tval (K := K) (q_v 8))) (q_sone (q_ret (q_g g__law_less (hr.mono (by decide)) pass1E (q_cons (q_v 7) (q_cons (q_v 1) (q_cons (q_v 2) (q_cons (q_v 5) (q_cons (q_v 6) q_nil)))))))) q_snil) (q_scons (q_sif (q_tcmp uo_is (q_v 6) q_non (nomark _)) (q_sone (q_ret (q_v 2))) q_snil) (q_sone (q_ret q_non))))))))), ?_⟩
    obtain ⟨dx, p, q0, cs, ks, t, hA, hB, cn, kl, kr, n0, m01, q⟩ := h
    have cl := cn.le
    have c1 := cn.ne
    have nax : a ≠ x := by intro z; subst z; rw [t.ins] at hA; cases hA
    have nbx : b ≠ x := by intro z; subst z; rw [t.ins] at hB; cases hB
    refine ⟨cs, ks, SqL.of hA, SqL.of hB, cn, kl, kr, n0, m01, fun A H1 A0 A1 s1 => ?_⟩
    refine ⟨cs, ks, SqL.of (s1 _ _ hA), SqL.of (s1 _ _ hB), kl, by omega, cn.rng, fun k hk => ⟨(kr k hk).1, by have := (kr k hk).2; omega⟩, ⟨A0, by omega⟩, fun o H2 mo s2 => ?_⟩
    have t2 := s1.trans s2
    have tt := t.same t2
    refine ⟨x, dx, _, rfl, tt.ins, rfl, dx, p, q0, cs, ks, tt, cn, kl, kr, ⟨A0, by omega⟩, fun no H3 s3 => ?_, fun k r1 r2 g q2 ps H3 up hg0 hg pl pr pd psum tg ng hq2 => ?_⟩
    · refine ⟨ER.a_NoChange, rfl, ER.h_NoChange_NoChange, fun ea hea => ?_⟩
      have eo : o = none := MinO.uniq mo (o' := none) no
      subst eo
      have s4 := t2.trans (s3.trans (Same.new (o := excO ea ER.a_NoChange) hea))
      exact q b q0 ks _ (Same.upto s4) (t.same s4) (s4 _ _ hB) kl kr
    · have eo : o = some k := MinO.uniq mo (o' := some k) ⟨r1, r2⟩
      subst eo
      refine ⟨cs, ks, ps, hg, up _ _ nax (t2 _ _ hA), up _ _ nbx (t2 _ _ hB), ⟨pl, kl, c1, by omega⟩, cn.rng, pr, pd, psum, fun r H4 up4 hr0 nrg hr => ?_⟩
      exact turn_less q t2 up hg0 (by rw [t.co]; intro z; cases z) (by rw [t.ins]; intro z; cases z) tg ng up4 hr kl (subL_in kr (by omega) pr)

theorem sc__law_sale : FnScope ["_law_till", "_law_coins", "_law_counts", "_law_cell_here", "_law_most", "_law_paying", "_law_fuller", "_law_change", "_law_price", "_law_found", "_law_word", "_law_number"] ["_law_till", "_law_coins", "_law_counts", "_law_cell_here", "_law_most"] (defScope s__law_sale) := ⟨rfl, rfl, rfl, by decide +kernel, rfl, by decide +kernel, by decide +kernel⟩
theorem ok__law_sale {f : Addr} {fd : FuncData} (F : Fun K "_law_sale" "_law_sale" s__law_sale f fd) (B : Blt mg) (ER : Errs K mg) (OW : Owns K mg) (g_Till_sale : GM P w K mg base (CX1 P w) OW.a_Till "sale" ["self", "price", "paying"] 5 (sSale73 K OW.a_Till ER.a_TooLittle ER.a_TooMany ER.a_NoChange)) (g__law_least : G P w K mg base (CX1 P w) "_law_least" ["_law_coins", "_law_counts", "_law_amount_here"] 1 (sLeast72 K)) (g__law_less : G P w K mg base (CX1 P w) "_law_less" ["_law_found", "_law_coins", "_law_counts", "_law_amount_here", "_law_number"] 3 (sLess72 K)) : FnOk P w K mg base (CX1 P w) 6 f fd ["_law_till", "_law_coins", "_law_counts", "_law_cell_here", "_law_most"] (sTurn72 K OW.a_Till) := by
  refine F.okN sc__law_sale (fun vs H Q E h => ?_) (fun cdv A outer s H vs Q E hr h => ?_)
  · unfold sTurn72 at h; split at h
    · rfl
    · exact h.elim
  · unfold sTurn72 at h; split at h
    rotate_left
    · exact h.elim
    rename_i x a b n most
    refine ⟨_, (q_scons (q_setC (i := 5) [none, some 3] ["_law_k", "_law_cell_here"] sc__law_sale.nd rfl rfl rfl (by kernel_rfl) (q_range1 B.range (q_cons (q_callB (uc_len (K := K)) (by rfl) B.len PySem.boot_len (q_cons (q_v 2) q_nil)) q_nil)) (fun _ _ _ _ _ => (q_name (i := 0) (show List.Nodup (["_law_k", "_law_cell_here"] : List Str) from by decide +kernel) rfl (Or.inl rfl))) (fun _ _ _ _ _ => q_fnil) (fun _ _ _ _ _ => (q_op uo_mod (q_op uo_fdiv (q_v 1) (q_op uo_add q_int (q_op uo_mul q_int (q_v 0)))) q_int))) (q_scons (q_setC (i := 6) [none, none] ["_law_count", "_law_many"] sc__law_sale.nd rfl rfl rfl (by kernel_rfl) (q_zip B.zip (q_cons (q_v 2) (q_cons (q_v 5) q_nil))) (fun _ _ _ _ _ => (q_gtup (K := K) (n := 2) rfl (q_gcons (q_name (i := 0) (show List.Nodup (["_law_count", "_law_many"] : List Str) from by decide +kernel) rfl (Or.inl rfl)) (q_gcons (q_name (i := 1) (show List.Nodup (["_law_count", "_law_many"] : List Str) from by decide +kernel) rfl (Or.inl rfl)) q_gnil)))) (fun _ _ _ _ _ => q_fnil) (fun _ _ _ _ _ => (q_op uo_add (q_v 0) (q_v 1)))) (q_scons (q_set (i := 7) sc__law_sale.nd rfl (Or.inl rfl) (q_cut (q_callB (uc_min2 rfl) (by rfl) B.min boot_min (q_cons (q_callB (uc_sum (K := K) rfl) (by rfl) B.sum boot_sum (q_cons (q_comp [none, none] ["_law_coin", "_law_many"] rfl (by kernel_rfl) (q_zip B.zip (q_cons (q_v 1) (q_cons (q_v 5) q_nil))) (fun _ _ _ _ _ => (q_gtup (K := K) (n := 2) rfl (q_gcons (q_name (i := 0) (show List.Nodup (["_law_coin", "_law_many"] : List Str) from by decide +kernel) rfl (Or.inl rfl)) (q_gcons (q_name (i := 1) (show List.Nodup (["_law_coin", "_law_many"] : List Str) from by decide +kernel) rfl (Or.inl rfl)) q_gnil)))) (fun _ _ _ _ _ => q_fnil) (fun _ _ _ _ _ => (q_op uo_mul (q_v 0) (q_v 1)))) q_nil)) (q_cons (q_op uo_mod (q_op uo_fdiv (q_v 3) q_int) (q_op uo_add (q_v 4) q_int)) q_nil))))) (q_scons (q_set (i := 8) sc__law_sale.nd rfl (Or.inl rfl) (q_cut (q_op uo_sub (q_callB (uc_sum (K := K) rfl) (by rfl) B.sum boot_sum (q_cons (q_comp [none, none] ["_law_coin", "_law_many"] rfl (by kernel_rfl) (q_zip B.zip (q_cons (q_v 1) (q_cons (q_v 5) q_nil))) (fun _ _ _ _ _ => (q_gtup (K := K) (n := 2) rfl (q_gcons (q_name (i := 0) (show List.Nodup (["_law_coin", "_law_many"] : List Str) from by decide +kernel) rfl (Or.inl rfl)) (q_gcons (q_name (i := 1) (show List.Nodup (["_law_coin", "_law_many"] : List Str) from by decide +kernel) rfl (Or.inl rfl)) q_gnil)))) (fun _ _ _ _ _ => q_fnil) (fun _ _ _ _ _ => (q_op uo_mul (q_v 0) (q_v 1)))) q_nil)) (q_v 7)))) (q_scons (q_set (i := 9) sc__law_sale.nd rfl (Or.inl rfl) q_non) (q_scons (q_set (i := 10) sc__law_sale.nd rfl (Or.inl rfl) q_str) (q_scons (q_try2 (K := K) ER.m_NoChange ER.m_TooMany (q_xset (i := 9) sc__law_sale.nd rfl (Or.inl rfl) (q_xmeth g_Till_sale (hr.mono (by decide)) (q_v 0) (q_cons (q_v 8) (q_cons (q_v 5) q_nil)))) (fun _ => (q_sone (q_set (i := 10) sc__law_sale.nd rfl (Or.inl rfl) q_str))) (fun _ => (q_sone (q_set (i := 10) sc__law_sale.nd rfl (Or.inl rfl) q_str)))) (q_scons (q_sif (q_tw (q_tor (q_tcmp uo_gt (q_callB (uc_max (K := K) rfl) (by rfl) B.max boot_max (q_cons (q_v 6) q_nil)) q_int (nomark _)) (q_tor1 (q_tcmp (uo_eq (K := K) hr.u8) (q_v 10) q_str (nomark _))))) (q_scons (q_sif (q_tw (q_tand (q_tcmp uo_gt (q_callB (uc_max (K := K) rfl) (by rfl) B.max boot_max (q_cons (q_v 6) q_nil)) q_int (nomark _)) (q_tand1 (q_tcmp (uo_eq (K := K) hr.u8) (q_v 10) q_str (nomark _))))) (q_sone (q_ret (q_v 2))) q_snil) (q_sone (q_ret q_non))) q_snil) (q_scons (q_set (i := 11) sc__law_sale.nd rfl (Or.inl rfl) (q_g g__law_least (hr.mono (by decide)) pass1E (q_cons (q_v 1) (q_cons (q_v 6) (q_cons (q_v 7) q_nil))))) (q_scons (q_sif (q_tcmp (uo_eq (K := K) hr.u8) (q_v 10) q_str (nomark _)) (q_sone (q_ret (q_g g__law_less (hr.mono (by decide)) pass1E (q_cons (q_v 9) (q_cons (q_v 1) (q_cons (q_v 6) (q_cons (q_v 7) (q_cons (q_v 11) q_nil)))))))) q_snil) (q_scons (q_sif (q_tcmp uo_is (q_v 11) q_non (nomark _)) (q_sone (q_ret (q_v 2))) q_snil) (q_sone (q_ret q_non))))))))))))), ?_⟩
    obtain ⟨dx, p, q0, cs, ks, t, hA, hB, cn, kl, kr, n0, ⟨m0, m1⟩, q⟩ := h
    have cl := cn.le
    have c1 := cn.ne
    have nax : a ≠ x := by intro z; subst z; rw [t.ins] at hA; cases hA
    have nbx : b ≠ x := by intro z; subst z; rw [t.ins] at hB; cases hB
    refine ⟨_, .inl (SqL.of hB), ?_⟩
    rw [List.length_map]
    refine ⟨⟨by omega, by omega⟩, comp_by (fun j => V.int (n / (8 + 5 * (0 + (j : Int))) % 4)) (fun _ => true) jp_range (by exact small1000 (by omega)) (keepName rfl) (fun j y H' R Z hj sm hy hR hZ => ?_) (fun M H1 hM0 s1 hL => ?_)⟩
    · subst hy
      exact tT ⟨.inl ⟨by decide, by decide⟩, ⟨by omega, by omega⟩, by decide, hR rfl H' (Same.refl _)⟩
    rw [range_ints (fun j => n / (8 + 5 * (0 + (j : Int))) % 4)] at hL
    have msl : ((List.range ((ks.length : Nat) : Int).toNat).map fun (j : Nat) => n / (8 + 5 * (0 + (j : Int))) % 4).length = cs.length := by rw [List.length_map, List.length_range]; omega
    have msr : ∀ m ∈ (List.range ((ks.length : Nat) : Int).toNat).map fun (j : Nat) => n / (8 + 5 * (0 + (j : Int))) % 4, 0 ≤ m := fun m hm => by
      obtain ⟨j, _, rfl⟩ := List.mem_map.mp hm
      omega
    generalize ((List.range ((ks.length : Nat) : Int).toNat).map fun (j : Nat) => n / (8 + 5 * (0 + (j : Int))) % 4) = ms at hL msl msr
    have hB1 := s1 _ _ hB
    refine ⟨_, _, SqL.of hB1, SqL.of hL, comp_by (fun i => V.int (ks.getD i 0 + ms.getD i 0)) (fun _ => true) (jp_zip (SqL.of hB1) (SqL.of hL) (by simp [msl, kl])) (by rw [List.length_map]; exact small1000 (by omega)) (keepTup2 rfl rfl) (fun i y H' R Z hi sm hy hR hZ => ?_) (fun F H2 hF0 s2 hLF => ?_)⟩
    · obtain ⟨T, x1, y1, rfl, hT, e1, e2⟩ := hy
      obtain ⟨n, en, rfl⟩ := int_at e1
      obtain ⟨m, em, rfl⟩ := int_at e2
      have := hR rfl H' (Same.refl _)
      rw [getD_at en, getD_at em] at this
      exact ⟨T, _, rfl, SqT.of hT, rfl, _, _, rfl, _, _, rfl, rfl, this⟩
    rw [List.length_map, range_ints (fun i => ks.getD i 0 + ms.getD i 0)] at hLF
    have hF : H2 F = some (.lst ((addL ks ms).map V.int)) := hLF
    clear hLF
    have al := addL_len ks ms
    have t2 := s1.trans s2
    have hM2 := s2 _ _ hL
    have hA2 := t2 _ _ hA
    have dn := dot_nn cs ms (fun c h => by have := (cn.rng c h).1; omega) msr
    have a0 : ∀ k ∈ addL ks ms, 0 ≤ k := fun k hk => by
      obtain ⟨i, hi, e⟩ := mem_range_getD hk
      rw [← e, addL_at ks ms (by omega)]
      have h1 := (kr _ (List.mem_of_getElem? (getD_some (ns := ks) (i := i) (by omega)))).1
      have h2 := msr _ (List.mem_of_getElem? (getD_some (ns := ms) (i := i) (by omega)))
      omega
    have e0 := Int.emod_nonneg (n / 7) (show most + 1 ≠ 0 by omega)
    have e1 := Int.emod_lt_of_pos (n / 7) (show 0 < most + 1 by omega)
    refine ⟨fun v H' => ∃ ch : Int, v = .int ch ∧ (0 ≤ ch ∧ ch ≤ most ∧ ch ≤ dot cs ms) ∧ Same H2 H', ⟨_, _, SqL.of hA2, SqL.of hM2, comp_by (fun i => V.int (cs.getD i 0 * ms.getD i 0)) (fun _ => true) (jp_zip (SqL.of hA2) (SqL.of hM2) (by simp [msl])) (by rw [List.length_map]; exact small1000 (by omega)) (keepTup2 rfl rfl) (fun i y H' R Z hi sm hy hR hZ => ?_) (fun D H' hD sm hL => ?_)⟩, ?_⟩
    · obtain ⟨T, x1, y1, rfl, hT, e1, e2⟩ := hy
      obtain ⟨n, en, rfl⟩ := int_at e1
      obtain ⟨m, em, rfl⟩ := int_at e2
      have hn := cn.rng n (List.mem_of_getElem? en)
      have := hR rfl H' (Same.refl _)
      rw [getD_at en, getD_at em] at this
      exact ⟨T, _, rfl, SqT.of hT, rfl, _, _, rfl, _, _, rfl, rfl, .inl ⟨by omega, by omega⟩, this⟩
    · rw [List.length_map, range_ints (fun i => cs.getD i 0 * ms.getD i 0)] at hL
      refine ⟨_, SqL.of hL, isNumB_ints _, ?_⟩
      rw [numV_ints, dot_sum cs ms msl.symm]
      exact ⟨⟨by decide, by decide⟩, by omega, _, rfl, by split <;> omega, sm⟩
    rintro _ H3 ⟨ch, rfl, ⟨h0, h1, h2⟩, s3⟩
    have hA3 := s3 _ _ hA2
    have hM3 := s3 _ _ hM2
    refine ⟨fun v H' => v = .int (dot cs ms - ch) ∧ Same H3 H', ⟨_, _, SqL.of hA3, SqL.of hM3, comp_by (fun i => V.int (cs.getD i 0 * ms.getD i 0)) (fun _ => true) (jp_zip (SqL.of hA3) (SqL.of hM3) (by simp [msl])) (by rw [List.length_map]; exact small1000 (by omega)) (keepTup2 rfl rfl) (fun i y H' R Z hi sm hy hR hZ => ?_) (fun D H' hD sm hL => ?_)⟩, ?_⟩
    · obtain ⟨T, x1, y1, rfl, hT, e1, e2⟩ := hy
      obtain ⟨n, en, rfl⟩ := int_at e1
      obtain ⟨m, em, rfl⟩ := int_at e2
      have hn := cn.rng n (List.mem_of_getElem? en)
      have := hR rfl H' (Same.refl _)
      rw [getD_at en, getD_at em] at this
      exact ⟨T, _, rfl, SqT.of hT, rfl, _, _, rfl, _, _, rfl, rfl, .inl ⟨by omega, by omega⟩, this⟩
    · rw [List.length_map, range_ints (fun i => cs.getD i 0 * ms.getD i 0)] at hL
      refine ⟨_, SqL.of hL, isNumB_ints _, ?_⟩
      rw [numV_ints, dot_sum cs ms msl.symm]
      exact ⟨rfl, sm⟩
    rintro _ H4 ⟨rfl, s4⟩
    have t4 := (t2.trans s3).trans s4
    have tt := t.same t4
    have hM4 := s4 _ _ hM3
    have hA4 := t4 _ _ hA
    have hB4 := t4 _ _ hB
    have hF4 := (s3.trans s4) _ _ hF
    have edot : dot cs ms - (dot cs ms - ch) = ch := by omega
    refine ⟨x, dx, _, rfl, tt.ins, rfl, dx, p, q0, cs, ks, ms, tt, SqL.of hM4, cn, kl, msl, fun k hk => (kr k hk).1, msr, ⟨by omega, by omega⟩, fun lt H5 s5 => by omega, fun ge ex H5 s5 => ?_, fun ge le => ?_⟩
    · refine ⟨ER.a_TooMany, rfl, .inr ⟨ER.h_TooMany_NoChange, ER.h_TooMany_TooMany, fun ea hea => ?_⟩⟩
      have s6 := s5.trans (Same.new (o := excO ea ER.a_TooMany) hea)
      generalize upd H5 ea (excO ea ER.a_TooMany) = H6 at s6
      have s7 := t4.trans s6
      have big : ∀ X, (∀ y ∈ addL ks ms, y ≤ X) → 100 < X := fun X mx => by
        obtain ⟨k, hk, gk⟩ := ex
        have := mx k hk
        omega
      refine ⟨addL ks ms, SqL.of (s6 _ _ hF4), by omega, fun X hX mx => ifB (fun _ => ?_) fun g => ?_⟩
      · refine ⟨addL ks ms, SqL.of (s6 _ _ hF4), by omega, fun X hX mx => ifB (fun _ => ?_) fun g => ?_⟩
        · exact q b q0 ks H6 (Same.upto s7) (t.same s7) (s7 _ _ hB) kl kr
        · exact absurd (big X mx) (of_decide_eq_false g)
      · exact absurd (big X mx) (of_decide_eq_false g)
    rw [edot]
    have small : ∀ X ∈ addL ks ms, ¬ 100 < X := fun X hX => by have := le X hX; omega
    refine ⟨fun no H5 s5 => ?_, fun k r1 r2 g q2 ps H5 up hg0 hg pl pr pd psum tg ng hq2 => ?_⟩
    · refine ⟨ER.a_NoChange, rfl, .inl ⟨ER.h_NoChange_NoChange, fun ea hea => ?_⟩⟩
      have s6 := s5.trans (Same.new (o := excO ea ER.a_NoChange) hea)
      generalize upd H5 ea (excO ea ER.a_NoChange) = H6 at s6
      have s7 := t4.trans s6
      refine ⟨addL ks ms, SqL.of (s6 _ _ hF4), by omega, fun X hX mx => ifB (fun g => absurd (of_decide_eq_true g) (small X hX)) fun _ => ?_⟩
      refine ⟨cs, addL ks ms, SqL.of (s6 _ _ hA4), SqL.of (s6 _ _ hF4), by omega, by omega, cn.rng, fun k hk => ⟨a0 k hk, by have := le k hk; omega⟩, ⟨h0, by omega⟩, fun o H7 mo s8 => ?_⟩
      have eo : o = none := MinO.uniq mo (o' := none) no
      subst eo
      have s9 := s7.trans s8
      exact q b q0 ks H7 (Same.upto s9) (t.same s9) (s9 _ _ hB) kl kr
    · have nFx : F ≠ x := by intro z; subst z; rw [tt.ins] at hF4; cases hF4
      have hF5 := up _ _ nFx hF4
      have hA5 := up _ _ nax hA4
      refine ⟨addL ks ms, SqL.of hF5, by omega, fun X hX mx => ifB (fun g => absurd (of_decide_eq_true g) (small X hX)) fun _ => ?_⟩
      refine ⟨cs, addL ks ms, SqL.of hA5, SqL.of hF5, by omega, by omega, cn.rng, fun k hk => ⟨a0 k hk, by have := le k hk; omega⟩, ⟨h0, by omega⟩, fun o H6 mo s6 => ?_⟩
      have eo : o = some k := MinO.uniq mo (o' := some k) ⟨r1, r2⟩
      subst eo
      refine ⟨cs, addL ks ms, ps, s6 _ _ hg, s6 _ _ hA5, s6 _ _ hF5, ⟨pl, by omega, c1, by omega⟩, cn.rng, pr, pd, psum, fun r H7 up7 hr0 nrg hr => ?_⟩
      exact turn_less q t4 (up.trans (Same.upto s6)) hg0 (by rw [t.co]; intro z; cases z) (by rw [t.ins]; intro z; cases z) (tg.same s6) ng up7 hr (by omega) (subL_in (fun k hk => ⟨a0 k hk, le k hk⟩) (by omega) pr)

theorem sc__law_done : FnScope ["_law_till", "_law_coins", "_law_counts", "_law_cell_here", "_law_most"] ["_law_till", "_law_coins", "_law_counts", "_law_cell_here", "_law_most"] (defScope s__law_done) := ⟨rfl, rfl, rfl, by decide +kernel, rfl, by decide +kernel, by decide +kernel⟩
theorem ok__law_done {f : Addr} {fd : FuncData} (F : Fun K "_law_done" "_law_done" s__law_done f fd) (ER : Errs K mg) (OW : Owns K mg) (g__law_put : G P w K mg base (CX1 P w) "_law_put" ["_law_till", "_law_counts", "_law_cell_here"] 4 (sPutL72 K OW.a_Till)) (g__law_give : G P w K mg base (CX1 P w) "_law_give" ["_law_till", "_law_coins", "_law_counts", "_law_cell_here", "_law_most"] 6 (sTurn72 K OW.a_Till)) (g__law_sale : G P w K mg base (CX1 P w) "_law_sale" ["_law_till", "_law_coins", "_law_counts", "_law_cell_here", "_law_most"] 6 (sTurn72 K OW.a_Till)) : FnOk P w K mg base (CX1 P w) 7 f fd ["_law_till", "_law_coins", "_law_counts", "_law_cell_here", "_law_most"] (sTurn72 K OW.a_Till) := by
  refine F.okN sc__law_done (fun vs H Q E h => ?_) (fun cdv A outer s H vs Q E hr h => ?_)
  · unfold sTurn72 at h; split at h
    · rfl
    · exact h.elim
  · unfold sTurn72 at h; split at h
    rotate_left
    · exact h.elim
    rename_i x a b n most
    refine ⟨_, (q_scons (q_sif (q_tcmp uo_lt (q_op uo_mod (q_v 3) q_int) q_int (nomark _)) (q_sone (q_ret (q_g g__law_put (hr.mono (by decide)) pass1E (q_cons (q_v 0) (q_cons (q_v 2) (q_cons (q_op uo_fdiv (q_v 3) q_int) q_nil)))))) q_snil) (q_scons (q_sif (q_tcmp uo_lt (q_op uo_mod (q_v 3) q_int) q_int (nomark _)) (q_sone (q_ret (q_g g__law_give (hr.mono (by decide)) pass1E (q_cons (q_v 0) (q_cons (q_v 1) (q_cons (q_v 2) (q_cons (q_op uo_fdiv (q_v 3) q_int) (q_cons (q_v 4) q_nil)))))))) q_snil) (q_sone (q_ret (q_g g__law_sale (hr.mono (by decide)) pass1E (q_cons (q_v 0) (q_cons (q_v 1) (q_cons (q_v 2) (q_cons (q_op uo_fdiv (q_v 3) q_int) (q_cons (q_v 4) q_nil)))))))))), ?_⟩
    obtain ⟨dx, p, q0, cs, ks, t, hA, hB, cn, kl, kr, n0, m01, q⟩ := h
    have n5 := Int.ediv_nonneg (a := n) (b := 5) n0 (by decide)
    refine ⟨by decide, ifB (fun g => ?_) fun g => ⟨by decide, ifB (fun g2 => ?_) fun g2 => ?_⟩⟩
    · exact ⟨⟨by decide, by decide⟩, dx, p, q0, cs, ks, t, hB, cn, kl, kr, n5, q⟩
    · exact ⟨⟨by decide, by decide⟩, dx, p, q0, cs, ks, t, hA, hB, cn, kl, kr, n5, m01, q⟩
    · exact ⟨⟨by decide, by decide⟩, dx, p, q0, cs, ks, t, hA, hB, cn, kl, kr, n5, m01, q⟩

end
end PG

set_option Elab.async false
set_option linter.all false
set_option maxRecDepth 100000
set_option maxHeartbeats 4000000
namespace PG
open PySem L2 PyProof.Rows

section
variable {P : Program} {w : World} {K : PySem.W.Frag} {mg : Str → Option Value} {base : Heap}

theorem sc_law : FnScope ["_law_script", "_law_first", "_law_great", "_law_coins", "_law_counts", "_law_handed", "_law_tills", "_law_kept_here", "_law_early", "_law_k", "_law_cell_here", "_law_which", "_law_behind"] ["_law_script"] (defScope s_law) := ⟨rfl, rfl, rfl, by decide +kernel, rfl, by decide +kernel, by decide +kernel⟩
theorem ok_law {f : Addr} {fd : FuncData} (F : Fun K "law" "law" s_law f fd) (B : Blt mg) (ER : Errs K mg) (OW : Owns K mg) (g_Till___init__ : GC P w K mg base (CX1 P w) OW.a_Till "Till" ["self", "coins", "counts"] 4 (sInit73 K OW.a_Till)) (g_Till_held : GM P w K mg base (CX1 P w) OW.a_Till "held" ["self"] 1 (sHeld73 K OW.a_Till)) (g__law_cell : G P w K mg base (CX1 P w) "_law_cell" ["_law_script", "_law_k"] 1 (sCell K)) (g__law_mix : G P w K mg base (CX1 P w) "_law_mix" ["_law_cell_here", "_law_by"] 1 sMix) (g__law_some : G P w K mg base (CX1 P w) "_law_some" ["_law_script", "_law_start", "_law_most", "_law_far"] 2 (sSome K)) (g__law_kept : G P w K mg base (CX1 P w) "_law_kept" ["_law_till", "_law_coins", "_law_counts"] 6 (sKept72 K OW.a_Till)) (g__law_done : G P w K mg base (CX1 P w) "_law_done" ["_law_till", "_law_coins", "_law_counts", "_law_cell_here", "_law_most"] 7 (sTurn72 K OW.a_Till)) : FnOk P w K mg base (CX1 P w) 8 f fd ["_law_script"] (sLaw K) := by
  refine F.okN sc_law (fun vs H Q E h => ?_) (fun cdv A outer s H vs Q E hr h => ?_)
  · unfold sLaw at h; split at h
    · rfl
    · exact h.elim
  · unfold sLaw at h; split at h
    rotate_left
    · exact h.elim
    rename_i a
    refine ⟨_, (q_scons (q_set (i := 1) sc_law.nd rfl (Or.inl rfl) (q_cut (q_g g__law_mix (hr.mono (by decide)) pass1E (q_cons (q_g g__law_cell (hr.mono (by decide)) pass1E (q_cons (q_v 0) (q_cons q_int q_nil))) (q_cons q_int q_nil))))) (q_scons (q_set (i := 2) sc_law.nd rfl (Or.inl rfl) (q_cut (q_cmp (uo_eq (K := K) hr.u8) (q_op uo_mod (q_op uo_fdiv (q_v 1) q_int) q_int) q_int (nomark _)))) (q_scons (q_set (i := 3) sc_law.nd rfl (Or.inl rfl) (q_g g__law_some (hr.mono (by decide)) pass1E (q_cons (q_v 0) (q_cons q_int (q_cons (q_op uo_add q_int (q_op uo_mod (q_op uo_fdiv (q_v 1) q_int) q_int)) (q_cons (q_ix (ux (K := K)) (q_lst (q_cons (q_ix (ux (K := K)) (q_lst (q_cons q_int (q_cons q_int (q_cons q_int q_nil)))) (q_op uo_mod (q_v 1) q_int) (fun _ _ => rfl)) (q_cons q_int q_nil))) (q_callTy uc_int (by rfl) B.int boot_int (q_cons (q_v 2) q_nil)) (fun _ _ => rfl)) q_nil)))))) (q_scons (q_setC (i := 4) [none, some 0] ["_law_k", "_law_script"] sc_law.nd rfl rfl rfl (by kernel_rfl) (q_range1 B.range (q_cons (q_callB (uc_len (K := K)) (by rfl) B.len PySem.boot_len (q_cons (q_v 3) q_nil)) q_nil)) (fun _ _ _ _ _ => (q_name (i := 0) (show List.Nodup (["_law_k", "_law_script"] : List Str) from by decide +kernel) rfl (Or.inl rfl))) (fun _ _ _ _ _ => q_fnil) (fun _ _ _ _ _ => (q_op uo_mod (q_op uo_fdiv (q_g g__law_mix (hr.mono (by decide)) pass1E (q_cons (q_g g__law_cell (hr.mono (by decide)) pass1E (q_cons (q_v 1) (q_cons (q_op uo_add (q_v 0) q_int) q_nil))) (q_cons (q_op uo_mul q_int (q_v 0)) q_nil))) q_int) q_int))) (q_scut (q_sif (q_tval (K := K) (q_v 2)) (q_sone (q_setC (i := 3) [none] ["_law_coin"] sc_law.nd rfl rfl rfl (by kernel_rfl) (q_seq (K := K) (q_v 3)) (fun _ _ _ _ _ => (q_name (i := 0) (show List.Nodup (["_law_coin"] : List Str) from by decide +kernel) rfl (Or.inl rfl))) (fun _ _ _ _ _ => q_fnil) (fun _ _ _ _ _ => (q_op uo_add q_int (q_v 0))))) q_snil) (q_scut (q_sif (q_tw (q_tor (q_tval (K := K) (q_v 2)) (q_tor1 (q_tcmp (uo_eq (K := K) hr.u8) (q_op uo_mod (q_op uo_fdiv (q_v 1) q_int) q_int) q_int (nomark _))))) (q_sone (q_setC (i := 4) [none] ["_law_count"] sc_law.nd rfl rfl rfl (by kernel_rfl) (q_seq (K := K) (q_v 4)) (fun _ _ _ _ _ => (q_name (i := 0) (show List.Nodup (["_law_count"] : List Str) from by decide +kernel) rfl (Or.inl rfl))) (fun _ _ _ _ _ => q_fnil) (fun _ _ _ _ _ => (q_op uo_add q_int (q_v 0))))) q_snil) (q_scut (q_sif (q_tcmp (uo_eq (K := K) hr.u8) (q_op uo_mod (q_op uo_fdiv (q_v 1) q_int) q_int) q_int (nomark _)) (q_scons (q_set (i := 3) sc_law.nd rfl (Or.inl rfl) (q_g g__law_some (hr.mono (by decide)) pass1E (q_cons (q_v 0) (q_cons q_int (q_cons (q_op uo_add q_int (q_op uo_mod (q_op uo_fdiv (q_v 1) q_int) q_int)) (q_cons q_int q_nil)))))) (q_scons (q_setC (i := 4) [none, some 0] ["_law_k", "_law_script"] sc_law.nd rfl rfl rfl (by kernel_rfl) (q_range1 B.range (q_cons (q_callB (uc_len (K := K)) (by rfl) B.len PySem.boot_len (q_cons (q_v 3) q_nil)) q_nil)) (fun _ _ _ _ _ => (q_name (i := 0) (show List.Nodup (["_law_k", "_law_script"] : List Str) from by decide +kernel) rfl (Or.inl rfl))) (fun _ _ _ _ _ => q_fnil) (fun _ _ _ _ _ => (q_op uo_mod (q_op uo_fdiv (q_g g__law_mix (hr.mono (by decide)) pass1E (q_cons (q_g g__law_cell (hr.mono (by decide)) pass1E (q_cons (q_v 1) (q_cons (q_op uo_add (q_v 0) q_int) q_nil))) (q_cons (q_op uo_mul q_int (q_v 0)) q_nil))) q_int) q_int))) (q_sone (q_set (i := 2) sc_law.nd rfl (Or.inl rfl) (q_cut q_bl))))) q_snil) (q_scons (q_set (i := 5) sc_law.nd rfl (Or.inl rfl) (q_lst (q_cons (q_callTy (uc_list (K := K)) (by rfl) B.list boot_list (q_cons (q_v 3) q_nil)) (q_cons (q_callTy (uc_list (K := K)) (by rfl) B.list boot_list (q_cons (q_v 4) q_nil)) q_nil)))) (q_scons (q_set (i := 6) sc_law.nd rfl (Or.inl rfl) (q_lst (q_cons (q_make g_Till___init__ (hr.mono (by decide)) pass1E (q_cons (q_ix (ux (K := K)) (q_v 5) q_int (fun _ _ => rfl)) (q_cons (q_ix (ux (K := K)) (q_v 5) q_int (fun _ _ => rfl)) q_nil))) (q_cons (q_make g_Till___init__ (hr.mono (by decide)) pass1E (q_cons (q_ix (ux (K := K)) (q_v 5) q_int (fun _ _ => rfl)) (q_cons (q_ix (ux (K := K)) (q_v 5) q_int (fun _ _ => rfl)) q_nil))) q_nil)))) (q_scons (q_sif (q_tcmp (uo_ne (K := K) hr.u8) (q_v 5) (q_lst (q_cons (q_v 3) (q_cons (q_v 4) q_nil))) (nomark _)) (q_sone (q_ret q_bl)) q_snil) (q_scons (q_expr (q_bm0 (K := K) PySem.F.slot_list_clear PySem.F.type_list_clear um_clear (q_ix (ux (K := K)) (q_v 5) q_int (fun _ _ => rfl)))) (q_scons (q_asg q_int (q_gsub (q_ix (ux (K := K)) (q_v 5) q_int (fun _ _ => rfl)) q_int us_set)) (q_scons (q_set (i := 7) sc_law.nd rfl (Or.inl rfl) (q_lst (q_cons (q_callTy (uc_list (K := K)) (by rfl) B.list boot_list (q_cons (q_v 4) q_nil)) (q_cons (q_callTy (uc_list (K := K)) (by rfl) B.list boot_list (q_cons (q_v 4) q_nil)) q_nil)))) (q_scons (q_set (i := 8) sc_law.nd rfl (Or.inl rfl) (q_meth0 g_Till_held (hr.mono (by decide)) pass1E (q_ix (ux (K := K)) (q_v 6) q_int (fun _ _ => rfl)))) (q_scons (q_for PassesOwn.never rfl (q_range2 B.range (q_cons q_int (q_cons (q_callB (uc_max2 rfl) (by rfl) B.max boot_max (q_cons q_int (q_cons (q_callB (uc_min2 rfl) (by rfl) B.min boot_min (q_cons q_int (q_cons (q_callB (uc_len (K := K)) (by rfl) B.len PySem.boot_len (q_cons (q_v 0) q_nil)) q_nil))) q_nil))) q_nil))) (q_name (i := 9) sc_law.nd rfl (Or.inl rfl)) (q_scons (q_set (i := 10) sc_law.nd rfl (Or.inl rfl) (q_cut (q_g g__law_mix (hr.mono (by decide)) pass1E (q_cons (q_g g__law_cell (hr.mono (by decide)) pass1E (q_cons (q_v 0) (q_cons (q_v 9) q_nil))) (q_cons q_int q_nil))))) (q_scons (q_set (i := 11) sc_law.nd rfl (Or.inl rfl) (q_cut (q_callTy uc_int (by rfl) B.int boot_int (q_cons (q_cmp (uo_eq (K := K) hr.u8) (q_op uo_mod (q_v 10) q_int) q_int (nomark _)) q_nil)))) (q_scons (q_set (i := 12) sc_law.nd rfl (Or.inl rfl) (q_g g__law_done (hr.mono (by decide)) pass1E (q_cons (q_ix (ux (K := K)) (q_v 6) (q_v 11) (fun _ _ => rfl)) (q_cons (q_v 3) (q_cons (q_ix (ux (K := K)) (q_v 7) (q_v 11) (fun _ _ => rfl)) (q_cons (q_op uo_fdiv (q_v 10) q_int) (q_cons (q_ix (ux (K := K)) (q_lst (q_cons q_int (q_cons q_int q_nil))) (q_callTy uc_int (by rfl) B.int boot_int (q_cons (q_v 2) q_nil)) (fun _ _ => rfl)) q_nil))))))) (q_scons (q_sif (q_tcmp uo_is (q_v 12) q_non (nomark _)) (q_sone (q_ret q_bl)) q_snil) (q_scons (q_asg (q_v 12) (q_gsub (q_v 7) (q_v 11) us_set)) (q_sone (q_sif (q_tw (q_tor (q_tnot (q_tval (K := K) (q_g g__law_kept (hr.mono (by decide)) pass1E (q_cons (q_ix (ux (K := K)) (q_v 6) q_int (fun _ _ => rfl)) (q_cons (q_v 3) (q_cons (q_ix (ux (K := K)) (q_v 7) q_int (fun _ _ => rfl)) q_nil)))))) (q_tor1 (q_tnot (q_tval (K := K) (q_g g__law_kept (hr.mono (by decide)) pass1E (q_cons (q_ix (ux (K := K)) (q_v 6) q_int (fun _ _ => rfl)) (q_cons (q_v 3) (q_cons (q_ix (ux (K := K)) (q_v 7) q_int (fun _ _ => rfl)) q_nil))))))))) (q_sone (q_ret q_bl)) q_snil)))))))) (q_sone (q_ret (q_cmp (uo_eq (K := K) hr.u8) (q_v 8) (q_v 4) (nomark _))))))))))))))))))), ?_⟩
    obtain ⟨ns, hS, hl, q⟩ := h
    refine ⟨fun v H2 => ∃ first : Int, v = .int first ∧ 0 ≤ first ∧ H = H2, ⟨ns, hS, by decide, _, rfl, (mix_rng _ _).1, rfl⟩, ?_⟩
    rintro _ _ ⟨first, rfl, f0, rfl⟩
    refine ⟨fun v H2 => ∃ g : Bool, v = .bl g ∧ H = H2, ⟨⟨by decide, by decide⟩, by decide, _, rfl, rfl⟩, ?_⟩
    rintro _ _ ⟨gr, rfl, rfl⟩
    refine ⟨⟨by decide, by decide⟩, by decide, by show 3 ≤ sizeLine; decide, fun r hr => ⟨by decide, ?_⟩⟩
    have b0 := Int.emod_nonneg first (show (3 : Int) ≠ 0 by omega)
    have b1 := Int.emod_lt_of_pos first (show (0 : Int) < 3 by omega)
    have hat := atInt (ns := [6, 20, 100]) (k := first % 3) b0 b1
    have hfar : 1 ≤ ([6, 20, 100] : List Int).getD (first % 3).toNat 0 ∧ ([6, 20, 100] : List Int).getD (first % 3).toNat 0 ≤ 950 := by
      have hj : (first % 3).toNat = 0 ∨ (first % 3).toNat = 1 ∨ (first % 3).toNat = 2 := by omega
      rcases hj with e | e | e <;> rw [e] <;> decide
    have s1 : Same H (upd H r (.lst [.int 6, .int 20, .int 100])) := Same.new hr
    refine ⟨_, _, .inl (SqL.of upd_same), hat, by show 2 ≤ sizeLine; decide, fun r2 hr2 => ?_⟩
    have s2 := s1.trans (Same.new (o := .lst [.int (([6, 20, 100] : List Int).getD (first % 3).toNat 0), .int 950]) hr2)
    have hpick : ∃ far : Int, atI [V.int (([6, 20, 100] : List Int).getD (first % 3).toNat 0), V.int 950] (if gr then 1 else 0) = some (.int far) ∧ 1 ≤ far ∧ far ≤ 950 := by
      cases gr
      · exact ⟨_, rfl, hfar.1, hfar.2⟩
      · exact ⟨950, rfl, by decide, by decide⟩
    obtain ⟨far, hpk, fa0, fa1⟩ := hpick
    refine ⟨_, _, .inl (SqL.of upd_same), hpk, ?_⟩
    refine ⟨ns, s2.seq hS, ⟨by decide, by decide⟩, ⟨by omega, by omega⟩, ⟨fa0, by omega⟩, fun p cs H2 s3 hp00 hc c1 c2 c3 c4 => ?_⟩
    have t2 := s2.trans s3
    clear hat hfar hpk
    refine ⟨_, .inl (SqL.of hc), ?_⟩
    rw [List.length_map]
    refine ⟨⟨by omega, by omega⟩, comp_by (fun i => V.int (mix (ns.getD (0 + (i : Int) + 1).toNat 0) (7 * (0 + (i : Int))) / 13 % 9)) (fun _ => true) jp_range (by exact small1000 (by omega)) (keepName rfl) (fun i x H' R Z hi sm hx hR hZ => ?_) (fun D H3 hD s3' hL => ?_)⟩
    · subst hx
      exact tT ⟨ns, (t2.trans sm).seq hS, by omega, .inl ⟨by decide, by decide⟩, ⟨by decide, by decide⟩, by decide, hR rfl H' (Same.refl _)⟩
    rw [range_ints (fun i => mix (ns.getD (0 + (i : Int) + 1).toNat 0) (7 * (0 + (i : Int))) / 13 % 9)] at hL
    have ksl : ((List.range ((cs.length : Nat) : Int).toNat).map fun (i : Nat) => mix (ns.getD (0 + (i : Int) + 1).toNat 0) (7 * (0 + (i : Int))) / 13 % 9).length = cs.length := by rw [List.length_map, List.length_range]; omega
    have ksr : ∀ k ∈ (List.range ((cs.length : Nat) : Int).toNat).map fun (i : Nat) => mix (ns.getD (0 + (i : Int) + 1).toNat 0) (7 * (0 + (i : Int))) / 13 % 9, 0 ≤ k ∧ k ≤ 8 := fun k hk => by
      obtain ⟨i, _, rfl⟩ := List.mem_map.mp hk
      omega
    generalize ((List.range ((cs.length : Nat) : Int).toNat).map fun (i : Nat) => mix (ns.getD (0 + (i : Int) + 1).toNat 0) (7 * (0 + (i : Int))) / 13 % 9) = ks0 at hL ksl ksr
    have t3 := t2.trans s3'
    have hc3 := s3' _ _ hc
    refine ⟨fun σ' H' => ∃ (C : Addr) (cs2 : List Int), σ' = [some (.ref a), some (.int first), some (.bl gr), some (.ref C), some (.ref D), none, none, none, none, none, none, none, none] ∧ Same H3 H' ∧ H' C = some (.lst (cs2.map V.int)) ∧ Coins cs2 ∧ cs2.length = cs.length, ?_, ?_⟩
    · cases gr with
      | false => exact ⟨p, cs, rfl, Same.refl _, hc3, ⟨c1, by omega, fun c h => by have := c3 c h; omega, c4⟩, rfl⟩
      | true =>
        refine .inl ⟨_, SqL.of hc3, comp_by (fun i => V.int (50 + cs.getD i 0)) (fun _ => true) (jp_list (SqL.of hc3)) (by rw [List.length_map]; exact small1000 (by omega)) (keepName rfl) (fun i x H' R Z hi sm hx hR hZ => ?_) (fun D2 H4 hD2 s4 hL2 => ?_)⟩
        · obtain ⟨k, hkx, rfl⟩ := int_at hx
          have := hR rfl H' (Same.refl _)
          rw [getD_at hkx] at this
          exact tT this
        rw [mapAt (fun x => 50 + x)] at hL2
        refine ⟨D2, cs.map fun x => 50 + x, rfl, s4, hL2, ⟨by rw [List.length_map]; exact c1, by rw [List.length_map]; omega, fun c h => ?_, ?_⟩, by rw [List.length_map]⟩
        · obtain ⟨y, hy, rfl⟩ := List.mem_map.mp h
          have := c3 y hy
          omega
        · rw [List.Nodup, List.pairwise_map]
          refine c4.imp fun hab e => hab ?_
          omega
    rintro _ H4 ⟨C1, cs1, rfl, s4, hc4, cn1, cl1⟩
    have hL4 := s4 _ _ hL
    refine ⟨fun σ' H' => ∃ (B : Addr) (ks : List Int), σ' = [some (.ref a), some (.int first), some (.bl gr), some (.ref C1), some (.ref B), none, none, none, none, none, none, none, none] ∧ Same H4 H' ∧ H' B = some (.lst (ks.map V.int)) ∧ ks.length = cs1.length ∧ (∀ k ∈ ks, 0 ≤ k ∧ k ≤ 100), ?_, ?_⟩
    · have more : ∀ Q' : L2.St → Hp → Prop, (∀ (B : Addr) (H' : Hp), Same H4 H' → H' B = some (.lst ((ks0.map fun x => 92 + x).map V.int)) → Q' [some (.ref a), some (.int first), some (.bl gr), some (.ref C1), some (.ref B), none, none, none, none, none, none, none, none] H') → True := fun _ _ => trivial
      have k92 : ∀ k ∈ ks0.map fun x => 92 + x, 0 ≤ k ∧ k ≤ 100 := fun k hk => by
        obtain ⟨y, hy, rfl⟩ := List.mem_map.mp hk
        have := ksr y hy
        omega
      have keep : ∃ (B : Addr) (ks : List Int), [some (V.ref a), some (.int first), some (.bl gr), some (.ref C1), some (.ref D), none, none, none, none, none, none, none, none] = [some (V.ref a), some (.int first), some (.bl gr), some (.ref C1), some (.ref B), none, none, none, none, none, none, none, none] ∧ Same H4 H4 ∧ H4 B = some (.lst (ks.map V.int)) ∧ ks.length = cs1.length ∧ (∀ k ∈ ks, 0 ≤ k ∧ k ≤ 100) := ⟨D, ks0, rfl, Same.refl _, hL4, by omega, fun k hk => by have := ksr k hk; omega⟩
      cases gr with
      | true =>
        refine .inl ⟨_, SqL.of hL4, comp_by (fun i => V.int (92 + ks0.getD i 0)) (fun _ => true) (jp_list (SqL.of hL4)) (by rw [List.length_map]; exact small1000 (by omega)) (keepName rfl) (fun i x H' R Z hi sm hx hR hZ => ?_) (fun D2 H5 hD2 s5 hL2 => ?_)⟩
        · obtain ⟨k, hkx, rfl⟩ := int_at hx
          have := hR rfl H' (Same.refl _)
          rw [getD_at hkx] at this
          exact tT this
        rw [mapAt (fun x => 92 + x)] at hL2
        exact ⟨D2, _, rfl, s5, hL2, by rw [List.length_map]; omega, k92⟩
      | false =>
        refine ⟨⟨by decide, by decide⟩, by decide, ifB (fun g => ?_) fun g => keep⟩
        refine .inl ⟨_, SqL.of hL4, comp_by (fun i => V.int (92 + ks0.getD i 0)) (fun _ => true) (jp_list (SqL.of hL4)) (by rw [List.length_map]; exact small1000 (by omega)) (keepName rfl) (fun i x H' R Z hi sm hx hR hZ => ?_) (fun D2 H5 hD2 s5 hL2 => ?_)⟩
        · obtain ⟨k, hkx, rfl⟩ := int_at hx
          have := hR rfl H' (Same.refl _)
          rw [getD_at hkx] at this
          exact tT this
        rw [mapAt (fun x => 92 + x)] at hL2
        exact ⟨D2, _, rfl, s5, hL2, by rw [List.length_map]; omega, k92⟩
    rintro _ H5 ⟨B1, ks1, rfl, s5, hb5, kl1, kr1⟩
    have t5 := (t3.trans s4).trans s5
    have hc5 := s5 _ _ hc4
    refine ⟨fun σ' H' => ∃ (C B : Addr) (cs ks : List Int) (gr : Bool), σ' = [some (.ref a), some (.int first), some (.bl gr), some (.ref C), some (.ref B), none, none, none, none, none, none, none, none] ∧ Same H H' ∧ H' C = some (.lst (cs.map V.int)) ∧ H' B = some (.lst (ks.map V.int)) ∧ Coins cs ∧ ks.length = cs.length ∧ (∀ k ∈ ks, 0 ≤ k ∧ k ≤ 100), ⟨⟨by decide, by decide⟩, by decide, ifB (fun g => ?_) fun g => ⟨C1, B1, cs1, ks1, gr, rfl, t5, hc5, hb5, cn1, kl1, kr1⟩⟩, ?_⟩
    · refine ⟨⟨by decide, by decide⟩, by decide, ns, t5.seq hS, ⟨by decide, by decide⟩, ⟨by omega, by omega⟩, ⟨by decide, by decide⟩, fun p6 cs6 H6 s6 hp60 hc6 d1 d2 d3 d4 => ?_⟩
      have t6 := t5.trans s6
      refine ⟨_, .inl (SqL.of hc6), ?_⟩
      rw [List.length_map]
      refine ⟨⟨by omega, by omega⟩, comp_by (fun i => V.int (mix (ns.getD (0 + (i : Int) + 1).toNat 0) (7 * (0 + (i : Int))) / 13 % 3)) (fun _ => true) jp_range (by exact small1000 (by omega)) (keepName rfl) (fun i x H' R Z hi sm hx hR hZ => ?_) (fun D6 H7 hD6 s7 hL6 => ?_)⟩
      · subst hx
        exact tT ⟨ns, (t6.trans sm).seq hS, by omega, .inl ⟨by decide, by decide⟩, ⟨by decide, by decide⟩, by decide, hR rfl H' (Same.refl _)⟩
      rw [range_ints (fun i => mix (ns.getD (0 + (i : Int) + 1).toNat 0) (7 * (0 + (i : Int))) / 13 % 3)] at hL6
      refine ⟨fun v H' => v = .bl false ∧ H7 = H', ⟨rfl, rfl⟩, ?_⟩
      rintro _ _ ⟨rfl, rfl⟩
      refine ⟨p6, D6, cs6, _, false, rfl, t6.trans s7, s7 _ _ hc6, hL6, ⟨d1, by omega, fun c h => by have := d3 c h; omega, d4⟩, by rw [List.length_map, List.length_range]; omega, fun k hk => ?_⟩
      obtain ⟨i, _, rfl⟩ := List.mem_map.mp hk
      omega
    clear hc5 hb5 cn1 kl1 kr1 t5 s5 hL4 hc4 hL ksl ksr hc c3 c4
    rintro _ H4 ⟨C, B, cs, ks, gr, rfl, t4, hC4, hB4, cn, kl, kr⟩
    have cl := cn.le
    have c1 := cn.ne
    refine ⟨_, .inl (SqL.of hC4), fun l1 hl1 => ⟨_, .inl (SqL.of ((Same.new hl1) _ _ hB4)), fun l2 hl2 => ⟨by show 2 ≤ sizeLine; decide, fun HD hHD0 => ?_⟩⟩⟩
    have s5 : Same H4 (upd (upd (upd H4 l1 (.lst (cs.map V.int))) l2 (.lst (ks.map V.int))) HD (.lst [.ref l1, .ref l2])) := ((Same.new hl1).trans (Same.new hl2)).trans (Same.new hHD0)
    have f2 : H4 l2 = none := (Same.new hl1).free hl2
    have h51 := ((Same.new (o := .lst (ks.map V.int)) hl2).trans (Same.new (o := .lst [.ref l1, .ref l2]) hHD0)) _ _ (upd_same (H := H4) (a := l1) (o := .lst (cs.map V.int)))
    have h52 := (Same.new (o := .lst [.ref l1, .ref l2]) hHD0) _ _ (upd_same (H := upd H4 l1 (.lst (cs.map V.int))) (a := l2) (o := .lst (ks.map V.int)))
    have hHD5 : (upd (upd (upd H4 l1 (.lst (cs.map V.int))) l2 (.lst (ks.map V.int))) HD (.lst [.ref l1, .ref l2])) HD = some (.lst [.ref l1, .ref l2]) := upd_same
    have n12 : l1 ≠ l2 := by intro z; subst z; rw [upd_same] at hl2; cases hl2
    generalize upd (upd (upd H4 l1 (.lst (cs.map V.int))) l2 (.lst (ks.map V.int))) HD (.lst [.ref l1, .ref l2]) = H5 at s5 h51 h52 hHD5
    have nd1 : l1 ≠ HD := ne_ir h51 hHD5
    have nd2 : l2 ≠ HD := ne_ir h52 hHD5
    refine ⟨_, _, .inl (SqL.of hHD5), rfl, _, _, .inl (SqL.of hHD5), rfl, fun x0 d0 hx0 hd0 nd0 => ?_⟩
    have s6 : Same H5 (upd (upd H5 d0 (.own x0)) x0 (.ins OW.a_Till d0 [])) := (Same.new hd0).put hx0
    have n1x : l1 ≠ x0 := by intro z; subst z; rw [h51] at hx0; cases hx0
    have n2x : l2 ≠ x0 := by intro z; subst z; rw [h52] at hx0; cases hx0
    refine ⟨d0, cs, ks, upd_same, s6.seq (SqL.of h51), s6.seq (SqL.of h52), n1x, n2x, cn, kl, kr, fun p0 q0 H6 up0 t0 hp0 hq0 npq0 => ⟨rfl, ?_⟩⟩
    have t6 : Same H5 H6 := Upto.same s6 up0 hx0
    have p0f : H5 p0 = none := s6.free hp0
    have q0f : H5 q0 = none := s6.free hq0
    have h61 := t6 _ _ h51
    have h62 := t6 _ _ h52
    have hHD6 := t6 _ _ hHD5
    refine ⟨_, _, .inl (SqL.of hHD6), rfl, _, _, .inl (SqL.of hHD6), rfl, fun x1 d1 hx1 hd1 nd1' => ?_⟩
    have s7 : Same H6 (upd (upd H6 d1 (.own x1)) x1 (.ins OW.a_Till d1 [])) := (Same.new hd1).put hx1
    have n1y : l1 ≠ x1 := by intro z; subst z; rw [h61] at hx1; cases hx1
    have n2y : l2 ≠ x1 := by intro z; subst z; rw [h62] at hx1; cases hx1
    have n01 : x0 ≠ x1 := by intro z; subst z; rw [t0.ins] at hx1; cases hx1
    refine ⟨d1, cs, ks, upd_same, s7.seq (SqL.of h61), s7.seq (SqL.of h62), n1y, n2y, cn, kl, kr, fun p1 q1 H7 up1 t1 hp1 hq1 npq1 => ⟨rfl, by show 2 ≤ sizeLine; decide, fun TL hTL0 => ?_⟩⟩
    have t7 : Same H6 H7 := Upto.same s7 up1 hx1
    have p1f : H6 p1 = none := s7.free hp1
    have q1f : H6 q1 = none := s7.free hq1
    have s8 : Same H7 (upd H7 TL (.lst [.ref x0, .ref x1])) := Same.new hTL0
    have hTL8 : (upd H7 TL (.lst [.ref x0, .ref x1])) TL = some (.lst [.ref x0, .ref x1]) := upd_same
    generalize upd H7 TL (.lst [.ref x0, .ref x1]) = H8 at s8 hTL8
    have t8 := t7.trans s8
    refine ⟨by show 2 ≤ sizeLine; decide, fun W hW => ?_⟩
    have s9 := t8.trans (Same.new (o := .lst [.ref C, .ref B]) hW)
    have hW9 : (upd H8 W (.lst [.ref C, .ref B])) W = some (.lst [.ref C, .ref B]) := upd_same
    have hTL9 := (Same.new (o := .lst [.ref C, .ref B]) hW) _ _ hTL8
    have t19 := t1.same (s8.trans (Same.new (o := .lst [.ref C, .ref B]) hW))
    generalize upd H8 W (.lst [.ref C, .ref B]) = H9 at s9 hW9 hTL9 t19
    have t09 := t0.same s9
    have u9 := (s5.trans t6).trans s9
    have h91 := s9 _ _ h61
    have h92 := s9 _ _ h62
    have hHD9 := s9 _ _ hHD6
    refine neSelf (SqL.of hHD9) (SqL.of hW9) rfl (fun j y z hy hz => ?_) ?_
    · match j, hy, hz with
      | 0, hy, hz => cases hy; cases hz; exact eqv_lists (SqL.of h91) (SqL.of (u9 _ _ hC4)) (kn_ints _)
      | 1, hy, hz => cases hy; cases hz; exact eqv_lists (SqL.of h92) (SqL.of (u9 _ _ hB4)) (kn_ints _)
    refine ⟨_, _, .inl (SqL.of hHD9), rfl, ⟨_, SqL.of h91⟩, rfl, _, h91, ?_⟩
    have hHD10 : (upd H9 l1 (.lst [])) HD = some (.lst [.ref l1, .ref l2]) := by rw [upd_ne (Ne.symm nd1)]; exact hHD9
    have h102 : (upd H9 l1 (.lst [])) l2 = some (.lst (ks.map V.int)) := by rw [upd_ne (Ne.symm n12)]; exact h92
    refine ⟨_, _, .inl (SqL.of hHD10), rfl, _, 0, h102, ixN_pos (k := 0) (by omega) (by rw [List.length_map]; omega), ?_⟩
    have off : ∀ b, b ≠ l1 → b ≠ l2 → (upd (upd H9 l1 (.lst [])) l2 (.lst ((ks.map V.int).set 0 (.int 0)))) b = H9 b := fun b h1 h2 => by rw [upd_ne h2, upd_ne h1]
    have u10 : Same H4 (upd (upd H9 l1 (.lst [])) l2 (.lst ((ks.map V.int).set 0 (.int 0)))) := (u9.put hl1).put f2
    generalize upd (upd H9 l1 (.lst [])) l2 (.lst ((ks.map V.int).set 0 (.int 0))) = H10 at off u10
    have a5 : ∀ b, H5 b = none → b ≠ l1 ∧ b ≠ l2 := fun b hb => ⟨(by intro z; rw [z, h51] at hb; cases hb), (by intro z; rw [z, h52] at hb; cases hb)⟩
    have a6 : ∀ b, H6 b = none → b ≠ l1 ∧ b ≠ l2 := fun b hb => a5 b (t6.free hb)
    have t010 : TillAt OW.a_Till H10 x0 d0 p0 q0 cs ks := ⟨by rw [off _ (Ne.symm n1x) (Ne.symm n2x)]; exact t09.ins, by rw [off _ (a5 _ p0f).1 (a5 _ p0f).2]; exact t09.co, by rw [off _ (a5 _ q0f).1 (a5 _ q0f).2]; exact t09.ct⟩
    have t110 : TillAt OW.a_Till H10 x1 d1 p1 q1 cs ks := ⟨by rw [off _ (Ne.symm n1y) (Ne.symm n2y)]; exact t19.ins, by rw [off _ (a6 _ p1f).1 (a6 _ p1f).2]; exact t19.co, by rw [off _ (a6 _ q1f).1 (a6 _ q1f).2]; exact t19.ct⟩
    have hTL10 : H10 TL = some (.lst [.ref x0, .ref x1]) := by
      have aTL := a6 _ (t7.free hTL0)
      rw [off _ aTL.1 aTL.2]
      exact hTL9
    have x0f : H4 x0 = none := s5.free hx0
    have x1f : H4 x1 = none := s5.free (t6.free hx1)
    clear off u9 t09 t19 h91 h92 hHD9 hHD10 h102 hTL9 hW9 s9 t8 s8 t7 up1 s7 t6 up0 s6 h61 h62 hHD6 hTL8
    have hB10 := u10 _ _ hB4
    refine ⟨_, .inl (SqL.of hB10), fun b0 hb00 => ⟨_, .inl (SqL.of ((Same.new hb00) _ _ hB10)), fun b1 hb10 => ⟨by show 2 ≤ sizeLine; decide, fun KH hKH0 => ?_⟩⟩⟩
    have s11 : Same H10 (upd (upd (upd H10 b0 (.lst (ks.map V.int))) b1 (.lst (ks.map V.int))) KH (.lst [.ref b0, .ref b1])) := ((Same.new hb00).trans (Same.new hb10)).trans (Same.new hKH0)
    have hb0 := ((Same.new (o := .lst (ks.map V.int)) hb10).trans (Same.new (o := .lst [.ref b0, .ref b1]) hKH0)) _ _ (upd_same (H := H10) (a := b0) (o := .lst (ks.map V.int)))
    have hb1 := (Same.new (o := .lst [.ref b0, .ref b1]) hKH0) _ _ (upd_same (H := upd H10 b0 (.lst (ks.map V.int))) (a := b1) (o := .lst (ks.map V.int)))
    have hKH : (upd (upd (upd H10 b0 (.lst (ks.map V.int))) b1 (.lst (ks.map V.int))) KH (.lst [.ref b0, .ref b1])) KH = some (.lst [.ref b0, .ref b1]) := upd_same
    have KHf : H4 KH = none := u10.free (((Same.new hb00).trans (Same.new hb10)).free hKH0)
    have nKT : TL ≠ KH := by intro z; subst z; rw [((Same.new (o := .lst (ks.map V.int)) hb00).trans (Same.new (o := .lst (ks.map V.int)) hb10)) _ _ hTL10] at hKH0; cases hKH0
    generalize upd (upd (upd H10 b0 (.lst (ks.map V.int))) b1 (.lst (ks.map V.int))) KH (.lst [.ref b0, .ref b1]) = H11 at s11 hb0 hb1 hKH
    have t011 := t010.same s11
    have hTL11 := s11 _ _ hTL10
    refine ⟨_, _, .inl (SqL.of hTL11), rfl, x0, d0, _, rfl, t011.ins, rfl, d0, p0, q0, cs, ks, t011, fun E H12 s12 hE0 hE => ?_⟩
    have u12 := (u10.trans s11).trans s12
    have s112 := s11.trans s12
    refine ⟨_, .inl (u12.seq (t4.seq hS)), ?_⟩
    rw [List.length_map]
    have hR : 3 ≤ (if (if (ns.length : Int) < 18 then (ns.length : Int) else 18) > 3 then (if (ns.length : Int) < 18 then (ns.length : Int) else 18) else 3) ∧ (if (if (ns.length : Int) < 18 then (ns.length : Int) else 18) > 3 then (if (ns.length : Int) < 18 then (ns.length : Int) else 18) else 3) ≤ 18 := by
      split
      · split <;> omega
      · omega
    refine ⟨⟨by decide, by decide, by omega, by omega⟩, ?_⟩
    have nEK : E ≠ KH := by intro z; subst z; rw [hKH] at hE0; cases hE0
    refine for_range (fun i σ H' => ∃ (b0 b1 q0' q1' : Addr) (k0 k1 : List Int) (v9 v10 v11 v12 : Option V), σ = [some (.ref a), some (.int first), some (.bl gr), some (.ref C), some (.ref B), some (.ref HD), some (.ref TL), some (.ref KH), some (.ref E), v9, v10, v11, v12] ∧ Same H4 H' ∧ TillAt OW.a_Till H' x0 d0 p0 q0' cs k0 ∧ TillAt OW.a_Till H' x1 d1 p1 q1' cs k1 ∧ H' TL = some (.lst [.ref x0, .ref x1]) ∧ H' KH = some (.lst [.ref b0, .ref b1]) ∧ H' b0 = some (.lst (k0.map V.int)) ∧ H' b1 = some (.lst (k1.map V.int)) ∧ H' E = some (.lst (ks.map V.int)) ∧ (k0.length = cs.length ∧ (∀ k ∈ k0, 0 ≤ k ∧ k ≤ 100)) ∧ (k1.length = cs.length ∧ (∀ k ∈ k1, 0 ≤ k ∧ k ≤ 100))) ⟨b0, b1, q0, q1, ks, ks, none, none, none, none, rfl, u12, t010.same s112, t110.same s112, s112 _ _ hTL10, s12 _ _ hKH, s12 _ _ hb0, s12 _ _ hb1, hE, ⟨kl, kr⟩, ⟨kl, kr⟩⟩ ?_ ?_
    · clear hb0 hb1 hKH hE hE0 s12 s112 t010 t110 t011 hTL11 hTL10 s11 hb00 hb10 hKH0 u12 u10 hB10
      rintro i σ H13 hi ⟨b0, b1, q0', q1', k0, k1, v9, v10, v11, v12, rfl, u13, t0, t1, hTL, hKH, hb0, hb1, hE, ⟨kl0, kr0⟩, ⟨kl1, kr1⟩⟩
      refine ⟨fun v H' => ∃ n : Int, v = .int n ∧ 0 ≤ n ∧ H13 = H', ⟨ns, u13.seq (t4.seq hS), by omega, _, rfl, (mix_rng _ _).1, rfl⟩, ?_⟩
      rintro _ _ ⟨n, rfl, n0, rfl⟩
      refine ⟨fun v H' => ∃ wb : Bool, v = .int (if wb then 1 else 0) ∧ H13 = H', ⟨by decide, _, rfl, rfl⟩, ?_⟩
      rintro _ _ ⟨wb, rfl, rfl⟩
      have hpick : ∃ most : Int, atI [V.int 90, V.int 2000] (if gr then 1 else 0) = some (.int most) ∧ 0 ≤ most ∧ most ≤ 2000 := by
        cases gr
        · exact ⟨90, rfl, by decide, by decide⟩
        · exact ⟨2000, rfl, by decide, by decide⟩
      obtain ⟨most, hpk, m0, m1⟩ := hpick
      have n5 := Int.ediv_nonneg (a := n) (b := 5) n0 (by decide)
      have hC := u13 _ _ hC4
      cases wb with
      | false =>
        refine ⟨_, _, .inl (SqL.of hTL), rfl, _, _, .inl (SqL.of hKH), rfl, ⟨by decide, by decide⟩, by show 2 ≤ sizeLine; decide, fun r hr => ⟨_, _, .inl (SqL.of upd_same), hpk, ?_⟩⟩
        have sr := Same.new (o := .lst [.int 90, .int 2000]) hr
        refine ⟨d0, p0, q0', cs, k0, t0.same sr, sr _ _ hC, sr _ _ hb0, cn, kl0, kr0, n5, ⟨m0, m1⟩, fun rr q2 k2 H14 up t' hrr kl2 kr2 => ?_⟩
        have up' := (Same.upto (x := x0) sr).trans up
        have u14 : Same H4 H14 := Upto.same u13 up' x0f
        have nx : ∀ b xs, H13 b = some (.lst xs) → b ≠ x0 := fun b xs h z => by rw [z, t0.ins] at h; cases h
        have hTL2 := up' _ _ (nx _ _ hTL) hTL
        have hKH2 := up' _ _ (nx _ _ hKH) hKH
        have hbo2 := up' _ _ (nx _ _ hb1) hb1
        have hE2 := up' _ _ (nx _ _ hE) hE
        have to2 : TillAt OW.a_Till H14 x1 d1 p1 q1' cs k1 := ⟨up' _ _ (Ne.symm n01) t1.ins, up' _ _ (nx _ _ t1.co) t1.co, up' _ _ (nx _ _ t1.ct) t1.ct⟩
        refine ⟨_, 0, hKH2, rfl, ?_⟩
        have ni : ∀ b (zs : List Int), H14 b = some (.lst (zs.map V.int)) → b ≠ KH := fun b zs h => ne_ir h hKH2
        have keep : ∀ (T' x dx p q : Addr) (c k : List Int) (o : HO), TillAt T' H14 x dx p q c k → TillAt T' (upd H14 KH o) x dx p q c k := fun T' x dx p q c k o t => ⟨by rw [upd_ne (fun z => by have := t.ins; rw [z, hKH2] at this; cases this)]; exact t.ins, by rw [upd_ne (ni _ _ t.co)]; exact t.co, by rw [upd_ne (ni _ _ t.ct)]; exact t.ct⟩
        have hKH3 : (upd H14 KH (.lst [.ref rr, .ref b1])) KH = some (.lst [.ref rr, .ref b1]) := upd_same
        have hTL3 : (upd H14 KH (.lst [.ref rr, .ref b1])) TL = some (.lst [.ref x0, .ref x1]) := by rw [upd_ne nKT]; exact hTL2
        have tm3 := keep _ _ _ _ _ _ _ (.lst [.ref rr, .ref b1]) t'
        have to3 := keep _ _ _ _ _ _ _ (.lst [.ref rr, .ref b1]) to2
        have u15 : Same H4 (upd H14 KH (.lst [.ref rr, .ref b1])) := u14.put KHf
        have hrr3 : (upd H14 KH (.lst [.ref rr, .ref b1])) rr = some (.lst (k2.map V.int)) := by rw [upd_ne (ni _ _ hrr)]; exact hrr
        have hbo3 : (upd H14 KH (.lst [.ref rr, .ref b1])) b1 = some (.lst (k1.map V.int)) := by rw [upd_ne (ni _ _ hbo2)]; exact hbo2
        have hE3 : (upd H14 KH (.lst [.ref rr, .ref b1])) E = some (.lst (ks.map V.int)) := by rw [upd_ne nEK]; exact hE2
        refine ⟨_, _, .inl (SqL.of hTL3), rfl, _, _, .inl (SqL.of hKH3), rfl, d0, p0, q2, cs, k2, tm3, u15 _ _ hC4, hrr3, cn, kl2, kr2, fun H16 s16 => ?_⟩
        refine ⟨_, _, .inl (SqL.of (s16 _ _ hTL3)), rfl, _, _, .inl (SqL.of (s16 _ _ hKH3)), rfl, d1, p1, q1', cs, k1, to3.same s16, (u15.trans s16) _ _ hC4, s16 _ _ hbo3, cn, kl1, kr1, fun H17 s17 => ?_⟩
        have v17 := s16.trans s17
        exact ⟨rr, b1, q2, q1', k2, k1, _, _, _, _, rfl, u15.trans v17, tm3.same v17, to3.same v17, v17 _ _ hTL3, v17 _ _ hKH3, v17 _ _ hrr3, v17 _ _ hbo3, v17 _ _ hE3, ⟨kl2, kr2⟩, ⟨kl1, kr1⟩⟩
      | true =>
        refine ⟨_, _, .inl (SqL.of hTL), rfl, _, _, .inl (SqL.of hKH), rfl, ⟨by decide, by decide⟩, by show 2 ≤ sizeLine; decide, fun r hr => ⟨_, _, .inl (SqL.of upd_same), hpk, ?_⟩⟩
        have sr := Same.new (o := .lst [.int 90, .int 2000]) hr
        refine ⟨d1, p1, q1', cs, k1, t1.same sr, sr _ _ hC, sr _ _ hb1, cn, kl1, kr1, n5, ⟨m0, m1⟩, fun rr q2 k2 H14 up t' hrr kl2 kr2 => ?_⟩
        have up' := (Same.upto (x := x1) sr).trans up
        have u14 : Same H4 H14 := Upto.same u13 up' x1f
        have nx : ∀ b xs, H13 b = some (.lst xs) → b ≠ x1 := fun b xs h z => by rw [z, t1.ins] at h; cases h
        have hTL2 := up' _ _ (nx _ _ hTL) hTL
        have hKH2 := up' _ _ (nx _ _ hKH) hKH
        have hbo2 := up' _ _ (nx _ _ hb0) hb0
        have hE2 := up' _ _ (nx _ _ hE) hE
        have to2 : TillAt OW.a_Till H14 x0 d0 p0 q0' cs k0 := ⟨up' _ _ n01 t0.ins, up' _ _ (nx _ _ t0.co) t0.co, up' _ _ (nx _ _ t0.ct) t0.ct⟩
        refine ⟨_, 1, hKH2, rfl, ?_⟩
        have ni : ∀ b (zs : List Int), H14 b = some (.lst (zs.map V.int)) → b ≠ KH := fun b zs h => ne_ir h hKH2
        have keep : ∀ (T' x dx p q : Addr) (c k : List Int) (o : HO), TillAt T' H14 x dx p q c k → TillAt T' (upd H14 KH o) x dx p q c k := fun T' x dx p q c k o t => ⟨by rw [upd_ne (fun z => by have := t.ins; rw [z, hKH2] at this; cases this)]; exact t.ins, by rw [upd_ne (ni _ _ t.co)]; exact t.co, by rw [upd_ne (ni _ _ t.ct)]; exact t.ct⟩
        have hKH3 : (upd H14 KH (.lst [.ref b0, .ref rr])) KH = some (.lst [.ref b0, .ref rr]) := upd_same
        have hTL3 : (upd H14 KH (.lst [.ref b0, .ref rr])) TL = some (.lst [.ref x0, .ref x1]) := by rw [upd_ne nKT]; exact hTL2
        have tm3 := keep _ _ _ _ _ _ _ (.lst [.ref b0, .ref rr]) t'
        have to3 := keep _ _ _ _ _ _ _ (.lst [.ref b0, .ref rr]) to2
        have u15 : Same H4 (upd H14 KH (.lst [.ref b0, .ref rr])) := u14.put KHf
        have hrr3 : (upd H14 KH (.lst [.ref b0, .ref rr])) rr = some (.lst (k2.map V.int)) := by rw [upd_ne (ni _ _ hrr)]; exact hrr
        have hbo3 : (upd H14 KH (.lst [.ref b0, .ref rr])) b0 = some (.lst (k0.map V.int)) := by rw [upd_ne (ni _ _ hbo2)]; exact hbo2
        have hE3 : (upd H14 KH (.lst [.ref b0, .ref rr])) E = some (.lst (ks.map V.int)) := by rw [upd_ne nEK]; exact hE2
        refine ⟨_, _, .inl (SqL.of hTL3), rfl, _, _, .inl (SqL.of hKH3), rfl, d0, p0, q0', cs, k0, to3, u15 _ _ hC4, hbo3, cn, kl0, kr0, fun H16 s16 => ?_⟩
        refine ⟨_, _, .inl (SqL.of (s16 _ _ hTL3)), rfl, _, _, .inl (SqL.of (s16 _ _ hKH3)), rfl, d1, p1, q2, cs, k2, tm3.same s16, (u15.trans s16) _ _ hC4, s16 _ _ hrr3, cn, kl2, kr2, fun H17 s17 => ?_⟩
        have v17 := s16.trans s17
        exact ⟨b0, rr, q0', q2, k0, k2, _, _, _, _, rfl, u15.trans v17, to3.same v17, tm3.same v17, v17 _ _ hTL3, v17 _ _ hKH3, v17 _ _ hbo3, v17 _ _ hrr3, v17 _ _ hE3, ⟨kl0, kr0⟩, ⟨kl2, kr2⟩⟩
    · rintro σ H13 ⟨b0, b1, q0', q1', k0, k1, v9, v10, v11, v12, rfl, u13, t0, t1, hTL, hKH, hb0, hb1, hE, ⟨kl0, kr0⟩, ⟨kl1, kr1⟩⟩
      exact eqCopy (neg := false) (SqL.of hE) (SqL.of (u13 _ _ hB4)) (kn_ints _) (q H13)

end
end PG

set_option Elab.async false
set_option linter.all false
set_option maxRecDepth 100000
set_option maxHeartbeats 4000000
namespace PG
open PySem L2 PyProof.Rows

theorem len_1 {α : Type} {us : List α} (h : us.length = 1) : ∃ a0, us = [a0] := by
  cases us with
  | nil => simp at h
  | cons a t => cases t with
    | nil => exact ⟨a, rfl⟩
    | cons b s => simp at h
theorem len_2 {α : Type} {us : List α} (h : us.length = 2) : ∃ a0 a1, us = [a0, a1] := by
  cases us with
  | nil => simp at h
  | cons a0 t =>
    obtain ⟨a1, rfl⟩ := len_1 (us := t) (by simpa using h)
    exact ⟨a0, a1, rfl⟩
theorem len_3 {α : Type} {us : List α} (h : us.length = 3) : ∃ a0 a1 a2, us = [a0, a1, a2] := by
  cases us with
  | nil => simp at h
  | cons a0 t =>
    obtain ⟨a1, a2, rfl⟩ := len_2 (us := t) (by simpa using h)
    exact ⟨a0, a1, a2, rfl⟩
theorem len_4 {α : Type} {us : List α} (h : us.length = 4) : ∃ a0 a1 a2 a3, us = [a0, a1, a2, a3] := by
  cases us with
  | nil => simp at h
  | cons a0 t =>
    obtain ⟨a1, a2, a3, rfl⟩ := len_3 (us := t) (by simpa using h)
    exact ⟨a0, a1, a2, a3, rfl⟩
theorem len_5 {α : Type} {us : List α} (h : us.length = 5) : ∃ a0 a1 a2 a3 a4, us = [a0, a1, a2, a3, a4] := by
  cases us with
  | nil => simp at h
  | cons a0 t =>
    obtain ⟨a1, a2, a3, a4, rfl⟩ := len_4 (us := t) (by simpa using h)
    exact ⟨a0, a1, a2, a3, a4, rfl⟩
theorem all_mk {l : PySem.W.OpenLaw} {w : World} {K : PySem.W.Frag} {h : Heap} {mg : Str → Option Value} {fa : Addr} (X : K.In h) (GN : h.Ns mainGlobals mg) (hfa : mg "law" = some (.ref fa))
    {C_Till : Addr}
    {f0 : Addr} {od0 an0 : Option Addr} {sl0 : Array (Option Value)} {oc0 kV0 dc0 pm0 cd0 ct0 : Value}
    {f1 : Addr} {od1 an1 : Option Addr} {sl1 : Array (Option Value)} {oc1 kV1 dc1 pm1 cd1 ct1 : Value}
    {f2 : Addr} {od2 an2 : Option Addr} {sl2 : Array (Option Value)} {oc2 kV2 dc2 pm2 cd2 ct2 : Value}
    {f3 : Addr} {od3 an3 : Option Addr} {sl3 : Array (Option Value)} {oc3 kV3 dc3 pm3 cd3 ct3 : Value}
    {f4 : Addr} {od4 an4 : Option Addr} {sl4 : Array (Option Value)} {oc4 kV4 dc4 pm4 cd4 ct4 : Value}
    {f5 : Addr} {od5 an5 : Option Addr} {sl5 : Array (Option Value)} {oc5 kV5 dc5 pm5 cd5 ct5 : Value}
    {f6 : Addr} {od6 an6 : Option Addr} {sl6 : Array (Option Value)} {oc6 kV6 dc6 pm6 cd6 ct6 : Value}
    {f7 : Addr} {od7 an7 : Option Addr} {sl7 : Array (Option Value)} {oc7 kV7 dc7 pm7 cd7 ct7 : Value}
    {f8 : Addr} {od8 an8 : Option Addr} {sl8 : Array (Option Value)} {oc8 kV8 dc8 pm8 cd8 ct8 : Value}
    {f9 : Addr} {od9 an9 : Option Addr} {sl9 : Array (Option Value)} {oc9 kV9 dc9 pm9 cd9 ct9 : Value}
    {f10 : Addr} {od10 an10 : Option Addr} {sl10 : Array (Option Value)} {oc10 kV10 dc10 pm10 cd10 ct10 : Value}
    {f11 : Addr} {od11 an11 : Option Addr} {sl11 : Array (Option Value)} {oc11 kV11 dc11 pm11 cd11 ct11 : Value}
    {f12 : Addr} {od12 an12 : Option Addr} {sl12 : Array (Option Value)} {oc12 kV12 dc12 pm12 cd12 ct12 : Value}
    {f13 : Addr} {od13 an13 : Option Addr} {sl13 : Array (Option Value)} {oc13 kV13 dc13 pm13 cd13 ct13 : Value}
    {f14 : Addr} {od14 an14 : Option Addr} {sl14 : Array (Option Value)} {oc14 kV14 dc14 pm14 cd14 ct14 : Value}
    {f15 : Addr} {od15 an15 : Option Addr} {sl15 : Array (Option Value)} {oc15 kV15 dc15 pm15 cd15 ct15 : Value}
    {f16 : Addr} {od16 an16 : Option Addr} {sl16 : Array (Option Value)} {oc16 kV16 dc16 pm16 cd16 ct16 : Value}
    {f17 : Addr} {od17 an17 : Option Addr} {sl17 : Array (Option Value)} {oc17 kV17 dc17 pm17 cd17 ct17 : Value}
    {f18 : Addr} {od18 an18 : Option Addr} {sl18 : Array (Option Value)} {oc18 kV18 dc18 pm18 cd18 ct18 : Value}
    {f19 : Addr} {od19 an19 : Option Addr} {sl19 : Array (Option Value)} {oc19 kV19 dc19 pm19 cd19 ct19 : Value}
    {f20 : Addr} {od20 an20 : Option Addr} {sl20 : Array (Option Value)} {oc20 kV20 dc20 pm20 cd20 ct20 : Value}
    {f21 : Addr} {od21 an21 : Option Addr} {sl21 : Array (Option Value)} {oc21 kV21 dc21 pm21 cd21 ct21 : Value}
    {f22 : Addr} {od22 an22 : Option Addr} {sl22 : Array (Option Value)} {oc22 kV22 dc22 pm22 cd22 ct22 : Value}
    {f23 : Addr} {od23 an23 : Option Addr} {sl23 : Array (Option Value)} {oc23 kV23 dc23 pm23 cd23 ct23 : Value}
    {f24 : Addr} {od24 an24 : Option Addr} {sl24 : Array (Option Value)} {oc24 kV24 dc24 pm24 cd24 ct24 : Value}
    {f25 : Addr} {od25 an25 : Option Addr} {sl25 : Array (Option Value)} {oc25 kV25 dc25 pm25 cd25 ct25 : Value}
    {f26 : Addr} {od26 an26 : Option Addr} {sl26 : Array (Option Value)} {oc26 kV26 dc26 pm26 cd26 ct26 : Value}
    {f27 : Addr} {od27 an27 : Option Addr} {sl27 : Array (Option Value)} {oc27 kV27 dc27 pm27 cd27 ct27 : Value}
    {f28 : Addr} {od28 an28 : Option Addr} {sl28 : Array (Option Value)} {oc28 kV28 dc28 pm28 cd28 ct28 : Value}
    {f29 : Addr} {od29 an29 : Option Addr} {sl29 : Array (Option Value)} {oc29 kV29 dc29 pm29 cd29 ct29 : Value}
    {f30 : Addr} {od30 an30 : Option Addr} {sl30 : Array (Option Value)} {oc30 kV30 dc30 pm30 cd30 ct30 : Value}
    {f31 : Addr} {od31 an31 : Option Addr} {sl31 : Array (Option Value)} {oc31 kV31 dc31 pm31 cd31 ct31 : Value}
    {f32 : Addr} {od32 an32 : Option Addr} {sl32 : Array (Option Value)} {oc32 kV32 dc32 pm32 cd32 ct32 : Value}
    {f33 : Addr} {od33 an33 : Option Addr} {sl33 : Array (Option Value)} {oc33 kV33 dc33 pm33 cd33 ct33 : Value}
    {u0 : Tok}
    {u1 : Tok}
    {u2 : Tok}
    {u3 : Tok}
    {u4 : Tok}
    {C_PayError : Addr}
    {C_NoCoins : Addr}
    {C_NoPaying : Addr}
    {C_NoSum : Addr}
    {C_TooMany : Addr}
    {C_NoChange : Addr}
    {C_TooLittle : Addr}
    {cd_TooLittle : ClassData}
    {cd_TooMany : ClassData}
    {cd_NoChange : ClassData}
    (a0 : PySem.W.nsIn K mainGlobals "is_number" = some (some (.ref f0))) (l0 : K.lookup f0 = some ⟨oc0, od0, .func (PySem.W.fnOf "is_number" "is_number" (defArgs s_is_number) (defBody s_is_number) (defScope s_is_number) .none kV0 dc0 pm0 an0 cd0 ct0), sl0⟩) (c0 : PySem.W.codeIn K cd0 "is_number" = true) (k0 : PySem.W.keepIn K (.ref f0) = true)
    (a1 : PySem.W.nsIn K mainGlobals "is_coin" = some (some (.ref f1))) (l1 : K.lookup f1 = some ⟨oc1, od1, .func (PySem.W.fnOf "is_coin" "is_coin" (defArgs s_is_coin) (defBody s_is_coin) (defScope s_is_coin) .none kV1 dc1 pm1 an1 cd1 ct1), sl1⟩) (c1 : PySem.W.codeIn K cd1 "is_coin" = true) (k1 : PySem.W.keepIn K (.ref f1) = true)
    (a2 : PySem.W.nsIn K mainGlobals "check_coins" = some (some (.ref f2))) (l2 : K.lookup f2 = some ⟨oc2, od2, .func (PySem.W.fnOf "check_coins" "check_coins" (defArgs s_check_coins) (defBody s_check_coins) (defScope s_check_coins) .none kV2 dc2 pm2 an2 cd2 ct2), sl2⟩) (c2 : PySem.W.codeIn K cd2 "check_coins" = true) (k2 : PySem.W.keepIn K (.ref f2) = true)
    (a3 : PySem.W.nsIn K mainGlobals "check_paying" = some (some (.ref f3))) (l3 : K.lookup f3 = some ⟨oc3, od3, .func (PySem.W.fnOf "check_paying" "check_paying" (defArgs s_check_paying) (defBody s_check_paying) (defScope s_check_paying) .none kV3 dc3 pm3 an3 cd3 ct3), sl3⟩) (c3 : PySem.W.codeIn K cd3 "check_paying" = true) (k3 : PySem.W.keepIn K (.ref f3) = true)
    (a4 : PySem.W.nsIn K mainGlobals "check_sum_from" = some (some (.ref f4))) (l4 : K.lookup f4 = some ⟨oc4, od4, .func (PySem.W.fnOf "check_sum_from" "check_sum_from" (defArgs s_check_sum_from) (defBody s_check_sum_from) (defScope s_check_sum_from) .none kV4 dc4 pm4 an4 cd4 ct4), sl4⟩) (c4 : PySem.W.codeIn K cd4 "check_sum_from" = true) (k4 : PySem.W.keepIn K (.ref f4) = true)
    (a5 : PySem.W.nsIn K mainGlobals "check_listed" = some (some (.ref f5))) (l5 : K.lookup f5 = some ⟨oc5, od5, .func (PySem.W.fnOf "check_listed" "check_listed" (defArgs s_check_listed) (defBody s_check_listed) (defScope s_check_listed) .none kV5 dc5 pm5 an5 cd5 ct5), sl5⟩) (c5 : PySem.W.codeIn K cd5 "check_listed" = true) (k5 : PySem.W.keepIn K (.ref f5) = true)
    (a6 : PySem.W.nsIn K mainGlobals "sum_paid" = some (some (.ref f6))) (l6 : K.lookup f6 = some ⟨oc6, od6, .func (PySem.W.fnOf "sum_paid" "sum_paid" (defArgs s_sum_paid) (defBody s_sum_paid) (defScope s_sum_paid) .none kV6 dc6 pm6 an6 cd6 ct6), sl6⟩) (c6 : PySem.W.codeIn K cd6 "sum_paid" = true) (k6 : PySem.W.keepIn K (.ref f6) = true)
    (a7 : PySem.W.nsIn K mainGlobals "check_counts" = some (some (.ref f7))) (l7 : K.lookup f7 = some ⟨oc7, od7, .func (PySem.W.fnOf "check_counts" "check_counts" (defArgs s_check_counts) (defBody s_check_counts) (defScope s_check_counts) .none kV7 dc7 pm7 an7 cd7 ct7), sl7⟩) (c7 : PySem.W.codeIn K cd7 "check_counts" = true) (k7 : PySem.W.keepIn K (.ref f7) = true)
    (a8 : PySem.W.nsIn K mainGlobals "held_paying" = some (some (.ref f8))) (l8 : K.lookup f8 = some ⟨oc8, od8, .func (PySem.W.fnOf "held_paying" "held_paying" (defArgs s_held_paying) (defBody s_held_paying) (defScope s_held_paying) .none kV8 dc8 pm8 an8 cd8 ct8), sl8⟩) (c8 : PySem.W.codeIn K cd8 "held_paying" = true) (k8 : PySem.W.keepIn K (.ref f8) = true)
    (a9 : PySem.W.nsIn K mainGlobals "bundles_of" = some (some (.ref f9))) (l9 : K.lookup f9 = some ⟨oc9, od9, .func (PySem.W.fnOf "bundles_of" "bundles_of" (defArgs s_bundles_of) (defBody s_bundles_of) (defScope s_bundles_of) .none kV9 dc9 pm9 an9 cd9 ct9), sl9⟩) (c9 : PySem.W.codeIn K cd9 "bundles_of" = true) (k9 : PySem.W.keepIn K (.ref f9) = true)
    (a10 : PySem.W.nsIn K mainGlobals "fewest_tables" = some (some (.ref f10))) (l10 : K.lookup f10 = some ⟨oc10, od10, .func (PySem.W.fnOf "fewest_tables" "fewest_tables" (defArgs s_fewest_tables) (defBody s_fewest_tables) (defScope s_fewest_tables) .none kV10 dc10 pm10 an10 cd10 ct10), sl10⟩) (c10 : PySem.W.codeIn K cd10 "fewest_tables" = true) (k10 : PySem.W.keepIn K (.ref f10) = true)
    (a11 : PySem.W.nsIn K mainGlobals "with_bundle" = some (some (.ref f11))) (l11 : K.lookup f11 = some ⟨oc11, od11, .func (PySem.W.fnOf "with_bundle" "with_bundle" (defArgs s_with_bundle) (defBody s_with_bundle) (defScope s_with_bundle) .none kV11 dc11 pm11 an11 cd11 ct11), sl11⟩) (c11 : PySem.W.codeIn K cd11 "with_bundle" = true) (k11 : PySem.W.keepIn K (.ref f11) = true)
    (a12 : PySem.W.nsIn K mainGlobals "counts_with" = some (some (.ref f12))) (l12 : K.lookup f12 = some ⟨oc12, od12, .func (PySem.W.fnOf "counts_with" "counts_with" (defArgs s_counts_with) (defBody s_counts_with) (defScope s_counts_with) .none kV12 dc12 pm12 an12 cd12 ct12), sl12⟩) (c12 : PySem.W.codeIn K cd12 "counts_with" = true) (k12 : PySem.W.keepIn K (.ref f12) = true)
    (a13 : PySem.W.nsIn K mainGlobals "_law_cell" = some (some (.ref f13))) (l13 : K.lookup f13 = some ⟨oc13, od13, .func (PySem.W.fnOf "_law_cell" "_law_cell" (defArgs s__law_cell) (defBody s__law_cell) (defScope s__law_cell) .none kV13 dc13 pm13 an13 cd13 ct13), sl13⟩) (c13 : PySem.W.codeIn K cd13 "_law_cell" = true) (k13 : PySem.W.keepIn K (.ref f13) = true)
    (a14 : PySem.W.nsIn K mainGlobals "_law_whole" = some (some (.ref f14))) (l14 : K.lookup f14 = some ⟨oc14, od14, .func (PySem.W.fnOf "_law_whole" "_law_whole" (defArgs s__law_whole) (defBody s__law_whole) (defScope s__law_whole) .none kV14 dc14 pm14 an14 cd14 ct14), sl14⟩) (c14 : PySem.W.codeIn K cd14 "_law_whole" = true) (k14 : PySem.W.keepIn K (.ref f14) = true)
    (a15 : PySem.W.nsIn K mainGlobals "_law_mix" = some (some (.ref f15))) (l15 : K.lookup f15 = some ⟨oc15, od15, .func (PySem.W.fnOf "_law_mix" "_law_mix" (defArgs s__law_mix) (defBody s__law_mix) (defScope s__law_mix) .none kV15 dc15 pm15 an15 cd15 ct15), sl15⟩) (c15 : PySem.W.codeIn K cd15 "_law_mix" = true) (k15 : PySem.W.keepIn K (.ref f15) = true)
    (a16 : PySem.W.nsIn K mainGlobals "_law_some" = some (some (.ref f16))) (l16 : K.lookup f16 = some ⟨oc16, od16, .func (PySem.W.fnOf "_law_some" "_law_some" (defArgs s__law_some) (defBody s__law_some) (defScope s__law_some) .none kV16 dc16 pm16 an16 cd16 ct16), sl16⟩) (c16 : PySem.W.codeIn K cd16 "_law_some" = true) (k16 : PySem.W.keepIn K (.ref f16) = true)
    (a17 : PySem.W.nsIn K mainGlobals "_law_least" = some (some (.ref f17))) (l17 : K.lookup f17 = some ⟨oc17, od17, .func (PySem.W.fnOf "_law_least" "_law_least" (defArgs s__law_least) (defBody s__law_least) (defScope s__law_least) .none kV17 dc17 pm17 an17 cd17 ct17), sl17⟩) (c17 : PySem.W.codeIn K cd17 "_law_least" = true) (k17 : PySem.W.keepIn K (.ref f17) = true)
    (a18 : PySem.W.nsIn K mainGlobals "_law_good" = some (some (.ref f18))) (l18 : K.lookup f18 = some ⟨oc18, od18, .func (PySem.W.fnOf "_law_good" "_law_good" (defArgs s__law_good) (defBody s__law_good) (defScope s__law_good) .none kV18 dc18 pm18 an18 cd18 ct18), sl18⟩) (c18 : PySem.W.codeIn K cd18 "_law_good" = true) (k18 : PySem.W.keepIn K (.ref f18) = true)
    (a19 : PySem.W.nsIn K mainGlobals "_law_kept" = some (some (.ref f19))) (l19 : K.lookup f19 = some ⟨oc19, od19, .func (PySem.W.fnOf "_law_kept" "_law_kept" (defArgs s__law_kept) (defBody s__law_kept) (defScope s__law_kept) .none kV19 dc19 pm19 an19 cd19 ct19), sl19⟩) (c19 : PySem.W.codeIn K cd19 "_law_kept" = true) (k19 : PySem.W.keepIn K (.ref f19) = true)
    (a20 : PySem.W.nsIn K mainGlobals "_law_put" = some (some (.ref f20))) (l20 : K.lookup f20 = some ⟨oc20, od20, .func (PySem.W.fnOf "_law_put" "_law_put" (defArgs s__law_put) (defBody s__law_put) (defScope s__law_put) .none kV20 dc20 pm20 an20 cd20 ct20), sl20⟩) (c20 : PySem.W.codeIn K cd20 "_law_put" = true) (k20 : PySem.W.keepIn K (.ref f20) = true)
    (a21 : PySem.W.nsIn K mainGlobals "_law_amount" = some (some (.ref f21))) (l21 : K.lookup f21 = some ⟨oc21, od21, .func (PySem.W.fnOf "_law_amount" "_law_amount" (defArgs s__law_amount) (defBody s__law_amount) (defScope s__law_amount) .none kV21 dc21 pm21 an21 cd21 ct21), sl21⟩) (c21 : PySem.W.codeIn K cd21 "_law_amount" = true) (k21 : PySem.W.keepIn K (.ref f21) = true)
    (a22 : PySem.W.nsIn K mainGlobals "_law_less" = some (some (.ref f22))) (l22 : K.lookup f22 = some ⟨oc22, od22, .func (PySem.W.fnOf "_law_less" "_law_less" (defArgs s__law_less) (defBody s__law_less) (defScope s__law_less) .none kV22 dc22 pm22 an22 cd22 ct22), sl22⟩) (c22 : PySem.W.codeIn K cd22 "_law_less" = true) (k22 : PySem.W.keepIn K (.ref f22) = true)
    (a23 : PySem.W.nsIn K mainGlobals "_law_give" = some (some (.ref f23))) (l23 : K.lookup f23 = some ⟨oc23, od23, .func (PySem.W.fnOf "_law_give" "_law_give" (defArgs s__law_give) (defBody s__law_give) (defScope s__law_give) .none kV23 dc23 pm23 an23 cd23 ct23), sl23⟩) (c23 : PySem.W.codeIn K cd23 "_law_give" = true) (k23 : PySem.W.keepIn K (.ref f23) = true)
    (a24 : PySem.W.nsIn K mainGlobals "_law_sale" = some (some (.ref f24))) (l24 : K.lookup f24 = some ⟨oc24, od24, .func (PySem.W.fnOf "_law_sale" "_law_sale" (defArgs s__law_sale) (defBody s__law_sale) (defScope s__law_sale) .none kV24 dc24 pm24 an24 cd24 ct24), sl24⟩) (c24 : PySem.W.codeIn K cd24 "_law_sale" = true) (k24 : PySem.W.keepIn K (.ref f24) = true)
    (a25 : PySem.W.nsIn K mainGlobals "_law_done" = some (some (.ref f25))) (l25 : K.lookup f25 = some ⟨oc25, od25, .func (PySem.W.fnOf "_law_done" "_law_done" (defArgs s__law_done) (defBody s__law_done) (defScope s__law_done) .none kV25 dc25 pm25 an25 cd25 ct25), sl25⟩) (c25 : PySem.W.codeIn K cd25 "_law_done" = true) (k25 : PySem.W.keepIn K (.ref f25) = true)
    (a26 : PySem.W.nsIn K mainGlobals "law" = some (some (.ref f26))) (l26 : K.lookup f26 = some ⟨oc26, od26, .func (PySem.W.fnOf "law" "law" (defArgs s_law) (defBody s_law) (defScope s_law) .none kV26 dc26 pm26 an26 cd26 ct26), sl26⟩) (c26 : PySem.W.codeIn K cd26 "law" = true) (k26 : PySem.W.keepIn K (.ref f26) = true)
    (a27 : PySem.W.findIn K (.ref C_Till) "__init__" = some (some (.ref f27))) (l27 : K.lookup f27 = some ⟨oc27, od27, .func (PySem.W.fnOf "__init__" "Till.__init__" (defArgs s_Till___init__) (defBody s_Till___init__) (defScope s_Till___init__) .none kV27 dc27 pm27 an27 cd27 ct27), sl27⟩) (c27 : PySem.W.codeIn K cd27 "Till.__init__" = true) (k27 : PySem.W.keepIn K (.ref f27) = true) (i27 : PySem.W.isFn K (.ref f27) = true)
    (a28 : PySem.W.findIn K (.ref C_Till) "held" = some (some (.ref f28))) (l28 : K.lookup f28 = some ⟨oc28, od28, .func (PySem.W.fnOf "held" "Till.held" (defArgs s_Till_held) (defBody s_Till_held) (defScope s_Till_held) .none kV28 dc28 pm28 an28 cd28 ct28), sl28⟩) (c28 : PySem.W.codeIn K cd28 "Till.held" = true) (k28 : PySem.W.keepIn K (.ref f28) = true) (i28 : PySem.W.isFn K (.ref f28) = true)
    (a29 : PySem.W.findIn K (.ref C_Till) "worth" = some (some (.ref f29))) (l29 : K.lookup f29 = some ⟨oc29, od29, .func (PySem.W.fnOf "worth" "Till.worth" (defArgs s_Till_worth) (defBody s_Till_worth) (defScope s_Till_worth) .none kV29 dc29 pm29 an29 cd29 ct29), sl29⟩) (c29 : PySem.W.codeIn K cd29 "Till.worth" = true) (k29 : PySem.W.keepIn K (.ref f29) = true) (i29 : PySem.W.isFn K (.ref f29) = true)
    (a30 : PySem.W.findIn K (.ref C_Till) "put" = some (some (.ref f30))) (l30 : K.lookup f30 = some ⟨oc30, od30, .func (PySem.W.fnOf "put" "Till.put" (defArgs s_Till_put) (defBody s_Till_put) (defScope s_Till_put) .none kV30 dc30 pm30 an30 cd30 ct30), sl30⟩) (c30 : PySem.W.codeIn K cd30 "Till.put" = true) (k30 : PySem.W.keepIn K (.ref f30) = true) (i30 : PySem.W.isFn K (.ref f30) = true)
    (a31 : PySem.W.findIn K (.ref C_Till) "give" = some (some (.ref f31))) (l31 : K.lookup f31 = some ⟨oc31, od31, .func (PySem.W.fnOf "give" "Till.give" (defArgs s_Till_give) (defBody s_Till_give) (defScope s_Till_give) .none kV31 dc31 pm31 an31 cd31 ct31), sl31⟩) (c31 : PySem.W.codeIn K cd31 "Till.give" = true) (k31 : PySem.W.keepIn K (.ref f31) = true) (i31 : PySem.W.isFn K (.ref f31) = true)
    (a32 : PySem.W.findIn K (.ref C_Till) "sale" = some (some (.ref f32))) (l32 : K.lookup f32 = some ⟨oc32, od32, .func (PySem.W.fnOf "sale" "Till.sale" (defArgs s_Till_sale) (defBody s_Till_sale) (defScope s_Till_sale) .none kV32 dc32 pm32 an32 cd32 ct32), sl32⟩) (c32 : PySem.W.codeIn K cd32 "Till.sale" = true) (k32 : PySem.W.keepIn K (.ref f32) = true) (i32 : PySem.W.isFn K (.ref f32) = true)
    (a33 : PySem.W.findIn K (.ref C_Till) "give_of" = some (some (.ref f33))) (l33 : K.lookup f33 = some ⟨oc33, od33, .func (PySem.W.fnOf "give_of" "Till.give_of" (defArgs s_Till_give_of) (defBody s_Till_give_of) (defScope s_Till_give_of) .none kV33 dc33 pm33 an33 cd33 ct33), sl33⟩) (c33 : PySem.W.codeIn K cd33 "Till.give_of" = true) (k33 : PySem.W.keepIn K (.ref f33) = true) (i33 : PySem.W.isFn K (.ref f33) = true)
    (m0 : PySem.W.nsIn K mainGlobals "GREATEST_COIN" = some (some (.int 1000 u0)))
    (m1 : PySem.W.nsIn K mainGlobals "GREATEST_LISTED_SUM" = some (some (.int 2000 u1)))
    (m2 : PySem.W.nsIn K mainGlobals "MOST_COINS" = some (some (.int 40 u2)))
    (m3 : PySem.W.nsIn K mainGlobals "MOST_HELD" = some (some (.int 100 u3)))
    (m4 : PySem.W.nsIn K mainGlobals "UNPAID" = some (some (.int 4001 u4)))
    (ca_PayError : PySem.W.nsIn K mainGlobals "PayError" = some (some (.ref C_PayError)))
    (ca_NoCoins : PySem.W.nsIn K mainGlobals "NoCoins" = some (some (.ref C_NoCoins)))
    (ca_NoPaying : PySem.W.nsIn K mainGlobals "NoPaying" = some (some (.ref C_NoPaying)))
    (ca_NoSum : PySem.W.nsIn K mainGlobals "NoSum" = some (some (.ref C_NoSum)))
    (ca_TooMany : PySem.W.nsIn K mainGlobals "TooMany" = some (some (.ref C_TooMany)))
    (ca_NoChange : PySem.W.nsIn K mainGlobals "NoChange" = some (some (.ref C_NoChange)))
    (ca_TooLittle : PySem.W.nsIn K mainGlobals "TooLittle" = some (some (.ref C_TooLittle)))
    (cx_TooLittle : PySem.W.excIn K C_TooLittle [.type "ValueError", .type "Exception", .type "BaseException", .type "object"] "ValueError.__new__" = true)
    (e1_TooLittle : PySem.W.findIn K (.ref C_TooLittle) "__getattribute__" = some (some (.builtin "BaseException.__getattribute__")))
    (e2_TooLittle : PySem.W.findIn K (.ref C_TooLittle) "__getattr__" = some none)
    (e3_TooLittle : PySem.W.findIn K (.ref C_TooLittle) "__class__" = some (some (.builtin "object.__class__")))
    (e4_TooLittle : PySem.W.mroIn K C_TooLittle (.type "BaseException") = some true)
    (e5_TooLittle : PySem.W.mroIn K C_TooLittle (.type "object") = some true)
    (e6_TooLittle : PySem.W.clsIn K C_TooLittle = some cd_TooLittle)
    (et_TooLittle : PySem.W.exmOne K (.ref C_TooLittle) (.ref C_PayError) = some true)
    (ev_TooLittle : PySem.W.kitOne K (.ref C_TooLittle) (.type "ValueError") = some true)
    (et_TooLittle_TooMany : PySem.W.exmOne K (.ref C_TooLittle) (.ref C_TooMany) = some false)
    (et_TooLittle_NoChange : PySem.W.exmOne K (.ref C_TooLittle) (.ref C_NoChange) = some false)
    (ek_TooLittle_PayError : PySem.W.kitOne K (.ref C_TooLittle) (.ref C_PayError) = some true)
    (ek_TooLittle_NoCoins : PySem.W.kitOne K (.ref C_TooLittle) (.ref C_NoCoins) = some false)
    (ek_TooLittle_NoPaying : PySem.W.kitOne K (.ref C_TooLittle) (.ref C_NoPaying) = some false)
    (ek_TooLittle_NoSum : PySem.W.kitOne K (.ref C_TooLittle) (.ref C_NoSum) = some false)
    (ek_TooLittle_TooMany : PySem.W.kitOne K (.ref C_TooLittle) (.ref C_TooMany) = some false)
    (ek_TooLittle_NoChange : PySem.W.kitOne K (.ref C_TooLittle) (.ref C_NoChange) = some false)
    (ek_TooLittle_TooLittle : PySem.W.kitOne K (.ref C_TooLittle) (.ref C_TooLittle) = some true)
    (cx_TooMany : PySem.W.excIn K C_TooMany [.type "ValueError", .type "Exception", .type "BaseException", .type "object"] "ValueError.__new__" = true)
    (e1_TooMany : PySem.W.findIn K (.ref C_TooMany) "__getattribute__" = some (some (.builtin "BaseException.__getattribute__")))
    (e2_TooMany : PySem.W.findIn K (.ref C_TooMany) "__getattr__" = some none)
    (e3_TooMany : PySem.W.findIn K (.ref C_TooMany) "__class__" = some (some (.builtin "object.__class__")))
    (e4_TooMany : PySem.W.mroIn K C_TooMany (.type "BaseException") = some true)
    (e5_TooMany : PySem.W.mroIn K C_TooMany (.type "object") = some true)
    (e6_TooMany : PySem.W.clsIn K C_TooMany = some cd_TooMany)
    (et_TooMany : PySem.W.exmOne K (.ref C_TooMany) (.ref C_PayError) = some true)
    (ev_TooMany : PySem.W.kitOne K (.ref C_TooMany) (.type "ValueError") = some true)
    (et_TooMany_TooMany : PySem.W.exmOne K (.ref C_TooMany) (.ref C_TooMany) = some true)
    (et_TooMany_NoChange : PySem.W.exmOne K (.ref C_TooMany) (.ref C_NoChange) = some false)
    (ek_TooMany_PayError : PySem.W.kitOne K (.ref C_TooMany) (.ref C_PayError) = some true)
    (ek_TooMany_NoCoins : PySem.W.kitOne K (.ref C_TooMany) (.ref C_NoCoins) = some false)
    (ek_TooMany_NoPaying : PySem.W.kitOne K (.ref C_TooMany) (.ref C_NoPaying) = some false)
    (ek_TooMany_NoSum : PySem.W.kitOne K (.ref C_TooMany) (.ref C_NoSum) = some false)
    (ek_TooMany_TooMany : PySem.W.kitOne K (.ref C_TooMany) (.ref C_TooMany) = some true)
    (ek_TooMany_NoChange : PySem.W.kitOne K (.ref C_TooMany) (.ref C_NoChange) = some false)
    (ek_TooMany_TooLittle : PySem.W.kitOne K (.ref C_TooMany) (.ref C_TooLittle) = some false)
    (cx_NoChange : PySem.W.excIn K C_NoChange [.type "ValueError", .type "Exception", .type "BaseException", .type "object"] "ValueError.__new__" = true)
    (e1_NoChange : PySem.W.findIn K (.ref C_NoChange) "__getattribute__" = some (some (.builtin "BaseException.__getattribute__")))
    (e2_NoChange : PySem.W.findIn K (.ref C_NoChange) "__getattr__" = some none)
    (e3_NoChange : PySem.W.findIn K (.ref C_NoChange) "__class__" = some (some (.builtin "object.__class__")))
    (e4_NoChange : PySem.W.mroIn K C_NoChange (.type "BaseException") = some true)
    (e5_NoChange : PySem.W.mroIn K C_NoChange (.type "object") = some true)
    (e6_NoChange : PySem.W.clsIn K C_NoChange = some cd_NoChange)
    (et_NoChange : PySem.W.exmOne K (.ref C_NoChange) (.ref C_PayError) = some true)
    (ev_NoChange : PySem.W.kitOne K (.ref C_NoChange) (.type "ValueError") = some true)
    (et_NoChange_TooMany : PySem.W.exmOne K (.ref C_NoChange) (.ref C_TooMany) = some false)
    (et_NoChange_NoChange : PySem.W.exmOne K (.ref C_NoChange) (.ref C_NoChange) = some true)
    (ek_NoChange_PayError : PySem.W.kitOne K (.ref C_NoChange) (.ref C_PayError) = some true)
    (ek_NoChange_NoCoins : PySem.W.kitOne K (.ref C_NoChange) (.ref C_NoCoins) = some false)
    (ek_NoChange_NoPaying : PySem.W.kitOne K (.ref C_NoChange) (.ref C_NoPaying) = some false)
    (ek_NoChange_NoSum : PySem.W.kitOne K (.ref C_NoChange) (.ref C_NoSum) = some false)
    (ek_NoChange_TooMany : PySem.W.kitOne K (.ref C_NoChange) (.ref C_TooMany) = some false)
    (ek_NoChange_NoChange : PySem.W.kitOne K (.ref C_NoChange) (.ref C_NoChange) = some true)
    (ek_NoChange_TooLittle : PySem.W.kitOne K (.ref C_NoChange) (.ref C_TooLittle) = some false)
    (oa_Till : PySem.W.nsIn K mainGlobals "Till" = some (some (.ref C_Till)))
    (o1_Till : PySem.W.plainGet K C_Till Str.empty = true)
    (o2_Till : PySem.W.hasDictIn K C_Till = true)
    (o3_Till : PySem.W.plainOver K C_Till = true)
    (o4_Till : PySem.W.findIn K (.ref C_Till) "__setattr__" = some (some (.builtin "object.__setattr__")))
    (o5_Till : PySem.W.makesIn K C_Till = true)
    (o6_Till : PySem.W.keepIn K (.ref C_Till) = true)
    (on_Till_coins : PySem.W.findIn K (.ref C_Till) "coins" = some none)
    (on_Till_counts : PySem.W.findIn K (.ref C_Till) "counts" = some none)
    (z0 : PySem.W.nsIn K mainGlobals "len" = some none)
    (z1 : PySem.W.nsIn K mainGlobals "isinstance" = some none)
    (z2 : PySem.W.nsIn K mainGlobals "int" = some none)
    (z3 : PySem.W.nsIn K mainGlobals "bool" = some none)
    (z4 : PySem.W.nsIn K mainGlobals "all" = some none)
    (z5 : PySem.W.nsIn K mainGlobals "any" = some none)
    (z6 : PySem.W.nsIn K mainGlobals "set" = some none)
    (z7 : PySem.W.nsIn K mainGlobals "range" = some none)
    (z8 : PySem.W.nsIn K mainGlobals "list" = some none)
    (z9 : PySem.W.nsIn K mainGlobals "abs" = some none)
    (z10 : PySem.W.nsIn K mainGlobals "min" = some none)
    (z11 : PySem.W.nsIn K mainGlobals "max" = some none)
    (z12 : PySem.W.nsIn K mainGlobals "sum" = some none)
    (z13 : PySem.W.nsIn K mainGlobals "sorted" = some none)
    (z14 : PySem.W.nsIn K mainGlobals "zip" = some none)
    (z15 : PySem.W.nsIn K mainGlobals "enumerate" = some none)
    (z16 : PySem.W.nsIn K mainGlobals "tuple" = some none)
    (z17 : PySem.W.nsIn K mainGlobals "str" = some none)
    (z18 : PySem.W.nsIn K mainGlobals "dict" = some none)
    (z19 : PySem.W.nsIn K mainGlobals "ValueError" = some none)
    (z20 : PySem.W.nsIn K mainGlobals "reversed" = some none) :
    ∃ fd : FuncData, (∀ (s : Shared) (v : Value), BindsTo s fd ⟨[v], []⟩ [("_law_script", v)]) ∧ ∀ base : Heap, K.In base → base.Ns mainGlobals mg → FnOk l.prog w K mg base (CX1 l.prog w) 8 fa fd ["_law_script"] (sLaw K) := by
  have e := hfa.symm.trans (PySem.W.mg_of X GN a26)
  cases e
  have B : Blt mg := ⟨PySem.W.mg_none_of X GN z0, PySem.W.mg_none_of X GN z1, PySem.W.mg_none_of X GN z2, PySem.W.mg_none_of X GN z3, PySem.W.mg_none_of X GN z4, PySem.W.mg_none_of X GN z5, PySem.W.mg_none_of X GN z6, PySem.W.mg_none_of X GN z7, PySem.W.mg_none_of X GN z8, PySem.W.mg_none_of X GN z9, PySem.W.mg_none_of X GN z10, PySem.W.mg_none_of X GN z11, PySem.W.mg_none_of X GN z12, PySem.W.mg_none_of X GN z13, PySem.W.mg_none_of X GN z14, PySem.W.mg_none_of X GN z15, PySem.W.mg_none_of X GN z16, PySem.W.mg_none_of X GN z17, PySem.W.mg_none_of X GN z18, PySem.W.mg_none_of X GN z19, PySem.W.mg_none_of X GN z20⟩
  have mc_GREATEST_COIN := PySem.W.mg_of X GN m0
  have mc_GREATEST_LISTED_SUM := PySem.W.mg_of X GN m1
  have mc_MOST_COINS := PySem.W.mg_of X GN m2
  have mc_MOST_HELD := PySem.W.mg_of X GN m3
  have mc_UNPAID := PySem.W.mg_of X GN m4
  have ER : Errs K mg := ⟨C_PayError, PySem.W.mg_of X GN ca_PayError, C_NoCoins, PySem.W.mg_of X GN ca_NoCoins, C_NoPaying, PySem.W.mg_of X GN ca_NoPaying, C_NoSum, PySem.W.mg_of X GN ca_NoSum, C_TooMany, PySem.W.mg_of X GN ca_TooMany, C_NoChange, PySem.W.mg_of X GN ca_NoChange, C_TooLittle, PySem.W.mg_of X GN ca_TooLittle, cx_TooLittle, ⟨e1_TooLittle, e2_TooLittle, e3_TooLittle, e4_TooLittle, e5_TooLittle, fun z => by rw [z] at e6_TooLittle; cases e6_TooLittle⟩, et_TooLittle, ev_TooLittle, et_TooLittle_TooMany, et_TooLittle_NoChange, ek_TooLittle_PayError, ek_TooLittle_NoCoins, ek_TooLittle_NoPaying, ek_TooLittle_NoSum, ek_TooLittle_TooMany, ek_TooLittle_NoChange, ek_TooLittle_TooLittle, cx_TooMany, ⟨e1_TooMany, e2_TooMany, e3_TooMany, e4_TooMany, e5_TooMany, fun z => by rw [z] at e6_TooMany; cases e6_TooMany⟩, et_TooMany, ev_TooMany, et_TooMany_TooMany, et_TooMany_NoChange, ek_TooMany_PayError, ek_TooMany_NoCoins, ek_TooMany_NoPaying, ek_TooMany_NoSum, ek_TooMany_TooMany, ek_TooMany_NoChange, ek_TooMany_TooLittle, cx_NoChange, ⟨e1_NoChange, e2_NoChange, e3_NoChange, e4_NoChange, e5_NoChange, fun z => by rw [z] at e6_NoChange; cases e6_NoChange⟩, et_NoChange, ev_NoChange, et_NoChange_TooMany, et_NoChange_NoChange, ek_NoChange_PayError, ek_NoChange_NoCoins, ek_NoChange_NoPaying, ek_NoChange_NoSum, ek_NoChange_TooMany, ek_NoChange_NoChange, ek_NoChange_TooLittle⟩
  obtain ⟨OW, hOW⟩ : ∃ O : Owns K mg, O.a_Till = C_Till := ⟨⟨C_Till, PySem.W.mg_of X GN oa_Till, ⟨o1_Till, o2_Till, o3_Till, o4_Till⟩, on_Till_coins, on_Till_counts⟩, rfl⟩
  subst hOW
  have F0 := fun_mk (st := s_is_number) l0 c0 k0
  have b0 := F0.binds (ps := ["thing"]) fun _ _ _ _ _ _ us hl => by obtain ⟨u0, rfl⟩ := len_1 hl; rfl
  have F1 := fun_mk (st := s_is_coin) l1 c1 k1
  have b1 := F1.binds (ps := ["thing"]) fun _ _ _ _ _ _ us hl => by obtain ⟨u0, rfl⟩ := len_1 hl; rfl
  have F2 := fun_mk (st := s_check_coins) l2 c2 k2
  have b2 := F2.binds (ps := ["coins"]) fun _ _ _ _ _ _ us hl => by obtain ⟨u0, rfl⟩ := len_1 hl; rfl
  have F3 := fun_mk (st := s_check_paying) l3 c3 k3
  have b3 := F3.binds (ps := ["coins", "paying"]) fun _ _ _ _ _ _ us hl => by obtain ⟨u0, u1, rfl⟩ := len_2 hl; rfl
  have F4 := fun_mk (st := s_check_sum_from) l4 c4 k4
  have b4 := F4.binds (ps := ["least", "amount"]) fun _ _ _ _ _ _ us hl => by obtain ⟨u0, u1, rfl⟩ := len_2 hl; rfl
  have F5 := fun_mk (st := s_check_listed) l5 c5 k5
  have b5 := F5.binds (ps := ["amount"]) fun _ _ _ _ _ _ us hl => by obtain ⟨u0, rfl⟩ := len_1 hl; rfl
  have F6 := fun_mk (st := s_sum_paid) l6 c6 k6
  have b6 := F6.binds (ps := ["coins", "paying"]) fun _ _ _ _ _ _ us hl => by obtain ⟨u0, u1, rfl⟩ := len_2 hl; rfl
  have F7 := fun_mk (st := s_check_counts) l7 c7 k7
  have b7 := F7.binds (ps := ["coins", "counts"]) fun _ _ _ _ _ _ us hl => by obtain ⟨u0, u1, rfl⟩ := len_2 hl; rfl
  have F8 := fun_mk (st := s_held_paying) l8 c8 k8
  have b8 := F8.binds (ps := ["coins", "counts", "amount"]) fun _ _ _ _ _ _ us hl => by obtain ⟨u0, u1, u2, rfl⟩ := len_3 hl; rfl
  have F9 := fun_mk (st := s_bundles_of) l9 c9 k9
  have b9 := F9.binds (ps := ["counts"]) fun _ _ _ _ _ _ us hl => by obtain ⟨u0, rfl⟩ := len_1 hl; rfl
  have F10 := fun_mk (st := s_fewest_tables) l10 c10 k10
  have b10 := F10.binds (ps := ["coins", "bundles", "amount"]) fun _ _ _ _ _ _ us hl => by obtain ⟨u0, u1, u2, rfl⟩ := len_3 hl; rfl
  have F11 := fun_mk (st := s_with_bundle) l11 c11 k11
  have b11 := F11.binds (ps := ["numbers", "times", "worth"]) fun _ _ _ _ _ _ us hl => by obtain ⟨u0, u1, u2, rfl⟩ := len_3 hl; rfl
  have F12 := fun_mk (st := s_counts_with) l12 c12 k12
  have b12 := F12.binds (ps := ["counts", "paying"]) fun _ _ _ _ _ _ us hl => by obtain ⟨u0, u1, rfl⟩ := len_2 hl; rfl
  have F13 := fun_mk (st := s__law_cell) l13 c13 k13
  have b13 := F13.binds (ps := ["_law_script", "_law_k"]) fun _ _ _ _ _ _ us hl => by obtain ⟨u0, u1, rfl⟩ := len_2 hl; rfl
  have F14 := fun_mk (st := s__law_whole) l14 c14 k14
  have b14 := F14.binds (ps := ["_law_found"]) fun _ _ _ _ _ _ us hl => by obtain ⟨u0, rfl⟩ := len_1 hl; rfl
  have F15 := fun_mk (st := s__law_mix) l15 c15 k15
  have b15 := F15.binds (ps := ["_law_cell_here", "_law_by"]) fun _ _ _ _ _ _ us hl => by obtain ⟨u0, u1, rfl⟩ := len_2 hl; rfl
  have F16 := fun_mk (st := s__law_some) l16 c16 k16
  have b16 := F16.binds (ps := ["_law_script", "_law_start", "_law_most", "_law_far"]) fun _ _ _ _ _ _ us hl => by obtain ⟨u0, u1, u2, u3, rfl⟩ := len_4 hl; rfl
  have F17 := fun_mk (st := s__law_least) l17 c17 k17
  have b17 := F17.binds (ps := ["_law_coins", "_law_counts", "_law_amount_here"]) fun _ _ _ _ _ _ us hl => by obtain ⟨u0, u1, u2, rfl⟩ := len_3 hl; rfl
  have F18 := fun_mk (st := s__law_good) l18 c18 k18
  have b18 := F18.binds (ps := ["_law_found", "_law_coins", "_law_counts", "_law_amount_here", "_law_number"]) fun _ _ _ _ _ _ us hl => by obtain ⟨u0, u1, u2, u3, u4, rfl⟩ := len_5 hl; rfl
  have F19 := fun_mk (st := s__law_kept) l19 c19 k19
  have b19 := F19.binds (ps := ["_law_till", "_law_coins", "_law_counts"]) fun _ _ _ _ _ _ us hl => by obtain ⟨u0, u1, u2, rfl⟩ := len_3 hl; rfl
  have F20 := fun_mk (st := s__law_put) l20 c20 k20
  have b20 := F20.binds (ps := ["_law_till", "_law_counts", "_law_cell_here"]) fun _ _ _ _ _ _ us hl => by obtain ⟨u0, u1, u2, rfl⟩ := len_3 hl; rfl
  have F21 := fun_mk (st := s__law_amount) l21 c21 k21
  have b21 := F21.binds (ps := ["_law_coins", "_law_counts", "_law_cell_here", "_law_most"]) fun _ _ _ _ _ _ us hl => by obtain ⟨u0, u1, u2, u3, rfl⟩ := len_4 hl; rfl
  have F22 := fun_mk (st := s__law_less) l22 c22 k22
  have b22 := F22.binds (ps := ["_law_found", "_law_coins", "_law_counts", "_law_amount_here", "_law_number"]) fun _ _ _ _ _ _ us hl => by obtain ⟨u0, u1, u2, u3, u4, rfl⟩ := len_5 hl; rfl
  have F23 := fun_mk (st := s__law_give) l23 c23 k23
  have b23 := F23.binds (ps := ["_law_till", "_law_coins", "_law_counts", "_law_cell_here", "_law_most"]) fun _ _ _ _ _ _ us hl => by obtain ⟨u0, u1, u2, u3, u4, rfl⟩ := len_5 hl; rfl
  have F24 := fun_mk (st := s__law_sale) l24 c24 k24
  have b24 := F24.binds (ps := ["_law_till", "_law_coins", "_law_counts", "_law_cell_here", "_law_most"]) fun _ _ _ _ _ _ us hl => by obtain ⟨u0, u1, u2, u3, u4, rfl⟩ := len_5 hl; rfl
  have F25 := fun_mk (st := s__law_done) l25 c25 k25
  have b25 := F25.binds (ps := ["_law_till", "_law_coins", "_law_counts", "_law_cell_here", "_law_most"]) fun _ _ _ _ _ _ us hl => by obtain ⟨u0, u1, u2, u3, u4, rfl⟩ := len_5 hl; rfl
  have F26 := fun_mk (st := s_law) l26 c26 k26
  have F27 := fun_mk (st := s_Till___init__) l27 c27 k27
  have b27 := F27.binds (ps := ["self", "coins", "counts"]) fun _ _ _ _ _ _ us hl => by obtain ⟨u0, u1, u2, rfl⟩ := len_3 hl; rfl
  have F28 := fun_mk (st := s_Till_held) l28 c28 k28
  have b28 := F28.binds (ps := ["self"]) fun _ _ _ _ _ _ us hl => by obtain ⟨u0, rfl⟩ := len_1 hl; rfl
  have F29 := fun_mk (st := s_Till_worth) l29 c29 k29
  have b29 := F29.binds (ps := ["self"]) fun _ _ _ _ _ _ us hl => by obtain ⟨u0, rfl⟩ := len_1 hl; rfl
  have F30 := fun_mk (st := s_Till_put) l30 c30 k30
  have b30 := F30.binds (ps := ["self", "paying"]) fun _ _ _ _ _ _ us hl => by obtain ⟨u0, u1, rfl⟩ := len_2 hl; rfl
  have F31 := fun_mk (st := s_Till_give) l31 c31 k31
  have b31 := F31.binds (ps := ["self", "amount"]) fun _ _ _ _ _ _ us hl => by obtain ⟨u0, u1, rfl⟩ := len_2 hl; rfl
  have F32 := fun_mk (st := s_Till_sale) l32 c32 k32
  have b32 := F32.binds (ps := ["self", "price", "paying"]) fun _ _ _ _ _ _ us hl => by obtain ⟨u0, u1, u2, rfl⟩ := len_3 hl; rfl
  have F33 := fun_mk (st := s_Till_give_of) l33 c33 k33
  have b33 := F33.binds (ps := ["self", "counts", "amount"]) fun _ _ _ _ _ _ us hl => by obtain ⟨u0, u1, u2, rfl⟩ := len_3 hl; rfl
  refine ⟨PySem.W.fnOf "law" "law" (defArgs s_law) (defBody s_law) (defScope s_law) .none kV26 dc26 pm26 an26 cd26 ct26, fun s v => .of_eq rfl, fun base _ _ => ?_⟩
  have g__law_mix : G l.prog w K mg base (CX1 l.prog w) "_law_mix" _ _ _ := ⟨_, _, PySem.W.mg_of X GN a15, k15, b15, ok__law_mix F15 ER OW⟩
  have g__law_cell : G l.prog w K mg base (CX1 l.prog w) "_law_cell" _ _ _ := ⟨_, _, PySem.W.mg_of X GN a13, k13, b13, ok__law_cell F13 B ER OW⟩
  have g__law_some : G l.prog w K mg base (CX1 l.prog w) "_law_some" _ _ _ := ⟨_, _, PySem.W.mg_of X GN a16, k16, b16, ok__law_some F16 B ER OW g__law_cell g__law_mix⟩
  have g_Till_held : GM l.prog w K mg base (CX1 l.prog w) OW.a_Till "held" _ _ _ := ⟨⟨o1_Till, o2_Till, o3_Till, o4_Till⟩, _, _, ⟨a28, i28, k28⟩, b28, ok_Till_held F28 B ER OW⟩
  have g_is_number : G l.prog w K mg base (CX1 l.prog w) "is_number" _ _ _ := ⟨_, _, PySem.W.mg_of X GN a0, k0, b0, ok_is_number F0 B ER OW⟩
  have g_is_coin : G l.prog w K mg base (CX1 l.prog w) "is_coin" _ _ _ := ⟨_, _, PySem.W.mg_of X GN a1, k1, b1, ok_is_coin F1 ER OW mc_GREATEST_COIN g_is_number⟩
  have g_check_coins : G l.prog w K mg base (CX1 l.prog w) "check_coins" _ _ _ := ⟨_, _, PySem.W.mg_of X GN a2, k2, b2, ok_check_coins F2 B ER OW mc_MOST_COINS g_is_coin⟩
  have g_check_paying : G l.prog w K mg base (CX1 l.prog w) "check_paying" _ _ _ := ⟨_, _, PySem.W.mg_of X GN a3, k3, b3, ok_check_paying F3 B ER OW g_is_number⟩
  have g_check_counts : G l.prog w K mg base (CX1 l.prog w) "check_counts" _ _ _ := ⟨_, _, PySem.W.mg_of X GN a7, k7, b7, ok_check_counts F7 B ER OW mc_MOST_HELD g_check_paying⟩
  have g_Till___init__ : GC l.prog w K mg base (CX1 l.prog w) OW.a_Till "Till" _ _ _ := ⟨_, _, ⟨o5_Till, a27, i27, o6_Till⟩, PySem.W.mg_of X GN oa_Till, b27, ok_Till___init__ F27 B ER OW g_check_coins g_check_counts⟩
  have g__law_least : G l.prog w K mg base (CX1 l.prog w) "_law_least" _ _ _ := ⟨_, _, PySem.W.mg_of X GN a17, k17, b17, ok__law_least F17 B ER OW⟩
  have g_check_sum_from : G l.prog w K mg base (CX1 l.prog w) "check_sum_from" _ _ _ := ⟨_, _, PySem.W.mg_of X GN a4, k4, b4, ok_check_sum_from F4 ER OW g_is_number⟩
  have g_counts_with : G l.prog w K mg base (CX1 l.prog w) "counts_with" _ _ _ := ⟨_, _, PySem.W.mg_of X GN a12, k12, b12, ok_counts_with F12 B ER OW mc_MOST_HELD⟩
  have g_check_listed : G l.prog w K mg base (CX1 l.prog w) "check_listed" _ _ _ := ⟨_, _, PySem.W.mg_of X GN a5, k5, b5, ok_check_listed F5 ER OW mc_GREATEST_LISTED_SUM⟩
  have g_bundles_of : G l.prog w K mg base (CX1 l.prog w) "bundles_of" _ _ _ := ⟨_, _, PySem.W.mg_of X GN a9, k9, b9, ok_bundles_of F9 B ER OW⟩
  have g_with_bundle : G l.prog w K mg base (CX1 l.prog w) "with_bundle" _ _ _ := ⟨_, _, PySem.W.mg_of X GN a11, k11, b11, ok_with_bundle F11 B ER OW⟩
  have g_fewest_tables : G l.prog w K mg base (CX1 l.prog w) "fewest_tables" _ _ _ := ⟨_, _, PySem.W.mg_of X GN a10, k10, b10, ok_fewest_tables F10 ER OW mc_UNPAID g_with_bundle⟩
  have g_held_paying : G l.prog w K mg base (CX1 l.prog w) "held_paying" _ _ _ := ⟨_, _, PySem.W.mg_of X GN a8, k8, b8, ok_held_paying F8 B ER OW mc_UNPAID g_bundles_of g_fewest_tables⟩
  have g_Till_give_of : GM l.prog w K mg base (CX1 l.prog w) OW.a_Till "give_of" _ _ _ := ⟨⟨o1_Till, o2_Till, o3_Till, o4_Till⟩, _, _, ⟨a33, i33, k33⟩, b33, ok_Till_give_of F33 B ER OW g_held_paying⟩
  have g_sum_paid : G l.prog w K mg base (CX1 l.prog w) "sum_paid" _ _ _ := ⟨_, _, PySem.W.mg_of X GN a6, k6, b6, ok_sum_paid F6 B ER OW g_check_coins g_check_paying⟩
  have g_Till_sale : GM l.prog w K mg base (CX1 l.prog w) OW.a_Till "sale" _ _ _ := ⟨⟨o1_Till, o2_Till, o3_Till, o4_Till⟩, _, _, ⟨a32, i32, k32⟩, b32, ok_Till_sale F32 ER OW g_Till_give_of g_check_sum_from g_check_listed g_sum_paid g_counts_with⟩
  have g__law_whole : G l.prog w K mg base (CX1 l.prog w) "_law_whole" _ _ _ := ⟨_, _, PySem.W.mg_of X GN a14, k14, b14, ok__law_whole F14 B ER OW⟩
  have g__law_good : G l.prog w K mg base (CX1 l.prog w) "_law_good" _ _ _ := ⟨_, _, PySem.W.mg_of X GN a18, k18, b18, ok__law_good F18 B ER OW g__law_whole⟩
  have g__law_less : G l.prog w K mg base (CX1 l.prog w) "_law_less" _ _ _ := ⟨_, _, PySem.W.mg_of X GN a22, k22, b22, ok__law_less F22 B ER OW g__law_good⟩
  have g__law_sale : G l.prog w K mg base (CX1 l.prog w) "_law_sale" _ _ _ := ⟨_, _, PySem.W.mg_of X GN a24, k24, b24, ok__law_sale F24 B ER OW g_Till_sale g__law_least g__law_less⟩
  have g_Till_put : GM l.prog w K mg base (CX1 l.prog w) OW.a_Till "put" _ _ _ := ⟨⟨o1_Till, o2_Till, o3_Till, o4_Till⟩, _, _, ⟨a30, i30, k30⟩, b30, ok_Till_put F30 ER OW g_check_paying g_counts_with⟩
  have g__law_put : G l.prog w K mg base (CX1 l.prog w) "_law_put" _ _ _ := ⟨_, _, PySem.W.mg_of X GN a20, k20, b20, ok__law_put F20 B ER OW g_Till_put⟩
  have g__law_amount : G l.prog w K mg base (CX1 l.prog w) "_law_amount" _ _ _ := ⟨_, _, PySem.W.mg_of X GN a21, k21, b21, ok__law_amount F21 B ER OW⟩
  have g_Till_give : GM l.prog w K mg base (CX1 l.prog w) OW.a_Till "give" _ _ _ := ⟨⟨o1_Till, o2_Till, o3_Till, o4_Till⟩, _, _, ⟨a31, i31, k31⟩, b31, ok_Till_give F31 ER OW g_Till_give_of g_check_sum_from g_check_listed⟩
  have g__law_give : G l.prog w K mg base (CX1 l.prog w) "_law_give" _ _ _ := ⟨_, _, PySem.W.mg_of X GN a23, k23, b23, ok__law_give F23 ER OW g_Till_give g__law_least g__law_amount g__law_less⟩
  have g__law_done : G l.prog w K mg base (CX1 l.prog w) "_law_done" _ _ _ := ⟨_, _, PySem.W.mg_of X GN a25, k25, b25, ok__law_done F25 ER OW g__law_put g__law_give g__law_sale⟩
  have g_Till_worth : GM l.prog w K mg base (CX1 l.prog w) OW.a_Till "worth" _ _ _ := ⟨⟨o1_Till, o2_Till, o3_Till, o4_Till⟩, _, _, ⟨a29, i29, k29⟩, b29, ok_Till_worth F29 ER OW g_sum_paid⟩
  have g__law_kept : G l.prog w K mg base (CX1 l.prog w) "_law_kept" _ _ _ := ⟨_, _, PySem.W.mg_of X GN a19, k19, b19, ok__law_kept F19 B ER OW g_Till_held g_Till_worth g__law_whole⟩
  exact ok_law F26 B ER OW g_Till___init__ g_Till_held g__law_cell g__law_mix g__law_some g__law_kept g__law_done
theorem walk {l : PySem.W.OpenLaw} {q : Program} {loose : List Str} {XP : (Str → Option Value) → Heap → Prop} {YP : World → Heap → Prop} {d : DefRec} {K : Params → PySem.W.Frag} (hn : l.most = some 63) (hdf : d.params.defaults = [])
    (hY : ∀ (w : World) (h : Heap), YP w h → (K w.params).In h)
    (F : ∀ (w : World) (mg : Str → Option Value) (fa : Addr) (h : Heap), (K w.params).In h → h.Ns mainGlobals mg → mg d.name = some (.ref fa) →
      ∃ fd : FuncData, (∀ (s : Shared) (u : Value), BindsTo s fd ⟨[u], []⟩ [("_law_script", u)]) ∧ ∀ base : Heap, (K w.params).In base → base.Ns mainGlobals mg → FnOk l.prog w (K w.params) mg base (CX1 l.prog w) 8 fa fd ["_law_script"] (sLaw (K w.params))) :
    PySem.W.WalkO q loose XP YP l.row.toRowW d [] (fun f vs => PySem.call f vs) :=
  L2.walk_of (n := 63) (k := 8) (x := "_law_script") (CX := fun w => CX1 l.prog w) (sp := fun w => sLaw (K w.params)) hn (by decide) hdf ⟨rfl, by decide, by decide⟩ hY F (fun _ _ a ns hl _ hS => ⟨ns, hS, hl, fun _ => rfl⟩) fun _ _ _ _ _ z => by obtain ⟨_, _, _, _, _, _, _, _, _, _, _, _, _, h⟩ := z; exact h
end PG
open PySem PySem.W PyProof.Rows
set_option maxRecDepth 100000 in
set_option maxHeartbeats 0 in
theorem PySem.W.Fast.tw17764175578185587678 : True := trivial
theorem PySem.W.Fast.tw13576528592187559357 : True := trivial
theorem PySem.W.Fast.tw1666892787888376870 : True := trivial
theorem PySem.W.Fast.tw11494068072102891603 : True := trivial
theorem PySem.W.Fast.tw6566941521661332708 : True := trivial
theorem PySem.W.Fast.tw13342506978075159042 : True := trivial
theorem PySem.W.Fast.tw6310229459200999106 : True := trivial
theorem PySem.Challenge.cw_paygaps_k72_a_till_holds : PySem.Challenge.rw_paygaps_k72_a_till.Holds := by
  w_on; o_law; k_head; (case hw => w_witness2)
  k_fill
  refine PG.walk (l := PySem.Challenge.rw_paygaps_k72_a_till) rfl rfl (fun w h Y => PySem.W.kIn_of Y) ?F
  case F =>
    intro w mg fa h KX G hmg
    refine' PG.all_mk KX G hmg ?a0 ?l0 ?c0 ?k0 ?a1 ?l1 ?c1 ?k1 ?a2 ?l2 ?c2 ?k2 ?a3 ?l3 ?c3 ?k3 ?a4 ?l4 ?c4 ?k4 ?a5 ?l5 ?c5 ?k5 ?a6 ?l6 ?c6 ?k6 ?a7 ?l7 ?c7 ?k7 ?a8 ?l8 ?c8 ?k8 ?a9 ?l9 ?c9 ?k9 ?a10 ?l10 ?c10 ?k10 ?a11 ?l11 ?c11 ?k11 ?a12 ?l12 ?c12 ?k12 ?a13 ?l13 ?c13 ?k13 ?a14 ?l14 ?c14 ?k14 ?a15 ?l15 ?c15 ?k15 ?a16 ?l16 ?c16 ?k16 ?a17 ?l17 ?c17 ?k17 ?a18 ?l18 ?c18 ?k18 ?a19 ?l19 ?c19 ?k19 ?a20 ?l20 ?c20 ?k20 ?a21 ?l21 ?c21 ?k21 ?a22 ?l22 ?c22 ?k22 ?a23 ?l23 ?c23 ?k23 ?a24 ?l24 ?c24 ?k24 ?a25 ?l25 ?c25 ?k25 ?a26 ?l26 ?c26 ?k26 ?a27 ?l27 ?c27 ?k27 ?i27 ?a28 ?l28 ?c28 ?k28 ?i28 ?a29 ?l29 ?c29 ?k29 ?i29 ?a30 ?l30 ?c30 ?k30 ?i30 ?a31 ?l31 ?c31 ?k31 ?i31 ?a32 ?l32 ?c32 ?k32 ?i32 ?a33 ?l33 ?c33 ?k33 ?i33 ?m0 ?m1 ?m2 ?m3 ?m4 ?ca_PayError ?ca_NoCoins ?ca_NoPaying ?ca_NoSum ?ca_TooMany ?ca_NoChange ?ca_TooLittle ?cx_TooLittle ?e1_TooLittle ?e2_TooLittle ?e3_TooLittle ?e4_TooLittle ?e5_TooLittle ?e6_TooLittle ?et_TooLittle ?ev_TooLittle ?et_TooLittle_TooMany ?et_TooLittle_NoChange ?ek_TooLittle_PayError ?ek_TooLittle_NoCoins ?ek_TooLittle_NoPaying ?ek_TooLittle_NoSum ?ek_TooLittle_TooMany ?ek_TooLittle_NoChange ?ek_TooLittle_TooLittle ?cx_TooMany ?e1_TooMany ?e2_TooMany ?e3_TooMany ?e4_TooMany ?e5_TooMany ?e6_TooMany ?et_TooMany ?ev_TooMany ?et_TooMany_TooMany ?et_TooMany_NoChange ?ek_TooMany_PayError ?ek_TooMany_NoCoins ?ek_TooMany_NoPaying ?ek_TooMany_NoSum ?ek_TooMany_TooMany ?ek_TooMany_NoChange ?ek_TooMany_TooLittle ?cx_NoChange ?e1_NoChange ?e2_NoChange ?e3_NoChange ?e4_NoChange ?e5_NoChange ?e6_NoChange ?et_NoChange ?ev_NoChange ?et_NoChange_TooMany ?et_NoChange_NoChange ?ek_NoChange_PayError ?ek_NoChange_NoCoins ?ek_NoChange_NoPaying ?ek_NoChange_NoSum ?ek_NoChange_TooMany ?ek_NoChange_NoChange ?ek_NoChange_TooLittle ?oa_Till ?o1_Till ?o2_Till ?o3_Till ?o4_Till ?o5_Till ?o6_Till ?on_Till_coins ?on_Till_counts ?z0 ?z1 ?z2 ?z3 ?z4 ?z5 ?z6 ?z7 ?z8 ?z9 ?z10 ?z11 ?z12 ?z13 ?z14 ?z15 ?z16 ?z17 ?z18 ?z19 ?z20
    (case oa_Till => k_is)
    (case a0 => k_is)
    (case l0 => k_is)
    (case c0 => k_is)
    (case k0 => k_is)
    (case a1 => k_is)
    (case l1 => k_is)
    (case c1 => k_is)
    (case k1 => k_is)
    (case a2 => k_is)
    (case l2 => k_is)
    (case c2 => k_is)
    (case k2 => k_is)
    (case a3 => k_is)
    (case l3 => k_is)
    (case c3 => k_is)
    (case k3 => k_is)
    (case a4 => k_is)
    (case l4 => k_is)
    (case c4 => k_is)
    (case k4 => k_is)
    (case a5 => k_is)
    (case l5 => k_is)
    (case c5 => k_is)
    (case k5 => k_is)
    (case a6 => k_is)
    (case l6 => k_is)
    (case c6 => k_is)
    (case k6 => k_is)
    (case a7 => k_is)
    (case l7 => k_is)
    (case c7 => k_is)
    (case k7 => k_is)
    (case a8 => k_is)
    (case l8 => k_is)
    (case c8 => k_is)
    (case k8 => k_is)
    (case a9 => k_is)
    (case l9 => k_is)
    (case c9 => k_is)
    (case k9 => k_is)
    (case a10 => k_is)
    (case l10 => k_is)
    (case c10 => k_is)
    (case k10 => k_is)
    (case a11 => k_is)
    (case l11 => k_is)
    (case c11 => k_is)
    (case k11 => k_is)
    (case a12 => k_is)
    (case l12 => k_is)
    (case c12 => k_is)
    (case k12 => k_is)
    (case a13 => k_is)
    (case l13 => k_is)
    (case c13 => k_is)
    (case k13 => k_is)
    (case a14 => k_is)
    (case l14 => k_is)
    (case c14 => k_is)
    (case k14 => k_is)
    (case a15 => k_is)
    (case l15 => k_is)
    (case c15 => k_is)
    (case k15 => k_is)
    (case a16 => k_is)
    (case l16 => k_is)
    (case c16 => k_is)
    (case k16 => k_is)
    (case a17 => k_is)
    (case l17 => k_is)
    (case c17 => k_is)
    (case k17 => k_is)
    (case a18 => k_is)
    (case l18 => k_is)
    (case c18 => k_is)
    (case k18 => k_is)
    (case a19 => k_is)
    (case l19 => k_is)
    (case c19 => k_is)
    (case k19 => k_is)
    (case a20 => k_is)
    (case l20 => k_is)
    (case c20 => k_is)
    (case k20 => k_is)
    (case a21 => k_is)
    (case l21 => k_is)
    (case c21 => k_is)
    (case k21 => k_is)
    (case a22 => k_is)
    (case l22 => k_is)
    (case c22 => k_is)
    (case k22 => k_is)
    (case a23 => k_is)
    (case l23 => k_is)
    (case c23 => k_is)
    (case k23 => k_is)
    (case a24 => k_is)
    (case l24 => k_is)
    (case c24 => k_is)
    (case k24 => k_is)
    (case a25 => k_is)
    (case l25 => k_is)
    (case c25 => k_is)
    (case k25 => k_is)
    (case a26 => k_is)
    (case l26 => k_is)
    (case c26 => k_is)
    (case k26 => k_is)
    (case a27 => k_is)
    (case l27 => k_is)
    (case c27 => k_is)
    (case k27 => k_is)
    (case i27 => k_is)
    (case a28 => k_is)
    (case l28 => k_is)
    (case c28 => k_is)
    (case k28 => k_is)
    (case i28 => k_is)
    (case a29 => k_is)
    (case l29 => k_is)
    (case c29 => k_is)
    (case k29 => k_is)
    (case i29 => k_is)
    (case a30 => k_is)
    (case l30 => k_is)
    (case c30 => k_is)
    (case k30 => k_is)
    (case i30 => k_is)
    (case a31 => k_is)
    (case l31 => k_is)
    (case c31 => k_is)
    (case k31 => k_is)
    (case i31 => k_is)
    (case a32 => k_is)
    (case l32 => k_is)
    (case c32 => k_is)
    (case k32 => k_is)
    (case i32 => k_is)
    (case a33 => k_is)
    (case l33 => k_is)
    (case c33 => k_is)
    (case k33 => k_is)
    (case i33 => k_is)
    (case m0 => k_is)
    (case m1 => k_is)
    (case m2 => k_is)
    (case m3 => k_is)
    (case m4 => k_is)
    (case ca_PayError => k_is)
    (case ca_NoCoins => k_is)
    (case ca_NoPaying => k_is)
    (case ca_NoSum => k_is)
    (case ca_TooMany => k_is)
    (case ca_NoChange => k_is)
    (case ca_TooLittle => k_is)
    (case cx_TooLittle => k_exc)
    (case e1_TooLittle => k_is)
    (case e2_TooLittle => k_is)
    (case e3_TooLittle => k_is)
    (case e4_TooLittle => k_is)
    (case e5_TooLittle => k_is)
    (case e6_TooLittle => k_is)
    (case et_TooLittle => kts_exm)
    (case ev_TooLittle => kit_is)
    (case et_TooLittle_TooMany => kts_exm)
    (case et_TooLittle_NoChange => kts_exm)
    (case ek_TooLittle_PayError => kit_is)
    (case ek_TooLittle_NoCoins => kit_is)
    (case ek_TooLittle_NoPaying => kit_is)
    (case ek_TooLittle_NoSum => kit_is)
    (case ek_TooLittle_TooMany => kit_is)
    (case ek_TooLittle_NoChange => kit_is)
    (case ek_TooLittle_TooLittle => kit_is)
    (case cx_TooMany => k_exc)
    (case e1_TooMany => k_is)
    (case e2_TooMany => k_is)
    (case e3_TooMany => k_is)
    (case e4_TooMany => k_is)
    (case e5_TooMany => k_is)
    (case e6_TooMany => k_is)
    (case et_TooMany => kts_exm)
    (case ev_TooMany => kit_is)
    (case et_TooMany_TooMany => kts_exm)
    (case et_TooMany_NoChange => kts_exm)
    (case ek_TooMany_PayError => kit_is)
    (case ek_TooMany_NoCoins => kit_is)
    (case ek_TooMany_NoPaying => kit_is)
    (case ek_TooMany_NoSum => kit_is)
    (case ek_TooMany_TooMany => kit_is)
    (case ek_TooMany_NoChange => kit_is)
    (case ek_TooMany_TooLittle => kit_is)
    (case cx_NoChange => k_exc)
    (case e1_NoChange => k_is)
    (case e2_NoChange => k_is)
    (case e3_NoChange => k_is)
    (case e4_NoChange => k_is)
    (case e5_NoChange => k_is)
    (case e6_NoChange => k_is)
    (case et_NoChange => kts_exm)
    (case ev_NoChange => kit_is)
    (case et_NoChange_TooMany => kts_exm)
    (case et_NoChange_NoChange => kts_exm)
    (case ek_NoChange_PayError => kit_is)
    (case ek_NoChange_NoCoins => kit_is)
    (case ek_NoChange_NoPaying => kit_is)
    (case ek_NoChange_NoSum => kit_is)
    (case ek_NoChange_TooMany => kit_is)
    (case ek_NoChange_NoChange => kit_is)
    (case ek_NoChange_TooLittle => kit_is)
    (case o1_Till => k_is)
    (case o2_Till => k_is)
    (case o3_Till => k_is)
    (case o4_Till => k_is)
    (case o5_Till => k_is)
    (case o6_Till => k_is)
    (case on_Till_coins => k_is)
    (case on_Till_counts => k_is)
    (case z0 => k_is)
    (case z1 => k_is)
    (case z2 => k_is)
    (case z3 => k_is)
    (case z4 => k_is)
    (case z5 => k_is)
    (case z6 => k_is)
    (case z7 => k_is)
    (case z8 => k_is)
    (case z9 => k_is)
    (case z10 => k_is)
    (case z11 => k_is)
    (case z12 => k_is)
    (case z13 => k_is)
    (case z14 => k_is)
    (case z15 => k_is)
    (case z16 => k_is)
    (case z17 => k_is)
    (case z18 => k_is)
    (case z19 => k_is)
    (case z20 => k_is)
