import PyProof.Rows.All
import Wide.All
import OpenK.AllK
import Wide.FinOn
import Lean
import PyProof.EqAt
import PyProof.EqKinds
import PyProof.TupleCall
import KE.KTryMore
import KE.KRevSl
import KE.KRevIter
import KE.RegKIsAll
import KE.RegKTryMore
import PySem.Challenge.RW_paygaps_k61_parents_and_children
set_option Elab.async false
set_option linter.all false
set_option maxRecDepth 100000
noncomputable abbrev FrK := PySem.W.Frag
namespace L2
open PySem PySem.Spec PyProof.Rows
noncomputable abbrev Key := Sum Int Str
noncomputable def keyIs : Key → Value → Bool
 | .inl k, v => Value.isInt k v
 | .inr x, v => Value.isStrOf x v
noncomputable def keyH (w : World) : Key → Int
 | .inl k => hashInt k
 | .inr x => hashStr w x
theorem keyIs_shape : ∀ {k : Key} {v : Value}, keyIs k v = true → (∃ i t, k = Sum.inl i ∧ v = Value.int i t) ∨ (∃ x t, k = Sum.inr x ∧ v = Value.str x t)
 | .inl i, v, h => by
  obtain ⟨t, e⟩ := Value.isInt_shape (k := i) (v := v) h
  exact .inl ⟨i, t, rfl, e⟩
 | .inr x, v, h => by
  obtain ⟨t, e⟩ := Value.isStrOf_shape (x := x) (v := v) h
  exact .inr ⟨x, t, rfl, e⟩
theorem keyIs_int (i : Int) (t : Tok) : keyIs (.inl i) (.int i t) = true := by simp [keyIs, Value.isInt]
theorem keyIs_str (x : Str) (t : Tok) : keyIs (.inr x) (.str x t) = true := by simp [keyIs, Value.isStrOf]
theorem key_ll (a b : Int) : decide ((Sum.inl a : Key) = Sum.inl b) = (a == b) := by
 by_cases e : a = b
 ·subst e; simp
 ·have h : ¬ (Sum.inl a : Key) = Sum.inl b := fun q => e (Sum.inl.inj q)
  rw [decide_eq_false h]
  exact (beq_eq_false_iff_ne.mpr e).symm
theorem key_rr (a b : Str) : decide ((Sum.inr a : Key) = Sum.inr b) = decide (a = b) := by
 by_cases e : a = b
 ·subst e; simp
 ·have h : ¬ (Sum.inr a : Key) = Sum.inr b := fun q => e (Sum.inr.inj q)
  rw [decide_eq_false h, decide_eq_false e]
theorem key_lr (a : Int) (b : Str) : decide ((Sum.inl a : Key) = Sum.inr b) = false := decide_eq_false (fun q => nomatch q)
theorem key_rl (a : Str) (b : Int) : decide ((Sum.inr a : Key) = Sum.inl b) = false := decide_eq_false (fun q => nomatch q)
noncomputable def mixKind (prog : Program) (w : World) : PySem.KeyKind prog w Key where
 is := keyIs
 hash := keyH w
 inj := fun v a b ha hb => by
  rcases keyIs_shape ha with ⟨i, t, rfl, rfl⟩ | ⟨x, t, rfl, rfl⟩
  ·rcases keyIs_shape hb with ⟨j, u, rfl, e⟩ | ⟨y, u, rfl, e⟩
   ·injection e with e1 _; rw [e1]
   ·exact nomatch e
  ·rcases keyIs_shape hb with ⟨j, u, rfl, e⟩ | ⟨y, u, rfl, e⟩
   ·exact nomatch e
   ·injection e with e1 _; rw [e1]
 byValue := fun k v h => by
  rcases keyIs_shape h with ⟨i, t, rfl, rfl⟩ | ⟨x, t, rfl, rfl⟩ <;> rfl
 pyHash := fun hv h => by
  rcases keyIs_shape hv with ⟨i, t, rfl, rfl⟩ | ⟨x, t, rfl, rfl⟩
  ·exact wpAny_pyHash_int h
  ·exact wpAny_pyHash_str h
 eqBool := fun hu hv h => by
  rcases keyIs_shape hu with ⟨i, t, rfl, rfl⟩ | ⟨x, t, rfl, rfl⟩
  ·rcases keyIs_shape hv with ⟨j, u, rfl, rfl⟩ | ⟨y, u, rfl, rfl⟩
   ·rw [key_ll] at h; exact wpAny_eqBool_int h
   ·rw [key_lr] at h; exact SeqAt.EqAt.int_str i t y u _ _ _ _ h
  ·rcases keyIs_shape hv with ⟨j, u, rfl, rfl⟩ | ⟨y, u, rfl, rfl⟩
   ·rw [key_rl] at h; exact SeqAt.EqAt.str_int x t j u _ _ _ _ h
   ·rw [key_rr] at h; exact wpAny_eqBool_str h
 «strs» := fun k x t v h => by
  rcases keyIs_shape h with ⟨i, u, rfl, e⟩ | ⟨y, u, rfl, e⟩
  ·exact nomatch e
  ·injection e with e1 _
   subst e1
   cases v <;> rfl
theorem mixKind_int (prog : Program) (w : World) (i : Int) (t : Tok) : (mixKind prog w).is (.inl i) (.int i t) = true := keyIs_int i t
theorem mixKind_str (prog : Program) (w : World) (x : Str) (t : Tok) : (mixKind prog w).is (.inr x) (.str x t) = true := keyIs_str x t
end L2
namespace L2
open PySem PySem.Spec PyProof.Rows
inductive V where
 | non | bl (b : Bool) | int (i : Int) | str (x : Str) | byt (b : Array UInt8) | flt (b : UInt64) | ref (a : Addr) | ty (n : String)
 deriving DecidableEq
noncomputable def RelV : V → Value → Prop
 | .non, u => u = Value.none
 | .bl b, u => u = Value.bool b
 | .int i, u => ∃ t, u = Value.int i t
 | .str x, u => ∃ t, u = Value.str x t
 | .byt b, u => ∃ t, u = Value.bytes b t
 | .flt b, u => ∃ t, u = Value.float b t
 | .ref a, u => u = Value.ref a
 | .ty n, u => u = Value.type n
noncomputable abbrev Vals : List V → List Value → Prop := Paired RelV
theorem Vals.length {xs : List V} {us : List Value} (r : Vals xs us) : xs.length = us.length := Paired.length r
theorem Vals.get : ∀ {xs : List V} {us : List Value} {i : Nat} {x : V}, Vals xs us → xs[i]? = some x → ∃ u, us[i]? = some u ∧ RelV x u
 | _, _, _, _, .nil, e => by simp at e
 | _, _, 0, _, .cons r _, e => by simp at e; subst e; exact ⟨_, rfl, r⟩
 | _, _, i + 1, x, .cons _ t, e => by
  obtain ⟨u, h1, h2⟩ := Vals.get (i := i) (x := x) t (by simpa using e)
  exact ⟨u, by simpa using h1, h2⟩
theorem Vals.set {x : V} {u : Value} (r : RelV x u) : ∀ {xs : List V} {us : List Value} (i : Nat), Vals xs us → Vals (xs.set i x) (us.set i u)
 | _, _, _, .nil => .nil
 | _, _, 0, .cons _ t => .cons r t
 | _, _, i + 1, .cons q t => .cons q (Vals.set r i t)
theorem Vals.append : ∀ {xs ys : List V} {us ws : List Value}, Vals xs us → Vals ys ws → Vals (xs ++ ys) (us ++ ws)
 | _, _, _, _, .nil, s => s
 | _, _, _, _, .cons r t, s => .cons r (Vals.append t s)
theorem Vals.take : ∀ {xs : List V} {us : List Value} (n : Nat), Vals xs us → Vals (xs.take n) (us.take n)
 | _, _, 0, _ => .nil
 | _, _, _ + 1, .nil => .nil
 | _, _, n + 1, .cons r t => .cons r (Vals.take n t)
theorem Vals.drop : ∀ {xs : List V} {us : List Value} (n : Nat), Vals xs us → Vals (xs.drop n) (us.drop n)
 | _, _, 0, r => r
 | _, _, _ + 1, .nil => .nil
 | _, _, n + 1, .cons _ t => Vals.drop n t
noncomputable def RelO : Option V → Option Value → Prop
 | some v, some u => RelV v u
 | none, none => True
 | _, _ => False
noncomputable def KV {κ : Type} : List (κ × V) → List (κ × Value) → Prop := Paired fun (p : κ × V) (q : κ × Value) => p.1 = q.1 ∧ RelV p.2 q.2
noncomputable def kV : Key → V
 | .inl i => .int i
 | .inr x => .str x
inductive HO where
 | lst (xs : List V)
 | tup (xs : List V)
 | dK (kvs : List (Key × V)) | dT (kvs : List (List Key × V))
 | set (S : Int → Bool) (n : Nat)
 | ins (C dx : Addr) (fs : List (Str × V))
 | own (x : Addr)
 | xd (fs : List (Str × V))
 | met (f x : Addr)
 | rng (lo hi : Int)
 | frz (o : Obj) (u : HO)
 | tbl (ps : Array Value)
 | ext (φ : Heap → Prop)
noncomputable abbrev Hp := Addr → Option HO
noncomputable def upd (H : Hp) (a : Addr) (o : HO) : Hp := fun b => if b = a then some o else H b
theorem upd_same {H : Hp} {a : Addr} {o : HO} : upd H a o a = some o := by unfold upd; rw [if_pos rfl]
theorem upd_ne {H : Hp} {a b : Addr} {o : HO} (h : b ≠ a) : upd H a o b = H b := by unfold upd; rw [if_neg h]
theorem ne_of_none {H : Hp} {a b : Addr} {o : HO} (h : H a = some o) (h' : H b = none) : a ≠ b := by
 intro e; subst e; rw [h] at h'; cases h'
section
variable (P : Program) (w : World)
noncomputable def ObjOk (H : Hp) (h : Heap) (a : Addr) : HO → Prop
 | .lst xs => xs.length ≤ sizeLine ∧ ∃ (its : List Value) (n : Nat), Vals xs its ∧ h.get? a = some { cls := .type "list", data := .seq its.toArray n }
 | .tup xs => xs.length ≤ sizeLine ∧ ∃ its : List Value, Vals xs its ∧ IsTup h a its.toArray
 | .dK kvs => kvs.length ≤ sizeLine ∧ (a == sysModules) = false ∧ ∃ vs, KV kvs vs ∧ h.DictOf (mixKind P w) a vs
 | .dT kvs => kvs.length ≤ sizeLine ∧ (a == sysModules) = false ∧ ∃ xs : List (List Key × Addr × Value),
   Paired (fun (p : List Key × V) (q : List Key × Addr × Value) => p.1 = q.1 ∧ H q.2.1 = some (.tup (p.1.map kV)) ∧ RelV p.2 q.2.2) kvs xs ∧
   ∃ o es ep, h.get? a = some o ∧ o.ExactDict ∧ o.data = .dict es ep ∧ es.toList = xs.map (entryOfKey (tupleKind (mixKind P w))) ∧ (xs.map (·.1)).Nodup
 | .set S n => h.SetOf (intKind P w) a S n
 | .ins C dx fs => H dx = some (.own a) ∧ fs.length ≤ 1000 ∧ dx ≠ a ∧ h.get? a = some (PySem.W.instObj C dx) ∧
   ∃ mA, h.Ns1 dx mA ∧ (∀ f, RelO (fs.lookup f) (mA f)) ∧ PySem.Within mA (fs.map (·.1))
 | .own _ => ∃ o, h.get? a = some o
 | .xd fs => ∃ mA, h.Ns1 a mA ∧ ∀ f, RelO (fs.lookup f) (mA f)
 | .rng lo hi => ∃ t u v, h.get? a = some { cls := .type "range", data := .fields #[.int lo t, .int hi u, .int 1 v] }
 | .frz o u => h.get? a = some o ∧ ObjOk H h a u
 | .tbl ps => h.get? a = some { cls := .none, data := .fields ps }
 | .met f x => h.get? a = some (PySem.W.methodObj (.ref f) (.ref x))
 | .ext φ => φ h ∧ (∃ o, h.get? a = some o) ∧ ∀ h1 h2 : Heap, φ h1 → (∀ o, h1.get? a = some o → h2.get? a = some o) → φ h2
noncomputable def HOk (H : Hp) (h : Heap) : Prop := ∀ a o, H a = some o → ObjOk P w H h a o
end
section
variable {P : Program} {w : World} {H H' : Hp} {h h' : Heap} {a : Addr} {o : HO}
theorem ObjOk.lt (x : ObjOk P w H h a o) : a < h.objs.size := by
 cases o with
 | lst xs => obtain ⟨_, _, _, _, e⟩ := x; exact Heap.lt_size e
 | tup xs => obtain ⟨_, _, _, p⟩ := x; exact p.lt
 | dK kvs => obtain ⟨_, _, _, _, o, _, _, e, _⟩ := x; exact Heap.lt_size e
 | dT kvs => obtain ⟨_, _, _, _, o, _, _, e, _⟩ := x; exact Heap.lt_size e
 | set S n => obtain ⟨o, _, _, _, e, _⟩ := x; exact Heap.lt_size e
 | ins C dx fs => obtain ⟨_, _, _, e, _⟩ := x; exact Heap.lt_size e
 | own y => obtain ⟨_, e⟩ := x; exact Heap.lt_size e
 | xd fs => obtain ⟨_, ⟨_, _, _, e, _⟩, _⟩ := x; exact Heap.lt_size e
 | rng lo hi => obtain ⟨_, _, _, e⟩ := x; exact Heap.lt_size e
 | frz ob u => obtain ⟨e, _⟩ := x; exact Heap.lt_size e
 | tbl ps => exact Heap.lt_size (show h.get? a = some _ from x)
 | met f y => exact Heap.lt_size (show h.get? a = some _ from x)
 | ext φ => obtain ⟨_, ⟨_, e⟩, _⟩ := x; exact Heap.lt_size e
theorem Paired.mapP {α β : Type} {F G : α → β → Prop} : ∀ {l₁ : List α} {l₂ : List β}, Paired F l₁ l₂ → (∀ a b, F a b → G a b) → Paired G l₁ l₂
 | _, _, .nil, _ => .nil
 | _, _, .cons r t, f => .cons (f _ _ r) (Paired.mapP t f)
theorem ObjOk.stay (x : ObjOk P w H h a o) (k : ∀ b u, (b = a ∨ H b = some (.own a)) → h.get? b = some u → h'.get? b = some u)
  (ho : ∀ b, H b = some (.own a) → H' b = some (.own a)) (ht : ∀ b xs, H b = some (.tup xs) → H' b = some (.tup xs)) : ObjOk P w H' h' a o := by
 induction o with
 | lst xs => obtain ⟨z, its, n, r, e⟩ := x; exact ⟨z, its, n, r, k _ _ (.inl rfl) e⟩
 | tup xs => obtain ⟨z, its, r, ob, e, c⟩ := x; exact ⟨z, its, r, ob, k _ _ (.inl rfl) e, c⟩
 | dK kvs => obtain ⟨z, y, vs, r, ob, es, ep, e, c⟩ := x; exact ⟨z, y, vs, r, ob, es, ep, k _ _ (.inl rfl) e, c⟩
 | dT kvs =>
  obtain ⟨z, y, xs, r, ob, es, ep, e, c⟩ := x
  exact ⟨z, y, xs, Paired.mapP r fun p q z => ⟨z.1, ht _ _ z.2.1, z.2.2⟩, ob, es, ep, k _ _ (.inl rfl) e, c⟩
 | set S n => obtain ⟨ob, es, ep, t, e, c⟩ := x; exact ⟨ob, es, ep, t, k _ _ (.inl rfl) e, c⟩
 | ins C dx fs =>
  obtain ⟨d, z, ne, e, mA, ⟨od, es, ep, e2, c⟩, r⟩ := x
  exact ⟨ho _ d, z, ne, k _ _ (.inl rfl) e, mA, ⟨od, es, ep, k _ _ (.inr d) e2, c⟩, r⟩
 | own y => obtain ⟨ob, e⟩ := x; exact ⟨ob, k _ _ (.inl rfl) e⟩
 | xd fs => obtain ⟨mA, ⟨od, es, ep, e, c⟩, r⟩ := x; exact ⟨mA, ⟨od, es, ep, k _ _ (.inl rfl) e, c⟩, r⟩
 | rng lo hi => obtain ⟨t, u, v, e⟩ := x; exact ⟨t, u, v, k _ _ (.inl rfl) e⟩
 | frz ob u ih => obtain ⟨e, q⟩ := x; exact ⟨k _ _ (.inl rfl) e, ih q⟩
 | tbl ps =>
  have e : h.get? a = some { cls := .none, data := .fields ps } := x
  show h'.get? a = some { cls := .none, data := .fields ps }
  exact k a _ (.inl rfl) e
 | met f y =>
  have e : h.get? a = some (PySem.W.methodObj (.ref f) (.ref y)) := x
  show h'.get? a = some (PySem.W.methodObj (.ref f) (.ref y))
  exact k a _ (.inl rfl) e
 | ext φ => obtain ⟨p, ⟨o, e⟩, st⟩ := x; exact ⟨st _ _ p fun o q => k _ _ (.inl rfl) q, ⟨o, k _ _ (.inl rfl) e⟩, st⟩
theorem HOk.lt (x : HOk P w H h) (e : H a = some o) : a < h.objs.size := (x a o e).lt
theorem HOk.fresh (x : HOk P w H h) (e : h.objs.size ≤ a) : H a = none := by
 cases q : H a with
 | none => rfl
 | some u => exact absurd (Nat.lt_of_lt_of_le (x.lt q) e) (Nat.lt_irrefl _)
theorem HOk.kept (x : HOk P w H h) (k : ∀ b u, h.get? b = some u → h'.get? b = some u) : HOk P w H h' := fun a o e =>
 (x a o e).stay (fun b u _ q => k b u q) (fun _ q => q) fun _ _ q => q
theorem HOk.laid (x : HOk P w H h) (k : ∀ b u, h.get? b = some u → h'.get? b = some u) (hp : h.objs.size ≤ a) (new : ObjOk P w (upd H a o) h' a o) : HOk P w (upd H a o) h' := fun b u e => by
 have hn := x.fresh hp
 by_cases hb : b = a
 ·subst hb; rw [upd_same] at e; cases e; exact new
 ·rw [upd_ne hb] at e
  exact (x b u e).stay (fun c v _ q => k c v q) (fun c q => by rw [upd_ne (ne_of_none q hn)]; exact q) fun c xs q => by rw [upd_ne (ne_of_none q hn)]; exact q
end
noncomputable def Rd (H : Hp) (a : Addr) (u : HO) : Prop := H a = some u ∨ ∃ o, H a = some (.frz o u)
theorem Rd.ok {P : Program} {w : World} {H : Hp} {h : Heap} {a : Addr} {u : HO} (r : Rd H a u) (x : HOk P w H h) : ObjOk P w H h a u := by
 rcases r with r | ⟨o, r⟩
 ·exact x a u r
 ·obtain ⟨_, q⟩ := x a _ r
  exact q
noncomputable def Mut : Option HO → Prop
 | some (.lst _) => True
 | some (.dK _) => True
 | some (.dT _) => True
 | some (.set _ _) => True
 | some (.ins _ _ _) => True
 | some (.ext _) => True
 | _ => False
section
variable {P : Program} {w : World} {H : Hp} {h h' : Heap} {x e : Addr} {o' : HO}
theorem HOk.write (ok : HOk P w H h) (mu : Mut (H x)) (he : e = x ∨ H e = some (.own x)) (k : ∀ b u, b ≠ e → h.get? b = some u → h'.get? b = some u) (heo : ∃ u, h'.get? e = some u)
  (new : ObjOk P w (upd H x o') h' x o') : HOk P w (upd H x o') h' := fun b u q => by
 have nown : ∀ c y, H c = some (.own y) → c ≠ x := fun c y r z => by subst z; rw [r] at mu; exact mu
 have ntup : ∀ c xs, H c = some (.tup xs) → c ≠ x := fun c xs r z => by subst z; rw [r] at mu; exact mu
 by_cases hb : b = x
 ·subst hb; rw [upd_same] at q; cases q; exact new
 ·rw [upd_ne hb] at q
  by_cases hbe : b = e
  ·have q' : H b = some (.own x) := by
    rcases he with z | z
    ·exact absurd (hbe.trans z) hb
    ·rw [hbe]; exact z
   rw [q] at q'; cases q'
   obtain ⟨v, hv⟩ := heo
   exact ⟨v, by rw [hbe]; exact hv⟩
  ·refine (ok b u q).stay (fun c v hc r => k c v ?_ r) (fun c r => by rw [upd_ne (nown c b r)]; exact r) fun c xs r => by rw [upd_ne (ntup c xs r)]; exact r
   rcases hc with rfl | hc
   ·exact hbe
   ·rintro rfl
    rcases he with z | z
    ·exact nown c b hc z
    ·rw [hc] at z; cases z; exact hb rfl
end
structure Un (fs ex : List Addr) (H H' : Hp) (h h' : Heap) : Prop where
 keep : ∀ b o, h.get? b = some o → H b = none → b ∉ fs → b ∉ ex → h'.get? b = some o
 slot : ∀ b o, h.get? b = some o → H b = none → b ∈ fs → b ∉ ex → ∃ sl, h'.get? b = some { o with slots := sl }
 free : ∀ b o, h.get? b = some o → H b = none → b ∉ ex → H' b = none
 there : ∀ b o, h.get? b = some o → b ∉ ex → ∃ o', h'.get? b = some o'
 tups : ∀ b xs, H b = some (.tup xs) → H' b = some (.tup xs)
 frzs : ∀ b o u, H b = some (.frz o u) → H' b = some (.frz o u)
 tbls : ∀ b ps, H b = some (.tbl ps) → ∃ more, H' b = some (.tbl (ps ++ more))
section
variable {fs fs' ex ex' : List Addr} {H H1 H2 : Hp} {h h1 h2 h' : Heap} {a x e : Addr} {o : HO}
theorem Un.any (u : Un fs ex H H1 h h1) {b : Addr} {ob : Obj} (q : h.get? b = some ob) (n : H b = none) (hx : b ∉ ex) : ∃ sl, h1.get? b = some { ob with slots := sl } := by
 by_cases hb : b ∈ fs
 ·exact u.slot b ob q n hb hx
 ·exact ⟨ob.slots, u.keep b ob q n hb hx⟩
theorem Un.kept (k : ∀ b u, h.get? b = some u → h'.get? b = some u) : Un fs ex H H h h' :=
 ⟨fun b ob q _ _ _ => k b ob q, fun b ob q _ _ _ => ⟨ob.slots, k b ob q⟩, fun _ _ _ n _ => n, fun b ob q _ => ⟨ob, k b ob q⟩, fun _ _ q => q, fun _ _ _ q => q, fun _ ps q => ⟨#[], by rw [q]; simp⟩⟩
theorem Un.refl : Un fs ex H H h h := Un.kept fun _ _ q => q
theorem Un.laid (k : ∀ b u, h.get? b = some u → h'.get? b = some u) (hp : h.objs.size ≤ a) (hn : H a = none) : Un fs ex H (upd H a o) h h' where
 keep := fun b u q _ _ _ => k b u q
 slot := fun b u q _ _ _ => ⟨u.slots, k b u q⟩
 free := fun b u q n _ => by rw [upd_ne (Nat.ne_of_lt (Nat.lt_of_lt_of_le (Heap.lt_size q) hp))]; exact n
 there := fun b u q _ => ⟨u, k b u q⟩
 tups := fun b xs q => by rw [upd_ne (ne_of_none q hn)]; exact q
 frzs := fun b u xs q => by rw [upd_ne (ne_of_none q hn)]; exact q
 tbls := fun b ps q => ⟨#[], by rw [upd_ne (ne_of_none q hn), q]; simp⟩
theorem Un.write (mu : Mut (H x)) (he : e = x ∨ H e = some (.own x)) (k : ∀ b u, b ≠ e → h.get? b = some u → h'.get? b = some u) (heo : ∃ u, h'.get? e = some u) : Un fs ex H (upd H x o) h h' := by
 have hx : ∀ b, H b = none → b ≠ x := fun b n z => by subst z; rw [n] at mu; exact mu
 have hb : ∀ b, H b = none → b ≠ e := fun b n z => by
  subst z
  rcases he with r | r
  ·exact hx b n r
  ·rw [n] at r; cases r
 have hm : ∀ b u, H b = some u → ¬ Mut (some u) → b ≠ x := fun b u q nm z => by subst z; rw [q] at mu; exact nm mu
 refine ⟨fun b u q n _ _ => k b u (hb b n) q, fun b u q n _ _ => ⟨u.slots, k b u (hb b n) q⟩, fun b u q n _ => by rw [upd_ne (hx b n)]; exact n, fun b u q _ => ?_,
  fun b xs q => by rw [upd_ne (hm b _ q fun z => z)]; exact q, fun b u xs q => by rw [upd_ne (hm b _ q fun z => z)]; exact q, fun b ps q => ⟨#[], by rw [upd_ne (hm b _ q fun z => z), q]; simp⟩⟩
 by_cases hbe : b = e
 ·subst hbe; exact heo
 ·exact ⟨u, k b u hbe q⟩
end
noncomputable def trk (h : Heap) (H : Hp) : List Addr := (List.range h.objs.size).filter fun a => (H a).isSome
noncomputable def hidT (h : Heap) (H : Hp) : Heap := PySem.W.hideAll h (trk h H)
theorem hidT_size (h : Heap) (H : Hp) : (hidT h H).objs.size = h.objs.size := PySem.W.hideAll_size _ _
theorem hidT_get {h : Heap} {H : Hp} {b : Addr} {o : Obj} (e : h.get? b = some o) (n : H b = none) : (hidT h H).get? b = some o :=
 PySem.W.hideAll_get _ e fun hm => by
  have q : (H b).isSome = true := (List.mem_filter.mp hm).2
  rw [n] at q; simp at q
theorem of_hidT {h : Heap} {H : Hp} {b : Addr} {o : Obj} (e : (hidT h H).get? b = some o) : h.get? b = some o ∧ H b = none := by
 have e' : h.get? b = some o := PySem.W.of_hideAll (trk h H) e
 refine ⟨e', ?_⟩
 cases q : H b with
 | none => rfl
 | some x =>
  have hm : b ∈ trk h H := List.mem_filter.mpr ⟨List.mem_range.mpr (Heap.lt_size e'), by simp [q]⟩
  have z : (hidT h H).get? b = none := PySem.W.hideAll_none (trk h H) hm
  rw [z] at e; cases e
end L2
namespace L2
open PySem PySem.Spec PyProof.Rows
structure Mod (K : FrK) (mg : Str → Option Value) (base : Heap) : Prop where
 kin : K.In base
 glob : base.Ns mainGlobals mg
 blt : ∃ mb, base.Ns builtinsNs mb ∧ ∀ x : Str, x ≠ "__name__" → mb x = bootBuiltins x
 nolimit : base.NoLimit
structure Cx where
 prog : Program
 w : World
 K : FrK
 mg : Str → Option Value
 base : Heap
 A : Around
 N : List Str
 s₀ : Shared
 H₀ : Hp
 env : Env
 outer : List Env
 stack : List Env
 ex : List Addr
 fn : Str → Bool
 calm : Bool
 pn : List (Addr × Obj)
 xe : Value → Shared → Prop
noncomputable def frs (l : List Env) : List Addr := l.filterMap (·.frame)
noncomputable abbrev Cx.fs (X : Cx) : List Addr := frs X.outer
noncomputable def Vis (sc : Scope) (x : Str) : Prop := sc.names.lookup x = some .local ∨ sc.names.lookup x = some .cell ∨ sc.names.lookup x = some .free
noncomputable def Loc (sc : Scope) (x : Str) : Prop := sc.names.lookup x = some .local ∨ sc.names.lookup x = some .cell
noncomputable def Look (env : Env) (h : Heap) (m : Str → Option Value) (x : Str) (u : Value) : Prop :=
 (env.kindOf x = some .local ∧ m x = some u) ∨ ((env.kindOf x = some .cell ∨ env.kindOf x = some .free) ∧ ∃ c, env.cells.lookup x = some c ∧ h.IsCell c (some u))
structure Cx.Ok (X : Cx) : Prop where
 mod : Mod X.K X.mg X.base
 kind : X.env.scope.kind = .function
 glob : X.env.globals = mainGlobals
 blt : X.env.builtins = builtinsNs
 above : X.s₀.heap.objs.size ≤ X.env.locals
 inj : ∀ x y c, X.env.cells.lookup x = some c → X.env.cells.lookup y = some c → x = y
 has : ∀ x, (X.env.kindOf x = some .cell ∨ X.env.kindOf x = some .free) → ∃ c, X.env.cells.lookup x = some c
 cab : ∀ x c, X.fn x = true → X.env.cells.lookup x = some c → X.s₀.heap.objs.size ≤ c
 hd : X.calm = true → X.A.handled = none
 frames : X.A.frames = some X.stack
 stk : X.stack = X.outer ∨ (X.stack = X.env :: X.outer ∧ X.env.frame = some X.env.locals)
 exf : ∀ b ∈ X.ex, b ≠ X.env.locals ∧ ∀ x c, X.env.cells.lookup x = some c → c ≠ b
 bs : ∀ b o, X.base.get? b = some o → X.s₀.heap.get? b = some o ∧ X.H₀ b = none
 bsz : X.base.objs.size ≤ X.s₀.heap.objs.size
 noex : ∀ b o, X.base.get? b = some o → b ∉ X.ex
 exfs : ∀ b ∈ X.ex, b ∉ X.fs
 funs : X.s₀.heap.FunFrames X.base X.outer
 frf : ∀ b ∈ X.fs, X.H₀ b = none
structure Inv (X : Cx) (pins : List (Addr × Obj)) (σ : List (Option V)) (H : Hp) (s : Shared) : Prop where
 ok : X.Ok
 os : s.os = X.s₀.os
 bare : AllBare s.gens
 base : Un X.fs X.ex X.H₀ H X.s₀.heap s.heap
 loc : ∃ m, s.heap.Ns X.env.locals m ∧ ∀ (i : Nat) (x : Str) (v : V), X.N[i]? = some x → σ[i]? = some (some v) → Vis X.env.scope x → ∃ u, RelV v u ∧ Look X.env s.heap m x u
 cell : ∀ x c, X.env.cells.lookup x = some c → ∃ v, s.heap.IsCell c v
 free : H X.env.locals = none
 freeC : ∀ x c, X.env.cells.lookup x = some c → H c = none
 pin : ∀ p ∈ X.pn ++ pins, s.heap.get? p.1 = some p.2 ∧ H p.1 = none ∧ p.1 ≠ X.env.locals ∧ p.1 ∉ X.fs ∧ ∀ v, p.2.data ≠ .cell v
 hok : HOk X.prog X.w H s.heap
 len : σ.length = X.N.length
section
variable {X : Cx} {pins : List (Addr × Obj)} {σ : List (Option V)} {H H' : Hp} {s : Shared} {h' : Heap}
theorem Cx.Ok.nofr (ok : X.Ok) {b : Addr} {o : Obj} (e : X.base.get? b = some o) : b ∉ X.fs := fun hb => by
 have := (ok.funs.mem hb).1
 rw [e] at this; cases this
theorem Inv.bs (I : Inv X pins σ H s) : ∀ b o, X.base.get? b = some o → s.heap.get? b = some o ∧ H b = none := fun b o e =>
 ⟨I.base.keep b o (I.ok.bs b o e).1 (I.ok.bs b o e).2 (I.ok.nofr e) (I.ok.noex b o e), I.base.free b o (I.ok.bs b o e).1 (I.ok.bs b o e).2 (I.ok.noex b o e)⟩
theorem Inv.bk (I : Inv X pins σ H s) : ∀ b o, X.base.get? b = some o → s.heap.get? b = some o := fun b o e => (I.bs b o e).1
theorem Inv.mod (I : Inv X pins σ H s) : Mod X.K X.mg X.base := I.ok.mod
theorem Inv.kIn (I : Inv X pins σ H s) : X.K.In s.heap := I.ok.mod.kin.keeps I.bk
theorem Inv.lt (I : Inv X pins σ H s) : X.env.locals < s.heap.objs.size := let ⟨_, hn, _⟩ := I.loc; hn.lt
theorem Inv.sz (I : Inv X pins σ H s) : X.s₀.heap.objs.size ≤ s.heap.objs.size := Nat.le_trans I.ok.above (Nat.le_of_lt I.lt)
theorem Inv.nofs (I : Inv X pins σ H s) {a : Addr} (h : s.heap.objs.size ≤ a) : a ∉ X.fs := fun hb => by
 obtain ⟨_, o, ho, _⟩ := I.ok.funs.mem hb
 exact absurd (Nat.lt_of_lt_of_le (Heap.lt_size ho) (Nat.le_trans I.sz h)) (Nat.lt_irrefl _)
theorem Inv.cne (I : Inv X pins σ H s) : ∀ x c, X.env.cells.lookup x = some c → c ≠ X.env.locals := fun x c e z => by
 obtain ⟨v, o, ho, hd⟩ := I.cell x c e
 obtain ⟨m, ⟨o', es, ep, ho', hd', _⟩, _⟩ := I.loc
 rw [z, ho'] at ho; cases ho; rw [hd'] at hd; cases hd
theorem Inv.funs (I : Inv X pins σ H s) : s.heap.FunFrames X.base X.outer := by
 have all : ∀ (l : List Env), (∀ b ∈ frs l, b ∈ X.fs) → X.s₀.heap.FunFrames X.base l → s.heap.FunFrames X.base l := by
  intro l
  induction l with
  | nil => intro _ _; trivial
  | cons env r ih =>
   intro hs hl
   obtain ⟨hk, ⟨L, o, hf, hn, ho, hd⟩, hr⟩ := hl
   have hL : L ∈ X.fs := hs L (by unfold frs; rw [List.filterMap_cons, hf]; exact List.mem_cons_self)
   obtain ⟨sl, e⟩ := I.base.slot L o ho (I.ok.frf L hL) hL fun z => I.ok.exfs L z hL
   exact ⟨hk, ⟨L, _, hf, hn, e, hd⟩, ih (fun b hb => hs b (by unfold frs; rw [List.filterMap_cons, hf]; exact List.mem_cons_of_mem _ hb)) hr⟩
 exact all X.outer (fun _ hb => hb) I.ok.funs
theorem Inv.stack (I : Inv X pins σ H s) : s.heap.FunFrames X.base X.stack := by
 rcases I.ok.stk with e | ⟨e, hf⟩
 ·rw [e]; exact I.funs
 ·rw [e]
  obtain ⟨m, hn, _⟩ := I.loc
  refine .cons (by rw [I.ok.kind]; decide) hf hn ?_ I.funs
  exact Heap.get?_none_of_le (Nat.le_trans I.ok.bsz I.ok.above)
theorem Inv.stkSub (I : Inv X pins σ H s) : ∀ b ∈ frs X.stack, b ∈ X.env.locals :: X.fs := fun b hb => by
 rcases I.ok.stk with e | ⟨e, hf⟩
 ·rw [e] at hb; exact List.mem_cons_of_mem _ hb
 ·rw [e] at hb
  unfold frs at hb
  rw [List.filterMap_cons, hf] at hb
  exact hb
theorem Inv.stkFree (I : Inv X pins σ H s) : ∀ b ∈ frs X.stack, H b = none := fun b hb => by
 rcases List.mem_cons.mp (I.stkSub b hb) with e | hb
 ·rw [e]; exact I.free
 ·obtain ⟨_, o, ho, _⟩ := I.ok.funs.mem hb
  exact I.base.free b o ho (I.ok.frf b hb) fun z => I.ok.exfs b z hb
theorem Inv.step {g' : Array GenState} {t' : Nat} {d' : Drawn} {ch : List Addr} (I : Inv X pins σ H s)
  (hch : ∀ b ∈ ch, (b ∈ X.ex ∨ X.s₀.heap.objs.size ≤ b) ∧ b ≠ X.env.locals ∧ (∀ x c, X.env.cells.lookup x = some c → c ≠ b) ∧ ∀ p ∈ X.pn ++ pins, p.1 ≠ b)
  (keep : ∀ b o, b ≠ X.env.locals → b ∉ X.fs → b ∉ ch → s.heap.get? b = some o → H b = none → h'.get? b = some o)
  (slot : ∀ b o, b ≠ X.env.locals → b ∈ X.fs → b ∉ ch → s.heap.get? b = some o → H b = none → ∃ sl, h'.get? b = some { o with slots := sl }) (free : ∀ b o, b ∉ ch → s.heap.get? b = some o → H b = none → H' b = none)
  (there : ∀ b o, b ∉ ch → s.heap.get? b = some o → ∃ o', h'.get? b = some o')
  (tups : ∀ b xs, H b = some (.tup xs) → H' b = some (.tup xs)) (frzs : ∀ b o u, H b = some (.frz o u) → H' b = some (.frz o u)) (tbls : ∀ b ps, H b = some (.tbl ps) → ∃ more, H' b = some (.tbl (ps ++ more)))
  (ns : ∀ m, s.heap.Ns X.env.locals m → h'.Ns X.env.locals m) (hok : HOk X.prog X.w H' h') (hg : AllBare g') :
  Inv X pins σ H' { s with heap := h', gens := g', drawn := d', toks := t' } := by
 have neL : ∀ b o, X.s₀.heap.get? b = some o → b ≠ X.env.locals := fun b o e => Nat.ne_of_lt (Nat.lt_of_lt_of_le (Heap.lt_size e) I.ok.above)
 have neC : ∀ b o, X.s₀.heap.get? b = some o → b ∉ X.ex → b ∉ ch := fun b o e hx hb => by
  rcases (hch b hb).1 with z | z
  ·exact hx z
  ·exact absurd (Nat.lt_of_lt_of_le (Heap.lt_size e) z) (Nat.lt_irrefl _)
 have cellK : ∀ x c, X.env.cells.lookup x = some c → ∀ v, s.heap.IsCell c v → h'.IsCell c v := fun x c e v ⟨o, ho, hd⟩ => by
  have nch : c ∉ ch := fun z => (hch c z).2.2.1 x c e rfl
  by_cases hc : c ∈ X.fs
  ·obtain ⟨sl, q⟩ := slot c o (I.cne x c e) hc nch ho (I.freeC x c e)
   exact ⟨_, q, hd⟩
  ·exact ⟨o, keep c o (I.cne x c e) hc nch ho (I.freeC x c e), hd⟩
 refine ⟨I.ok, I.os, hg, ⟨fun b o e n hb hx => ?_, fun b o e n hb hx => ?_, fun b o e n hx => ?_, fun b o e hx => ?_, fun b xs e => tups b xs (I.base.tups b xs e), fun b o xs e => frzs b o xs (I.base.frzs b o xs e), fun b ps e => ?_⟩, ?_, fun x c e => ?_, ?_, fun x c e => ?_, fun p hp => ?_, hok, I.len⟩
 ·exact keep b o (neL b o e) hb (neC b o e hx) (I.base.keep b o e n hb hx) (I.base.free b o e n hx)
 ·obtain ⟨sl, e1⟩ := I.base.slot b o e n hb hx
  obtain ⟨sl', e2⟩ := slot b _ (neL b o e) hb (neC b o e hx) e1 (I.base.free b o e n hx)
  exact ⟨sl', e2⟩
 ·obtain ⟨o', e1⟩ := I.base.there b o e hx
  exact free b o' (neC b o e hx) e1 (I.base.free b o e n hx)
 ·obtain ⟨o', e1⟩ := I.base.there b o e hx
  exact there b o' (neC b o e hx) e1
 ·obtain ⟨m1, e1⟩ := I.base.tbls b ps e
  obtain ⟨m2, e2⟩ := tbls b _ e1
  exact ⟨m1 ++ m2, by rw [e2, Array.append_assoc]⟩
 ·obtain ⟨m, hn, hl⟩ := I.loc
  refine ⟨m, ns m hn, fun i x v e1 e2 e3 => ?_⟩
  obtain ⟨u, r, l⟩ := hl i x v e1 e2 e3
  refine ⟨u, r, ?_⟩
  rcases l with l | ⟨k, c, e, z⟩
  ·exact .inl l
  ·exact .inr ⟨k, c, e, cellK x c e _ z⟩
 ·obtain ⟨v, z⟩ := I.cell x c e
  exact ⟨v, cellK x c e v z⟩
 ·obtain ⟨m, ⟨o, _, _, ho, _⟩, _⟩ := I.loc
  exact free _ o (fun z => (hch _ z).2.1 rfl) ho I.free
 ·obtain ⟨v, o, ho, hd⟩ := I.cell x c e
  exact free c o (fun z => (hch c z).2.2.1 x c e rfl) ho (I.freeC x c e)
 ·obtain ⟨e, n, ne, nf, d⟩ := I.pin p hp
  have nch : p.1 ∉ ch := fun z => (hch p.1 z).2.2.2 p hp rfl
  exact ⟨keep p.1 p.2 ne nf nch e n, free p.1 p.2 nch e n, ne, nf, d⟩
theorem Inv.un {t' : Nat} (I : Inv X pins σ H s) (u : Un X.fs [] H H' s.heap h') (hok : HOk X.prog X.w H' h') : Inv X pins σ H' { s with heap := h', toks := t' } := by
 obtain ⟨m, ⟨o, es, ep, ho, r⟩, _⟩ := id I.loc
 obtain ⟨sl, hL⟩ := u.any ho I.free (by simp)
 exact I.step (g' := s.gens) (d' := s.drawn) (ch := []) (fun _ z => nomatch z) (fun b o _ hb _ e n => u.keep b o e n hb (by simp)) (fun b o _ hb _ e n => u.slot b o e n hb (by simp)) (fun b o _ e n => u.free b o e n (by simp)) (fun b o _ e => u.there b o e (by simp)) u.tups u.frzs u.tbls (fun m' hm => by
  obtain ⟨o', es', ep', ho', r'⟩ := hm
  rw [ho] at ho'; cases ho'
  exact ⟨_, es', ep', hL, r'⟩) hok I.bare
theorem Inv.call {g' : Array GenState} {t' : Nat} {d' : Drawn} {ch : List Addr} (I : Inv X pins σ H s) (u : Un (frs X.stack) ch H H' s.heap h') (hok : HOk X.prog X.w H' h') (hg : AllBare g')
  (hch : ∀ b ∈ ch, (b ∈ X.ex ∨ X.s₀.heap.objs.size ≤ b) ∧ b ≠ X.env.locals ∧ (∀ x c, X.env.cells.lookup x = some c → c ≠ b) ∧ ∀ p ∈ X.pn ++ pins, p.1 ≠ b) :
  Inv X pins σ H' { s with heap := h', gens := g', drawn := d', toks := t' } := by
 obtain ⟨m, ⟨o, es, ep, ho, r⟩, _⟩ := id I.loc
 obtain ⟨sl, hL⟩ := u.any ho I.free fun z => (hch _ z).2.1 rfl
 exact I.step (ch := ch) hch (fun b o hL hb hc e n => u.keep b o e n (fun z => (List.mem_cons.mp (I.stkSub b z)).elim hL hb) hc) (fun b o _ _ hc e n => u.any e n hc) (fun b o hc e n => u.free b o e n hc) (fun b o hc e => u.there b o e hc) u.tups u.frzs u.tbls (fun m' hm => by
  obtain ⟨o', es', ep', ho', r'⟩ := hm
  rw [ho] at ho'; cases ho'
  exact ⟨_, es', ep', hL, r'⟩) hok hg
theorem Inv.turned {t' : Nat} {it : Addr} (I : Inv X pins σ H s) (k : ∀ b o, b ≠ it → s.heap.get? b = some o → h'.get? b = some o) (hn : H it = none) (hL : it ≠ X.env.locals)
  (h1 : it ∈ X.ex ∨ X.s₀.heap.objs.size ≤ it) (h2 : ∀ x c, X.env.cells.lookup x = some c → c ≠ it) (h3 : ∀ p ∈ X.pn ++ pins, p.1 ≠ it) : Inv X pins σ H { s with heap := h', toks := t' } := by
 have nit : ∀ b u, H b = some u → b ≠ it := fun b u e z => by rw [z, hn] at e; cases e
 refine I.step (g' := s.gens) (d' := s.drawn) (ch := [it]) (fun b hb => ?_) (fun b o _ _ hc e _ => k b o (fun z => hc (by simp [z])) e) (fun b o _ _ hc e _ => ⟨o.slots, k b o (fun z => hc (by simp [z])) e⟩) (fun _ _ _ _ n => n)
  (fun b o hc e => ⟨o, k b o (fun z => hc (by simp [z])) e⟩) (fun _ _ e => e) (fun _ _ _ e => e) (fun b ps e => ⟨#[], by rw [e]; simp⟩) (fun m hm => ?_) (fun b u e => ?_) I.bare
 ·have e : b = it := by simpa using hb
  subst e
  exact ⟨h1, hL, h2, h3⟩
 ·obtain ⟨o, es, ep, ho, r⟩ := hm
  exact ⟨o, es, ep, k _ o (Ne.symm hL) ho, r⟩
 ·refine (I.hok b u e).stay (fun c v hc q => k c v ?_ q) (fun _ q => q) fun _ _ q => q
  rcases hc with z | z
  ·rw [z]; exact nit b u e
  ·exact nit c _ z
theorem Inv.tok (I : Inv X pins σ H s) (t : Nat) : Inv X pins σ H { s with toks := t } := I.un (h' := s.heap) (t' := t) Un.refl I.hok
theorem Inv.kept {t' : Nat} (I : Inv X pins σ H s) (k : ∀ b u, s.heap.get? b = some u → h'.get? b = some u) : Inv X pins σ H { s with heap := h', toks := t' } := I.un (Un.kept k) (I.hok.kept k)
theorem Inv.laid {a : Addr} {o : HO} {t' : Nat} (I : Inv X pins σ H s) (k : ∀ b u, s.heap.get? b = some u → h'.get? b = some u) (hp : s.heap.objs.size ≤ a) (new : ObjOk X.prog X.w (upd H a o) h' a o) :
  Inv X pins σ (upd H a o) { s with heap := h', toks := t' } := I.un (Un.laid k hp (I.hok.fresh hp)) (I.hok.laid k hp new)
theorem Inv.write {x e : Addr} {o : HO} {t' : Nat} (I : Inv X pins σ H s) (mu : Mut (H x)) (he : e = x ∨ H e = some (.own x)) (k : ∀ b u, b ≠ e → s.heap.get? b = some u → h'.get? b = some u) (heo : ∃ u, h'.get? e = some u)
  (new : ObjOk X.prog X.w (upd H x o) h' x o) : Inv X pins σ (upd H x o) { s with heap := h', toks := t' } := I.un (Un.write mu he k heo) (I.hok.write mu he k heo new)
theorem Inv.weak {σ' : List (Option V)} (I : Inv X pins σ H s) (hl : σ'.length = σ.length) (w : ∀ (i : Nat) v, σ'[i]? = some (some v) → σ[i]? = some (some v)) : Inv X pins σ' H s :=
 ⟨I.ok, I.os, I.bare, I.base, let ⟨m, hn, hl'⟩ := I.loc; ⟨m, hn, fun i x v e1 e2 e3 => hl' i x v e1 (w i v e2) e3⟩, I.cell, I.free, I.freeC, I.pin, I.hok, hl.trans I.len⟩
theorem Inv.pins_of {pins' : List (Addr × Obj)} (I : Inv X pins σ H s) (h : ∀ p ∈ pins', s.heap.get? p.1 = some p.2 ∧ H p.1 = none ∧ p.1 ≠ X.env.locals ∧ p.1 ∉ X.fs ∧ ∀ v, p.2.data ≠ .cell v) : Inv X pins' σ H s :=
 ⟨I.ok, I.os, I.bare, I.base, I.loc, I.cell, I.free, I.freeC, fun p hp => (List.mem_append.mp hp).elim (fun z => I.pin p (List.mem_append_left _ z)) (h p), I.hok, I.len⟩
theorem nodup_ix {N : List Str} (hN : N.Nodup) {i j : Nat} {x : Str} (a : N[i]? = some x) (b : N[j]? = some x) : i = j := by
 obtain ⟨h1, e1⟩ := List.getElem?_eq_some_iff.mp a
 obtain ⟨h2, e2⟩ := List.getElem?_eq_some_iff.mp b
 exact (List.getElem_inj hN).mp (e1.trans e2.symm)
theorem store_ok2 {M : Model} {A : Around} {E : Value → Shared → Prop} {i : Nat} {x : Str} {v : V} {u : Value} {Q : Unit → Shared → Prop} (I : Inv X pins σ H s) (hN : X.N.Nodup) (hi : X.N[i]? = some x) (hx : Loc X.env.scope x) (r : RelV v u)
  (h : ∀ s', Inv X pins (σ.set i (some v)) H s' → (∃ a, Heap.SameBut a s.heap s'.heap ∧ (a = X.env.locals ∨ X.env.cells.lookup x = some a)) → Q () s') (hf : X.fn x = true ∨ X.env.scope.names.lookup x = some .local := by first | exact .inl rfl | exact .inr rfl | assumption) : wpAny M A (storeName X.env x u) Q E s := by
 obtain ⟨m, hn, hl⟩ := id I.loc
 have hcls : (X.env.scope.kind == .class || (X.env.scope.kind == .module && X.env.locals != X.env.globals)) = false := by rw [I.ok.kind]; rfl
 have hiσ : i < σ.length := by rw [I.len]; exact (List.getElem?_eq_some_iff.mp hi).1
 have cne := I.cne
 have tracked : ∀ {a : Addr} {h' : Heap}, (∃ o, s.heap.get? a = some o ∧ H a = none) → Heap.SameBut a s.heap h' → HOk X.prog X.w H h' := fun {a h'} ha hs b ob e => by
  obtain ⟨_, _, hfree⟩ := ha
  refine (I.hok b ob e).stay (fun c w' hc q => (hs.2 c ?_).trans q) (fun _ q => q) fun _ _ q => q
  rintro rfl
  rcases hc with rfl | hc
  ·rw [hfree] at e; cases e
  ·rw [hfree] at hc; cases hc
 rcases hx with hk | hk
 ·refine wpAny_storeName_local hk hn (fun h' hn' hs => ?_) hcls
  obtain ⟨oL, _, _, hoL, _⟩ := id hn
  refine h _ ⟨I.ok, I.os, I.bare, ⟨fun b o e n hb hx => ?_, fun b o e n hb hx => ?_, I.base.free, fun b o e hx => ?_, I.base.tups, I.base.frzs, I.base.tbls⟩, ⟨_, hn', fun j y v' e1 e2 e3 => ?_⟩, fun y c e => ?_, I.free, I.freeC, fun p hp => ?_, tracked ⟨oL, hoL, I.free⟩ hs, by simpa using I.len⟩ ⟨_, hs, .inl rfl⟩
  ·exact (hs.2 b (Nat.ne_of_lt (Nat.lt_of_lt_of_le (Heap.lt_size e) I.ok.above))).trans (I.base.keep b o e n hb hx)
  ·obtain ⟨sl, e1⟩ := I.base.slot b o e n hb hx
   exact ⟨sl, (hs.2 b (Nat.ne_of_lt (Nat.lt_of_lt_of_le (Heap.lt_size e) I.ok.above))).trans e1⟩
  ·obtain ⟨o', e1⟩ := I.base.there b o e hx
   exact ⟨o', (hs.2 b (Nat.ne_of_lt (Nat.lt_of_lt_of_le (Heap.lt_size e) I.ok.above))).trans e1⟩
  ·by_cases hj : j = i
   ·subst hj
    rw [hi] at e1; cases e1
    rw [List.getElem?_set_self hiσ] at e2
    cases e2
    exact ⟨u, r, .inl ⟨hk, by simp⟩⟩
   ·rw [List.getElem?_set_ne (Ne.symm hj)] at e2
    obtain ⟨u', r', q⟩ := hl j y v' e1 e2 e3
    refine ⟨u', r', ?_⟩
    rcases q with ⟨k, e⟩ | ⟨k, c, e, z⟩
    ·refine .inl ⟨k, ?_⟩
     have : y ≠ x := fun e => hj (nodup_ix hN e1 (e ▸ hi))
     simp [this, e]
    ·exact .inr ⟨k, c, e, z.sameBut hs (cne y c e)⟩
  ·obtain ⟨w', z⟩ := I.cell y c e
   exact ⟨w', z.sameBut hs (cne y c e)⟩
  ·obtain ⟨e, n, ne, nf, d⟩ := I.pin p hp
   exact ⟨(hs.2 p.1 ne).trans e, n, ne, nf, d⟩
 ·have hfn : X.fn x = true := by
   rcases hf with z | z
   ·exact z
   ·rw [z] at hk; cases hk
  obtain ⟨c, hc⟩ := I.ok.has x (.inl hk)
  obtain ⟨w', z⟩ := I.cell x c hc
  refine wpAny_storeName_cell I.ok.kind hk hc z (fun h' hc' hs => ?_)
  obtain ⟨oc, hoc, hocd⟩ := id z
  refine h { s with heap := h' } ⟨I.ok, I.os, I.bare, ⟨fun b o e n hb hx => ?_, fun b o e n hb hx => ?_, I.base.free, fun b o e hx => ?_, I.base.tups, I.base.frzs, I.base.tbls⟩, ⟨m, hn.sameBut hs (Ne.symm (cne x c hc)), fun j y v' e1 e2 e3 => ?_⟩, fun y c' e => ?_, I.free, I.freeC, fun p hp => ?_, tracked ⟨oc, hoc, I.freeC x c hc⟩ hs, by simpa using I.len⟩ ⟨c, hs, .inr hc⟩
  ·exact (hs.2 b (Nat.ne_of_lt (Nat.lt_of_lt_of_le (Heap.lt_size e) (I.ok.cab x c hfn hc)))).trans (I.base.keep b o e n hb hx)
  ·obtain ⟨sl, e1⟩ := I.base.slot b o e n hb hx
   exact ⟨sl, (hs.2 b (Nat.ne_of_lt (Nat.lt_of_lt_of_le (Heap.lt_size e) (I.ok.cab x c hfn hc)))).trans e1⟩
  ·obtain ⟨o', e1⟩ := I.base.there b o e hx
   exact ⟨o', (hs.2 b (Nat.ne_of_lt (Nat.lt_of_lt_of_le (Heap.lt_size e) (I.ok.cab x c hfn hc)))).trans e1⟩
  ·by_cases hj : j = i
   ·subst hj
    rw [hi] at e1; cases e1
    rw [List.getElem?_set_self hiσ] at e2
    cases e2
    exact ⟨u, r, .inr ⟨.inl hk, c, hc, hc'⟩⟩
   ·rw [List.getElem?_set_ne (Ne.symm hj)] at e2
    obtain ⟨u', r', q⟩ := hl j y v' e1 e2 e3
    refine ⟨u', r', ?_⟩
    rcases q with q | ⟨k, c', e, z'⟩
    ·exact .inl q
    ·refine .inr ⟨k, c', e, z'.sameBut hs ?_⟩
     rintro rfl
     exact hj (nodup_ix hN e1 (I.ok.inj _ _ _ e hc ▸ hi))
  ·by_cases hcc : c' = c
   ·subst hcc; exact ⟨_, hc'⟩
   ·obtain ⟨w2, z2⟩ := I.cell y c' e
    exact ⟨w2, z2.sameBut hs hcc⟩
  ·obtain ⟨e, n, ne, nf, d⟩ := I.pin p hp
   refine ⟨(hs.2 p.1 ?_).trans e, n, ne, nf, d⟩
   intro q
   rw [q, hoc] at e
   have q' : oc = p.2 := Option.some.inj e
   exact d w' (by rw [← q']; exact hocd)
theorem store_ok {M : Model} {A : Around} {E : Value → Shared → Prop} {i : Nat} {x : Str} {v : V} {u : Value} {Q : Unit → Shared → Prop} (I : Inv X pins σ H s) (hN : X.N.Nodup) (hi : X.N[i]? = some x) (hx : Loc X.env.scope x) (r : RelV v u)
  (h : ∀ s', Inv X pins (σ.set i (some v)) H s' → Q () s') (hf : X.fn x = true ∨ X.env.scope.names.lookup x = some .local := by first | exact .inl rfl | exact .inr rfl | assumption) : wpAny M A (storeName X.env x u) Q E s :=
 store_ok2 I hN hi hx r (fun s' I' _ => h s' I') hf
theorem Inv.call' {s' : Shared} {ch : List Addr} (I : Inv X pins σ H s) (ho : s'.os = s.os) (u : Un (frs X.stack) ch H H' s.heap s'.heap) (hok : HOk X.prog X.w H' s'.heap) (hg : AllBare s'.gens)
  (hch : ∀ b ∈ ch, (b ∈ X.ex ∨ X.s₀.heap.objs.size ≤ b) ∧ b ≠ X.env.locals ∧ (∀ x c, X.env.cells.lookup x = some c → c ≠ b) ∧ ∀ p ∈ X.pn ++ pins, p.1 ≠ b) : Inv X pins σ H' s' := by
 obtain ⟨h', g', d', t', o'⟩ := s'
 have e : o' = s.os := ho
 subst e
 exact I.call (g' := g') (t' := t') (d' := d') u hok hg hch
end
noncomputable abbrev XK := Value → Option Addr → Hp → Prop
noncomputable abbrev St := List (Option V)
noncomputable abbrev VK := V → Hp → Prop
noncomputable abbrev TE := St → Hp → VK → Prop
noncomputable abbrev TT := St → Hp → (Bool → Hp → Prop) → Prop
noncomputable abbrev TA := St → Hp → (List V → Hp → Prop) → Prop
structure Ends where
 nx : St → Hp → Prop
 rt : VK
 bk : St → Hp → Prop := fun _ _ => False
 ct : St → Hp → Prop := fun _ _ => False
noncomputable abbrev TS := Ends → St → Hp → Prop
noncomputable def EP (X : Cx) (pins : List (Addr × Obj)) (σ : St) (Q : VK) (u : Value) (s' : Shared) : Prop := ∃ v H', Inv X pins σ H' s' ∧ RelV v u ∧ Q v H'
noncomputable def TP (X : Cx) (pins : List (Addr × Obj)) (σ : St) (Q : Bool → Hp → Prop) (b : Bool) (s' : Shared) : Prop := ∃ H', Inv X pins σ H' s' ∧ Q b H'
noncomputable def AP (X : Cx) (pins : List (Addr × Obj)) (σ : St) (Q : List V → Hp → Prop) (us : List Value) (s' : Shared) : Prop := ∃ vs H', Inv X pins σ H' s' ∧ Vals vs us ∧ Q vs H'
noncomputable def SP (X : Cx) (pins : List (Addr × Obj)) (D : Ends) (f : Flow) (s' : Shared) : Prop :=
 match f with
 | .next => ∃ σ' H', Inv X pins σ' H' s' ∧ D.nx σ' H'
 | .brk => ∃ σ' H', Inv X pins σ' H' s' ∧ D.bk σ' H'
 | .cont => ∃ σ' H', Inv X pins σ' H' s' ∧ D.ct σ' H'
 | .ret u => ∃ v σ' H', Inv X pins σ' H' s' ∧ RelV v u ∧ D.rt v H'
noncomputable def PE (X : Cx) (e : Expr) (t : TE) : Prop :=
 ∀ (pins : List (Addr × Obj)) (s : Shared) (σ : St) (H : Hp) (Q : VK), Inv X pins σ H s → t σ H Q → wpAny (model X.prog X.w) X.A (eval e X.env) (EP X pins σ Q) X.xe s
noncomputable def PT (X : Cx) (e : Expr) (t : TT) : Prop :=
 ∀ (pins : List (Addr × Obj)) (s : Shared) (σ : St) (H : Hp) (Q : Bool → Hp → Prop), Inv X pins σ H s → t σ H Q → wpAny (model X.prog X.w) X.A (isTrue e X.env (eval e X.env)) (TP X pins σ Q) X.xe s
noncomputable def PW (X : Cx) (e : Expr) (t : TT) : Prop :=
 ∀ (whole : Sem Value) (pins : List (Addr × Obj)) (s : Shared) (σ : St) (H : Hp) (Q : Bool → Hp → Prop), Inv X pins σ H s → t σ H Q → wpAny (model X.prog X.w) X.A (isTrue e X.env whole) (TP X pins σ Q) X.xe s
theorem PW.pt {X : Cx} {e : Expr} {t : TT} (h : PW X e t) : PT X e t := h _
noncomputable def PA (X : Cx) (es : List Expr) (t : TA) : Prop :=
 ∀ (pos : Pos) (pins : List (Addr × Obj)) (s : Shared) (σ : St) (H : Hp) (Q : List V → Hp → Prop), Inv X pins σ H s → t σ H Q → wpAny (model X.prog X.w) X.A (spliced (backTo pos (starEach es X.env))) (AP X pins σ Q) X.xe s
noncomputable def PS (X : Cx) (st : Stmt) (t : TS) : Prop :=
 ∀ (pins : List (Addr × Obj)) (s : Shared) (σ : St) (H : Hp) (D : Ends), Inv X pins σ H s → t D σ H → wpAny (model X.prog X.w) X.A (exec st X.env) (SP X pins D) X.xe s
noncomputable def PSs (X : Cx) (st : List Stmt) (t : TS) : Prop :=
 ∀ (pins : List (Addr × Obj)) (s : Shared) (σ : St) (H : Hp) (D : Ends), Inv X pins σ H s → t D σ H → wpAny (model X.prog X.w) X.A (execs st X.env) (SP X pins D) X.xe s
theorem thn {α : Type} {t : Sem α} {Q Q' : α → Shared → Prop} {M : Model} {A : Around} {E : Value → Shared → Prop} {s : Shared} (h : wpAny M A t Q E s) (hQ : ∀ a s, Q a s → Q' a s) : wpAny M A t Q' E s := wpAny_mono h hQ fun _ _ x => x
end L2
namespace L2
open PySem PySem.Spec PyProof.Rows
section
variable {X : Cx}
noncomputable def tVar (i : Nat) : TE := fun σ H Q => ∃ v, σ[i]? = some (some v) ∧ Q v H
noncomputable def tC (v : V) : TE := fun _ H Q => Q v H
theorem pe_var {i : Nat} {x : Str} {pos : Pos} (hN : X.N[i]? = some x) (hv : Vis X.env.scope x) (hd : (x == ("__debug__" : Str)) = false := by decide) (hcd : (x == ("__classdict__" : Str)) = false := by decide) : PE X (.Name x pos) (tVar i) := by
 intro pins s σ H Q I h
 obtain ⟨v, e, h⟩ := h
 obtain ⟨m, hn, hl⟩ := I.loc
 obtain ⟨u, r, l⟩ := hl i x v hN e hv
 have fin : EP X pins σ Q u s := ⟨v, H, I, r, h⟩
 rcases l with ⟨hk, hm⟩ | ⟨hk, c, hc, hcell⟩
 ·exact wpAny_Name (wpAny_loadName_local I.ok.kind hk hn hm fin) hd
 ·rcases hk with hk | hk
  ·exact wpAny_Name (wpAny_loadName_cell I.ok.kind hk hc hcell fin) hd
  ·exact wpAny_Name (wpAny_loadName_free I.ok.kind hk hc hcell fin hcd) hd
theorem pe_int {i j pos} : PE X (.Constant (.int i) j pos) (tC (.int i)) := fun _ _ _ H _ I h => wpAny_Constant_int ⟨.int i, H, I.tok _, ⟨_, rfl⟩, h⟩
theorem pe_bl {b j pos} : PE X (.Constant (.bool b) j pos) (tC (.bl b)) := fun _ _ _ H _ I h => Constant_bool ⟨.bl b, H, I, rfl, h⟩
theorem pe_non {j pos} : PE X (.Constant .none j pos) (tC .non) := fun _ _ _ H _ I h => Constant_none ⟨.non, H, I, rfl, h⟩
theorem pe_str {x j pos} : PE X (.Constant (.str x) j pos) (tC (.str x)) := fun _ _ _ H _ I h => Calls.Constant_str ⟨.str x, H, I.tok _, ⟨_, rfl⟩, h⟩
noncomputable def Gl (X : Cx) (x : Str) : Prop := X.env.kindOf x = some .globalImplicit
theorem ld_glob {E : Value → Shared → Prop} {pins : List (Addr × Obj)} {s : Shared} {σ : St} {H : Hp} {x : Str} {u : Value} {pos : Pos} {Q : Value → Shared → Prop} (I : Inv X pins σ H s) (hg : Gl X x) (hm : X.mg x = some u) (h : Q u s)
  (hd : (x == ("__debug__" : Str)) = false := by decide) : wpAny (model X.prog X.w) X.A (eval (.Name x pos) X.env) Q E s :=
 Calls.Name_function_global I.ok.kind hg (Calls.loadGlobal_global (by rw [I.ok.glob]; exact I.mod.glob.keeps I.bk) hm h) hd
theorem ld_blt {E : Value → Shared → Prop} {pins : List (Addr × Obj)} {s : Shared} {σ : St} {H : Hp} {x : Str} {u : Value} {pos : Pos} {Q : Value → Shared → Prop} (I : Inv X pins σ H s) (hg : Gl X x) (hm : X.mg x = none) (hv : bootBuiltins x = some u) (h : Q u s)
  (hn : x ≠ "__name__" := by decide) (hd : (x == ("__debug__" : Str)) = false := by decide) : wpAny (model X.prog X.w) X.A (eval (.Name x pos) X.env) Q E s := by
 obtain ⟨mb, h1, h2⟩ := I.mod.blt
 exact Calls.Name_function_global I.ok.kind hg (Calls.loadGlobal_builtin (by rw [I.ok.glob]; exact I.mod.glob.keeps I.bk) hm (by rw [I.ok.blt]; exact h1.keeps I.bk) ((h2 x hn).trans hv) h) hd
theorem pe_glob {x : Str} {v : V} {u : Value} {pos : Pos} (hg : Gl X x) (hm : X.mg x = some u) (r : RelV v u) (hd : (x == ("__debug__" : Str)) = false := by decide) : PE X (.Name x pos) (tC v) :=
 fun _ _ _ H _ I h => ld_glob I hg hm ⟨v, H, I, r, h⟩ hd
theorem pe_bltn {x : Str} {v : V} {u : Value} {pos : Pos} (hg : Gl X x) (hm : X.mg x = none) (hv : bootBuiltins x = some u) (r : RelV v u) (hn : x ≠ "__name__" := by decide) (hd : (x == ("__debug__" : Str)) = false := by decide) : PE X (.Name x pos) (tC v) :=
 fun _ _ _ H _ I h => ld_blt I hg hm hv ⟨v, H, I, r, h⟩ hn hd
variable {a b : Expr} {ta tb : TE} {pos : Pos}
variable {tA tB' : TT} {rest : List Expr}
noncomputable def tAnd (t u : TT) : TT := fun σ H Q => t σ H fun c H1 => if c = true then u σ H1 Q else Q false H1
noncomputable def tOr (t u : TT) : TT := fun σ H Q => t σ H fun c H1 => if c = true then Q true H1 else u σ H1 Q
noncomputable def tNot (t : TT) : TT := fun σ H Q => t σ H fun c H1 => Q (!c) H1
theorem pw_and1 (ha : PT X a tA) : PW X (.BoolOp .And [a] pos) tA := by
 intro wh pins s σ H Q I h
 refine isTrue_and (thn (ha pins s σ H Q I h) fun c s1 e => ?_)
 cases c with
 | true => exact isTrue_and_nil e
 | false => exact e
theorem pw_or1 (ha : PT X a tA) : PW X (.BoolOp .Or [a] pos) tA := by
 intro wh pins s σ H Q I h
 refine isTrue_or (thn (ha pins s σ H Q I h) fun c s1 e => ?_)
 cases c with
 | false => exact isTrue_or_nil e
 | true => exact e
theorem pw_and (ha : PT X a tA) (hb : PW X (.BoolOp .And (b :: rest) pos) tB') : PW X (.BoolOp .And (a :: b :: rest) pos) (tAnd tA tB') := by
 intro wh pins s σ H Q I h
 refine isTrue_and (thn (ha pins s σ H _ I h) fun c s1 ⟨H1, I1, q1⟩ => ?_)
 cases c with
 | true => exact hb wh pins s1 σ H1 Q I1 q1
 | false => exact ⟨H1, I1, q1⟩
theorem pw_or (ha : PT X a tA) (hb : PW X (.BoolOp .Or (b :: rest) pos) tB') : PW X (.BoolOp .Or (a :: b :: rest) pos) (tOr tA tB') := by
 intro wh pins s σ H Q I h
 refine isTrue_or (thn (ha pins s σ H _ I h) fun c s1 ⟨H1, I1, q1⟩ => ?_)
 cases c with
 | true => exact ⟨H1, I1, q1⟩
 | false => exact hb wh pins s1 σ H1 Q I1 q1
theorem pt_not (ha : PT X a tA) : PT X (.UnaryOp .Not a pos) (tNot tA) := by
 intro pins s σ H Q I h
 exact isTrue_not (ha pins s σ H (fun c H1 => Q (!c) H1) I h)
theorem pe_one {op} {t : TE} (h : PE X a t) : PE X (.BoolOp op [a] pos) t := fun pins s σ H Q I hw => BoolOp_one (h pins s σ H Q I hw)
noncomputable def tIf (t : TT) (ta tb : TE) : TE := fun σ H Q => t σ H fun c H1 => if c = true then ta σ H1 Q else tb σ H1 Q
theorem pe_ifExp {c : Expr} (hc : PT X c tA) (ha : PE X a ta) (hb : PE X b tb) : PE X (.IfExp c a b pos) (tIf tA ta tb) := by
 intro pins s σ H Q I h
 refine wpAny_IfExp (thn (hc pins s σ H _ I h) fun d s1 ⟨H1, I1, q1⟩ => ?_)
 cases d with
 | true => exact ha pins s1 σ H1 Q I1 q1
 | false => exact hb pins s1 σ H1 Q I1 q1
end
end L2
namespace L2
open PySem PySem.Spec PyProof.Rows
noncomputable def SqL (K : FrK) (H : Hp) (a : Addr) (xs : List V) : Prop :=
 Rd H a (.lst xs) ∨
  ∃ (o : Obj) (its : Array Value) (n : Nat), K.lookup a = some o ∧ o.cls = .type "list" ∧ o.dict = none ∧ o.data = .seq its n ∧ its.size ≤ sizeLine ∧ Vals xs its.toList
noncomputable def SqT (K : FrK) (H : Hp) (a : Addr) (xs : List V) : Prop :=
 Rd H a (.tup xs) ∨
  ∃ (o : Obj) (its : Array Value) (n : Nat), K.lookup a = some o ∧ o.cls = .type "tuple" ∧ o.data = .seq its n ∧ its.size ≤ sizeLine ∧ Vals xs its.toList
noncomputable def absV : Value → Option V
 | .none => some .non
 | .bool b => some (.bl b)
 | .int i _ => some (.int i)
 | .str x _ => some (.str x)
 | .bytes b _ => some (.byt b)
 | .float b _ => some (.flt b)
 | .ref a => some (.ref a)
 | .type n => some (.ty n)
 | _ => none
theorem RelV.abs {x : V} {u : Value} (r : RelV x u) : absV u = some x := by
 cases x with
 | non => cases r; rfl
 | bl _ => cases r; rfl
 | int _ => obtain ⟨t, rfl⟩ := r; rfl
 | str _ => obtain ⟨t, rfl⟩ := r; rfl
 | byt _ => obtain ⟨t, rfl⟩ := r; rfl
 | flt _ => obtain ⟨t, rfl⟩ := r; rfl
 | ref _ => cases r; rfl
 | ty _ => cases r; rfl
theorem RelV.inj {x y : V} {u : Value} (r : RelV x u) (q : RelV y u) : x = y := Option.some.inj (r.abs.symm.trans q.abs)
theorem Vals.inj : ∀ {xs ys : List V} {us : List Value}, Vals xs us → Vals ys us → xs = ys
 | _, _, _, .nil, .nil => rfl
 | _, _, _, .cons r t, .cons r' t' => by rw [r.inj r', Vals.inj t t']
section
variable {X : Cx} {pins : List (Addr × Obj)} {σ : St} {H : Hp} {s : Shared} {a : Addr} {xs ys : List V}
theorem SqL.of {K : FrK} (h : H a = some (.lst xs)) : SqL K H a xs := .inl (.inl h)
theorem SqT.of {K : FrK} (h : H a = some (.tup xs)) : SqT K H a xs := .inl (.inl h)
theorem Inv.list (I : Inv X pins σ H s) (h : SqL X.K H a xs) : ∃ its : List Value, Vals xs its ∧ PlainL s.heap a its.toArray ∧ xs.length ≤ sizeLine := by
 rcases h with h | ⟨o, its, n, hk, hc, hd, hs, hz, r⟩
 ·obtain ⟨z, its, n, r, e⟩ := h.ok I.hok
  exact ⟨its, r, ⟨_, n, e, rfl, rfl, rfl⟩, z⟩
 ·refine ⟨its.toList, r, ⟨o, n, I.kIn a o hk, hc, hd, by simpa using hs⟩, ?_⟩
  have e := r.length
  simp only [Array.length_toList] at e
  omega
theorem Inv.tuple (I : Inv X pins σ H s) (h : SqT X.K H a xs) : ∃ its : List Value, Vals xs its ∧ IsTup s.heap a its.toArray ∧ xs.length ≤ sizeLine := by
 rcases h with h | ⟨o, its, n, hk, hc, hs, hz, r⟩
 ·obtain ⟨z, its, r, p⟩ := h.ok I.hok
  exact ⟨its, r, p, z⟩
 ·refine ⟨its.toList, r, ⟨o, I.kIn a o hk, hc, n, by simpa using hs⟩, ?_⟩
  have e := r.length
  simp only [Array.length_toList] at e
  omega
theorem Inv.list_inj (I : Inv X pins σ H s) (h : SqL X.K H a xs) (h' : SqL X.K H a ys) : xs = ys := by
 obtain ⟨its, r, ⟨o, n, e, _, _, d⟩, _⟩ := I.list h
 obtain ⟨its', r', ⟨o', n', e', _, _, d'⟩, _⟩ := I.list h'
 rw [e] at e'; cases e'
 rw [d] at d'
 injection d' with d1 _
 have : its = its' := by simpa using congrArg Array.toList d1
 subst this
 exact r.inj r'
theorem Inv.tuple_inj (I : Inv X pins σ H s) (h : SqT X.K H a xs) (h' : SqT X.K H a ys) : xs = ys := by
 obtain ⟨its, r, ⟨o, e, _, n, d⟩, _⟩ := I.tuple h
 obtain ⟨its', r', ⟨o', e', _, n', d'⟩, _⟩ := I.tuple h'
 rw [e] at e'; cases e'
 rw [d] at d'
 injection d' with d1 _
 have : its = its' := by simpa using congrArg Array.toList d1
 subst this
 exact r.inj r'
end
noncomputable abbrev Cx.wish (X : Cx) (E : Value → Shared → Prop) : Cx := { X with xe := E }
noncomputable abbrev Cx.nox (X : Cx) : Cx := X.wish fun _ _ => False
theorem Cx.Ok.wish {X : Cx} (ok : X.Ok) (E : Value → Shared → Prop) : (X.wish E).Ok :=
 ⟨ok.mod, ok.kind, ok.glob, ok.blt, ok.above, ok.inj, ok.has, ok.cab, ok.hd, ok.frames, ok.stk, ok.exf, ok.bs, ok.bsz, ok.noex, ok.exfs, ok.funs, ok.frf⟩
theorem Cx.Ok.unwish {X : Cx} {E : Value → Shared → Prop} (ok : (X.wish E).Ok) : X.Ok :=
 ⟨ok.mod, ok.kind, ok.glob, ok.blt, ok.above, ok.inj, ok.has, ok.cab, ok.hd, ok.frames, ok.stk, ok.exf, ok.bs, ok.bsz, ok.noex, ok.exfs, ok.funs, ok.frf⟩
section
variable {X : Cx} {pins : List (Addr × Obj)} {σ : St} {H : Hp} {s : Shared} {E : Value → Shared → Prop}
theorem Inv.wish (I : Inv X pins σ H s) (E : Value → Shared → Prop) : Inv (X.wish E) pins σ H s := ⟨I.ok.wish E, I.os, I.bare, I.base, I.loc, I.cell, I.free, I.freeC, I.pin, I.hok, I.len⟩
theorem Inv.unwish (I : Inv (X.wish E) pins σ H s) : Inv X pins σ H s := ⟨I.ok.unwish, I.os, I.bare, I.base, I.loc, I.cell, I.free, I.freeC, I.pin, I.hok, I.len⟩
theorem SP.unwish {D : Ends} {f : Flow} {s' : Shared} (h : SP (X.wish E) pins D f s') : SP X pins D f s' := by
 cases f with
 | next => obtain ⟨σ', H', I, q⟩ := h; exact ⟨σ', H', I.unwish, q⟩
 | brk => obtain ⟨σ', H', I, q⟩ := h; exact ⟨σ', H', I.unwish, q⟩
 | cont => obtain ⟨σ', H', I, q⟩ := h; exact ⟨σ', H', I.unwish, q⟩
 | ret u => obtain ⟨v, σ', H', I, r, q⟩ := h; exact ⟨v, σ', H', I.unwish, r, q⟩
theorem PSs.nox {st : List Stmt} {t : TS} (h : PSs X.nox st t) : PSs X st t := fun pins s σ H D I hw =>
 wpAny_mono (h pins s σ H D (I.wish _) hw) (fun _ _ q => q.unwish) fun _ _ z => False.elim z
end
section
variable {X : Cx} {st : Stmt} {rest : List Stmt} {t u : TS} {e : Expr} {te : TE} {pos : Pos}
noncomputable def tNext : TS := fun D σ H => D.nx σ H
noncomputable def tSeq (t u : TS) : TS := fun D σ H => t { D with nx := u D } σ H
theorem pss_nil : PSs X [] tNext := fun _ _ σ H _ I h => wpAny_execs_nil ⟨σ, H, I, h⟩
theorem pss_cons (h1 : PS X st t) (h2 : PSs X rest u) : PSs X (st :: rest) (tSeq t u) := by
 intro pins s σ H D I h
 refine wpAny_execs_cons (thn (h1 pins s σ H { D with nx := u D } I h) fun f s1 q => ?_)
 cases f with
 | next =>
  obtain ⟨σ', H', I', q⟩ := q
  exact h2 pins s1 σ' H' D I' q
 | ret v => exact q
 | brk => exact q
 | cont => exact q
theorem pss_one (h1 : PS X st t) : PSs X [st] t := by
 intro pins s σ H D I h
 refine wpAny_execs_cons (thn (h1 pins s σ H D I h) fun f s1 q => ?_)
 cases f with
 | next => exact wpAny_execs_nil q
 | ret v => exact q
 | brk => exact q
 | cont => exact q
theorem Inv.quiet {pins : List (Addr × Obj)} {σ : St} {H : Hp} {s : Shared} (I : Inv X pins σ H s) : interactive X.env = false := by simp [interactive, I.ok.kind]
noncomputable def tDrop (te : TE) : TS := fun D σ H => te σ H fun _ H1 => D.nx σ H1
theorem ps_expr (he : PE X e te) (hs : swapsWith e none pos.line X.env = pure false := by rfl) : PS X (.Expr e pos) (tDrop te) := by
 intro pins s σ H D I h
 exact wpAny_Expr_any (thn (he pins s σ H _ I h) fun v s1 ⟨x, H1, I1, r1, q1⟩ => ⟨σ, H1, I1, q1⟩) I.quiet hs
noncomputable def tRet (te : TE) : TS := fun D σ H => te σ H D.rt
theorem ps_ret (he : PE X e te) : PS X (.Return (some e) pos) (tRet te) := by
 intro pins s σ H D I h
 exact wpAny_Return_some (thn (he pins s σ H _ I h) fun v s1 ⟨x, H1, I1, r1, q1⟩ => ⟨x, σ, H1, I1, r1, q1⟩)
noncomputable def tRetN : TS := fun D _ H => D.rt .non H
theorem ps_retN : PS X (.Return none pos) tRetN := fun _ _ σ H _ I h => wpAny_Return_none ⟨.non, σ, H, I, rfl, h⟩
noncomputable def tIfS (c : TT) (t u : TS) : TS := fun D σ H => c σ H fun b H1 => if b = true then t D σ H1 else u D σ H1
theorem ps_if {c : Expr} {a b : List Stmt} {tc : TT} (hc : PT X c tc) (ha : PSs X a t) (hb : PSs X b u) : PS X (.If c a b pos) (tIfS tc t u) := by
 intro pins s σ H D I h
 refine wpAny_If (thn (hc pins s σ H _ I h) fun d s1 ⟨H1, I1, q1⟩ => ?_)
 cases d with
 | true => exact ha pins s1 σ H1 D I1 q1
 | false => exact hb pins s1 σ H1 D I1 q1
noncomputable def tNever : TS := fun _ _ _ => False
theorem ps_never : PS X st tNever := fun _ _ _ _ _ _ h => h.elim
end
noncomputable abbrev TG := V → St → Hp → (St → Hp → Prop) → Prop
noncomputable abbrev TGs := List V → St → Hp → (St → Hp → Prop) → Prop
noncomputable def PG (X : Cx) (target : Expr) (t : TG) : Prop :=
 ∀ (pins : List (Addr × Obj)) (s : Shared) (σ : St) (H : Hp) (v : V) (u : Value) (Q : St → Hp → Prop), Inv X pins σ H s → RelV v u → t v σ H Q →
  wpAny (model X.prog X.w) X.A (assign target X.env u) (fun _ s' => ∃ σ' H', Inv X pins σ' H' s' ∧ Q σ' H') X.xe s
noncomputable def PGs (X : Cx) (ts : List Expr) (t : TGs) : Prop :=
 ∀ (pins : List (Addr × Obj)) (s : Shared) (σ : St) (H : Hp) (vs : List V) (us : List Value) (Q : St → Hp → Prop), Inv X pins σ H s → Vals vs us → t vs σ H Q →
  wpAny (model X.prog X.w) X.A (assignInOrder ((assignEach ts X.env).map (·.2)) us) (fun _ s' => ∃ σ' H', Inv X pins σ' H' s' ∧ Q σ' H') X.xe s
noncomputable abbrev TSet := V → V → V → Hp → (Hp → Prop) → Prop
noncomputable def PSet (X : Cx) (t : TSet) : Prop :=
 ∀ (pins : List (Addr × Obj)) (s : Shared) (σ : St) (H : Hp) (o i v : V) (ov iv u : Value) (Q : Hp → Prop), Inv X pins σ H s → RelV o ov → RelV i iv → RelV v u → t o i v H Q →
  wpAny (model X.prog X.w) X.A (setItem ov iv u) (fun _ s' => ∃ H', Inv X pins σ H' s' ∧ Q H') X.xe s
section
variable {X : Cx} {pos : Pos}
noncomputable def gName (i : Nat) : TG := fun v σ H Q => Q (σ.set i (some v)) H
theorem pg_name {i : Nat} {x : Str} (hN : X.N.Nodup) (hi : X.N[i]? = some x) (hx : Loc X.env.scope x) (hf : X.fn x = true ∨ X.env.scope.names.lookup x = some .local := by first | exact .inl rfl | exact .inr rfl | assumption) : PG X (.Name x pos) (gName i) := by
 intro pins s σ H v u Q I r h
 exact wpAny_assign_Name (store_ok I hN hi hx r (fun s' I' => ⟨_, H, I', h⟩) hf)
noncomputable def gNil : TGs := fun vs σ H Q => vs = [] ∧ Q σ H
noncomputable def gCons (t : TG) (u : TGs) : TGs := fun vs σ H Q => ∃ v r, vs = v :: r ∧ t v σ H fun σ' H' => u r σ' H' Q
theorem pgs_nil : PGs X [] gNil := by
 intro pins s σ H vs us Q I r h
 obtain ⟨e, h⟩ := h
 subst e
 cases r
 exact assignInOrder_nil ⟨σ, H, I, h⟩
theorem pgs_cons {e : Expr} {es : List Expr} {t : TG} {u : TGs} (h1 : PG X e t) (h2 : PGs X es u)
  (hs : (assignEach (e :: es) X.env).map (·.2) = assign e X.env :: (assignEach es X.env).map (·.2) := by rfl) : PGs X (e :: es) (gCons t u) := by
 intro pins s σ H vs us Q I r h
 obtain ⟨v, vr, e1, h⟩ := h
 subst e1
 cases r with
 | cons r rr =>
  rw [hs]
  refine assignInOrder_cons (thn (h1 pins s σ H _ _ _ I r h) fun _ s1 ⟨σ1, H1, I1, q1⟩ => ?_)
  exact h2 pins s1 σ1 H1 _ _ Q I1 rr q1
noncomputable def gTup (K : FrK) (n : Nat) (t : TGs) : TG := fun v σ H Q => ∃ a xs, v = .ref a ∧ SqT K H a xs ∧ xs.length = n ∧ t xs σ H Q
theorem pg_tup {es : List Expr} {k : Nat} {t : TGs} {n : Nat} (hc : X.calm = true) (h : PGs X es t)
  (hn : (assignEach es X.env).length = n := by rfl) (hst : (assignEach es X.env).findIdx? (·.1) = none := by rfl) : PG X (.Tuple es k pos) (gTup X.K n t) := by
 intro pins s σ H v u Q I r hw
 obtain ⟨a, xs, e1, hq, hl, hw⟩ := hw
 subst e1
 cases r
 obtain ⟨its, rv, ht, hz⟩ := I.tuple hq
 refine assign_Tuple_tuple (I.ok.hd hc) ht (by simp [hn, ← hl, rv.length]) hst fun h' hx => ?_
 have I1 : Inv X pins σ H { s with heap := h' } := I.kept (t' := s.toks) fun b o e => hx b o (Nat.ne_of_lt (Heap.lt_size e)) e
 exact h pins _ σ H xs _ Q I1 (by simpa using rv) hw
noncomputable def gSub (to ti : TE) (t : TSet) : TG := fun v σ H Q => to σ H fun o H1 => ti σ H1 fun i H2 => t o i v H2 fun H3 => Q σ H3
theorem pg_sub {o i : Expr} {to ti : TE} {t : TSet} (ho : PE X o to) (hi : PE X i ti) (hs : PSet X t)
  (ha : ∀ v, assign (.Subscript o i pos) X.env v = (do
   let ov ← holding [v] (eval o X.env)
   let iv ← holding [v, ov] (eval i X.env)
   standAt pos
   holding [v, ov, iv] (setItem ov iv v)
   release [v, ov, iv] []) := by intro _; rfl) : PG X (.Subscript o i pos) (gSub to ti t) := by
 intro pins s σ H v u Q I r h
 rw [ha]
 refine wpAny_bind (wpAny_holding (thn (ho pins s σ H _ I h) fun ov s1 ⟨x, H1, I1, r1, q1⟩ => ?_))
 refine wpAny_bind (wpAny_holding (thn (hi pins s1 σ H1 _ I1 q1) fun iv s2 ⟨y, H2, I2, r2, q2⟩ => ?_))
 refine wpAny_bind (wpAny_standAt (wpAny_bind (wpAny_holding (thn (hs pins s2 σ H2 x y v ov iv u _ I2 r1 r2 r q2) fun _ s3 ⟨H3, I3, q3⟩ => ?_))))
 exact wpAny_release ⟨σ, H3, I3, q3⟩
noncomputable def tAsg (te : TE) (g : TG) : TS := fun D σ H => te σ H fun x H1 => g x σ H1 D.nx
theorem ps_asg {tg e : Expr} {te : TE} {g : TG} (he : PE X e te) (hg : PG X tg g) (hs : swapsWithSole [tg] e pos.line X.env = pure false := by rfl) (hw : swappedStores [tg] e X.env = pure none := by rfl)
  (h1 : (assignEach [tg] X.env).map (·.2) = [assign tg X.env] := by rfl) : PS X (.Assign [tg] e pos) (tAsg te g) := by
 intro pins s σ H D I h
 refine wpAny_Assign_stores (thn (he pins s σ H _ I h) fun v s1 ⟨x, H1, I1, r1, q1⟩ => ?_) hs hw
 rw [h1]
 exact thn (hg pins s1 σ H1 x v _ I1 r1 q1) fun _ s2 q => q
theorem ps_set {i : Nat} {x : Str} {e : Expr} {te : TE} {pos' : Pos} (hN : X.N.Nodup) (hi : X.N[i]? = some x) (hx : Loc X.env.scope x) (he : PE X e te) (hs : swapsWith e (some (.Name x pos')) pos.line X.env = pure false := by rfl) (hf : X.fn x = true ∨ X.env.scope.names.lookup x = some .local := by first | exact .inl rfl | exact .inr rfl | assumption) :
  PS X (.Assign [.Name x pos'] e pos) (tAsg te (gName i)) := by
 intro pins s σ H D I h
 refine wpAny_Assign_Name (thn (he pins s σ H _ I h) fun v s1 ⟨y, H1, I1, r1, q1⟩ => ?_) hs
 exact store_ok I1 hN hi hx r1 (fun s2 I2 => ⟨_, H1, I2, q1⟩) hf
noncomputable def tPar (i j : Nat) (ta : TA) : TS := fun D σ H => ta σ H fun vs H1 => ∃ v w, vs = [v, w] ∧ D.nx ((σ.set i (some v)).set j (some w)) H1
theorem ps_par {i j : Nat} {x y : Str} {a b : Expr} {ta : TA} {px py pt : Pos} {kt k2 pt2} (hc : X.calm = true) (hN : X.N.Nodup) (hi : X.N[i]? = some x) (hj : X.N[j]? = some y) (hij : i ≠ j)
  (hx : X.env.scope.names.lookup x = some .local) (hy : X.env.scope.names.lookup y = some .local) (ha : PA X [a, b] ta)
  (hw : swappedStores [.Tuple [.Name x px, .Name y py] kt pt] (.Tuple [a, b] k2 pt2) X.env = pure (some [x, y]))
  (hs : swapsWithSole [.Tuple [.Name x px, .Name y py] kt pt] (.Tuple [a, b] k2 pt2) pos.line X.env = pure false := by rfl) :
  PS X (.Assign [.Tuple [.Name x px, .Name y py] kt pt] (.Tuple [a, b] k2 pt2) pos) (tPar i j ta) := by
 intro pins s σ H D I h
 rw [exec_Assign_arm]
 refine wpAny_bind (wpAny_standAt ?_)
 rw [hs]
 refine wpAny_bind (wpAny_pure ?_)
 rw [if_neg (by decide)]
 refine wpAny_bind (Tuple_ (thn (ha _ pins s σ H _ I h) fun us s1 ⟨vs, H1, I1, r1, q1⟩ => ?_))
 obtain ⟨v, w, e1, q1⟩ := q1
 subst e1
 obtain ⟨u1, u2, rfl, rv, rw'⟩ : ∃ u1 u2, us = [u1, u2] ∧ RelV v u1 ∧ RelV w u2 := by
  cases r1 with
  | cons p q =>
   cases q with
   | cons p' q' =>
    cases q'
    exact ⟨_, _, rfl, p, p'⟩
 refine wpAny_newObj_type ?_ (by show 2 ≤ sizeLine; decide)
 have I2 : Inv X pins σ H1 { s1 with heap := s1.heap.push { cls := .type "tuple", data := .seq [u1, u2].toArray } } := I1.kept (t' := s1.toks) fun b o e => Heap.get?_push_of_some _ e
 rw [hw]
 refine wpAny_bind (wpAny_pure ?_)
 show wpAny (model X.prog X.w) X.A (do rule "assign.swapped-stores"; let items ← unpackItems (.ref s1.heap.objs.size) 2 none; assignInOrder [fun v => bindName X.env y v, fun v => bindName X.env x v] items.reverse; pure Flow.next) _ _ _
 refine wpAny_bind (wpAny_rule (wpAny_bind (unpackItems_tuple (items := #[u1, u2]) (I.ok.hd hc) (IsTup.new s1.heap _) fun h' hx' => ?_)))
 have I3 := I2.kept (h' := h') (t' := s1.toks) fun b o e => hx' b o (Nat.ne_of_lt (Heap.lt_size e)) e
 show wpAny _ _ (assignInOrder [fun v => bindName X.env y v, fun v => bindName X.env x v] [u2, u1] >>= fun _ => pure Flow.next) _ _ _
 refine wpAny_bind (assignInOrder_cons (wpAny_bindName (store_ok I3 hN hj (.inl hy) rw' (fun s2 I4 => ?_) (.inr hy))))
 refine assignInOrder_cons (wpAny_bindName (store_ok I4 hN hi (.inl hx) rv (fun s3 I5 => assignInOrder_nil (wpAny_pure ?_)) (.inr hx)))
 rw [List.set_comm _ _ (Ne.symm hij)] at I5
 exact ⟨_, H1, I5, q1⟩
end
section
variable {X : Cx} {pos : Pos}
noncomputable def tWhile (c : TT) (tb : TS) : TS := fun D σ H => ∃ W : Nat → St → Hp → Prop, (∃ m, W m σ H) ∧ ∀ m σ H, W m σ H →
 c σ H fun b H1 => if b = true then ∃ N : St → Hp → Prop, (∀ σ' H', N σ' H' → ∃ m', m' < m ∧ W m' σ' H') ∧ tb { D with nx := N, ct := N, bk := D.nx } σ H1 else D.nx σ H1
theorem ps_while {c : Expr} {body : List Stmt} {tc : TT} {tb : TS} (hp : PassesOwn (model X.prog X.w) X.A X.env X.xe) (hc : PT X c tc) (hb : PSs X body tb) : PS X (.While c body [] pos) (tWhile tc tb) := by
 intro pins s σ H D I h
 obtain ⟨W, ⟨m0, w0⟩, turn⟩ := h
 refine wpAny_While (codeAny_whileLoop (fun n s' => ∃ σ' H', Inv X pins σ' H' s' ∧ W n σ' H') ?_ m0 ⟨σ, H, I, w0⟩)
 rintro n s1 ⟨σ1, H1, I1, w1⟩
 refine wpAny_passesOwn hp (thn (hc pins s1 σ1 H1 _ I1 (turn n σ1 H1 w1)) fun b s2 ⟨H2, I2, q2⟩ => ?_)
 cases b with
 | true =>
  obtain ⟨N, hN, q2⟩ := q2
  rw [if_pos rfl]
  refine wpAny_passesOwn hp (thn (hb pins s2 σ1 H2 _ I2 q2) fun f s3 q3 => ?_)
  cases f with
  | next =>
   obtain ⟨σ3, H3, I3, n3⟩ := q3
   obtain ⟨m', hm, w3⟩ := hN σ3 H3 n3
   exact ⟨m', hm, σ3, H3, I3, w3⟩
  | cont =>
   obtain ⟨σ3, H3, I3, n3⟩ := q3
   obtain ⟨m', hm, w3⟩ := hN σ3 H3 n3
   exact ⟨m', hm, σ3, H3, I3, w3⟩
  | brk => exact q3
  | ret v => exact q3
 | false =>
  rw [if_neg Bool.false_ne_true]
  exact wpAny_execs_nil ⟨σ1, H2, I2, q2⟩
end
structure It where
 go : Nat → Hp → Prop
 yld : Nat → Hp → V → Hp → Prop
 stop : Nat → Hp → Prop
noncomputable def FpOk (X : Cx) (pins : List (Addr × Obj)) (H : Hp) (b : Addr) : Prop :=
 H b = none ∧ b ≠ X.env.locals ∧ b ∉ X.fs ∧ (b ∈ X.ex ∨ X.s₀.heap.objs.size ≤ b) ∧ (∀ x c, X.env.cells.lookup x = some c → c ≠ b) ∧ ∀ p ∈ X.pn ++ pins, p.1 ≠ b
theorem Inv.fpOk {X : Cx} {pins : List (Addr × Obj)} {σ : St} {H H' : Hp} {s : Shared} {b : Addr} (I : Inv X pins σ H s) (hb : s.heap.objs.size ≤ b) (hn : H' b = none) : FpOk X pins H' b := by
 refine ⟨hn, Nat.ne_of_gt (Nat.lt_of_lt_of_le I.lt hb), I.nofs hb, .inr (Nat.le_trans I.sz hb), fun x c e z => ?_, fun p hp z => ?_⟩
 ·obtain ⟨v, q⟩ := I.cell x c e
  exact absurd (Nat.lt_of_lt_of_le q.lt (by rw [z]; exact hb)) (Nat.lt_irrefl _)
 ·exact absurd (Nat.lt_of_lt_of_le (Heap.lt_size (I.pin p hp).1) (by rw [z]; exact hb)) (Nat.lt_irrefl _)
structure Turn (P : Program) (w : World) (K : FrK) (tg : Expr) (J : It) (fp : List Addr) (it : Addr) (tn : Nat → Heap → Prop) : Prop where
 mem : it ∈ fp
 obj : ∀ i h, tn i h → ∀ b ∈ fp, ∃ o, h.get? b = some o ∧ ∀ v, o.data ≠ .cell v
 keep : ∀ i h h', tn i h → (∀ b ∈ fp, ∀ o, h.get? b = some o → h'.get? b = some o) → tn i h'
 item : ∀ (X : Cx), X.prog = P → X.w = w → X.K = K → X.calm = true → ∀ (i : Nat) (pins : List (Addr × Obj)) (s : Shared) (σ : St) (H : Hp) (E : Value → Shared → Prop), Inv X pins σ H s → (∀ b ∈ fp, FpOk X pins H b) → tn i s.heap → J.go i H →
  wpAny (model P w) X.A (pyNext (.ref it)) (fun r s1 => ∃ u, r = some u ∧
   wpAny (model P w) X.A (letOwnedTupleGo tg (.ref it) u) (fun _ s2 => ∃ x H', Inv X pins σ H' s2 ∧ RelV x u ∧ J.yld i H x H' ∧ tn (i + 1) s2.heap ∧ ∀ b ∈ fp, H' b = none) E s1) E s
 done : ∀ (X : Cx), X.prog = P → X.w = w → X.K = K → X.calm = true → ∀ (i : Nat) (pins : List (Addr × Obj)) (s : Shared) (σ : St) (H : Hp) (E : Value → Shared → Prop), Inv X pins σ H s → (∀ b ∈ fp, FpOk X pins H b) → tn i s.heap → J.stop i H →
  wpAny (model P w) X.A (pyNext (.ref it)) (fun r s1 => r = none ∧ Inv X pins σ H s1) E s
 self : ∀ (A : Around) (i : Nat) (s : Shared) (Q : Value → Shared → Prop) (E : Value → Shared → Prop), tn i s.heap → Q (.ref it) s → wpAny (model P w) A (pyIter (.ref it)) Q E s
noncomputable abbrev TI := St → Hp → (It → Hp → Prop) → Prop
noncomputable def PIE (X : Cx) (pins : List (Addr × Obj)) (σ : St) (tg : Expr) (R : It → Hp → Prop) (itv : Value) (s2 : Shared) : Prop :=
 ∃ (it : Addr) (fp : List Addr) (tn : Nat → Heap → Prop) (J : It) (H' : Hp), itv = .ref it ∧ Inv X pins σ H' s2 ∧ Turn X.prog X.w X.K tg J fp it tn ∧ tn 0 s2.heap ∧ (∀ b ∈ fp, FpOk X pins H' b) ∧ R J H'
noncomputable def PI (X : Cx) (tg iter : Expr) (wi : TI) : Prop :=
 ∀ (pins : List (Addr × Obj)) (s : Shared) (σ : St) (H : Hp) (R : It → Hp → Prop), Inv X pins σ H s → wi σ H R →
  wpAny (model X.prog X.w) X.A (eval iter X.env) (fun v s1 => wpAny (model X.prog X.w) X.A (pyIter v) (PIE X pins σ tg R) X.xe s1) X.xe s
theorem go_of {M : Model} {A : Around} {E : Value → Shared → Prop} {s : Shared} {tg : Expr} {it : Addr} {u : Value} {o : Obj} {n : String} {vs : Array Value} {Q : Unit → Shared → Prop} (ho : s.heap.get? it = some o) (hc : o.cls = .type n) (hd : o.data = .fields vs)
    (hn : ["enumerate", "zip", "dict_itemiterator", "dict_reverseitemiterator", "odict_iterator", "itertools.zip_longest", "itertools.pairwise"].contains n = false) (hQ : Q () s) : wpAny M A (letOwnedTupleGo tg (.ref it) u) Q E s := by
  unfold letOwnedTupleGo
  cases tg <;> first
    | exact wpAny_pure hQ
    | (cases u <;> first
        | exact wpAny_pure hQ
        | (refine wpAny_bind (wpAny_load ho ?_)
           rw [hc, hd]
           show wpAny M A (if (["enumerate", "zip", "dict_itemiterator", "dict_reverseitemiterator", "odict_iterator", "itertools.zip_longest", "itertools.pairwise"].contains n && vs[0]? == some (rawInt _)) = true then _ else _) Q E s
           rw [if_neg (by intro h; rw [hn, Bool.false_and] at h; cases h)]
           exact wpAny_pure hQ))
noncomputable def Itl (K : FrK) (a : Addr) : It :=
 ⟨fun i H => ∃ xs x, SqL K H a xs ∧ xs[i]? = some x, fun i H x H' => H' = H ∧ ∀ xs, SqL K H a xs → xs[i]? = some x, fun i H => ∃ xs, SqL K H a xs ∧ xs.length ≤ i⟩
noncomputable def Itt (K : FrK) (a : Addr) : It :=
 ⟨fun i H => ∃ xs x, SqT K H a xs ∧ xs[i]? = some x, fun i H x H' => H' = H ∧ ∀ xs, SqT K H a xs → xs[i]? = some x, fun i H => ∃ xs, SqT K H a xs ∧ xs.length ≤ i⟩
noncomputable def Itr (lo : Int) (n : Nat) : It := ⟨fun i _ => i < n, fun i H x H' => H' = H ∧ x = .int (lo + i), fun i _ => n ≤ i⟩
theorem turn_list {P : Program} {w : World} {K : FrK} {tg : Expr} (a it : Addr) : Turn P w K tg (Itl K a) [it] it (fun i h => h.IsListIter it a i) where
 mem := by simp
 obj := fun i h st b hb => by
  have e : b = it := by simpa using hb
  subst e
  obtain ⟨o, e, c, d⟩ := st
  exact ⟨o, e, fun v z => by rw [d] at z; cases z⟩
 keep := fun i h h' st k => st.at fun o e => k it (by simp) o e
 item := by
  intro X hP hw hK hc i pins s σ H E I hf st hg
  subst hP hw hK
  obtain ⟨xs, x, hq, hx⟩ := hg
  obtain ⟨its, rv, p, hz⟩ := I.list hq
  obtain ⟨u, hu, ru⟩ := rv.get hx
  obtain ⟨f0, f1, f2, f3, f4, f5⟩ := hf it (by simp)
  refine wpAny_pyNext_list_item st p.isList (x := u) (by simpa using hu) fun h' st' sb => ?_
  have I1 : Inv X pins σ H { s with heap := h' } := I.turned (t' := s.toks) (fun b o hb e => (sb.2 b hb).trans e) f0 f1 f3 f4 f5
  obtain ⟨o, e, c, d⟩ := id st'
  exact ⟨u, rfl, go_of (s := { s with heap := h' }) e c d (by decide) ⟨x, H, I1, ru, ⟨rfl, fun ys hy => by rw [I.list_inj hy hq]; exact hx⟩, st', fun b hb => (hf b hb).1⟩⟩
 done := by
  intro X hP hw hK hc i pins s σ H E I hf st hg
  subst hP hw hK
  obtain ⟨xs, hq, hx⟩ := hg
  obtain ⟨its, rv, p, hz⟩ := I.list hq
  obtain ⟨f0, f1, f2, f3, f4, f5⟩ := hf it (by simp)
  have hl := rv.length
  exact wpAny_pyNext_list_end (I.ok.hd hc) st p.isList (by simp; omega) fun h' eb => ⟨rfl, I.turned (t' := s.toks) (fun b o hb e => eb b o hb e) f0 f1 f3 f4 f5⟩
 self := fun _ _ _ _ _ st h => wpAny_pyIter_listiter st h
theorem turn_tuple {P : Program} {w : World} {K : FrK} {tg : Expr} (a it : Addr) : Turn P w K tg (Itt K a) [it] it (fun i h => h.IsTupleIter it a i) where
 mem := by simp
 obj := fun i h st b hb => by
  have e : b = it := by simpa using hb
  subst e
  obtain ⟨o, e, c, d⟩ := st
  exact ⟨o, e, fun v z => by rw [d] at z; cases z⟩
 keep := fun i h h' st k => st.at fun o e => k it (by simp) o e
 item := by
  intro X hP hw hK hc i pins s σ H E I hf st hg
  subst hP hw hK
  obtain ⟨xs, x, hq, hx⟩ := hg
  obtain ⟨its, rv, p, hz⟩ := I.tuple hq
  obtain ⟨u, hu, ru⟩ := rv.get hx
  obtain ⟨f0, f1, f2, f3, f4, f5⟩ := hf it (by simp)
  refine wpAny_pyNext_tuple_item st (show s.heap.IsTuple a its.toArray from p) (x := u) (by simpa using hu) fun h' st' sb => ?_
  have I1 : Inv X pins σ H { s with heap := h' } := I.turned (t' := s.toks) (fun b o hb e => (sb.2 b hb).trans e) f0 f1 f3 f4 f5
  obtain ⟨o, e, c, d⟩ := id st'
  exact ⟨u, rfl, go_of (s := { s with heap := h' }) e c d (by decide) ⟨x, H, I1, ru, ⟨rfl, fun ys hy => by rw [I.tuple_inj hy hq]; exact hx⟩, st', fun b hb => (hf b hb).1⟩⟩
 done := by
  intro X hP hw hK hc i pins s σ H E I hf st hg
  subst hP hw hK
  obtain ⟨xs, hq, hx⟩ := hg
  obtain ⟨its, rv, p, hz⟩ := I.tuple hq
  obtain ⟨f0, f1, f2, f3, f4, f5⟩ := hf it (by simp)
  have hl := rv.length
  exact wpAny_pyNext_tuple_end (I.ok.hd hc) st (show s.heap.IsTuple a its.toArray from p) (by simp; omega) fun h' eb => ⟨rfl, I.turned (t' := s.toks) (fun b o hb e => eb b o hb e) f0 f1 f3 f4 f5⟩
 self := fun _ _ _ _ _ st h => wpAny_pyIter_tupleiter st h
theorem turn_range {P : Program} {w : World} {K : FrK} {tg : Expr} (it : Addr) (lo : Int) (n : Nat) : Turn P w K tg (Itr lo n) [it] it (fun i h => IsRangeIter h it (lo + (i : Nat) * 1) ((n : Int) - (i : Nat)) 1) where
 mem := by simp
 obj := fun i h st b hb => by
  have e : b = it := by simpa using hb
  subst e
  exact ⟨_, st, fun v z => by
   have z' : Data.fields _ = Data.cell v := z
   cases z'⟩
 keep := fun i h h' st k => k it (by simp) _ st
 item := by
  intro X hP hw hK hc i pins s σ H E I hf st hg
  subst hP hw hK
  obtain ⟨f0, f1, f2, f3, f4, f5⟩ := hf it (by simp)
  have W := Walks.range (prog := X.prog) (w := X.w) (I.ok.hd hc) it lo 1 n
  refine W.item i s _ _ hg st fun v h' tk hv st' kk => ?_
  obtain ⟨t, rfl⟩ := hv
  have I1 : Inv X pins σ H { s with heap := h', toks := tk } := I.turned (fun b o hb e => kk b o (by simpa using hb) e) f0 f1 f3 f4 f5
  refine ⟨_, rfl, go_of (s := { s with heap := h', toks := tk }) (n := "range_iterator") st' rfl rfl (by decide) ⟨.int (lo + i), H, I1, ⟨t, ?_⟩, ⟨rfl, rfl⟩, st', fun b hb => (hf b hb).1⟩⟩
  rw [Int.mul_one]
 done := by
  intro X hP hw hK hc i pins s σ H E I hf st hg
  subst hP hw hK
  obtain ⟨f0, f1, f2, f3, f4, f5⟩ := hf it (by simp)
  exact wpAny_pyNext_range_end (I.ok.hd hc) st (by have : n ≤ i := hg; omega) fun h' eb => ⟨rfl, I.turned (t' := s.toks) (fun b o hb e => eb b o hb e) f0 f1 f3 f4 f5⟩
 self := fun _ _ _ _ _ st h => wpAny_pyIter_rangeiter st h
end L2
namespace L2
open PySem PySem.Spec PyProof.Rows
section
variable {X : Cx} {tg : Expr}
theorem range_it {pins : List (Addr × Obj)} {σ : St} {H : Hp} {s : Shared} {R : It → Hp → Prop} {E : Value → Shared → Prop} {lo hi : Int} {t u v : Tok} {tk : Nat} (I : Inv X pins σ H s) (h1 : -(2 ^ 62) ≤ lo) (h2 : lo < 2 ^ 62) (h3 : -(2 ^ 62) ≤ hi) (h4 : hi < 2 ^ 62)
  (q : R (Itr lo (hi - lo).toNat) H) : wpAny (model X.prog X.w) X.A (pyIter (.ref s.heap.objs.size)) (PIE X pins σ tg R) E { s with heap := s.heap.push { cls := .type "range", data := .fields #[.int lo t, .int hi u, .int 1 v] }, toks := tk } := by
 refine wpAny_pyIter_range (IsRange.new ..) (small_one h1 h2 h3 h4) ?_
 have I1 : Inv X pins σ H { s with heap := s.heap.push { cls := .type "range", data := .fields #[.int lo t, .int hi u, .int 1 v] }, toks := tk } := I.kept fun b o e => Heap.get?_push_of_some _ e
 refine ⟨(s.heap.push { cls := .type "range", data := .fields #[.int lo t, .int hi u, .int 1 v] }).objs.size, [(s.heap.push { cls := .type "range", data := .fields #[.int lo t, .int hi u, .int 1 v] }).objs.size], _, _, H, rfl,
  I1.kept (t' := tk) fun b o e => Heap.get?_push_of_some _ e, turn_range _ lo (hi - lo).toNat, ?_, fun b hb => ?_, q⟩
 ·have e1 : lo + ((0 : Nat) : Int) * 1 = lo := by simp
  have e2 : (((hi - lo).toNat : Nat) : Int) - ((0 : Nat) : Int) = Builtin.Range.rangeSize lo hi 1 := by rw [rangeSize_one]; split <;> omega
  show IsRangeIter _ _ (lo + ((0 : Nat) : Int) * 1) ((((hi - lo).toNat : Nat) : Int) - ((0 : Nat) : Int)) 1
  rw [e1, e2]
  exact Heap.get?_push_size _ rfl
 ·have e : b = (s.heap.push { cls := .type "range", data := .fields #[.int lo t, .int hi u, .int 1 v] }).objs.size := by simpa using hb
  subst e
  exact I1.fpOk (Nat.le_refl _) (I1.hok.fresh (Nat.le_refl _))
noncomputable def tFor (wi : TI) (g : TG) (tb : TS) : TS := fun D σ H => wi σ H fun J H1 => ∃ W : Nat → Nat → St → Hp → Prop, (∃ m, W 0 m σ H1) ∧ ∀ i m σ H, W i m σ H →
 (J.stop i H ∧ D.nx σ H) ∨ (J.go i H ∧ ∃ N : St → Hp → Prop, (∀ σ' H', N σ' H' → ∃ m', m' < m ∧ W (i + 1) m' σ' H') ∧ ∀ x H', J.yld i H x H' → g x σ H' fun σ2 H2 => tb { D with nx := N, ct := N, bk := D.nx } σ2 H2)
noncomputable def pinsAt (fp : List Addr) (h : Heap) : List (Addr × Obj) := fp.filterMap fun b => (h.get? b).map fun o => (b, o)
theorem mem_pinsAt {fp : List Addr} {h : Heap} {b : Addr} {o : Obj} (hb : b ∈ fp) (e : h.get? b = some o) : (b, o) ∈ pinsAt fp h := List.mem_filterMap.mpr ⟨b, hb, by rw [e]; rfl⟩
theorem of_pinsAt {fp : List Addr} {h : Heap} {p : Addr × Obj} (hp : p ∈ pinsAt fp h) : p.1 ∈ fp ∧ h.get? p.1 = some p.2 := by
 obtain ⟨b, hb, e⟩ := List.mem_filterMap.mp hp
 cases q : h.get? b with
 | none => rw [q] at e; cases e
 | some o =>
  rw [q] at e
  have e' : (b, o) = p := Option.some.inj e
  subst e'
  exact ⟨hb, q⟩
theorem Inv.pinned {pins : List (Addr × Obj)} {σ : St} {H : Hp} {s : Shared} {fp : List Addr} (I : Inv X pins σ H s) (hf : ∀ b ∈ fp, FpOk X pins H b) (ho : ∀ b ∈ fp, ∃ o, s.heap.get? b = some o ∧ ∀ v, o.data ≠ .cell v) : Inv X (pins ++ pinsAt fp s.heap) σ H s :=
 I.pins_of fun p hp => (List.mem_append.mp hp).elim (fun z => I.pin p (List.mem_append_right _ z)) fun z => by
  obtain ⟨hb, e⟩ := of_pinsAt z
  obtain ⟨f0, f1, f2, _⟩ := hf p.1 hb
  obtain ⟨o, e', d⟩ := ho p.1 hb
  rw [e] at e'; cases e'
  exact ⟨e, f0, f1, f2, d⟩
theorem Inv.unpinned {pins pl : List (Addr × Obj)} {σ : St} {H : Hp} {s : Shared} (I : Inv X (pins ++ pl) σ H s) : Inv X pins σ H s := I.pins_of fun p hp => I.pin p (List.mem_append_right _ (List.mem_append_left _ hp))
theorem ps_for {iter : Expr} {body : List Stmt} {wi : TI} {g : TG} {tb : TS} {pos : Pos} (hp : PassesOwn (model X.prog X.w) X.A X.env X.xe) (hc : X.calm = true) (hi : PI X tg iter wi) (hg : PG X tg g) (hb : PSs X body tb)
  (hs : ∀ x, foldedSetIterable iter X.env x = pure x := by intro _; rfl) : PS X (.For tg iter body [] pos) (tFor wi g tb) := by
 intro pins s σ H D I h
 refine wpAny_For (thn (hi pins s σ H _ I h) fun v s1 h1 => thn h1 fun itv s2 h2 => ?_) hs
 obtain ⟨it, fp, tn, J, H2, e, I2, T, st2, f2, W, ⟨m0, w0⟩, turn⟩ := h2
 subst e
 have stat : ∀ {H' : Hp}, (∀ b ∈ fp, H' b = none) → ∀ b ∈ fp, FpOk X pins H' b := fun hn b hb => ⟨hn b hb, (f2 b hb).2⟩
 refine codeAny_forLoop_any (fun n s' => ∃ i σ' H', Inv X pins σ' H' s' ∧ tn i s'.heap ∧ (∀ b ∈ fp, H' b = none) ∧ W i n σ' H') ?_ m0 ⟨0, σ, H2, I2, st2, fun b hb => (f2 b hb).1, w0⟩
 rintro n s3 ⟨i, σ3, H3, I3, st3, fr3, w3⟩
 rcases turn i n σ3 H3 w3 with ⟨stop, qn⟩ | ⟨go, N, hN, step⟩
 ·refine wpAny_passesOwn hp (thn (T.done X rfl rfl rfl hc i pins s3 σ3 H3 X.xe I3 (stat fr3) st3 stop) fun r s4 ⟨hr, I4⟩ => ?_)
  subst hr
  exact wpAny_execs_nil ⟨σ3, H3, I4, qn⟩
 ·refine wpAny_passesOwn hp (thn (T.item X rfl rfl rfl hc i pins s3 σ3 H3 X.xe I3 (stat fr3) st3 go) fun r s4 ⟨u, hr, h4⟩ => ?_)
  subst hr
  refine wpAny_passesOwn hp (thn h4 fun _ s5 ⟨x, H5, I5, r5, y5, st5, fr5⟩ => ?_)
  have I5' := I5.pinned (stat fr5) (T.obj _ _ st5)
  refine wpAny_passesOwn hp (thn (hg _ s5 σ3 H5 x u _ I5' r5 (step x H5 y5)) fun _ s6 ⟨σ6, H6, I6, q6⟩ => ?_)
  refine wpAny_passesOwn hp (thn (hb _ s6 σ6 H6 _ I6 q6) fun f s7 q7 => ?_)
  have again : ∀ {σ7 : St} {H7 : Hp}, Inv X (pins ++ pinsAt fp s5.heap) σ7 H7 s7 → N σ7 H7 → ∃ m, m < n ∧ ∃ i σ' H', Inv X pins σ' H' s7 ∧ tn i s7.heap ∧ (∀ b ∈ fp, H' b = none) ∧ W i m σ' H' := fun {σ7 H7} I7 n7 => by
   obtain ⟨m', hm, w7⟩ := hN σ7 H7 n7
   refine ⟨m', hm, i + 1, σ7, H7, I7.unpinned, T.keep _ _ _ st5 fun b hb o e => (I7.pin (b, o) (List.mem_append_right _ (List.mem_append_right _ (mem_pinsAt hb e)))).1, fun b hb => ?_, w7⟩
   obtain ⟨o, e, d⟩ := T.obj _ _ st5 b hb
   exact (I7.pin (b, o) (List.mem_append_right _ (List.mem_append_right _ (mem_pinsAt hb e)))).2.1
  cases f with
  | next => obtain ⟨σ7, H7, I7, n7⟩ := q7; exact again I7 n7
  | cont => obtain ⟨σ7, H7, I7, n7⟩ := q7; exact again I7 n7
  | brk => obtain ⟨σ7, H7, I7, q7⟩ := q7; exact ⟨σ7, H7, I7.unpinned, q7⟩
  | ret v => obtain ⟨x7, σ7, H7, I7, r7, q7⟩ := q7; exact ⟨x7, σ7, H7, I7.unpinned, r7, q7⟩
end
theorem for_list {K : FrK} {a : Addr} {xs : List V} {g : TG} {tb : TS} {D : Ends} {σ : St} {H : Hp} (Pv : Nat → St → Hp → Prop) (h0 : Pv 0 σ H) (hl : ∀ i σ H, i ≤ xs.length → Pv i σ H → SqL K H a xs)
  (hs : ∀ i x σ H, xs[i]? = some x → Pv i σ H → g x σ H fun σ2 H2 => tb { D with nx := Pv (i + 1), ct := Pv (i + 1), bk := D.nx } σ2 H2) (hd : ∀ σ H, Pv xs.length σ H → D.nx σ H) :
  ∃ W : Nat → Nat → St → Hp → Prop, (∃ m, W 0 m σ H) ∧ ∀ i m σ H, W i m σ H →
   ((Itl K a).stop i H ∧ D.nx σ H) ∨ ((Itl K a).go i H ∧ ∃ N : St → Hp → Prop, (∀ σ' H', N σ' H' → ∃ m', m' < m ∧ W (i + 1) m' σ' H') ∧ ∀ x H', (Itl K a).yld i H x H' → g x σ H' fun σ2 H2 => tb { D with nx := N, ct := N, bk := D.nx } σ2 H2) := by
 refine ⟨fun i m σ H => m = xs.length - i ∧ i ≤ xs.length ∧ Pv i σ H, ⟨xs.length, by simp, Nat.zero_le _, h0⟩, ?_⟩
 rintro i m σ H ⟨rfl, hi, p⟩
 have q := hl i σ H hi p
 by_cases hlt : i < xs.length
 ·refine .inr ⟨⟨xs, xs[i], q, by simp [hlt]⟩, Pv (i + 1), fun σ' H' p' => ⟨xs.length - (i + 1), by omega, rfl, hlt, p'⟩, fun x H' y => ?_⟩
  obtain ⟨e, y⟩ := y
  subst e
  exact hs i x σ _ (y xs q) p
 ·have e : i = xs.length := by omega
  subst e
  exact .inl ⟨⟨xs, q, Nat.le_refl _⟩, hd σ H p⟩
theorem for_range {lo : Int} {n : Nat} {g : TG} {tb : TS} {D : Ends} {σ : St} {H : Hp} (Pv : Nat → St → Hp → Prop) (h0 : Pv 0 σ H)
  (hs : ∀ i σ H, i < n → Pv i σ H → g (.int (lo + i)) σ H fun σ2 H2 => tb { D with nx := Pv (i + 1), ct := Pv (i + 1), bk := D.nx } σ2 H2) (hd : ∀ σ H, Pv n σ H → D.nx σ H) :
  ∃ W : Nat → Nat → St → Hp → Prop, (∃ m, W 0 m σ H) ∧ ∀ i m σ H, W i m σ H →
   ((Itr lo n).stop i H ∧ D.nx σ H) ∨ ((Itr lo n).go i H ∧ ∃ N : St → Hp → Prop, (∀ σ' H', N σ' H' → ∃ m', m' < m ∧ W (i + 1) m' σ' H') ∧ ∀ x H', (Itr lo n).yld i H x H' → g x σ H' fun σ2 H2 => tb { D with nx := N, ct := N, bk := D.nx } σ2 H2) := by
 refine ⟨fun i m σ H => m = n - i ∧ i ≤ n ∧ Pv i σ H, ⟨n, by simp, Nat.zero_le _, h0⟩, ?_⟩
 rintro i m σ H ⟨rfl, hi, p⟩
 by_cases hlt : i < n
 ·refine .inr ⟨hlt, Pv (i + 1), fun σ' H' p' => ⟨n - (i + 1), by omega, rfl, hlt, p'⟩, fun x H' y => ?_⟩
  obtain ⟨e, y⟩ := y
  subst e y
  exact hs i σ _ hlt p
 ·have e : i = n := by omega
  subst e
  exact .inl ⟨Nat.le_refl _, hd σ H p⟩
end L2
namespace L2
open PySem PySem.Spec PyProof.Rows
noncomputable abbrev R2 := V → V → Hp → VK → Prop
noncomputable def OpR (X : Cx) (f : Value → Value → Sem Value) (r : R2) : Prop :=
 ∀ (pins : List (Addr × Obj)) (s : Shared) (σ : St) (H : Hp) (x y : V) (v u : Value) (Q : VK), Inv X pins σ H s → RelV x v → RelV y u → r x y H Q →
  wpAny (model X.prog X.w) X.A (f v u) (EP X pins σ Q) X.xe s
noncomputable def UnR (X : Cx) (f : Value → Sem Value) (r : V → Hp → VK → Prop) : Prop :=
 ∀ (pins : List (Addr × Obj)) (s : Shared) (σ : St) (H : Hp) (x : V) (v : Value) (Q : VK), Inv X pins σ H s → RelV x v → r x H Q →
  wpAny (model X.prog X.w) X.A (f v) (EP X pins σ Q) X.xe s
noncomputable def CallR (X : Cx) (f : Value) (r : List V → Hp → VK → Prop) : Prop :=
 ∀ (pins : List (Addr × Obj)) (s : Shared) (σ : St) (H : Hp) (xs : List V) (us : List Value) (Q : VK), Inv X pins σ H s → Vals xs us → r xs H Q →
  wpAny (model X.prog X.w) X.A (call f us) (EP X pins σ Q) X.xe s
noncomputable def TruR (X : Cx) (r : V → Hp → (Bool → Hp → Prop) → Prop) : Prop :=
 ∀ (pins : List (Addr × Obj)) (s : Shared) (σ : St) (H : Hp) (x : V) (v : Value) (Q : Bool → Hp → Prop), Inv X pins σ H s → RelV x v → r x H Q →
  wpAny (model X.prog X.w) X.A (truthy v) (TP X pins σ Q) X.xe s
noncomputable def tOp (r : R2) (ta tb : TE) : TE := fun σ H Q => ta σ H fun x H1 => tb σ H1 fun y H2 => r x y H2 Q
noncomputable def tUn (r : V → Hp → VK → Prop) (ta : TE) : TE := fun σ H Q => ta σ H fun x H1 => r x H1 Q
noncomputable def rI (C : Int → Int → Prop) (g : Int → Int → V) : R2 := fun x y H Q => ∃ i j, x = .int i ∧ y = .int j ∧ C i j ∧ Q (g i j) H
noncomputable def rI0 (g : Int → Int → V) : R2 := fun x y H Q => ∃ i j, x = .int i ∧ y = .int j ∧ Q (g i j) H
noncomputable def rU (g : Int → V) : V → Hp → VK → Prop := fun x H Q => ∃ i, x = .int i ∧ Q (g i) H
section
variable {X : Cx} {a b c : Expr} {ta tb tc : TE} {pos : Pos}
theorem binT (ha : PE X a ta) (hb : PE X b tb) {pins : List (Addr × Obj)} {s : Shared} {σ : St} {H : Hp} {R : V → V → Hp → Prop} (I : Inv X pins σ H s)
  (h : ta σ H fun x H1 => tb σ H1 fun y H2 => R x y H2) {Q : Value → Shared → Prop} {f : Value → Value → Sem Value}
  (hf : ∀ v u s2 x y H2, Inv X pins σ H2 s2 → RelV x v → RelV y u → R x y H2 → wpAny (model X.prog X.w) X.A (f v u) Q X.xe s2) :
  wpAny (model X.prog X.w) X.A (eval a X.env) (fun v s₁ => wpAny (model X.prog X.w) X.A (eval b X.env) (fun u s₂ => wpAny (model X.prog X.w) X.A (f v u) Q X.xe s₂) X.xe s₁) X.xe s := by
 refine thn (ha pins s σ H _ I h) fun v s1 ⟨x, H1, I1, r1, q1⟩ => ?_
 refine thn (hb pins s1 σ H1 _ I1 q1) fun u s2 ⟨y, H2, I2, r2, q2⟩ => ?_
 exact hf v u s2 x y H2 I2 r1 r2 q2
theorem pe_op {op : Operator} {r : R2} (ho : OpR X (binaryOp op) r) (ha : PE X a ta) (hb : PE X b tb) : PE X (.BinOp a op b pos) (tOp r ta tb) := by
 intro pins s σ H Q I h
 exact wpAny_BinOp (binT ha hb I h fun v u s2 x y H2 I2 rx ry q => ho pins s2 σ H2 x y v u Q I2 rx ry q)
theorem pe_un {op : UnaryOp} {r : V → Hp → VK → Prop} (ho : UnR X (unaryOp op) r) (ha : PE X a ta) : PE X (.UnaryOp op a pos) (tUn r ta) := by
 intro pins s σ H Q I h
 exact UnaryOp_ (thn (ha pins s σ H _ I h) fun v s1 ⟨x, H1, I1, r1, q1⟩ => ho pins s1 σ H1 x v Q I1 r1 q1)
theorem opI {f : Value → Value → Sem Value} {C : Int → Int → Prop} {g : Int → Int → Int}
  (rule : ∀ (i j : Int) (t u : Tok) (s : Shared) (Q : Value → Shared → Prop) (E : Value → Shared → Prop), C i j → Q (.int (g i j) s.toks) { s with toks := s.toks + 1 } → wpAny (model X.prog X.w) X.A (f (.int i t) (.int j u)) Q E s) :
  OpR X f (rI C fun i j => .int (g i j)) := by
 intro pins s σ H x y v u Q I rx ry h
 obtain ⟨i, j, rfl, rfl, hc, q⟩ := h
 obtain ⟨t, rfl⟩ := rx
 obtain ⟨t', rfl⟩ := ry
 exact rule i j t t' s _ _ hc ⟨.int (g i j), H, I.tok _, ⟨_, rfl⟩, q⟩
theorem opI0 {f : Value → Value → Sem Value} {g : Int → Int → Int}
  (rule : ∀ (i j : Int) (t u : Tok) (s : Shared) (Q : Value → Shared → Prop) (E : Value → Shared → Prop), Q (.int (g i j) s.toks) { s with toks := s.toks + 1 } → wpAny (model X.prog X.w) X.A (f (.int i t) (.int j u)) Q E s) :
  OpR X f (rI0 fun i j => .int (g i j)) := by
 intro pins s σ H x y v u Q I rx ry h
 obtain ⟨i, j, rfl, rfl, q⟩ := h
 obtain ⟨t, rfl⟩ := rx
 obtain ⟨t', rfl⟩ := ry
 exact rule i j t t' s _ _ ⟨.int (g i j), H, I.tok _, ⟨_, rfl⟩, q⟩
theorem opB0 {f : Value → Value → Sem Value} {g : Int → Int → Bool}
  (rule : ∀ (i j : Int) (t u : Tok) (s : Shared) (Q : Value → Shared → Prop) (E : Value → Shared → Prop), Q (.bool (g i j)) s → wpAny (model X.prog X.w) X.A (f (.int i t) (.int j u)) Q E s) :
  OpR X f (rI0 fun i j => .bl (g i j)) := by
 intro pins s σ H x y v u Q I rx ry h
 obtain ⟨i, j, rfl, rfl, q⟩ := h
 obtain ⟨t, rfl⟩ := rx
 obtain ⟨t', rfl⟩ := ry
 exact rule i j t t' s _ _ ⟨.bl (g i j), H, I, rfl, q⟩
noncomputable def CDiv (i j : Int) : Prop := 0 < j ∧ j < 1073741824
noncomputable def CMul (i j : Int) : Prop := (-(2 ^ 64) < i ∧ i < 2 ^ 64) ∨ (-(2 ^ 64) < j ∧ j < 2 ^ 64)
theorem CMul.ok {i j : Int} (h : CMul i j) : IntMulOk i j := by
 rcases h with ⟨h1, h2⟩ | ⟨h1, h2⟩
 ·exact .of_left (intBits_le_64 h1 h2)
 ·exact .of_right (intBits_le_64 h1 h2)
theorem op_add : OpR X (binaryOp .Add) (rI0 fun i j => .int (i + j)) := opI0 fun _ _ _ _ _ _ _ q => add_int q
theorem op_sub : OpR X (binaryOp .Sub) (rI0 fun i j => .int (i - j)) := opI0 fun _ _ _ _ _ _ _ q => sub_int q
theorem op_mul : OpR X (binaryOp .Mult) (rI CMul fun i j => .int (i * j)) := opI fun _ _ _ _ _ _ _ hc q => mul_int q hc.ok
theorem op_fdiv : OpR X (binaryOp .FloorDiv) (rI CDiv fun i j => .int (i / j)) := opI fun i j _ _ _ _ _ hc q => by
 have h1 : (0 : Int) < j := hc.1
 have h2 : j < 1073741824 := hc.2
 exact floordiv_int (by omega) (by rw [Int.fdiv_eq_ediv_of_nonneg i (by omega)]; exact q) (.inl (PyProof.noPylong_small (by omega)))
theorem op_mod : OpR X (binaryOp .Mod) (rI (fun _ j => 0 < j) fun i j => .int (i % j)) := opI fun i j _ _ _ _ _ hc q => by
 have h1 : (0 : Int) < j := hc
 exact mod_int' (by omega) (by rw [Int.fmod_eq_emod_of_nonneg i (by omega)]; exact q)
theorem unI {f : Value → Sem Value} {g : Int → Int}
  (rule : ∀ (i : Int) (t : Tok) (s : Shared) (Q : Value → Shared → Prop) (E : Value → Shared → Prop), Q (.int (g i) s.toks) { s with toks := s.toks + 1 } → wpAny (model X.prog X.w) X.A (f (.int i t)) Q E s) :
  UnR X f (rU fun i => .int (g i)) := by
 intro pins s σ H x v Q I rx h
 obtain ⟨i, rfl, q⟩ := h
 obtain ⟨t, rfl⟩ := rx
 exact rule i t s _ _ ⟨.int (g i), H, I.tok _, ⟨_, rfl⟩, q⟩
theorem un_neg : UnR X (unaryOp .USub) (rU fun i => .int (-i)) := unI fun _ _ _ _ _ q => neg_int q
end
noncomputable def scal : V → V → Bool
 | .non, .non => true | .non, .int _ => true | .int _, .non => true | .non, .bl _ => true | .bl _, .non => true | .non, .str _ => true | .str _, .non => true
 | .int _, .int _ => true | .bl _, .bl _ => true | .str _, .str _ => true | .byt _, .byt _ => true
 | .int _, .str _ => true | .str _, .int _ => true | .bl _, .str _ => true | .str _, .bl _ => true
 | _, _ => false
noncomputable def rEq : R2 := fun x y H Q => scal x y = true ∧ Q (.bl (decide (x = y))) H
noncomputable def rNe : R2 := fun x y H Q => scal x y = true ∧ Q (.bl (!decide (x = y))) H
theorem dec_int {i j : Int} : decide (V.int i = V.int j) = (i == j) := by
 rw [Bool.eq_iff_iff]
 simp
theorem dec_bl {i j : Bool} : decide (V.bl i = V.bl j) = (i == j) := by
 rw [Bool.eq_iff_iff]
 simp
theorem dec_str {i j : Str} : decide (V.str i = V.str j) = (i == j) := by
 rw [Bool.eq_iff_iff]
 simp
theorem dec_byt {i j : Array UInt8} : decide (V.byt i = V.byt j) = (i.toList == j.toList) := by
 rw [Bool.eq_iff_iff]
 cases i
 cases j
 simp
section
variable {X : Cx} {a b c : Expr} {ta tb tc : TE} {pos : Pos}
theorem fin_bl {pins : List (Addr × Obj)} {σ : St} {H : Hp} {s : Shared} {Q : VK} {k k' : Bool} (I : Inv X pins σ H s) (q : Q (.bl k) H) (e : k = k') : EP X pins σ Q (.bool k') s := by
 subst e
 exact ⟨.bl k, H, I, rfl, q⟩
theorem op_eq : OpR X (compareOp .Eq) rEq := by
 intro pins s σ H x y v u Q I rx ry h
 obtain ⟨hs, q⟩ := h
 cases x with
 | non =>
  cases rx
  cases y with
  | non => cases ry; exact PySem.EqNone.eq_none_none (fin_bl I q (by simp))
  | bl j => cases ry; exact PySem.EqNone.eq_none_bool (fin_bl I q (by simp))
  | int j => obtain ⟨t', rfl⟩ := ry; exact PySem.EqNone.eq_none_int (fin_bl I q (by simp))
  | str j => obtain ⟨t', rfl⟩ := ry; exact PySem.EqNone.eq_none_str (fin_bl I q (by simp))
  | _ => exact absurd (show false = true from hs) Bool.false_ne_true
 | bl i =>
  cases rx
  cases y with
  | non => cases ry; exact PySem.EqNone.eq_bool_none (fin_bl I q (by simp))
  | bl j => cases ry; exact eq_bool (fin_bl I q dec_bl)
  | str j => obtain ⟨t', rfl⟩ := ry; exact PySem.EqMixed.eq_bool_str (fin_bl I q (by simp))
  | _ => exact absurd (show false = true from hs) Bool.false_ne_true
 | int i =>
  obtain ⟨t, rfl⟩ := rx
  cases y with
  | non => cases ry; exact PySem.EqNone.eq_int_none (fin_bl I q (by simp))
  | int j => obtain ⟨t', rfl⟩ := ry; exact eq_int (fin_bl I q dec_int)
  | str j => obtain ⟨t', rfl⟩ := ry; exact PySem.EqMixed.eq_int_str (fin_bl I q (by simp))
  | _ => exact absurd (show false = true from hs) Bool.false_ne_true
 | str i =>
  obtain ⟨t, rfl⟩ := rx
  cases y with
  | non => cases ry; exact PySem.EqNone.eq_str_none (fin_bl I q (by simp))
  | bl j => cases ry; exact PySem.EqMixed.eq_str_bool (fin_bl I q (by simp))
  | int j => obtain ⟨t', rfl⟩ := ry; exact PySem.EqMixed.eq_str_int (fin_bl I q (by simp))
  | str j => obtain ⟨t', rfl⟩ := ry; exact eq_str (fin_bl I q dec_str)
  | _ => exact absurd (show false = true from hs) Bool.false_ne_true
 | byt i =>
  obtain ⟨t, rfl⟩ := rx
  cases y with
  | byt j => obtain ⟨t', rfl⟩ := ry; exact PySem.W.eq_bytes (fin_bl I q dec_byt)
  | _ => exact absurd (show false = true from hs) Bool.false_ne_true
 | _ => cases y <;> exact absurd (show false = true from hs) Bool.false_ne_true
theorem op_ne : OpR X (compareOp .NotEq) rNe := by
 intro pins s σ H x y v u Q I rx ry h
 obtain ⟨hs, q⟩ := h
 cases x with
 | non =>
  cases rx
  cases y with
  | non => cases ry; exact PySem.EqNone.ne_none_none (fin_bl I q (by simp))
  | bl j => cases ry; exact PySem.EqNone.ne_none_bool (fin_bl I q (by simp))
  | int j => obtain ⟨t', rfl⟩ := ry; exact PySem.EqNone.ne_none_int (fin_bl I q (by simp))
  | str j => obtain ⟨t', rfl⟩ := ry; exact PySem.EqNone.ne_none_str (fin_bl I q (by simp))
  | _ => exact absurd (show false = true from hs) Bool.false_ne_true
 | bl i =>
  cases rx
  cases y with
  | non => cases ry; exact PySem.EqNone.ne_bool_none (fin_bl I q (by simp))
  | bl j => cases ry; exact ne_bool (fin_bl I q (congrArg not dec_bl))
  | str j => obtain ⟨t', rfl⟩ := ry; exact PySem.EqMixed.ne_bool_str (fin_bl I q (by simp))
  | _ => exact absurd (show false = true from hs) Bool.false_ne_true
 | int i =>
  obtain ⟨t, rfl⟩ := rx
  cases y with
  | non => cases ry; exact PySem.EqNone.ne_int_none (fin_bl I q (by simp))
  | int j => obtain ⟨t', rfl⟩ := ry; exact ne_int (fin_bl I q (congrArg not dec_int))
  | str j => obtain ⟨t', rfl⟩ := ry; exact PySem.EqMixed.ne_int_str (fin_bl I q (by simp))
  | _ => exact absurd (show false = true from hs) Bool.false_ne_true
 | str i =>
  obtain ⟨t, rfl⟩ := rx
  cases y with
  | non => cases ry; exact PySem.EqNone.ne_str_none (fin_bl I q (by simp))
  | bl j => cases ry; exact PySem.EqMixed.ne_str_bool (fin_bl I q (by simp))
  | int j => obtain ⟨t', rfl⟩ := ry; exact PySem.EqMixed.ne_str_int (fin_bl I q (by simp))
  | str j => obtain ⟨t', rfl⟩ := ry; exact ne_str (fin_bl I q (congrArg not dec_str))
  | _ => exact absurd (show false = true from hs) Bool.false_ne_true
 | byt i =>
  obtain ⟨t, rfl⟩ := rx
  cases y with
  | byt j => obtain ⟨t', rfl⟩ := ry; exact PySem.W.ne_bytes (fin_bl I q (congrArg not dec_byt))
  | _ => exact absurd (show false = true from hs) Bool.false_ne_true
 | _ => cases y <;> exact absurd (show false = true from hs) Bool.false_ne_true
theorem op_lt : OpR X (compareOp .Lt) (rI0 fun i j => .bl (decide (i < j))) := opB0 fun _ _ _ _ _ _ _ q => lt_int q
theorem op_le : OpR X (compareOp .LtE) (rI0 fun i j => .bl (decide (i ≤ j))) := opB0 fun _ _ _ _ _ _ _ q => le_int q
theorem op_gt : OpR X (compareOp .Gt) (rI0 fun i j => .bl (decide (j < i))) := opB0 fun _ _ _ _ _ _ _ q => gt_int q
theorem op_ge : OpR X (compareOp .GtE) (rI0 fun i j => .bl (decide (j ≤ i))) := opB0 fun _ _ _ _ _ _ _ q => ge_int q
theorem op_isN : OpR X (compareOp .Is) (fun x y H Q => y = .non ∧ Q (.bl (decide (x = .non))) H) := by
 intro pins s σ H x y v u Q I rx ry h
 obtain ⟨rfl, q⟩ := h
 cases ry
 refine is_none_gen (fin_bl I q ?_)
 cases x <;> first
  | (cases rx; rfl)
  | (obtain ⟨t, rfl⟩ := rx; rfl)
theorem OpR.or {f : Value → Value → Sem Value} {r r' : R2} (h : OpR X f r) (h' : OpR X f r') : OpR X f (fun x y H Q => r x y H Q ∨ r' x y H Q) := by
 intro pins s σ H x y v u Q I rx ry q
 rcases q with q | q
 ·exact h pins s σ H x y v u Q I rx ry q
 ·exact h' pins s σ H x y v u Q I rx ry q
theorem nomark (b : Expr) {op : CmpOp} (h : op ≠ .In := by decide) (h2 : op ≠ .NotIn := by decide) : behindInMarks op b = false := by
 have e1 : (op == CmpOp.In) = false := by cases op <;> first | rfl | exact absurd rfl h
 have e2 : (op == CmpOp.NotIn) = false := by cases op <;> first | rfl | exact absurd rfl h2
 cases b <;> simp [behindInMarks, e1, e2]
theorem pe_cmpR {op : CmpOp} {r : R2} (ho : OpR X (compareOp op) r) (ha : PE X a ta) (hb : PE X b tb) (hm : behindInMarks op b = false) : PE X (.Compare a [op] [b] pos) (tOp r ta tb) := by
 intro pins s σ H Q I h
 exact wpAny_Compare1 (binT ha hb I h fun v u s2 x y H2 I2 rx ry q => ho pins s2 σ H2 x y v u Q I2 rx ry q) hm
noncomputable def TruV (K : FrK) (x : V) (H : Hp) (k : Bool) : Prop :=
 match x with
 | .non => k = false
 | .bl b => k = b
 | .int i => k = (i != 0)
 | .str y => y.length ≤ sizeLine ∧ k = ((y.length : Int) != 0)
 | .byt y => y.size ≤ sizeLine ∧ k = ((y.size : Int) != 0)
 | .ref p => (∃ xs, SqL K H p xs ∧ k = !xs.isEmpty) ∨ (∃ xs, SqT K H p xs ∧ k = !xs.isEmpty) ∨ ∃ kvs, H p = some (.dK kvs) ∧ k = !kvs.isEmpty
 | _ => False
theorem isEmpty_kv {κ : Type} {kvs : List (κ × V)} {vs : List (κ × Value)} (r : KV kvs vs) : (!vs.isEmpty) = !kvs.isEmpty := by
 cases r <;> rfl
theorem isEmpty_of {xs : List V} {its : List Value} (r : Vals xs its) : (!its.toArray.isEmpty) = !xs.isEmpty := by
 cases r <;> simp
theorem line63 : (sizeLine : Nat) < 2 ^ 63 := by rw [sizeLine_eq]; decide
theorem tru_ok : TruR X (fun x H Q => ∃ k, TruV X.K x H k ∧ Q k H) := by
 intro pins s σ H x v Q I rx h
 obtain ⟨k, e, q⟩ := h
 have hl := line63
 have hs : sizeLine = 16777216 := sizeLine_eq
 cases x with
 | non =>
  cases rx
  have e' : k = false := e
  subst e'
  exact truthy_none ⟨H, I, q⟩
 | bl b =>
  cases rx
  have e' : k = b := e
  subst e'
  exact wpAny_truthy_bool ⟨H, I, q⟩
 | int i =>
  obtain ⟨t, rfl⟩ := rx
  have e' : k = (i != 0) := e
  subst e'
  exact PySem.P.truthy_int ⟨H, I, q⟩
 | str y =>
  obtain ⟨t, rfl⟩ := rx
  obtain ⟨hy, e'⟩ : y.length ≤ sizeLine ∧ k = ((y.length : Int) != 0) := e
  subst e'
  exact PySem.P.truthy_str (by omega) ⟨H, I.tok _, q⟩
 | byt y =>
  obtain ⟨t, rfl⟩ := rx
  obtain ⟨hy, e'⟩ : y.size ≤ sizeLine ∧ k = ((y.size : Int) != 0) := e
  subst e'
  exact PySem.W.truthy_bytes (by omega) ⟨H, I.tok _, q⟩
 | ref p =>
  cases rx
  have e' : (∃ xs, SqL X.K H p xs ∧ k = !xs.isEmpty) ∨ (∃ xs, SqT X.K H p xs ∧ k = !xs.isEmpty) ∨ ∃ kvs, H p = some (.dK kvs) ∧ k = !kvs.isEmpty := e
  rcases e' with ⟨xs, hx, e'⟩ | ⟨xs, hx, e'⟩ | ⟨kvs, hx, e'⟩
  ·subst e'
   obtain ⟨its, r, pl, hz⟩ := I.list hx
   have hlen := r.length
   exact wpAny_truthy_list pl.isList (by simp only [List.size_toArray]; omega) ⟨H, I.tok _, by rw [isEmpty_of r]; exact q⟩
  ·subst e'
   obtain ⟨its, r, pl, hz⟩ := I.tuple hx
   have hlen := r.length
   exact truthy_tuple pl (by simp only [List.size_toArray]; omega) ⟨H, I.tok _, by rw [isEmpty_of r]; exact q⟩
  ·subst e'
   obtain ⟨hz, hS, vs, r, m⟩ : kvs.length ≤ sizeLine ∧ (p == sysModules) = false ∧ ∃ vs, KV kvs vs ∧ s.heap.DictOf (mixKind X.prog X.w) p vs := I.hok p _ hx
   have hlen : kvs.length = vs.length := Paired.length r
   exact wpAny_truthy_dict hS m (by omega) ⟨H, I.tok _, by rw [isEmpty_kv r]; exact q⟩
 | _ => exact (show False from e).elim
theorem vals1 {x : V} {us : List Value} (r : Vals [x] us) : ∃ u, us = [u] ∧ RelV x u := by
 cases r with
 | cons r1 r2 => cases r2; exact ⟨_, rfl, r1⟩
theorem vals2 {x y : V} {us : List Value} (r : Vals [x, y] us) : ∃ u w', us = [u, w'] ∧ RelV x u ∧ RelV y w' := by
 cases r with
 | cons r1 r2 =>
  cases r2 with
  | cons r3 r4 => cases r4; exact ⟨_, _, rfl, r1, r3⟩
theorem call_min2 (hc : X.calm = true) : CallR X (.builtin "min") (fun xs H Q => ∃ i j, xs = [.int i, .int j] ∧ Q (.int (if j < i then j else i)) H) := by
 intro pins s σ H xs us Q I r h
 obtain ⟨i, j, rfl, q⟩ := h
 obtain ⟨u, w', rfl, ⟨t, rfl⟩, ⟨t', rfl⟩⟩ := vals2 r
 refine min_two_ints (I.ok.hd hc) fun h' tk k => ⟨_, H, I.kept k, ?_, q⟩
 by_cases hj : j < i
 ·rw [if_pos hj, if_pos hj]; exact ⟨_, rfl⟩
 ·rw [if_neg hj, if_neg hj]; exact ⟨_, rfl⟩
end
end L2
namespace L2
open PySem PySem.Spec PyProof.Rows
structure ObjM (h : Heap) (x dx C : Addr) (mA : Str → Option Value) : Prop where
 obj : h.get? x = some (PySem.W.instObj C dx)
 ns : h.Ns1 dx mA
 ne : dx ≠ x
theorem lookIn_ns {h : Heap} {dx : Addr} {mA : Str → Option Value} (n : h.Ns1 dx mA) : ∃ od, h.get? dx = some od ∧ ∀ name, PySem.W.lookIn name od = some (mA name) := by
 obtain ⟨o, es, ep, ho, hd, hk, _, hm⟩ := n
 refine ⟨o, ho, fun name => ?_⟩
 have e := hm name
 unfold nsFind findBy at e
 rw [← Array.find?_toList] at e
 unfold PySem.W.lookIn
 rw [hd]
 dsimp only
 split
 ·rename_i y q
  rw [q] at e
  exact congrArg some e
 ·rename_i q
  rw [q] at e
  have a : es.toList.any (·.refKey) = false := by
   rw [List.any_eq_false]
   intro y hy
   obtain ⟨z, t, hkey⟩ := hk y (Array.mem_toList_iff.mp hy)
   simp [DictEntry.refKey, hkey]
  have a' : ¬ es.toList.any (·.refKey) = true := by rw [a]; exact Bool.false_ne_true
  rw [if_neg a']
  exact congrArg some e
theorem ObjM.look {h : Heap} {x dx C : Addr} {mA : Str → Option Value} (I : ObjM h x dx C mA) : ∃ od, PySem.W.InstAt h x (PySem.W.instObj C dx) C (some od) ∧ ∀ name, PySem.W.lookIn name od = some (mA name) :=
 let ⟨od, ho, hl⟩ := lookIn_ns I.ns
 ⟨od, ⟨I.obj, rfl, rfl, ho⟩, hl⟩
section
variable {P : Program} {w : World} {H H' : Hp} {h h' : Heap} {a C dx : Addr} {fs fs' : List (Str × V)}
theorem ins_get (hok : HOk P w H h) (e : H a = some (.ins C dx fs)) : ∃ mA, ObjM h a dx C mA ∧ (∀ f, RelO (fs.lookup f) (mA f)) ∧ PySem.Within mA (fs.map (·.1)) ∧ fs.length ≤ 1000 ∧ H dx = some (.own a) := by
 obtain ⟨d, z, ne, ob, mA, n, r, q⟩ := (show ObjOk P w H h a (.ins C dx fs) from hok a _ e)
 exact ⟨mA, ⟨ob, n, ne⟩, r, q, z, d⟩
end
structure Cls (K : FrK) (C : Addr) : Prop where
 pg : PySem.W.plainGet K C Str.empty = true
 hd : PySem.W.hasDictIn K C = true
 po : PySem.W.plainOver K C = true
 sa : PySem.W.findIn K (.ref C) "__setattr__" = some (some (.builtin "object.__setattr__"))
theorem Cls.get {K : FrK} {C : Addr} (c : Cls K C) (f : Str) : PySem.W.plainGet K C f = true := c.pg
section
variable {X : Cx} {pins : List (Addr × Obj)} {σ : St} {H : Hp} {s : Shared} {A : Around} {E : Value → Shared → Prop} {Q : Value → Shared → Prop} {c : Value} {b : Bool}
inductive TyOf (K : FrK) (H : Hp) : V → Value → Prop where
 | non : TyOf K H .non (.type "NoneType")
 | bl (x : Bool) : TyOf K H (.bl x) (.type "bool")
 | int (i : Int) : TyOf K H (.int i) (.type "int")
 | str (x : Str) : TyOf K H (.str x) (.type "str")
 | flt (x : UInt64) : TyOf K H (.flt x) (.type "float")
 | lst {a : Addr} {xs : List V} (e : H a = some (.lst xs)) : TyOf K H (.ref a) (.type "list")
 | frz {a : Addr} {o : Obj} {xs : List V} (e : H a = some (.frz o (.lst xs))) : TyOf K H (.ref a) (.type "list")
 | tup {a : Addr} {xs : List V} (e : H a = some (.tup xs)) : TyOf K H (.ref a) (.type "tuple")
 | dK {a : Addr} {kvs : List (Key × V)} (e : H a = some (.dK kvs)) : TyOf K H (.ref a) (.type "dict")
 | dT {a : Addr} {kvs : List (List Key × V)} (e : H a = some (.dT kvs)) : TyOf K H (.ref a) (.type "dict")
 | ins {a C dx : Addr} {fs : List (Str × V)} (e : H a = some (.ins C dx fs)) (cl : Cls K C) (ha : PySem.W.findIn K (.ref C) "__class__" = some (some (.builtin "object.__class__")))
   (hn : PySem.W.specialIn K (.builtin "object.__class__") "__get__" = some (some (.builtin "getset_descriptor.__get__"))) (htk : PySem.W.takesIn K (.builtin "object.__class__") = some true)
   (hm : PySem.W.mroIn K C (.type "object") = some true) : TyOf K H (.ref a) (.ref C)
theorem isinst_ok {x : V} {u t : Value} (I : Inv X pins σ H s) (rx : RelV x u) (ty : TyOf X.K H x t) (e : PySem.W.kitOne X.K t c = some b) (h : ∀ tk, Q (.bool b) { s with toks := tk }) :
  wpAny (model X.prog X.w) A (call (.builtin "isinstance") [u, c]) Q E s := by
 cases ty with
 | non => cases (show u = Value.none from rx); exact PySem.W.kia_one PySem.W.kitx_none I.kIn True.intro e (fun z => nomatch z) h
 | bl y => cases (show u = Value.bool y from rx); exact PySem.W.kia_one PySem.W.kitx_bool I.kIn True.intro e (fun z => nomatch z) h
 | int i => obtain ⟨t, q⟩ := (show ∃ t, u = Value.int i t from rx); cases q; exact PySem.W.kia_one PySem.W.kitx_int I.kIn True.intro e (fun z => nomatch z) h
 | str y => obtain ⟨t, q⟩ := (show ∃ t, u = Value.str y t from rx); cases q; exact PySem.W.kia_one PySem.W.kitx_str I.kIn True.intro e (fun z => nomatch z) h
 | flt y => obtain ⟨t, q⟩ := (show ∃ t, u = Value.float y t from rx); cases q; exact PySem.W.kia_one PySem.W.kitx_float I.kIn True.intro e (fun z => nomatch z) h
 | @lst a xs ea =>
  cases (show u = Value.ref a from rx)
  obtain ⟨_, _, n, _, h1⟩ := (show ObjOk X.prog X.w H s.heap a (.lst xs) from I.hok a _ ea)
  exact PySem.W.kia_one PySem.W.kitx_list I.kIn ⟨_, h1, rfl⟩ e (fun z => nomatch z) h
 | @frz a ob xs ea =>
  cases (show u = Value.ref a from rx)
  obtain ⟨_, _, _, n, _, h1⟩ := (show ObjOk X.prog X.w H s.heap a (.frz ob (.lst xs)) from I.hok a _ ea)
  exact PySem.W.kia_one PySem.W.kitx_list I.kIn ⟨_, h1, rfl⟩ e (fun z => nomatch z) h
 | @tup a xs ea =>
  cases (show u = Value.ref a from rx)
  obtain ⟨_, _, _, p⟩ := (show ObjOk X.prog X.w H s.heap a (.tup xs) from I.hok a _ ea)
  obtain ⟨o, h1, h2, _⟩ := p
  exact PySem.W.kia_one PySem.W.kitx_tuple I.kIn ⟨o, h1, h2⟩ e (fun z => nomatch z) h
 | @dK a kvs ea =>
  cases (show u = Value.ref a from rx)
  obtain ⟨_, _, vs, _, p⟩ := (show ObjOk X.prog X.w H s.heap a (.dK kvs) from I.hok a _ ea)
  obtain ⟨o, es, ep, h1, h2, _⟩ := p
  exact PySem.W.kia_one PySem.W.kitx_dict I.kIn ⟨o, h1, h2.1⟩ e (fun z => nomatch z) h
 | @dT a kvs ea =>
  cases (show u = Value.ref a from rx)
  obtain ⟨_, _, xs, _, o, es, ep, h1, h2, _⟩ := (show ObjOk X.prog X.w H s.heap a (.dT kvs) from I.hok a _ ea)
  exact PySem.W.kia_one PySem.W.kitx_dict I.kIn ⟨o, h1, h2.1⟩ e (fun z => nomatch z) h
 | @ins a C dx fs ea cl ha hn htk hm =>
  cases (show u = Value.ref a from rx)
  obtain ⟨mA, O, _⟩ := ins_get I.hok ea
  obtain ⟨od, J, _⟩ := O.look
  exact PySem.W.kia_one (PySem.W.kitx_own (cl.get _) cl.hd ha hn htk hm) I.kIn J e (fun z => nomatch z) h
end
end L2
namespace L2
open PySem PySem.Spec PyProof.Rows
structure Room (k : Nat) (A : Around) : Prop where
 hd : A.handled = none
 dp : A.depth + 3 * k + 5 < recursionLimit
 un : A.units + 16 * k + 200 < cLine
theorem Room.mono {j k : Nat} {A : Around} (r : Room k A) (h : j ≤ k) : Room j A := ⟨r.hd, by have := r.dp; omega, by have := r.un; omega⟩
theorem Room.deeper {k : Nat} {A : Around} (r : Room (k + 1) A) (env : Env) : Room k (A.deeper env) :=
 ⟨r.hd, by have := r.dp; show A.depth + 1 + 3 * k + 5 < _; omega, by have := r.un; show A.units + 3 + 16 * k + 200 < _; omega⟩
theorem Room.depth {k : Nat} {A : Around} (r : Room k A) : A.depth < recursionLimit := by have := r.dp; omega
noncomputable def tNil : TA := fun _ H Q => Q [] H
noncomputable def tCons (ta : TE) (tr : TA) : TA := fun σ H Q => ta σ H fun x H1 => tr σ H1 fun xs H2 => Q (x :: xs) H2
section
variable {X : Cx} {e : Expr} {es : List Expr} {te : TE} {t : TA} {pos : Pos}
theorem pa_nil : PA X [] tNil := fun _ _ _ _ H Q I h => Calls.spliced_nil ⟨[], H, I, .nil, h⟩
theorem pa_cons (ha : PE X e te) (hr : PA X es t) (hs : starEach (e :: es) X.env = (false, eval e X.env) :: starEach es X.env := by rfl) : PA X (e :: es) (tCons te t) := by
 intro pos pins s σ H Q I h
 rw [hs]
 show wpAny _ _ (spliced ((false, eval e X.env) :: backTo pos (starEach es X.env))) _ _ s
 refine Calls.spliced_cons (thn (ha pins s σ H _ I h) fun u s1 ⟨x, H1, I1, r1, q1⟩ => ?_)
 exact thn (hr pos pins s1 σ H1 _ I1 q1) fun us s2 ⟨xs, H2, I2, r2, q2⟩ => ⟨x :: xs, H2, I2, .cons r1 r2, q2⟩
noncomputable def tTup (t : TA) : TE := fun σ H Q => t σ H fun xs H1 => xs.length ≤ sizeLine ∧ ∀ p, H1 p = none → Q (.ref p) (upd H1 p (.tup xs))
noncomputable def tLst (t : TA) : TE := fun σ H Q => t σ H fun xs H1 => xs.length ≤ sizeLine ∧ ∀ p, H1 p = none → Q (.ref p) (upd H1 p (.lst xs))
theorem pe_tup {x1} (h : PA X es t) : PE X (.Tuple es x1 pos) (tTup t) := by
 intro pins s σ H Q I hq
 refine wpAny_Tuple_spliced (thn (h pos pins s σ H _ I hq) fun us s1 ⟨xs, H1, I1, r, z, q⟩ => ⟨by rw [← r.length]; exact z, ?_⟩)
 have hf : H1 s1.heap.objs.size = none := I1.hok.fresh (Nat.le_refl _)
 refine ⟨.ref s1.heap.objs.size, upd H1 s1.heap.objs.size (.tup xs), I1.laid (t' := s1.toks) (fun b u e => Heap.get?_push_of_some _ e) (Nat.le_refl _) ?_, rfl, q _ hf⟩
 exact ⟨z, us, r, ⟨_, Heap.get?_push_size _ rfl, rfl, _, rfl⟩⟩
theorem pe_lst (h : PA X es t) : PE X (.List es pos) (tLst t) := by
 intro pins s σ H Q I hq
 refine wpAny_List_spliced (thn (h pos pins s σ H _ I hq) fun us s1 ⟨xs, H1, I1, r, z, q⟩ => ⟨by rw [← r.length]; exact z, ?_⟩)
 have hf : H1 s1.heap.objs.size = none := I1.hok.fresh (Nat.le_refl _)
 refine ⟨.ref s1.heap.objs.size, upd H1 s1.heap.objs.size (.lst xs), I1.laid (t' := s1.toks) (fun b u e => Heap.get?_push_of_some _ e) (Nat.le_refl _) ?_, rfl, q _ hf⟩
 exact ⟨z, us, 0, r, Heap.get?_push_size _ rfl⟩
end
noncomputable abbrev Sp := List V → Hp → VK → XK → Prop
noncomputable abbrev CXT := List Env → Hp → Shared → XK → Value → Shared → Prop
structure Env0 (P : Program) (w : World) (K : FrK) (mg : Str → Option Value) (base : Heap) (A : Around) (outer : List Env) (s : Shared) (H : Hp) : Prop where
 frames : A.frames = some outer
 mod : Mod K mg base
 bs : ∀ b o, base.get? b = some o → s.heap.get? b = some o ∧ H b = none
 bsz : base.objs.size ≤ s.heap.objs.size
 funs : s.heap.FunFrames base outer
 frf : ∀ b ∈ frs outer, H b = none
 hok : HOk P w H s.heap
 bare : AllBare s.gens
noncomputable def CE (outer : List Env) (P : Program) (w : World) (H : Hp) (s : Shared) (Q : VK) (u : Value) (s' : Shared) : Prop :=
 ∃ v H', s'.os = s.os ∧ AllBare s'.gens ∧ Un (frs outer) [] H H' s.heap s'.heap ∧ HOk P w H' s'.heap ∧ RelV v u ∧ Q v H'
noncomputable def CR (CX : CXT) (outer : List Env) (P : Program) (w : World) (H : Hp) (s : Shared) (Q : VK) (E : XK) (r : Result) (s' : Shared) : Prop :=
 match r with
 | .ok (.ret u) => CE outer P w H s Q u s'
 | .ok _ => False
 | .error e => CX outer H s E e s'
structure FnOk (P : Program) (w : World) (K : FrK) (mg : Str → Option Value) (base : Heap) (CX : CXT) (k : Nat) (f : Addr) (fd : FuncData) (ps : List Str) (sp : Sp) : Prop where
 len : ∀ vs H Q E, sp vs H Q E → vs.length = ps.length
 run : ∀ (A : Around) (outer : List Env) (s : Shared) (H : Hp) (args : Args) (us : List Value) (vs : List V) (Q : VK) (E : XK), Room k A → Env0 P w K mg base A outer s H → BindsTo s fd args (ps.zip us) → Vals vs us → sp vs H Q E →
  codeAny (model P w) A (.call (.ref f) args) (CR CX outer P w H s Q E) s
section
variable {X : Cx} {pins : List (Addr × Obj)} {σ : St} {H : Hp} {s s' : Shared}
theorem Inv.env0 (I : Inv X pins σ H s) : Env0 X.prog X.w X.K X.mg X.base X.A X.stack s H :=
 ⟨I.ok.frames, I.ok.mod, I.bs, Nat.le_trans I.ok.bsz I.sz, I.stack, I.stkFree, I.hok, I.bare⟩
theorem Inv.after {Q : VK} {u : Value} (I : Inv X pins σ H s) (h : CE X.stack X.prog X.w H s Q u s') : EP X pins σ Q u s' := by
 obtain ⟨v, H', os, bare, un, hok, r, q⟩ := h
 obtain ⟨hh, g, d, t, os'⟩ := s'
 obtain rfl : os' = s.os := os
 exact ⟨v, H', I.call (h' := hh) (g' := g) (d' := d) (t' := t) (ch := []) un hok bare (fun b z => absurd z (by simp)), r, q⟩
end
noncomputable def tCall (sp : Sp) (dvs : List V) (E : XK) (t : TA) : TE := fun σ H Q => t σ H fun vs H1 => sp (vs ++ dvs) H1 Q E
noncomputable def Binds (K : FrK) (fd : FuncData) (ps : List Str) (ds : List Value) : Prop :=
 ∀ (s : Shared) (us : List Value), K.In s.heap → (us ++ ds).length = ps.length → BindsTo s fd ⟨us, []⟩ (ps.zip (us ++ ds))
theorem Binds.all {K : FrK} {fd : FuncData} {ps : List Str} (h : ∀ us : List Value, us.length = ps.length → bindArgs fd ⟨us, []⟩ = pure (ps.zip us)) : Binds K fd ps [] := fun s us _ hl => by
 rw [List.append_nil] at hl ⊢
 exact .of_eq (h us hl)
noncomputable def Passes (CX : CXT) (X : Cx) (E : XK) : Prop := ∀ (pins : List (Addr × Obj)) (σ : St) (H : Hp) (s : Shared) (e : Value) (s' : Shared), Inv X pins σ H s → CX X.stack H s E e s' → X.xe e s'
section
variable {X : Cx} {CX : CXT} {k : Nat} {f C : Addr} {fd : FuncData} {ps : List Str} {sp : Sp} {dvs : List V} {ds : List Value} {E : XK} {x m : Str} {p pos apos : Pos} {e o : Expr} {es : List Expr} {ta : TE} {t : TA}
theorem run_fn {pins : List (Addr × Obj)} {σ : St} {H : Hp} {s : Shared} {Q : VK} {us : List Value} {vs : List V} (F : FnOk X.prog X.w X.K X.mg X.base CX k f fd ps sp) (hr : Room k X.A) (hb : Binds X.K fd ps ds) (hd : Vals dvs ds) (hx : Passes CX X E)
  (I : Inv X pins σ H s) (r : Vals vs us) (h : sp (vs ++ dvs) H Q E) : wpAny (model X.prog X.w) X.A (call (.ref f) us) (EP X pins σ Q) X.xe s := by
 have r2 : Vals (vs ++ dvs) (us ++ ds) := r.append hd
 have hl : (us ++ ds).length = ps.length := by rw [← r2.length]; exact F.len _ _ _ _ h
 refine wpAny_call (codeAny_mono (F.run X.A X.stack s H ⟨us, []⟩ (us ++ ds) (vs ++ dvs) Q E hr I.env0 (hb s us I.kIn hl) r2 h) fun r s' hq => ?_)
 cases r with
 | error e => exact hx pins σ H s e s' I hq
 | ok fl =>
  cases fl with
  | ret u => exact I.after hq
  | next => exact False.elim hq
  | brk => exact False.elim hq
  | cont => exact False.elim hq
theorem pe_call (F : FnOk X.prog X.w X.K X.mg X.base CX k f fd ps sp) (hr : Room k X.A) (hg : Gl X x) (hm : X.mg x = some (.ref f)) (hk : PySem.W.keepIn X.K (.ref f) = true) (hb : Binds X.K fd ps ds) (hd : Vals dvs ds) (hx : Passes CX X E)
  (ha : PA X (e :: es) t) (hdb : (x == ("__debug__" : Str)) = false := by decide) (he : starEach (e :: es) X.env = (false, eval e X.env) :: starEach es X.env := by rfl) (hpl : (backTo pos (starEach es X.env)).any (·.1) = false := by rfl) :
  PE X (.Call (.Name x p) (e :: es) [] pos) (tCall sp dvs E t) := by
 intro pins s σ H Q I h
 refine wpAny_Call_Name_kw (ld_glob I hg hm ?_ hdb)
 refine PySem.W.callWith_K (h₀ := X.base) I.ok.mod.kin hk (thn (ha pos pins s σ H _ I h) fun us s1 ⟨vs, H1, I1, r, q⟩ => ⟨I1.kIn, ?_⟩) he hpl
 exact run_fn F hr hb hd hx I1 r q
theorem pe_call0 (F : FnOk X.prog X.w X.K X.mg X.base CX k f fd ps sp) (hr : Room k X.A) (hg : Gl X x) (hm : X.mg x = some (.ref f)) (hk : PySem.W.keepIn X.K (.ref f) = true) (hb : Binds X.K fd ps ds) (hd : Vals dvs ds) (hx : Passes CX X E)
  (hdb : (x == ("__debug__" : Str)) = false := by decide) : PE X (.Call (.Name x p) [] [] pos) (tCall sp dvs E tNil) := by
 intro pins s σ H Q I h
 refine wpAny_Call_Name_kw (ld_glob I hg hm ?_ hdb)
 exact PySem.W.callWith_K0 I.kIn hk (run_fn (us := []) F hr hb hd hx I .nil h)
end
noncomputable def PK (X : Cx) (kws : List Keyword) (t : TA) : Prop :=
 ∀ (pos : Pos) (pins : List (Addr × Obj)) (s : Shared) (σ : St) (H : Hp) (Q : List V → Hp → Prop), Inv X pins σ H s → t σ H Q → wpAny (model X.prog X.w) X.A (evalAll ((backToKw pos (keywordEach kws X.env)).map (·.2))) (AP X pins σ Q) X.xe s
section
variable {X : Cx} {CX : CXT} {k : Nat} {f C : Addr} {fd : FuncData} {ps ks : List Str} {sp : Sp} {E : XK} {x m : Str} {p pos apos kpos : Pos} {e o : Expr} {es : List Expr} {kws : List Keyword} {te ta : TE} {t tk : TA} {nm : Option Str}
theorem pk_nil : PK X [] tNil := fun _ _ _ _ H Q I h => wpAny_evalAll_nil ⟨[], H, I, .nil, h⟩
theorem pk_cons (ha : PE X e te) (hr : PK X kws t) : PK X (⟨nm, e, kpos⟩ :: kws) (tCons te t) := by
 intro pos pins s σ H Q I h
 show wpAny _ _ (evalAll ((do let v ← eval e X.env; standAt pos; pure v) :: (backToKw pos (keywordEach kws X.env)).map (·.2))) _ _ s
 refine wpAny_evalAll_cons (wpAny_bind (thn (ha pins s σ H _ I h) fun u s1 ⟨x, H1, I1, r1, q1⟩ => wpAny_bind (wpAny_standAt (wpAny_pure ?_))))
 exact thn (hr pos pins s1 σ H1 _ I1 q1) fun us s2 ⟨xs, H2, I2, r2, q2⟩ => ⟨x :: xs, H2, I2, .cons r1 r2, q2⟩
variable {g : List Value → List Value → List Value} {gV : List V → List V → List V}
end
structure FnScope (N P : List Str) (sc : Scope) : Prop where
 kind : sc.kind = .function
 co : sc.isCoroutine = false
 gen : sc.isGenerator = false
 nd : N.Nodup
 pre : N.take P.length = P
 par : ∀ x ∈ P, sc.names.lookup x = some .local ∨ sc.names.lookup x = some .cell
 nofree : ∀ y ∈ sc.names, y.2 ≠ .free
theorem bindL_out {kindOf : Str → Option NameKind} {x : Str} : ∀ {binds : List (Str × Value)} {m : Str → Option Value}, (∀ v, (x, v) ∉ binds) → bindL kindOf binds m x = m x
 | [], _, _ => rfl
 | (n, v) :: r, m, h => by
  unfold bindL
  rw [bindL_out fun w hw => h w (List.mem_cons_of_mem _ hw)]
  split
  ·have : x ≠ n := by rintro rfl; exact h v List.mem_cons_self
   simp [this]
  ·rfl
theorem bindC_out {kindOf : Str → Option NameKind} {x : Str} : ∀ {binds : List (Str × Value)} {m : Str → Option Value}, (∀ v, (x, v) ∉ binds) → bindC kindOf binds m x = m x
 | [], _, _ => rfl
 | (n, v) :: r, m, h => by
  unfold bindC
  rw [bindC_out fun w hw => h w (List.mem_cons_of_mem _ hw)]
  split
  ·rfl
  ·have : x ≠ n := by rintro rfl; exact h v List.mem_cons_self
   simp [this]
theorem bindL_get {kindOf : Str → Option NameKind} {x : Str} {v : Value} : ∀ {P : List Str} {vs : List Value} {i : Nat} {m : Str → Option Value}, P.Nodup → P[i]? = some x → vs[i]? = some v → kindOf x = some .local →
  bindL kindOf (P.zip vs) m x = some v
 | [], _, _, _, _, h, _, _ => by simp at h
 | _ :: _, [], _, _, _, _, h, _ => by simp at h
 | p :: P, w :: vs, 0, m, nd, h1, h2, hk => by
  simp at h1 h2; subst h1; subst h2
  show bindL kindOf ((p, w) :: P.zip vs) m p = _
  unfold bindL
  rw [bindL_out fun v hv => (List.nodup_cons.mp nd).1 (List.of_mem_zip hv).1, if_pos hk]
  simp
 | p :: P, w :: vs, i + 1, m, nd, h1, h2, hk => by
  show bindL kindOf ((p, w) :: P.zip vs) m x = _
  unfold bindL
  exact bindL_get (i := i) (List.nodup_cons.mp nd).2 (by simpa using h1) (by simpa using h2) hk
theorem bindC_get {kindOf : Str → Option NameKind} {x : Str} {v : Value} : ∀ {P : List Str} {vs : List Value} {i : Nat} {m : Str → Option Value}, P.Nodup → P[i]? = some x → vs[i]? = some v → kindOf x ≠ some .local →
  bindC kindOf (P.zip vs) m x = some v
 | [], _, _, _, _, h, _, _ => by simp at h
 | _ :: _, [], _, _, _, _, h, _ => by simp at h
 | p :: P, w :: vs, 0, m, nd, h1, h2, hk => by
  simp at h1 h2; subst h1; subst h2
  show bindC kindOf ((p, w) :: P.zip vs) m p = _
  unfold bindC
  rw [bindC_out fun v hv => (List.nodup_cons.mp nd).1 (List.of_mem_zip hv).1, if_neg hk]
  simp
 | p :: P, w :: vs, i + 1, m, nd, h1, h2, hk => by
  show bindC kindOf ((p, w) :: P.zip vs) m x = _
  unfold bindC
  exact bindC_get (i := i) (List.nodup_cons.mp nd).2 (by simpa using h1) (by simpa using h2) hk
noncomputable def start (N : List Str) (vs : List V) : St := vs.map some ++ List.replicate (N.length - vs.length) none
noncomputable def cxOf (CX : CXT) (P : Program) (w : World) (K : FrK) (mg : Str → Option Value) (base : Heap) (N : List Str) (qual : Str) (scope : Scope) (f : Addr) (cd : Value) (A : Around) (outer : List Env) (s : Shared) (H : Hp) (E : XK) : Cx where
 prog := P
 w := w
 K := K
 mg := mg
 base := base
 A := A.deeper (envOfC qual scope s.heap.objs.size f cd)
 N := N
 s₀ := s
 H₀ := H
 env := envOfC qual scope s.heap.objs.size f cd
 outer := outer
 stack := envOfC qual scope s.heap.objs.size f cd :: outer
 ex := []
 calm := true
 fn := fun _ => true
 pn := []
 xe := fun e s' => wpAny (model P w) (A.deeper (envOfC qual scope s.heap.objs.size f cd)) (leaving (envOfC qual scope s.heap.objs.size f cd) e) (fun _ s'' => CX outer H s E e s'') (fun e' s'' => CX outer H s E e' s'') s'
theorem cell_has {sc : Scope} {n : Nat} {x : Str} (h : sc.names.lookup x = some .cell) : ∃ c, (cellsFrom n sc.names []).lookup x = some c := by
 have q := PySem.W.cellsFrom_some sc.names n [] (.inl h)
 exact Option.isSome_iff_exists.mp q
theorem inv_start {CX : CXT} {P : Program} {w : World} {K : FrK} {mg : Str → Option Value} {base : Heap} {N ps : List Str} {qual : Str} {scope : Scope} {f : Addr} {cd : Value} {A : Around} {outer : List Env} {s s1 : Shared} {H : Hp} {E : XK} {us : List Value} {vs : List V}
  (S : FnScope N ps scope) (hd : A.handled = none) (e0 : Env0 P w K mg base A outer s H) (hl : vs.length = ps.length) (r : Vals vs us)
  (x : InCallC s s.heap.objs.size (bindL (envOfC qual scope s.heap.objs.size f cd).kindOf (ps.zip us) fun _ => none) (cellsFrom (s.heap.objs.size + 1) scope.names []) (bindC (envOfC qual scope s.heap.objs.size f cd).kindOf (ps.zip us) fun _ => none) s1) :
  Inv (cxOf CX P w K mg base N qual scope f cd A outer s H E) [] (start N vs) H s1 := by
 have hpl : ps.length ≤ N.length := by have := congrArg List.length S.pre; rw [List.length_take] at this; omega
 obtain ⟨h1, tk, rfl, hk⟩ := x.done
 have noA : ∀ b : Addr, b ∉ (cxOf CX P w K mg base N qual scope f cd A outer s H E).ex := fun b z => absurd (show b ∈ ([] : List Addr) from z) (by simp)
 refine ⟨⟨e0.mod, S.kind, rfl, rfl, Nat.le_refl _, fun y z c h1 h2 => ?_, fun y hy => ?_, fun y c _ h => ?_, fun _ => hd, Around.frames_deeper e0.frames, .inr ⟨rfl, rfl⟩, fun b z => absurd z (noA b), e0.bs, e0.bsz, fun b _ _ => noA b, fun b z => absurd z (noA b), e0.funs, e0.frf⟩,
  rfl, e0.bare, Un.kept hk, ⟨_, x.toInCall.ns, fun i y v h1 h2 h3 => ?_⟩, fun y c h => ⟨_, x.cell y c h⟩, e0.hok.fresh (Nat.le_refl _), fun y c h => ?_, fun p hp => absurd (show p ∈ ([] : List (Addr × Obj)) from hp) (by simp), e0.hok.kept hk, ?_⟩
 ·exact name_of_addr x.apart (PySem.mem_of_lookup h1) (PySem.mem_of_lookup h2)
 ·have hy : scope.names.lookup y = some .cell ∨ scope.names.lookup y = some .free := hy
  rcases hy with hy | hy
  ·exact cell_has hy
  ·exact absurd rfl (S.nofree _ (PySem.mem_of_lookup hy))
 ·exact Nat.le_of_lt (x.above y c (PySem.mem_of_lookup h))
 ·have hi : i < vs.length := by
   unfold start at h2
   by_cases hi : i < vs.length
   ·exact hi
   ·rw [List.getElem?_append_right (by simpa using hi)] at h2
    rw [List.getElem?_replicate] at h2
    split at h2 <;> cases h2
  have ha : vs[i]? = some v := by
   unfold start at h2
   rw [List.getElem?_append_left (by simpa using hi), List.getElem?_map] at h2
   cases e : vs[i]? with
   | none => rw [e] at h2; cases h2
   | some a => rw [e] at h2; cases h2; rfl
  obtain ⟨u, hu, rv⟩ := r.get ha
  have hp : ps[i]? = some y := by
   rw [← S.pre, List.getElem?_take_of_lt (by omega)]; exact h1
  have ndP : ps.Nodup := by rw [← S.pre]; exact S.nd.sublist (List.take_sublist _ _)
  refine ⟨u, rv, ?_⟩
  rcases S.par y (List.mem_of_getElem? hp) with k | k
  ·exact .inl ⟨k, bindL_get ndP hp hu k⟩
  ·obtain ⟨c, e⟩ := cell_has (n := s.heap.objs.size + 1) k
   refine .inr ⟨.inl k, c, e, ?_⟩
   have q := x.cell y c e
   rw [bindC_get ndP hp hu (by show scope.names.lookup y ≠ _; rw [k]; decide)] at q
   exact q
 ·exact e0.hok.fresh (Nat.le_of_lt (x.above y c (PySem.mem_of_lookup h)))
 ·unfold start
  show _ = N.length
  rw [List.length_append, List.length_map, List.length_replicate]
  omega
theorem fn_of {CX : CXT} {P : Program} {w : World} {K : FrK} {mg : Str → Option Value} {base : Heap} {k : Nat} {f : Addr} {name qual : Str} {params : Arguments} {body : List Stmt} {scope : Scope} {dV kV doc pm cdv ct oc : Value} {an od : Option Addr}
  {osl : Array (Option Value)} {N ps : List Str} {sp : Sp} (lk : K.lookup f = some ⟨oc, od, .func (PySem.W.fnOf name qual params body scope dV kV doc pm an cdv ct), osl⟩) (hcd : PySem.W.codeIn K cdv qual = true) (S : FnScope N ps scope)
  (len : ∀ vs H Q E, sp vs H Q E → vs.length = ps.length)
  (hbody : ∀ (A : Around) (outer : List Env) (s : Shared) (H : Hp) (vs : List V) (Q : VK) (E : XK), Room k (A.deeper (envOfC qual scope s.heap.objs.size f cdv)) → sp vs H Q E →
   ∃ t, PSs (cxOf CX P w K mg base N qual scope f cdv A outer s H E) body t ∧ t { nx := fun _ H' => Q .non H', rt := Q } (start N vs) H) :
  FnOk P w K mg base CX (k + 1) f (PySem.W.fnOf name qual params body scope dV kV doc pm an cdv ct) ps sp := by
 refine ⟨len, fun A outer s H args us vs Q E hr e0 hb r hsp => ?_⟩
 have hl := len _ _ _ _ hsp
 have KX : K.In s.heap := e0.mod.kin.keeps fun b o e => (e0.bs b o e).1
 have lim : s.heap.NoLimit := e0.mod.nolimit.keeps fun b o e => (e0.bs b o e).1
 have hkind : ∀ y ∈ ps.zip us, scope.names.lookup y.1 = some .local ∨ (scope.names.lookup y.1 = some .cell ∧ ((cellsFrom (s.heap.objs.size + 1) scope.names []).lookup y.1).isSome = true) := fun ⟨n, v⟩ hy => by
  rcases S.par n (List.of_mem_zip hy).1 with q | q
  ·exact .inl q
  ·exact .inr ⟨q, PySem.W.cellsFrom_some _ _ _ (.inl q)⟩
 refine codeAny_call_function hr.depth (KX _ _ lk) rfl S.co S.gen rfl (PySem.W.codeRec_of KX hcd) (hb _ _ _ _ ?_)
 refine wpAny_newFunctionEnv_cells S.kind hkind fun env he s1 x => ?_
 subst he
 refine ⟨lim.keeps x.toInCall.keep, codeAny_func ?_⟩
 obtain ⟨t, ht, hq⟩ := hbody A outer s H vs Q E (hr.deeper _) hsp
 have I : Inv (cxOf CX P w K mg base N qual scope f cdv A outer s H E) [] (start N vs) H s1 := inv_start S hr.hd e0 hl r x
 refine wpAny_mono (ht [] s1 (start N vs) H _ I hq) (fun fl s' hs => ?_) fun e s' hs => hs
 have fin : ∀ {σ' : St} {H' : Hp} {v : V} {u : Value}, Inv (cxOf CX P w K mg base N qual scope f cdv A outer s H E) [] σ' H' s' → RelV v u → Q v H' → CE outer P w H s Q u s' :=
  fun {σ' H' v u} J rv q => ⟨v, H', J.os, J.bare, J.base, J.hok, rv, q⟩
 cases fl with
 | ret u =>
  obtain ⟨v, σ', H', J, rv, q⟩ := hs
  exact fin J rv q
 | next =>
  obtain ⟨σ', H', J, q⟩ := hs
  exact fin (v := V.non) (u := Value.none) J rfl q
 | brk =>
  obtain ⟨_, _, _, q⟩ := hs
  exact False.elim q
 | cont =>
  obtain ⟨_, _, _, q⟩ := hs
  exact False.elim q
end L2
namespace L2
open PySem PySem.Spec PyProof.Rows
section
variable {X : Cx} {x : Str} {p pos : Pos} {e : Expr} {es : List Expr} {t : TA} {id T : String} {r : List V → Hp → VK → Prop}
noncomputable def tCB (r : List V → Hp → VK → Prop) (t : TA) : TE := fun σ H Q => t σ H fun vs H1 => r vs H1 Q
theorem pe_callB (hc : CallR X (.builtin id) r) (hg : Gl X x) (hm : X.mg x = none) (hv : bootBuiltins x = some (.builtin id)) (ha : PA X (e :: es) t) (hn : x ≠ "__name__" := by decide) (hdb : (x == ("__debug__" : Str)) = false := by decide)
  (he : starEach (e :: es) X.env = (false, eval e X.env) :: starEach es X.env := by rfl) (hpl : (backTo pos (starEach es X.env)).any (·.1) = false := by rfl) : PE X (.Call (.Name x p) (e :: es) [] pos) (tCB r t) := by
 intro pins s σ H Q I h
 refine wpAny_Call_Name_kw (ld_blt I hg hm hv ?_ hn hdb)
 exact PyProof.Rows.callWith_builtin1 (thn (ha pos pins s σ H _ I h) fun us s1 ⟨vs, H1, I1, r1, q1⟩ => hc pins s1 σ H1 vs us Q I1 r1 q1) he hpl
theorem pe_callTy (hc : CallR X (.type T) r) (hg : Gl X x) (hm : X.mg x = none) (hv : bootBuiltins x = some (.type T)) (ha : PA X (e :: es) t) (hn : x ≠ "__name__" := by decide) (hdb : (x == ("__debug__" : Str)) = false := by decide)
  (he : starEach (e :: es) X.env = (false, eval e X.env) :: starEach es X.env := by rfl) (hpl : (backTo pos (starEach es X.env)).any (·.1) = false := by rfl) : PE X (.Call (.Name x p) (e :: es) [] pos) (tCB r t) := by
 intro pins s σ H Q I h
 refine wpAny_Call_Name_kw (ld_blt I hg hm hv ?_ hn hdb)
 exact PyProof.Rows.callWith_type1 (thn (ha pos pins s σ H _ I h) fun us s1 ⟨vs, H1, I1, r1, q1⟩ => hc pins s1 σ H1 vs us Q I1 r1 q1) he hpl
end
end L2
namespace HT
open PySem PyProof.Rows
section
open PySem.SeqAt
open PySem.AutoSeq1 (wpAny_loadPart')
open PySem.MeetsSeq PySem.MeetsSeq2 PySem.MeetsSeq3
end
section
variable {prog : Program} {w : World} {A : Around} {E : Value → Shared → Prop} {s : Shared}
noncomputable def sIx (n d : Nat) : Option Int → Nat
 | none => d
 | some v => if v < 0 then (v + (n : Int)).toNat else min v.toNat n
theorem sIx_none (n d : Nat) : sIx n d none = d := rfl
theorem sIx_nat (n d k : Nat) : sIx n d (some (k : Int)) = min k n := by
 show (if (k : Int) < 0 then ((k : Int) + (n : Int)).toNat else min (k : Int).toNat n) = min k n
 rw [if_neg (by omega), Int.toNat_natCast]
end
end HT
namespace L2
open PySem PySem.Spec PyProof.Rows
noncomputable abbrev TO := St → Hp → (Option Int → Hp → Prop) → Prop
noncomputable def PO (X : Cx) (e : Option Expr) (t : TO) : Prop :=
 ∀ (pins : List (Addr × Obj)) (s : Shared) (σ : St) (H : Hp) (Q : Option Int → Hp → Prop), Inv X pins σ H s → t σ H Q →
  wpAny (model X.prog X.w) X.A (evalPart e X.env) (fun u s' => ∃ o H', Inv X pins σ H' s' ∧ IsPart u o ∧ Q o H') X.xe s
noncomputable def tNoPart : TO := fun _ H Q => Q none H
theorem intsAre_of {ns : List Int} : ∀ {us : List Value}, Vals (ns.map V.int) us → IntsAre us ns := by
 induction ns with
 | nil => intro us r; rw [List.map_nil] at r; cases r; exact .nil
 | cons n ns ih =>
  intro us r
  rw [List.map_cons] at r
  cases r with
  | cons r1 r2 =>
   obtain ⟨t, e⟩ := r1
   subst e
   exact .cons n t (ih r2)
section
variable {X : Cx} {e : Expr} {te : TE} {lo hi : Option Expr} {tl th : TO} {pos p2 : Pos}
theorem po_none : PO X none tNoPart := by
 intro pins s σ H Q I h
 rw [evalPart_none]
 exact wpAny_pure ⟨none, H, I, .none, h⟩
noncomputable def SlR (X : Cx) (r : V → Option Int → Option Int → Hp → VK → Prop) : Prop :=
 ∀ (pins : List (Addr × Obj)) (s : Shared) (σ : St) (H : Hp) (x : V) (v vl vu : Value) (lo hi : Option Int) (sl : Addr) (Q : VK), Inv X pins σ H s → RelV x v → s.heap.IsSliceOf sl vl vu .none → IsPart vl lo → IsPart vu hi → r x lo hi H Q →
  ∃ T id, typeLookup (.type T) "__getitem__" = pure (some (.builtin id)) ∧ s.TypeIs v T ∧ wpAny (model X.prog X.w) X.A (getItem v (.ref sl)) (EP X pins σ Q) X.xe s
noncomputable def tSl (r : V → Option Int → Option Int → Hp → VK → Prop) (te : TE) (tl th : TO) : TE := fun σ H Q => te σ H fun x H1 => tl σ H1 fun l H2 => th σ H2 fun u H3 => r x l u H3 Q
theorem pe_slice {r : V → Option Int → Option Int → Hp → VK → Prop} (hr : SlR X r) (he : PE X e te) (hl : PO X lo tl) (hu : PO X hi th) : PE X (.Subscript e (.Slice lo hi none p2) pos) (tSl r te tl th) := by
 intro pins s σ H Q I h
 refine Subscript_ (thn (he pins s σ H _ I h) fun v s1 ⟨x, H1, I1, r1, q1⟩ => ?_)
 refine wpAny_Slice (thn (hl pins s1 σ H1 _ I1 q1) fun vl s2 ⟨l, H2, I2, pl, q2⟩ => thn (hu pins s2 σ H2 _ I2 q2) fun vu s3 ⟨u, H3, I3, pu, q3⟩ => ?_)
 rw [evalPart_none]
 refine wpAny_pure ?_
 have I4 : Inv X pins σ H3 { s3 with heap := s3.heap.push { cls := .type "slice", data := .fields #[vl, vu, .none] } } := I3.kept (t' := s3.toks) fun b ob q => Heap.get?_push_of_some _ q
 obtain ⟨T, id, hT, ht, hg⟩ := hr pins { s3 with heap := s3.heap.push { cls := .type "slice", data := .fields #[vl, vu, .none] } } σ H3 x v vl vu l u s3.heap.objs.size Q I4 r1 (Heap.IsSliceOf.new ..) pl pu q3
 show wpAny (model X.prog X.w) X.A (subscriptTail e (.Slice lo hi none p2) v (.ref s3.heap.objs.size)) (EP X pins σ Q) X.xe { s3 with heap := s3.heap.push { cls := .type "slice", data := .fields #[vl, vu, .none] } }
 exact tail_any (ops := [.ref s3.heap.objs.size, v]) ht hT hg (by with_unfolding_all rfl)
noncomputable def cutV (xs : List V) (lo hi : Option Int) : List V := (xs.drop (HT.sIx xs.length 0 lo)).take (HT.sIx xs.length xs.length hi - HT.sIx xs.length 0 lo)
theorem cutV_length (xs : List V) (lo hi : Option Int) : (cutV xs lo hi).length ≤ xs.length := by
 unfold cutV
 rw [List.length_take, List.length_drop]
 omega
end
end L2
namespace L2
open PySem PySem.Spec PyProof.Rows
noncomputable def ixN (n : Nat) (i : Int) : Option Nat := if 0 ≤ i then (if i < n then some i.toNat else none) else if -(n : Int) ≤ i then some (i + n).toNat else none
noncomputable def atI {α : Type} (xs : List α) (i : Int) : Option α := (ixN xs.length i).bind fun j => xs[j]?
theorem ixN_seq {n : Nat} {i : Int} {j : Nat} (h : ixN n i = some j) : seqIndex? i n = some j ∧ j < n ∧ -(n : Int) ≤ i ∧ i < n := by
 unfold ixN at h
 by_cases h0 : 0 ≤ i
 ·rw [if_pos h0] at h
  by_cases h1 : i < n
  ·rw [if_pos h1] at h
   have e : i.toNat = j := Option.some.inj h
   exact ⟨by rw [seqIndex_of h0 h1, e], by omega, by omega, h1⟩
  ·rw [if_neg h1] at h; cases h
 ·rw [if_neg h0] at h
  by_cases h1 : -(n : Int) ≤ i
  ·rw [if_pos h1] at h
   have e : (i + n).toNat = j := Option.some.inj h
   exact ⟨by rw [seqIndex_neg (by omega) h1, e], by omega, h1, by omega⟩
  ·rw [if_neg h1] at h; cases h
theorem atI_get {α : Type} {xs : List α} {i : Int} {v : α} (h : atI xs i = some v) : ∃ j, seqIndex? i xs.length = some j ∧ xs[j]? = some v ∧ j < xs.length ∧ -(xs.length : Int) ≤ i ∧ i < xs.length := by
 unfold atI at h
 cases e : ixN xs.length i with
 | none => rw [e] at h; cases h
 | some j =>
  rw [e] at h
  obtain ⟨h1, h2, h3, h4⟩ := ixN_seq e
  exact ⟨j, h1, h, h2, h3, h4⟩
theorem atI_nat {α : Type} {xs : List α} {j : Nat} {v : α} (h : xs[j]? = some v) : atI xs (j : Int) = some v := by
 have hj : j < xs.length := (List.getElem?_eq_some_iff.mp h).1
 have e : ixN xs.length (j : Int) = some j := by
  unfold ixN
  rw [if_pos (by omega), if_pos (by omega)]; simp
 unfold atI; rw [e]; exact h
noncomputable def PlainIx (b : Expr) : Prop := ∀ o i, subscripted b false o i = operate [o, i] (getItem o i)
noncomputable def IxR (X : Cx) (r : R2) : Prop :=
 ∀ (value slice : Expr) (pins : List (Addr × Obj)) (s : Shared) (σ : St) (H : Hp) (x y : V) (v u : Value) (Q : VK), Inv X pins σ H s → RelV x v → RelV y u → r x y H Q →
  subscripted slice false v u = operate [v, u] (getItem v u) → wpAny (model X.prog X.w) X.A (subscriptTail value slice v u) (EP X pins σ Q) X.xe s
noncomputable def MtR (X : Cx) (id : String) (r : V → List V → Hp → VK → Prop) : Prop :=
 ∀ (pins : List (Addr × Obj)) (s : Shared) (σ : St) (H : Hp) (x : V) (xs : List V) (v : Value) (us : List Value) (Q : VK), Inv X pins σ H s → RelV x v → Vals xs us → r x xs H Q →
  wpAny (model X.prog X.w) X.A (call (.builtin id) (v :: us)) (EP X pins σ Q) X.xe s
section
variable {X : Cx} {a b : Expr} {ta tb : TE} {pos : Pos}
theorem IxR.or {r r' : R2} (h : IxR X r) (h' : IxR X r') : IxR X (fun x y H Q => r x y H Q ∨ r' x y H Q) := by
 intro value slice pins s σ H x y v u Q I rx ry q hs
 rcases q with q | q
 ·exact h value slice pins s σ H x y v u Q I rx ry q hs
 ·exact h' value slice pins s σ H x y v u Q I rx ry q hs
theorem pe_ix {r : R2} (hr : IxR X r) (ha : PE X a ta) (hb : PE X b tb) (hs : PlainIx b) : PE X (.Subscript a b pos) (tOp r ta tb) := by
 intro pins s σ H Q I h
 exact Subscript_ (binT ha hb I h fun v u s2 x y H2 I2 rx ry q => hr a b pins s2 σ H2 x y v u Q I2 rx ry q (hs _ _))
noncomputable def rIxL (K : FrK) : R2 := fun x y H Q => ∃ p xs i v, x = .ref p ∧ y = .int i ∧ SqL K H p xs ∧ atI xs i = some v ∧ Q v H
noncomputable def rIxT (K : FrK) : R2 := fun x y H Q => ∃ p xs i v, x = .ref p ∧ y = .int i ∧ SqT K H p xs ∧ atI xs i = some v ∧ Q v H
theorem ix_list : IxR X (rIxL X.K) := by
 intro value slice pins s σ H x y v u Q I rx ry h hs
 obtain ⟨p, xs, i, z, rfl, rfl, hq, he, q⟩ := h
 cases rx
 obtain ⟨t, rfl⟩ := ry
 obtain ⟨its, r, pl, hz⟩ := I.list hq
 obtain ⟨j, h1, h2, h3, h4, h5⟩ := atI_get he
 obtain ⟨w, ew, rw'⟩ := r.get h2
 have hl := r.length
 have hn := line63
 have fin : EP X pins σ Q w s := ⟨z, H, I, rw', q⟩
 by_cases h0 : 0 ≤ i
 ·have hj : i.toNat = j := by
   rw [seqIndex_of h0 h5] at h1
   exact Option.some.inj h1
  exact item_listR pl.isList h0 (by omega) (by rw [hj]; simpa using ew) fin hs
 ·have hj : (i + (its.toArray.size : Int)).toNat = j := by
   rw [seqIndex_neg (by omega) h4] at h1
   rw [List.size_toArray, ← hl]
   exact Option.some.inj h1
  exact subscriptTail_builtinR (x := w) pl.isList.typeIs slot_list_getitem.lookup
   (wpAny_getItem_list_neg (Q := fun r s' => r = w ∧ EP X pins σ Q r s') pl.isList (by omega) (by rw [List.size_toArray] <;> omega) (by omega) (by rw [hj]; simpa using ew) ⟨rfl, fin⟩) hs
theorem ix_tup : IxR X (rIxT X.K) := by
 intro value slice pins s σ H x y v u Q I rx ry h hs
 obtain ⟨p, xs, i, z, rfl, rfl, hq, he, q⟩ := h
 cases rx
 obtain ⟨t, rfl⟩ := ry
 obtain ⟨its, r, pl, hz⟩ := I.tuple hq
 obtain ⟨j, h1, h2, h3, h4, h5⟩ := atI_get he
 obtain ⟨w, ew, rw'⟩ := r.get h2
 have hl := r.length
 have hn := line63
 have fin : EP X pins σ Q w s := ⟨z, H, I, rw', q⟩
 exact subscriptTail_builtinR (x := w) pl.typeIs slot_tuple_getitem.lookup
  (getItem_tuple (j := j) (Q := fun r s' => r = w ∧ EP X pins σ Q r s') pl (by omega) (by omega) (by rw [List.size_toArray, ← hl]; exact h1) (by simpa using ew) ⟨rfl, fin⟩) hs
theorem mapSeq_set (its : List Value) (n j : Nat) (u : Value) : Obj.mapSeq (·.setIfInBounds j u) { cls := .type "list", data := .seq its.toArray n } = { cls := .type "list", data := .seq (its.set j u).toArray n } := by
 simp [Obj.mapSeq]
theorem Inv.lst {pins : List (Addr × Obj)} {σ : St} {H : Hp} {s : Shared} {p : Addr} {xs : List V} (I : Inv X pins σ H s) (h : H p = some (.lst xs)) :
  ∃ (its : List Value) (n : Nat), Vals xs its ∧ s.heap.get? p = some { cls := .type "list", data := .seq its.toArray n } ∧ xs.length ≤ sizeLine := by
 obtain ⟨z, its, n, r, e⟩ := I.hok p _ h
 exact ⟨its, n, r, e, z⟩
theorem Inv.lstUpd {pins : List (Addr × Obj)} {σ : St} {H : Hp} {s : Shared} {p : Addr} {xs ys : List V} {its its' : List Value} {n n' : Nat} {f : Obj → Obj} (I : Inv X pins σ H s) (h : H p = some (.lst xs))
  (ho : s.heap.get? p = some { cls := .type "list", data := .seq its.toArray n }) (hf : f { cls := .type "list", data := .seq its.toArray n } = { cls := .type "list", data := .seq its'.toArray n' }) (r : Vals ys its') (hz : ys.length ≤ sizeLine) (t : Nat) :
  Inv X pins σ (upd H p (.lst ys)) { s with heap := s.heap.update p f, toks := t } := by
 have e : (s.heap.update p f).get? p = some { cls := .type "list", data := .seq its'.toArray n' } := by
  rw [Heap.get?_update_self f ho (by rw [hf] <;> rfl), hf]
 refine I.write (x := p) (e := p) (by rw [h]; trivial) (.inl rfl) (fun b u hb q => (Heap.get?_update_other _ _ (Ne.symm hb)).trans q) ⟨_, e⟩ ?_
 exact ⟨hz, its', n', r, e⟩
noncomputable def rSetL : V → V → V → Hp → (Hp → Prop) → Prop := fun o i v H Q => ∃ p xs k j, o = .ref p ∧ i = .int k ∧ H p = some (.lst xs) ∧ ixN xs.length k = some j ∧ Q (upd H p (.lst (xs.set j v)))
theorem set_list : PSet X rSetL := by
 intro pins s σ H o i v ov iv u Q I ro ri rv h
 obtain ⟨p, xs, k, j, rfl, rfl, hp, hj, q⟩ := h
 cases ro
 obtain ⟨t, rfl⟩ := ri
 obtain ⟨its, n, r, ho, hz⟩ := I.lst hp
 obtain ⟨h1, h2, h3, h4⟩ := ixN_seq hj
 have hl := r.length
 have hn := line63
 have I' : Inv X pins σ (upd H p (.lst (xs.set j v))) { s with heap := s.heap.update p (Obj.mapSeq (·.setIfInBounds j u)) } :=
  I.lstUpd hp ho (mapSeq_set its n j u) (r.set rv j) (by rw [List.length_set]; exact hz) s.toks
 by_cases h0 : 0 ≤ k
 ·have hk : k.toNat = j := by
   rw [seqIndex_of h0 h4] at h1
   exact Option.some.inj h1
  exact PySem.W.ki_setAt ho h0 (by omega) (by rw [List.size_toArray, ← hl]; exact h4) (by rw [hk]; exact ⟨_, I', q⟩)
 ·have hk : (k + (its.toArray.size : Int)).toNat = j := by
   rw [seqIndex_neg (by omega) h3] at h1
   rw [List.size_toArray, ← hl]
   exact Option.some.inj h1
  exact PySem.W.ki_setBack ho (by omega) (by rw [List.size_toArray, ← hl]; exact h3) (by omega) (by rw [hk]; exact ⟨_, I', q⟩)
theorem slice_bounds (lo hi : Option Int) (n : Nat) : (sliceBounds lo hi none n).1 = ((HT.sIx n 0 lo : Nat) : Int) ∧ (sliceBounds lo hi none n).2.1 = ((HT.sIx n n hi : Nat) : Int) ∧ (sliceBounds lo hi none n).2.2 = 1 := by
 refine ⟨?_, ?_, rfl⟩
 ·cases lo with
  | none => simp [sliceBounds, HT.sIx]
  | some i =>
   simp only [sliceBounds, HT.sIx, Option.getD_none, show (1 : Int) > 0 by decide, if_true]
   by_cases h : i < 0
   ·simp only [h, if_true] <;> omega
   ·simp only [h, if_false] <;> omega
 ·cases hi with
  | none => simp [sliceBounds, HT.sIx]
  | some i =>
   simp only [sliceBounds, HT.sIx, Option.getD_none, show (1 : Int) > 0 by decide, if_true]
   by_cases h : i < 0
   ·simp only [h, if_true] <;> omega
   ·simp only [h, if_false] <;> omega
theorem slicePick_cut (its : List Value) (lo hi : Option Int) : slicePick its.toArray lo hi none = ((its.drop (HT.sIx its.length 0 lo)).take (HT.sIx its.length its.length hi - HT.sIx its.length 0 lo)).toArray := by
 obtain ⟨h1, h2, h3⟩ := slice_bounds lo hi its.toArray.size
 unfold slicePick
 rw [h1, h2, h3]
 simp only [sliceRange_one, pick_run, List.size_toArray] <;> rfl
noncomputable def rSlL (K : FrK) : V → Option Int → Option Int → Hp → VK → Prop := fun x lo hi H Q => ∃ a xs, x = .ref a ∧ SqL K H a xs ∧ ∀ p, H p = none → Q (.ref p) (upd H p (.lst (cutV xs lo hi)))
theorem sl_list : SlR X (rSlL X.K) := by
 intro pins s σ H x v vl vu lo hi sl Q I rx hs pl pu h
 obtain ⟨a, xs, rfl, hx, q⟩ := h
 cases rx
 obtain ⟨its, r, ht, hz⟩ := I.list hx
 have hlen := r.length
 refine ⟨"list", _, slot_list_getitem.lookup, ht.isList.typeIs, ?_⟩
 refine wpAny_getItem_list_slice ht.isList hs pl pu .none (by simp) ?_ (by rw [List.size_toArray] <;> omega)
 rw [slicePick_cut, ← hlen]
 refine ⟨.ref s.heap.objs.size, _, I.laid (t' := s.toks) (o := .lst (cutV xs lo hi)) (fun b ob q => Heap.get?_push_of_some _ q) (Nat.le_refl _) ?_, rfl, q _ (I.hok.fresh (Nat.le_refl _))⟩
 exact ⟨Nat.le_trans (cutV_length xs lo hi) hz, _, 0, (r.drop (HT.sIx xs.length 0 lo)).take (HT.sIx xs.length xs.length hi - HT.sIx xs.length 0 lo), Heap.get?_push_size _ rfl⟩
noncomputable def flatV : V → Bool
 | .non => true
 | .bl _ => true
 | .int _ => true
 | .str _ => true
 | _ => false
noncomputable def eqV : V → V → Bool
 | .non, .non => true
 | .bl a, .bl b => a == b
 | .bl a, .int b => (if a then 1 else 0) == b
 | .int a, .bl b => a == (if b then 1 else 0)
 | .int a, .int b => a == b
 | .str a, .str b => a == b
 | _, _ => false
theorem eqAt_V {A : Around} {s : Shared} {y x : V} {u v : Value} (ry : RelV y u) (rx : RelV x v) (fy : flatV y = true) (fx : flatV x = true) : SeqAt.EqAt A s u v (eqV y x) := by
 cases y with
 | non =>
  cases ry
  cases x with
  | non => cases rx; exact SeqAt.EqAt.same _
  | bl b => cases rx; exact SeqAt.EqAt.none_bool b
  | int b => obtain ⟨t, rfl⟩ := rx; exact SeqAt.EqAt.none_int b t
  | str b => obtain ⟨t, rfl⟩ := rx; exact SeqAt.EqAt.none_str b t
  | _ => exact absurd (show false = true from fx) Bool.false_ne_true
 | bl a =>
  cases ry
  cases x with
  | non => cases rx; exact SeqAt.EqAt.bool_none a
  | bl b => cases rx; exact SeqAt.EqAt.bool_bool a b
  | int b => obtain ⟨t, rfl⟩ := rx; exact SeqAt.EqAt.bool_int a b t
  | str b => obtain ⟨t, rfl⟩ := rx; exact SeqAt.EqAt.bool_str a b t
  | _ => exact absurd (show false = true from fx) Bool.false_ne_true
 | int a =>
  obtain ⟨t', rfl⟩ := ry
  cases x with
  | non => cases rx; exact SeqAt.EqAt.int_none a t'
  | bl b => cases rx; exact SeqAt.EqAt.int_bool a t' b
  | int b => obtain ⟨t, rfl⟩ := rx; exact SeqAt.EqAt.int_int a t' b t
  | str b => obtain ⟨t, rfl⟩ := rx; exact SeqAt.EqAt.int_str a t' b t
  | _ => exact absurd (show false = true from fx) Bool.false_ne_true
 | str a =>
  obtain ⟨t', rfl⟩ := ry
  cases x with
  | non => cases rx; exact SeqAt.EqAt.str_none a t'
  | bl b => cases rx; exact SeqAt.EqAt.str_bool a t' b
  | int b => obtain ⟨t, rfl⟩ := rx; exact SeqAt.EqAt.str_int a t' b t
  | str b => obtain ⟨t, rfl⟩ := rx; exact SeqAt.EqAt.str_str a t' b t
  | _ => exact absurd (show false = true from fx) Bool.false_ne_true
 | _ => exact absurd (show false = true from fy) Bool.false_ne_true
theorem call_len_seq : CallR X (.builtin "len") (fun xs H Q => ∃ p ys, xs = [.ref p] ∧ (SqL X.K H p ys ∨ SqT X.K H p ys) ∧ Q (.int ys.length) H) := by
 intro pins s σ H xs us Q I r h
 obtain ⟨p, ys, rfl, hq, q⟩ := h
 obtain ⟨u, rfl, rx⟩ := vals1 r
 cases rx
 have hn := line63
 rcases hq with hq | hq
 ·obtain ⟨its, r', pl, hz⟩ := I.list hq
  have hlen := r'.length
  exact Calls.call_len_list pl.isList (by simp only [List.size_toArray] <;> omega) ⟨.int ys.length, H, I.tok _, ⟨s.toks + 1, by rw [List.size_toArray, hlen]⟩, q⟩
 ·obtain ⟨its, r', pl, hz⟩ := I.tuple hq
  have hlen := r'.length
  exact len_tuple pl (by simp only [List.size_toArray] <;> omega) ⟨.int ys.length, H, I.tok _, ⟨s.toks + 1, by rw [List.size_toArray, hlen]⟩, q⟩
theorem call_list_of : CallR X (.type "list") (fun xs H Q => ∃ p ys, xs = [.ref p] ∧ (SqL X.K H p ys ∨ SqT X.K H p ys) ∧ ∀ l, H l = none → Q (.ref l) (upd H l (.lst ys))) := by
 intro pins s σ H xs us Q I r h
 obtain ⟨p, ys, rfl, hq, q⟩ := h
 obtain ⟨u, rfl, rx⟩ := vals1 r
 cases rx
 have fin : ∀ (its : List Value), Vals ys its → ys.length ≤ sizeLine → ∀ (h' : Heap) (c' : Nat), (∀ b o', s.heap.get? b = some o' → h'.get? b = some o') →
   h'.get? s.heap.objs.size = some { cls := .type "list", dict := none, data := .seq its.toArray c', slots := #[] } → EP X pins σ Q (.ref s.heap.objs.size) { s with heap := h' } := fun its r' hz h' c' kp e =>
  ⟨.ref s.heap.objs.size, _, I.laid (t' := s.toks) kp (Nat.le_refl _) (show ObjOk X.prog X.w _ h' _ (.lst ys) from ⟨hz, its, c', r', e⟩), rfl, q _ (I.hok.fresh (Nat.le_refl _))⟩
 rcases hq with hq | hq
 ·obtain ⟨its, r', pl, hz⟩ := I.list hq
  have hlen := r'.length
  obtain ⟨o, ho, hc, n, hd⟩ := pl.isList
  exact call_list_seq p (.inl rfl) ho hc hd (fun h' c' kp e => fin its r' hz h' c' kp e) (by simp only [List.size_toArray] <;> omega)
 ·obtain ⟨its, r', pl, hz⟩ := I.tuple hq
  have hlen := r'.length
  obtain ⟨o, ho, hc, n, hd⟩ := pl
  exact call_list_seq p (.inr rfl) ho hc hd (fun h' c' kp e => fin its r' hz h' c' kp e) (by simp only [List.size_toArray] <;> omega)
noncomputable def tyV (K : FrK) (T : String) (x : V) (H : Hp) : Prop := match x with
 | .str _ => T = "str"
 | .int _ => T = "int"
 | .ref p => (T = "list" ∧ ∃ xs, SqL K H p xs) ∨ (T = "tuple" ∧ ∃ o, K.lookup p = some o ∧ o.cls = .type "tuple" ∧ o.dict = none) ∨
   (T = "dict" ∧ ((∃ kvs, H p = some (.dK kvs)) ∨ ∃ kvs, H p = some (.dT kvs))) ∨ (T = "set" ∧ ∃ S n, H p = some (.set S n))
 | _ => False
theorem tyV_is {pins : List (Addr × Obj)} {σ : St} {H : Hp} {s : Shared} {T : String} {x : V} {v : Value} (I : Inv X pins σ H s) (r : RelV x v) (ty : tyV X.K T x H) :
  s.TypeIs v T ∧ ∀ a, v = .ref a → ∃ ob, s.heap.get? a = some ob ∧ ob.dict = none := by
 cases x with
 | str z =>
  obtain ⟨t, rfl⟩ := r
  cases (show T = "str" from ty)
  exact ⟨typeIs_str s z t, fun _ e => nomatch e⟩
 | int i =>
  obtain ⟨t, rfl⟩ := r
  cases (show T = "int" from ty)
  exact ⟨typeIs_int s i t, fun _ e => nomatch e⟩
 | ref p =>
  cases r
  rcases ty with ⟨rfl, xs, hq⟩ | ⟨rfl, o, hk, hc, hd⟩ | ⟨rfl, hk⟩ | ⟨rfl, S, n, hk⟩
  ·obtain ⟨its, _, pl, _⟩ := I.list hq
   refine ⟨pl.isList.typeIs, fun a e => ?_⟩
   cases e
   obtain ⟨o, n, e, c, hd, _⟩ := pl
   exact ⟨o, e, hd⟩
  ·refine ⟨⟨o, I.kIn p o hk, hc⟩, fun a e => ?_⟩
   cases e
   exact ⟨o, I.kIn _ o hk, hd⟩
  ·have z : ∃ o, s.heap.get? p = some o ∧ o.ExactDict := by
    rcases hk with ⟨kvs, hk⟩ | ⟨kvs, hk⟩
    ·obtain ⟨_, _, _, _, o, _, _, e, ex, _⟩ := I.hok p _ hk
     exact ⟨o, e, ex⟩
    ·obtain ⟨_, _, _, _, o, _, _, e, ex, _⟩ := I.hok p _ hk
     exact ⟨o, e, ex⟩
   obtain ⟨o, e, ex⟩ := z
   refine ⟨⟨o, e, ex.1⟩, fun a e2 => ?_⟩
   cases e2
   exact ⟨o, e, ex.2.1⟩
  ·obtain ⟨o, _, _, _, e, ex, _⟩ := I.hok p _ hk
   refine ⟨⟨o, e, ex.1⟩, fun a e2 => ?_⟩
   cases e2
   exact ⟨o, e, ex.2.1⟩
 | _ => exact False.elim ty
variable {o e : Expr} {es : List Expr} {to : TE} {t : TA} {name : Str} {apos cpos : Pos} {T id : String} {r : V → List V → Hp → VK → Prop}
/- xs.append(e), list.index on a module's tuple .. are MtR facts of 06m -/
end
end L2
namespace L2
open PySem PySem.Spec PyProof.Rows
noncomputable def MtM (X : Cx) (id : String) (r : V → List V → Hp → VK → Prop) : Prop :=
 ∀ (pins : List (Addr × Obj)) (s : Shared) (σ : St) (H : Hp) (x : V) (xs : List V) (v : Value) (us : List Value) (Q : VK), Inv X pins σ H s → RelV x v → Vals xs us → r x xs H Q →
  wpAny (model X.prog X.w) X.A (call (.builtin id) (v :: us)) (EP X pins σ Q) X.xe s
theorem Vals.one : ∀ {x : V} {us : List Value}, Vals [x] us → ∃ u, us = [u] ∧ RelV x u
 | _, _, .cons r .nil => ⟨_, rfl, r⟩
theorem Vals.rep {xs : List V} {us : List Value} (h : Vals xs us) : ∀ k : Nat, Vals (List.replicate k xs).flatten (List.replicate k us).flatten
 | 0 => .nil
 | k + 1 => by
  rw [List.replicate_succ, List.replicate_succ, List.flatten_cons, List.flatten_cons]
  exact Vals.append h (Vals.rep h k)
theorem foldl_rep (its : List Value) : ∀ (k : Nat) (acc : List Value),
  List.foldl (fun x1 x2 => x1 ++ x2) acc.toArray (List.replicate k its.toArray) = (acc ++ (List.replicate k its).flatten).toArray
 | 0, acc => by simp
 | k + 1, acc => by
  have e : acc.toArray ++ its.toArray = (acc ++ its).toArray := by simp
  have e2 : (acc ++ its) ++ (List.replicate k its).flatten = acc ++ (List.replicate (k + 1) its).flatten := by
   rw [List.replicate_succ, List.flatten_cons, List.append_assoc]
  rw [← e2, ← foldl_rep its k (acc ++ its), ← e, List.replicate_succ, List.foldl_cons]
section
variable {X : Cx} {pins : List (Addr × Obj)} {σ : St} {H : Hp} {s : Shared} {l b : Addr} {xs ys zs : List V}
theorem Inv.lset {its its' : List Value} {n : Nat} {f : Array Value → Array Value} {t' : Nat} (I : Inv X pins σ H s) (hH : H l = some (.lst xs))
  (e : s.heap.get? l = some { cls := .type "list", data := .seq its.toArray n }) (hf : f its.toArray = its'.toArray) (hv : Vals ys its') (hz : ys.length ≤ sizeLine) :
  Inv X pins σ (upd H l (.lst ys)) { s with heap := s.heap.update l (Obj.mapSeq f), toks := t' } := by
 have q := PySem.IsL.update e f
 rw [hf] at q
 refine I.write (x := l) (e := l) (by rw [hH]; exact trivial) (.inl rfl) (fun b' u hb hu => (Heap.get?_update_other s.heap (Obj.mapSeq f) (Ne.symm hb)).trans hu) ⟨_, q⟩ ?_
 exact ⟨hz, its', _, hv, q⟩
theorem Inv.lnew {its : List Value} {t' : Nat} (I : Inv X pins σ H s) (hv : Vals ys its) (hz : ys.length ≤ sizeLine) :
  Inv X pins σ (upd H s.heap.objs.size (.lst ys)) { s with heap := s.heap.push { cls := .type "list", data := .seq its.toArray }, toks := t' } :=
 I.laid (fun _ _ q => Heap.get?_push_of_some _ q) (Nat.le_refl _) ⟨hz, its, 0, hv, Heap.get?_push_size _ rfl⟩
theorem Inv.fresh (I : Inv X pins σ H s) : H s.heap.objs.size = none := I.hok.fresh (Nat.le_refl _)
theorem Inv.lstM (I : Inv X pins σ H s) (hH : H l = some (.lst xs)) : xs.length ≤ sizeLine ∧ ∃ (its : List Value) (n : Nat), Vals xs its ∧ xs.length = its.length ∧ s.heap.get? l = some { cls := .type "list", data := .seq its.toArray n } := by
 obtain ⟨z, its, n, r, e⟩ := I.hok l _ hH
 exact ⟨z, its, n, r, r.length, e⟩
theorem notLongL {n : Nat} (h : n ≤ sizeLine) : Builtin.List.listTooLong n = false := by
 unfold Builtin.List.listTooLong
 exact decide_eq_false (by omega)
end
section
variable {X : Cx}
noncomputable def rAppend : V → List V → Hp → VK → Prop := fun x vs H Q => ∃ l xs y, x = .ref l ∧ vs = [y] ∧ H l = some (.lst xs) ∧ xs.length < sizeLine ∧ Q .non (upd H l (.lst (xs ++ [y])))
theorem mt_append : MtM X "list.append" rAppend := by
 intro pins s σ H x vs v us Q I rx rv h
 obtain ⟨l, xs, y, rfl, rfl, hH, hz, q⟩ := h
 cases rx
 obtain ⟨u, rfl, ru⟩ := rv.one
 obtain ⟨z, its, n, r, hl, e⟩ := I.lstM hH
 refine call_meets F.slot_list_append ⟨_, e, rfl⟩ F.entry_list_append (F.args_list_append_2 _ _) (PySem.list_append l its.toArray n u (by rw [List.size_toArray]; omega)) ⟨e, ?_⟩
 refine ⟨.non, _, I.lset (its' := its ++ [u]) hH e (by simp) (r.append (.cons ru .nil)) ?_, rfl, q⟩
 rw [List.length_append, List.length_singleton]
 omega
noncomputable def rCat : R2 := fun x y H Q => ∃ l b xs zs, x = .ref l ∧ y = .ref b ∧ H l = some (.lst xs) ∧ H b = some (.lst zs) ∧ xs.length + zs.length ≤ sizeLine ∧ ∀ p, H p = none → Q (.ref p) (upd H p (.lst (xs ++ zs)))
theorem op_cat : OpR X (binaryOp .Add) rCat := by
 intro pins s σ H x y v u Q I rx ry h
 obtain ⟨l, b, xs, zs, rfl, rfl, hH, hB, hz, q⟩ := h
 cases rx
 cases ry
 obtain ⟨z, its, n, r, hl, e⟩ := I.lstM hH
 obtain ⟨z2, its2, n2, r2, hl2, e2⟩ := I.lstM hB
 refine PySem.P.add_list e e2 ?_ (by rw [List.size_toArray, List.size_toArray]; omega)
 have ea : its.toArray ++ its2.toArray = (its ++ its2).toArray := by simp
 rw [ea]
 exact ⟨.ref _, _, I.lnew (t' := s.toks) (r.append r2) (by rw [List.length_append]; omega), rfl, q _ I.fresh⟩
noncomputable def rRep : R2 := fun x y H Q => ∃ l k xs, x = .ref l ∧ y = .int k ∧ H l = some (.lst xs) ∧ -(2 ^ 63) ≤ k ∧ k < 2 ^ 63 ∧ xs.length * k.toNat ≤ sizeLine ∧
 ∀ p, H p = none → Q (.ref p) (upd H p (.lst (List.replicate k.toNat xs).flatten))
theorem len_rep {α : Type} (xs : List α) (k : Nat) : (List.replicate k xs).flatten.length = k * xs.length := by
 induction k with
 | zero => simp
 | succ k ih => rw [List.replicate_succ, List.flatten_cons, List.length_append, ih, Nat.succ_mul, Nat.add_comm]
theorem op_rep : OpR X (binaryOp .Mult) rRep := by
 intro pins s σ H x y v u Q I rx ry h
 obtain ⟨l, k, xs, rfl, rfl, hH, h1, h2, hz, q⟩ := h
 cases rx
 obtain ⟨t, rfl⟩ := ry
 obtain ⟨z, its, n, r, hl, e⟩ := I.lstM hH
 have hlen : its.toArray.size * k.toNat ≤ sizeLine := by rw [List.size_toArray, ← hl]; exact hz
 have hcap : ¬ its.toArray.size * k.toNat > (2 ^ 63 - 1) / 8 := by
  have : (sizeLine : Nat) ≤ (2 ^ 63 - 1) / 8 := by decide
  omega
 have hfit : ¬ (!Builtin.List.listFitsIndex k) = true := by
  rw [fitsIndex_both h1 h2]
  exact Bool.false_ne_true
 have hlong : ¬ Builtin.List.listTooLong (its.toArray.size * k.toNat) = true := by
  rw [notLongL hlen]
  exact Bool.false_ne_true
 have hnew : List.foldl (fun x1 x2 => x1 ++ x2) #[] (List.replicate (if its.toArray.isEmpty = true then 0 else k.toNat) its.toArray) = (List.replicate k.toNat its).flatten.toArray := by
  have f0 : ∀ m : Nat, List.foldl (fun x1 x2 => x1 ++ x2) #[] (List.replicate m its.toArray) = (List.replicate m its).flatten.toArray := fun m => by
   have := foldl_rep its m []
   rw [List.nil_append] at this
   exact this
  rw [f0]
  cases its with
  | nil => simp
  | cons a r' => rw [if_neg (by simp)]
 refine wpAny_binaryOp_repeat_ref (T := "list") (U := "int") (by decide) ⟨_, e, rfl⟩ (fun s' => typeIs_int s' k t) noFill_list_mul F.fills_int_mul F.slot_int_rmul repeat_list F.slot_int_index.lookup
  (call_meets F.slot_int_rmul (typeIs_int s k t) F.entry_int_rmul (F.args_int_rmul_2 _ _) (int___rmul___int_list k t l its.toArray n)
   ⟨e, rfl, ⟨_, e, rfl⟩, call_meets F.slot_list_mul ⟨_, e, rfl⟩ F.entry_list_mul (F.args_list_mul_2 _ _) (AutoListH.list___mul___list_int_3 l its.toArray n k t hfit hcap hlong) ⟨e, ?_⟩⟩)
 rw [hnew]
 exact ⟨.ref _, _, I.lnew (t' := s.toks) (r.rep k.toNat) (by rw [len_rep, Nat.mul_comm]; exact hz), rfl, q _ I.fresh⟩
end
end L2
namespace Att
open PySem PySem.W PySem.Calls PyProof.Rows
theorem ints_of_wellAll {P : Params} {h : Heap} : ∀ (ns : List Int) (vs : List Value), WellAll P h vs (ns.map WData.int) → IntsAre vs ns := by
 intro ns
 induction ns with
 | nil =>
  intro vs w
  rw [List.map_nil] at w
  cases w
  exact .nil
 | cons n ns ih =>
  intro vs w
  rw [List.map_cons] at w
  cases w with
  | cons a b =>
   cases a
   exact .cons _ _ (ih _ b)
theorem script_of {l : OpenLaw} {n : Nat} (hn : l.most = some n) {P : Params} {h : Heap} {args : List WData} {vals : List Value}
  (hpre : l.row.toRowW.claim.pre args = true) (hwl : WellAll P h vals args) :
  ∃ a vs ns, vals = [Value.ref a] ∧ args = [WData.list (ns.map WData.int)] ∧ h.get? a = some { cls := .type "list", data := .seq vs.toArray } ∧ IntsAre vs ns ∧ ns.length ≤ n := by
 have hsh : WShape.hasAll [] args [.list .int] = true := (pre_splitW hpre).1
 have hc : l.pre.holds [] { args := args } = true := (pre_splitW hpre).2
 obtain ⟨d, r, rfl, h1, h2⟩ := hasAllW_cons hsh
 obtain rfl := hasAllW_nil h2
 obtain ⟨xs, rfl, h3⟩ := hasW_list h1
 obtain ⟨ns, rfl⟩ := items_int h3
 have hlen : ns.length ≤ n := by
  unfold OpenLaw.pre at hc
  have h4 : (WTm.not (.lt (.lit (.int (n : Int))) (.len (.arg 0)))).holds [] { args := [.list (ns.map .int)] } = true := by
   have h4 := (holds_andW hc).1
   rw [hn] at h4
   exact h4
  have h5 := condW_of h4 (w_not (w_lt w_lit (w_len_list (w_arg rfl))))
  rw [List.length_map] at h5
  refine Nat.le_of_not_lt fun q => ?_
  have q' : (n : Int) < ((ns.length : Nat) : Int) := by omega
  first
   | (rw [decide_eq_true q'] at h5; exact absurd h5 (by decide))
   | (simp at h5; omega)
 cases hwl with
 | cons w1 w2 =>
  cases w2
  cases w1 with
  | list ho hall => exact ⟨_, _, ns, rfl, rfl, ho, ints_of_wellAll ns _ hall, hlen⟩
theorem post_true (l : OpenLaw) (args : List WData) : l.row.toRowW.claim.post args (.bool true) args = true :=
 postW_of (r := l.row.toRowW) (X := (true == true))
  (show WShape.has [] (.bool true) .bool = true by first | rfl | decide | simp [WShape.has, WShape.arms, WShape.armsAll])
  (show (WTm.eq .res (.lit (.bool true))).value [] { args := args, res := some (.bool true), after := args } = some (.bool (true == true)) from w_eq_bool (w_res rfl) w_lit) rfl
theorem attach_call {l : OpenLaw} {n : Nat} {q : Program} {loose : List Str} {XP : (Str → Option Value) → Heap → Prop} {YP : World → Heap → Prop} {d : DefRec}
  (hn : l.most = some n) (hdf : d.params.defaults = [])
  (call : ∀ (w : World) (s₀ s₁ : Shared) (mg mb : Str → Option Value) (fa : Addr) (o : Obj) (pm cd doc : Value) (a : Addr) (vs : List Value) (ns : List Int),
   Ground q loose [] XP w s₀ mg mb s₁.heap → YP w s₁.heap →
   s₁.heap.get? fa = some o → o.data = .func (docDef d.name d.params d.body d.scope pm cd doc) → s₁.heap.CodeRec cd d.name → mg d.name = some (.ref fa) →
   s₁.heap.get? a = some { cls := .type "list", data := .seq vs.toArray } → IntsAre vs ns → ns.length ≤ n → s₁.gens = #[] →
   codeAny (model l.prog w) callerA (.call (.ref fa) ⟨[.ref a], []⟩) (fun r s' => r = .ok (.ret (.bool true)) ∧ OldK s₁.heap s'.heap ∧ s'.os = s₁.os ∧ AllBare s'.gens) s₁) :
  WalkO q loose XP YP l.row.toRowW d [] (fun f vs => PySem.call f vs) := by
 intro w s₀ s₁ mg mb G Y fa o pm cd doc dV kV ho hd hcd hD hmg hg args vals as hpre hlay hrd hwl hlo
 obtain rfl : dV = .none := Dflts.none hD hdf
 obtain rfl : kV = .none := Dflts.noKw hD
 obtain ⟨a, vs, ns, rfl, rfl, hobj, hints, hlen⟩ := script_of hn hpre hwl
 refine enter_call (codeAny_mono (call w s₀ s₁ mg mb fa o pm cd doc a vs ns G Y ho (fd_plain hd) hcd hmg hobj hints hlen hg) fun r s' hq => ?_)
 obtain ⟨rfl, h2, h3, h4⟩ := hq
 exact ⟨.inl ⟨.bool true, .bool true, [], rfl, fun _ => rfl, .bool true, post_true l _, fun _ => ⟨List.Pairwise.nil, fun _ hm => (nomatch hm)⟩⟩, h2, h3, h4⟩
end Att
namespace L2
open PySem PySem.Spec PyProof.Rows
theorem vals_ints : ∀ {vs : List Value} {ns : List Int}, IntsAre vs ns → Vals (ns.map V.int) vs
 | _, _, .nil => .nil
 | _, _, .cons n t h => .cons ⟨t, rfl⟩ (vals_ints h)
noncomputable def Only (H : Hp) : Prop := ∀ b, H b = none ∨ ∃ o xs, H b = some (.frz o (.lst xs))
theorem law_call {P : Program} {w : World} {K : FrK} {mg mb : Str → Option Value} {CX : CXT} {k : Nat} {fa a : Addr} {fd : FuncData} {x : Str} {sp : Sp} {s₁ : Shared} {vs : List Value} {ns : List Int}
  (KX : K.In s₁.heap) (hns : s₁.heap.Ns mainGlobals mg) (hb : s₁.heap.Ns builtinsNs mb) (hbb : ∀ x : Str, x ≠ "__name__" → mb x = bootBuiltins x) (hlim : s₁.heap.NoLimit) (hg : s₁.gens = #[])
  (ha : s₁.heap.get? a = some { cls := .type "list", data := .seq vs.toArray }) (hi : IntsAre vs ns) (hl : ns.length ≤ sizeLine) (hr : Room k callerA)
  (F : ∀ base : Heap, K.In base → base.Ns mainGlobals mg → FnOk P w K mg base CX k fa fd [x] sp) (hbind : ∀ (s : Shared) (u : Value), BindsTo s fd ⟨[u], []⟩ [(x, u)])
  (hsp : ∀ H : Hp, Only H → SqL K H a (ns.map V.int) → sp [.ref a] H (fun v _ => v = .bl true) fun _ _ _ => False)
  (hCX : ∀ H e s', CX [] H s₁ (fun _ _ _ => False) e s' → False) :
  codeAny (model P w) callerA (.call (.ref fa) ⟨[.ref a], []⟩) (fun r s' => r = .ok (.ret (.bool true)) ∧ OldK s₁.heap s'.heap ∧ s'.os = s₁.os ∧ AllBare s'.gens) s₁ := by
 have rv := vals_ints hi
 have lenV := hi.length
 have core : ∀ H : Hp, Only H → SqL K H a (ns.map V.int) → HOk P w H s₁.heap → (∀ b, H b ≠ none → b = a) → (H a ≠ none → K.lookup a = none) →
   codeAny (model P w) callerA (.call (.ref fa) ⟨[.ref a], []⟩) (fun r s' => r = .ok (.ret (.bool true)) ∧ OldK s₁.heap s'.heap ∧ s'.os = s₁.os ∧ AllBare s'.gens) s₁ := by
  intro H hO hS hok hA hK
  have base_of : ∀ {b : Addr} {o : Obj}, s₁.heap.get? b = some o → H b = none → (hidT s₁.heap H).get? b = some o := fun e n => hidT_get e n
  have noA : ∀ {b : Addr} {o : Obj} {es : Array DictEntry} {ep : Nat}, s₁.heap.get? b = some o → o.data = .dict es ep → H b = none := fun {b o es ep} e d => by
   cases q : H b with
   | none => rfl
   | some u =>
    have e' : b = a := hA b (by rw [q]; simp)
    subst e'
    rw [ha] at e; cases e
    have d' : Data.seq vs.toArray _ = Data.dict es ep := d
    cases d'
  have nsK : ∀ {b : Addr} {m : Str → Option Value}, s₁.heap.Ns b m → (hidT s₁.heap H).Ns b m := fun {b m} ⟨o, es, ep, e, d, r⟩ => ⟨o, es, ep, base_of e (noA e d), d, r⟩
  have hKb : K.In (hidT s₁.heap H) := fun b o e => base_of (KX b o e) (by
   cases q : H b with
   | none => rfl
   | some u =>
    have e' : b = a := hA b (by rw [q]; simp)
    subst e'
    rw [hK (by rw [q]; simp)] at e; cases e)
  have hM : Mod K mg (hidT s₁.heap H) := ⟨hKb, nsK hns, ⟨mb, nsK hb, hbb⟩, let ⟨mc, h1, h2⟩ := hlim; ⟨mc, nsK h1, h2⟩⟩
  have e0 : Env0 P w K mg (hidT s₁.heap H) callerA [] s₁ H := ⟨rfl, hM, fun b o e => of_hidT e, Nat.le_of_eq (hidT_size _ _), trivial, fun b hb => absurd (show b ∈ ([] : List Addr) from hb) (by simp), hok, .of_eq hg⟩
  refine codeAny_mono ((F _ hKb (nsK hns)).run callerA [] s₁ H ⟨[.ref a], []⟩ [.ref a] [.ref a] _ _ hr e0 (hbind s₁ (.ref a)) (.cons rfl .nil) (hsp H hO hS)) fun r s' h => ?_
  cases r with
  | error e => exact (hCX H e s' h).elim
  | ok fl =>
   cases fl with
   | next => exact False.elim h
   | brk => exact False.elim h
   | cont => exact False.elim h
   | ret u =>
    obtain ⟨v, H', os, bare, un, hok', r', q⟩ := h
    have q' : v = .bl true := q
    subst q'
    obtain rfl : u = Value.bool true := r'
    refine ⟨rfl, OldK.of_keep fun b o e => ?_, os, bare⟩
    cases q : H b with
    | none => exact un.keep b o e q (by intro z; exact absurd (show b ∈ ([] : List Addr) from z) (by simp)) (by simp)
    | some u =>
     rcases hO b with z | ⟨ob, xs, z⟩
     ·rw [q] at z; cases z
     ·have z2 := un.frzs b ob _ z
      obtain ⟨e1, _⟩ := hok b _ z
      obtain ⟨e2, _⟩ := hok' b _ z2
      rw [e] at e1; cases e1
      exact e2
 cases hk : K.lookup a with
 | some o =>
  have e := KX a o hk
  rw [ha] at e
  cases e
  refine core (fun _ => none) (fun _ => .inl rfl) (.inr ⟨_, vs.toArray, _, hk, rfl, rfl, rfl, by rw [List.size_toArray, lenV]; exact hl, by simpa using rv⟩) (fun b u z => by have z' : (none : Option HO) = some u := z; cases z') (fun b z => absurd rfl z) fun z => absurd rfl z
 | none =>
  refine core (fun b => if b = a then some (.frz { cls := .type "list", data := .seq vs.toArray } (.lst (ns.map V.int))) else none) (fun b => ?_) (.inl (.inr ⟨{ cls := .type "list", data := .seq vs.toArray }, if_pos rfl⟩)) (fun b u z => ?_) (fun b z => ?_) fun _ => hk
  ·by_cases hb : b = a
   ·exact .inr ⟨_, _, if_pos hb⟩
   ·exact .inl (if_neg hb)
  ·by_cases hb : b = a
   ·have z' := (if_pos hb).symm.trans z
    cases z'
    subst hb
    exact ⟨ha, by rw [List.length_map]; exact hl, vs, _, rv, ha⟩
   ·have z' := (if_neg hb).symm.trans z
    cases z'
  ·by_cases hb : b = a
   ·exact hb
   ·exact absurd (if_neg hb) z
end L2
namespace L2
open PySem PySem.Spec PyProof.Rows
theorem walk_of {l : PySem.W.OpenLaw} {n k : Nat} {q : Program} {loose : List Str} {XP : (Str → Option Value) → Heap → Prop} {YP : World → Heap → Prop} {d : DefRec} {K : Params → FrK} {CX : World → CXT} {sp : World → Sp} {x : Str}
  (hn : l.most = some n) (hn2 : n ≤ sizeLine) (hdf : d.params.defaults = []) (hr : Room k callerA)
  (hY : ∀ (w : World) (h : Heap), YP w h → (K w.params).In h)
  (F : ∀ (w : World) (mg : Str → Option Value) (fa : Addr) (h : Heap), (K w.params).In h → h.Ns mainGlobals mg → mg d.name = some (.ref fa) →
   ∃ fd : FuncData, (∀ (s : Shared) (u : Value), BindsTo s fd ⟨[u], []⟩ [(x, u)]) ∧
    ∀ base : Heap, (K w.params).In base → base.Ns mainGlobals mg → FnOk l.prog w (K w.params) mg base (CX w) k fa fd [x] (sp w))
  (hsp : ∀ (w : World) (H : Hp) (a : Addr) (ns : List Int), ns.length ≤ n → Only H → SqL (K w.params) H a (ns.map V.int) → sp w [.ref a] H (fun v _ => v = .bl true) fun _ _ _ => False)
  (hCX : ∀ (w : World) (H : Hp) (s : Shared) (e : Value) (s' : Shared), CX w [] H s (fun _ _ _ => False) e s' → False) :
  PySem.W.WalkO q loose XP YP l.row.toRowW d [] (fun f vs => PySem.call f vs) := by
 refine Att.attach_call hn hdf fun w s₀ s₁ mg mb fa o pm cd doc a vs ns G Y ho hd hcd hmg hobj hints hlen hg => ?_
 have KX := hY w _ Y
 obtain ⟨fd, hb, hF⟩ := F w mg fa _ KX G.T.g hmg
 exact law_call KX G.T.g G.T.b G.T.builtins G.T.nolimit hg hobj hints (Nat.le_trans hlen hn2) hr hF hb (fun H hO hS => hsp w H a ns hlen hO hS) fun H e s' => hCX w H s₁ e s'
end L2
namespace L2
open PySem PySem.Spec PyProof.Rows
noncomputable def inClass (s : Stmt) (j : Nat) : Stmt := match s with
 | .ClassDef _ _ _ body _ _ _ _ _ _ _ => body.getD j (.Pass ⟨0, 0, 0, 0⟩)
 | _ => .Pass ⟨0, 0, 0, 0⟩
noncomputable def defArgs (s : Stmt) : Arguments := match s with
 | .FunctionDef _ a _ _ _ _ _ _ _ _ => a
 | _ => { posonlyargs := [], args := [], vararg := none, kwonlyargs := [], kw_defaults := [], kwarg := none, defaults := [] }
noncomputable def defBody (s : Stmt) : List Stmt := match s with
 | .FunctionDef _ _ b _ _ _ _ _ _ _ => b
 | _ => []
noncomputable def defScope (s : Stmt) : Scope := match s with
 | .FunctionDef _ _ _ _ _ _ sc _ _ _ => sc
 | _ => { kind := .function, names := [], isGenerator := false, isCoroutine := false }
noncomputable abbrev E0 : XK := fun _ _ _ => False
structure Fun (K : FrK) (x qual : Str) (st : Stmt) (f : Addr) (fd : FuncData) : Prop where
 ex : ∃ (oc : Value) (od : Option Addr) (kV doc pm : Value) (an : Option Addr) (cdv ct : Value) (osl : Array (Option Value)),
  fd = PySem.W.fnOf x qual (defArgs st) (defBody st) (defScope st) .none kV doc pm an cdv ct ∧ K.lookup f = some ⟨oc, od, .func fd, osl⟩ ∧ PySem.W.codeIn K cdv qual = true
 kp : PySem.W.keepIn K (.ref f) = true
section
variable {P : Program} {w : World} {K : FrK} {mg : Str → Option Value} {base : Heap}
theorem Fun.binds {x qual : Str} {st : Stmt} {f : Addr} {fd : FuncData} {ps : List Str} (F : Fun K x qual st f fd)
  (h : ∀ (kV doc pm : Value) (an : Option Addr) (cdv ct : Value) (us : List Value), us.length = ps.length → bindArgs (PySem.W.fnOf x qual (defArgs st) (defBody st) (defScope st) .none kV doc pm an cdv ct) ⟨us, []⟩ = pure (ps.zip us)) : Binds K fd ps [] := by
 obtain ⟨oc, od, kV, doc, pm, an, cdv, ct, osl, rfl, lk, hcd⟩ := F.ex
 exact .all (h kV doc pm an cdv ct)
theorem fun_mk {x qual : Str} {st : Stmt} {f : Addr} {oc : Value} {od an : Option Addr} {osl : Array (Option Value)} {kV doc pm cdv ct : Value} (l : K.lookup f = some ⟨oc, od, .func (PySem.W.fnOf x qual (defArgs st) (defBody st) (defScope st) .none kV doc pm an cdv ct), osl⟩)
  (c : PySem.W.codeIn K cdv qual = true) (k : PySem.W.keepIn K (.ref f) = true) : Fun K x qual st f (PySem.W.fnOf x qual (defArgs st) (defBody st) (defScope st) .none kV doc pm an cdv ct) := ⟨⟨oc, od, kV, doc, pm, an, cdv, ct, osl, rfl, l, c⟩, k⟩
end
theorem small1000 {n : Nat} (h : n ≤ 1000) : n < sizeLine := Nat.lt_of_le_of_lt h (by decide)
section
variable {X : Cx}
theorem pv (i : Nat) {x : Str} {pos : Pos} (hN : X.N[i]? = some x := by rfl) (hv : Vis X.env.scope x := by first | exact Or.inl rfl | exact Or.inr (Or.inl rfl) | exact Or.inr (Or.inr rfl)) (hd : (x == ("__debug__" : Str)) = false := by decide)
  (hcd : (x == ("__classdict__" : Str)) = false := by decide) : PE X (.Name x pos) (tVar i) := pe_var hN hv hd hcd
end
theorem iteF {A B : Prop} (h : B) : if false = true then A else B := by
 rw [if_neg Bool.false_ne_true]
 exact h
theorem iteT {A B : Prop} (h : A) : if true = true then A else B := by
 rw [if_pos rfl]
 exact h
noncomputable def Same (H H' : Hp) : Prop := ∀ b o, H b = some o → H' b = some o
theorem Same.refl (H : Hp) : Same H H := fun _ _ h => h
theorem Same.trans {H H1 H2 : Hp} (a : Same H H1) (b : Same H1 H2) : Same H H2 := fun c o h => b c o (a c o h)
theorem Same.free {H H' : Hp} (e : Same H H') {l : Addr} (h : H' l = Option.none) : H l = Option.none := by
 cases q : H l with
 | none => rfl
 | some o =>
  rw [e l o q] at h
  cases h
theorem Same.seq {K : FrK} {H H' : Hp} {a : Addr} {xs : List V} (e : Same H H') (h : SqL K H a xs) : SqL K H' a xs := by
 rcases h with (h | ⟨o, h⟩) | h
 ·exact .inl (.inl (e _ _ h))
 ·exact .inl (.inr ⟨o, e _ _ h⟩)
 ·exact .inr h
end L2
set_option maxHeartbeats 4000000
namespace L2
open PySem PySem.Spec PyProof.Rows
noncomputable def clFrom (env : Env) : List (Str × NameKind) → List (Str × Addr) → List (Str × Addr)
 | [], acc => acc
 | (n, k) :: r, acc => clFrom env r (if k == .free then (n, (env.cells.lookup n).getD 0) :: acc else acc)
noncomputable abbrev clOf (scope : Scope) (env : Env) : List (Str × Addr) := clFrom env scope.names []
theorem closureFor_cl {scope : Scope} {env : Env} (h : ∀ y ∈ scope.names, y.2 = .free → ∃ c, env.cells.lookup y.1 = some c) : closureFor scope env = pure (clOf scope env) := by
 have all : ∀ (names : List (Str × NameKind)) (acc : List (Str × Addr)), (∀ y ∈ names, y.2 = .free → ∃ c, env.cells.lookup y.1 = some c) →
   (forIn names acc fun (x : Str × NameKind) (cs : List (Str × Addr)) => (match x with
    | (name, kind) => if (kind == .free) = true then do let y ← cellOf env name; pure (ForInStep.yield ((name, y) :: cs)) else pure (ForInStep.yield cs) : Sem (ForInStep (List (Str × Addr))))) = pure (clFrom env names acc) := by
  intro names
  induction names with
  | nil => intro acc _; rfl
  | cons y r ih =>
   intro acc hy
   obtain ⟨n, k⟩ := y
   rw [List.forIn_cons]
   by_cases hk : k = .free
   ·subst hk
    obtain ⟨c, hc⟩ := hy (n, .free) List.mem_cons_self rfl
    have e : cellOf env n = pure c := by unfold cellOf; rw [hc]
    show (((cellOf env n >>= fun y => pure (ForInStep.yield ((n, y) :: acc))) : Sem _) >>= _) = _
    rw [e]
    show (forIn r ((n, c) :: acc) _ : Sem _) = _
    rw [ih _ fun z hz => hy z (List.mem_cons_of_mem _ hz)]
    show _ = pure (clFrom env r ((n, (env.cells.lookup n).getD 0) :: acc))
    rw [hc]
    rfl
   ·have hb : (k == NameKind.free) = false := by simpa using hk
    show ((if (k == NameKind.free) = true then _ else pure (ForInStep.yield acc) : Sem _) >>= _) = _
    rw [hb]
    show (forIn r acc _ : Sem _) = _
    rw [ih _ fun z hz => hy z (List.mem_cons_of_mem _ hz)]
    show _ = pure (clFrom env r (if (k == NameKind.free) = true then _ else acc))
    rw [hb]
    rfl
 unfold closureFor
 have := all scope.names [] h
 rw [show (pure (clOf scope env) : Sem _) = (pure (clOf scope env) >>= pure) from rfl, ← this]
theorem clFrom_sub {env : Env} : ∀ (names : List (Str × NameKind)) (acc : List (Str × Addr)), (∀ y ∈ names, y.2 = .free → ∃ c, env.cells.lookup y.1 = some c) → (∀ x c, acc.lookup x = some c → env.cells.lookup x = some c) →
  ∀ x c, (clFrom env names acc).lookup x = some c → env.cells.lookup x = some c
 | [], _, _, ha => ha
 | (n, k) :: r, acc, hy, ha => by
  refine clFrom_sub r _ (fun z hz => hy z (List.mem_cons_of_mem _ hz)) fun x c hx => ?_
  by_cases hk : k = .free
  ·subst hk
   obtain ⟨d, hd⟩ := hy (n, .free) List.mem_cons_self rfl
   rw [if_pos (by rfl), List.lookup_cons] at hx
   cases e : x == n with
   | true =>
    rw [e, hd] at hx
    have : x = n := by simpa using e
    subst this
    rw [hd]; exact hx
   | false =>
    rw [e] at hx
    exact ha x c hx
  ·have hb : ¬ (k == NameKind.free) = true := by simpa using hk
   rw [if_neg hb] at hx
   exact ha x c hx
theorem clFrom_mono {env : Env} : ∀ (names : List (Str × NameKind)) (acc : List (Str × Addr)) (x : Str), (∃ c, acc.lookup x = some c) → ∃ c, (clFrom env names acc).lookup x = some c
 | [], _, _, ha => ha
 | (n, k) :: r, acc, x, ha => by
  refine clFrom_mono r _ x ?_
  split
  ·rw [List.lookup_cons]
   split
   ·exact ⟨_, rfl⟩
   ·exact ha
  ·exact ha
theorem clFrom_has {env : Env} : ∀ (names : List (Str × NameKind)) (acc : List (Str × Addr)) (x : Str), (x, NameKind.free) ∈ names → ∃ c, (clFrom env names acc).lookup x = some c
 | [], _, _, h => by cases h
 | (n, k) :: r, acc, y, h => by
  rcases List.mem_cons.mp h with e | h
  ·cases e
   refine clFrom_mono r _ _ ?_
   rw [if_pos (by rfl), List.lookup_cons]
   simp
  ·exact clFrom_has r _ y h
theorem relabel_look {env : Env} {k : NameKind} (hk : k = .cell ∨ k = .free) : ∀ {names : List (Str × NameKind)} {x : Str}, (∀ y ∈ names, y.2 ≠ .cell) →
  (names.map fun (n, k) => if (k == NameKind.free && env.scope.kind == .function && env.kindOf n == some .cell) then (n, NameKind.cell) else (n, k)).lookup x = some k → (x, NameKind.free) ∈ names
 | [], _, _, h => by simp at h
 | (n, j) :: r, x, hn, h => by
  have ih := @relabel_look env k hk r x fun y hy => hn y (List.mem_cons_of_mem _ hy)
  have hj : j ≠ .cell := hn (n, j) List.mem_cons_self
  rw [List.map_cons] at h
  by_cases hc : (j == NameKind.free && env.scope.kind == .function && env.kindOf n == some .cell) = true
  ·have hf : j = .free := by
    rw [Bool.and_eq_true, Bool.and_eq_true] at hc
    simpa using hc.1.1
   subst hf
   dsimp only at h
   rw [if_pos hc, List.lookup_cons] at h
   cases e : x == n with
   | true =>
    have : x = n := by simpa using e
    subst this
    exact List.mem_cons_self
   | false => rw [e] at h; exact List.mem_cons_of_mem _ (ih h)
  ·dsimp only at h
   rw [if_neg hc, List.lookup_cons] at h
   cases e : x == n with
   | true =>
    rw [e] at h
    have : x = n := by simpa using e
    subst this
    have hjk : j = k := Option.some.inj h
    subst hjk
    rcases hk with z | z
    ·exact absurd z hj
    ·subst z; exact List.mem_cons_self
   | false => rw [e] at h; exact List.mem_cons_of_mem _ (ih h)
theorem relabel_free_not_local {scope : Scope} {env : Env} {x : Str} (hf : scope.names.lookup x = some .free) : (relabel scope env).names.lookup x ≠ some .local := by
 have all : ∀ (names : List (Str × NameKind)), names.lookup x = some .free →
   (names.map fun (n, k) => if (k == NameKind.free && env.scope.kind == .function && env.kindOf n == some .cell) then (n, NameKind.cell) else (n, k)).lookup x ≠ some .local := by
  intro names
  induction names with
  | nil => intro h; simp at h
  | cons y r ih =>
   obtain ⟨n, k⟩ := y
   intro h
   rw [List.lookup_cons] at h
   rw [List.map_cons]
   dsimp only
   cases e : x == n with
   | true =>
    rw [e] at h
    have hk : k = .free := Option.some.inj h
    subst hk
    split
    ·rw [List.lookup_cons, e]; intro z; cases z
    ·rw [List.lookup_cons, e]; intro z; cases z
   | false =>
    rw [e] at h
    split
    ·rw [List.lookup_cons, e]; exact ih h
    ·rw [List.lookup_cons, e]; exact ih h
 exact all _ hf
noncomputable def blkCx (X : Cx) (scope : Scope) (N' : List Str) (C : Addr) (s : Shared) (H : Hp) (fp : List Addr) (pins : List (Addr × Obj)) : Cx where
 prog := X.prog
 w := X.w
 K := X.K
 mg := X.mg
 base := X.base
 A := X.A
 N := N'
 s₀ := s
 H₀ := H
 env := compEnvC scope (clOf scope X.env) C X.env
 outer := X.stack
 stack := X.stack
 ex := fp
 fn := fun _ => false
 calm := X.calm
 pn := X.pn ++ pins
 xe := fun _ _ => False
noncomputable def blkSt (bl : List (Option Nat)) (σ : St) : St := bl.map fun o => match o with
 | none => none
 | some i => (σ[i]?).join
noncomputable def compOk (sc scope : Scope) (N N' : List Str) (bl : List (Option Nat)) : Bool :=
 (scope.kind == .function) &&
 (scope.names.all fun x => (x.2 != .local || scope.names.lookup x.1 == some .local) && x.2 != .cell && (x.2 != .free || (sc.names.lookup x.1 == some .cell || sc.names.lookup x.1 == some .free))) &&
 (bl.length == N'.length) &&
 ((List.range bl.length).all fun j => match bl[j]? with
  | some (some i) => match N'[j]? with
   | some x => N[i]? == some x && scope.names.lookup x == some .free && (sc.names.lookup x == some .cell || sc.names.lookup x == some .free)
   | none => false
  | _ => true)
structure CompOk (sc scope : Scope) (N N' : List Str) (bl : List (Option Nat)) : Prop where
 kind : scope.kind = .function
 names : ∀ x ∈ scope.names, x.2 = .local → scope.names.lookup x.1 = some .local
 nocell : ∀ x ∈ scope.names, x.2 ≠ .cell
 frees : ∀ x ∈ scope.names, x.2 = .free → sc.names.lookup x.1 = some .cell ∨ sc.names.lookup x.1 = some .free
 len : bl.length = N'.length
 src : ∀ (j i : Nat) (x : Str), bl[j]? = some (some i) → N'[j]? = some x → N[i]? = some x ∧ scope.names.lookup x = some .free ∧ (sc.names.lookup x = some .cell ∨ sc.names.lookup x = some .free)
theorem CompOk.of {sc scope : Scope} {N N' : List Str} {bl : List (Option Nat)} (h : compOk sc scope N N' bl = true) : CompOk sc scope N N' bl := by
 unfold compOk at h
 simp only [Bool.and_eq_true, List.all_eq_true, Bool.or_eq_true, bne_iff_ne, beq_iff_eq, ne_eq] at h
 obtain ⟨⟨⟨h1, h2⟩, h3⟩, h4⟩ := h
 refine ⟨h1, fun x hx e => ?_, fun x hx => (h2 x hx).1.2, fun x hx e => ?_, h3, fun j i x hb hx => ?_⟩
 ·rcases (h2 x hx).1.1 with z | z
  ·exact absurd e z
  ·exact z
 ·rcases (h2 x hx).2 with z | z
  ·exact absurd e z
  ·exact z
 ·have hj : j < bl.length := (List.getElem?_eq_some_iff.mp hb).1
  have q := h4 j (List.mem_range.mpr hj)
  rw [hb] at q
  simp only [hx, Bool.and_eq_true, beq_iff_eq, Bool.or_eq_true] at q
  exact ⟨q.1.1, q.1.2, q.2⟩
section
variable {X : Cx} {pins : List (Addr × Obj)} {σ : St} {H : Hp} {s : Shared} {scope : Scope} {N' : List Str} {bl : List (Option Nat)} {fp : List Addr}
theorem Inv.cellsOf (I : Inv X pins σ H s) (k : CompOk X.env.scope scope X.N N' bl) : ∀ y ∈ scope.names, y.2 = .free → ∃ c, X.env.cells.lookup y.1 = some c := fun y hy e => I.ok.has y.1 (k.frees y hy e)
theorem Inv.clSub (I : Inv X pins σ H s) (k : CompOk X.env.scope scope X.N N' bl) : ∀ x c, (clOf scope X.env).lookup x = some c → X.env.cells.lookup x = some c :=
 clFrom_sub _ _ (I.cellsOf k) fun x c h => by simp at h
theorem Inv.block {h₁ : Heap} {tk : Nat} {m : Str → Option Value} (I : Inv X pins σ H s) (k : CompOk X.env.scope scope X.N N' bl) (hfp : ∀ b ∈ fp, FpOk X pins H b) (hex : ∀ b ∈ fp, ∃ o, s.heap.get? b = some o)
  (hns : h₁.Ns s.heap.objs.size m) (keep : ∀ b o, s.heap.get? b = some o → h₁.get? b = some o) :
  Inv (blkCx X scope N' s.heap.objs.size s H fp pins) [] (blkSt bl σ) H { s with heap := h₁, toks := tk } := by
 have sub := I.clSub k
 have stkS : ∀ b ∈ frs X.stack, b ∈ X.env.locals :: X.fs := I.stkSub
 have ok : (blkCx X scope N' s.heap.objs.size s H fp pins).Ok := by
  refine ⟨I.ok.mod, by exact k.kind, I.ok.glob, I.ok.blt, Nat.le_refl _, fun x y c h1 h2 => I.ok.inj x y c (sub x c h1) (sub y c h2), fun x hx => ?_, fun x c hx => ?_, I.ok.hd, I.ok.frames, .inl rfl, fun b hb => ⟨?_, fun x c e => ?_⟩, I.bs,
   Nat.le_trans I.ok.bsz I.sz, fun b o e hb => ?_, fun b hb z => ?_, I.stack, I.stkFree⟩
  ·have hx' : (relabel scope X.env).names.lookup x = some .cell ∨ (relabel scope X.env).names.lookup x = some .free := hx
   have : (x, NameKind.free) ∈ scope.names := by
    rcases hx' with z | z
    ·exact relabel_look (.inl rfl) k.nocell z
    ·exact relabel_look (.inr rfl) k.nocell z
   exact clFrom_has _ _ x this
  ·exact absurd (show false = true from hx) Bool.false_ne_true
  ·obtain ⟨o, e⟩ := hex b hb
   exact Nat.ne_of_lt (Heap.lt_size e)
  ·exact (hfp b hb).2.2.2.2.1 x c (sub x c e)
  ·rcases (hfp b hb).2.2.2.1 with z | z
   ·exact I.ok.noex b o e z
   ·exact absurd (Nat.lt_of_lt_of_le (Heap.lt_size e) (Nat.le_trans I.ok.bsz z)) (Nat.lt_irrefl _)
  ·rcases List.mem_cons.mp (stkS b z) with e | e
   ·exact (hfp b hb).2.1 e
   ·exact (hfp b hb).2.2.1 e
 refine ⟨ok, rfl, I.bare, Un.kept keep, ⟨m, hns, fun j x v e1 e2 e3 => ?_⟩, fun x c e => ?_, I.hok.fresh (Nat.le_refl _), fun x c e => I.freeC x c (sub x c e), fun p hp => ?_, I.hok.kept keep, ?_⟩
 ·-- a name that the block takes from the frame
  have e1 : N'[j]? = some x := e1
  have e2 : (bl.map fun o => match o with
   | none => none
   | some i => (σ[i]?).join)[j]? = some (some v) := e2
  rw [List.getElem?_map] at e2
  cases hb : bl[j]? with
  | none => rw [hb] at e2; cases e2
  | some o =>
   rw [hb] at e2
   cases o with
   | none => cases e2
   | some i =>
    obtain ⟨hN, hf, hs⟩ := k.src j i x hb e1
    have e4 : (σ[i]?).join = some v := Option.some.inj e2
    have e5 : σ[i]? = some (some v) := by
     cases q : σ[i]? with
     | none => rw [q] at e4; cases e4
     | some z => rw [q] at e4; cases z with
      | none => cases e4
      | some y => cases e4; rfl
    obtain ⟨m', hn', hl'⟩ := I.loc
    obtain ⟨u, r, l⟩ := hl' i x v hN e5 (by rcases hs with z | z; exact .inr (.inl z); exact .inr (.inr z))
    refine ⟨u, r, ?_⟩
    rcases l with ⟨l, _⟩ | ⟨l, c, hc, hcell⟩
    ·exfalso
     have l' : X.env.scope.names.lookup x = some .local := l
     rcases hs with z | z
     ·rw [l'] at z; cases z
     ·rw [l'] at z; cases z
    ·obtain ⟨c', hc'⟩ := clFrom_has (env := X.env) scope.names [] x (PySem.mem_of_lookup hf)
     have : c' = c := by
      have := sub x c' hc'
      rw [hc] at this
      exact (Option.some.inj this).symm
     subst this
     obtain ⟨oc, ho, hd⟩ := hcell
     refine .inr ⟨?_, c', hc', oc, keep _ _ ho, hd⟩
     rcases e3 with z | z | z
     ·exfalso
      have z' : (relabel scope X.env).names.lookup x = some .local := z
      exact absurd z' (relabel_free_not_local hf)
     ·exact .inl z
     ·exact .inr z
 ·obtain ⟨v, o, ho, hd⟩ := I.cell x c (sub x c e)
  exact ⟨v, o, keep _ _ ho, hd⟩
 ·have hp' : p ∈ X.pn ++ pins := by
   have : p ∈ (X.pn ++ pins) ++ [] := hp
   simpa using this
  obtain ⟨e, n, ne, nf, d⟩ := I.pin p hp'
  refine ⟨keep _ _ e, n, Nat.ne_of_lt (Heap.lt_size e), fun z => ?_, d⟩
  rcases List.mem_cons.mp (stkS p.1 z) with q | q
  ·exact ne q
  ·exact nf q
 ·show (bl.map _).length = N'.length
  rw [List.length_map]
  exact k.len
theorem Inv.unblock {σ' : St} {H' : Hp} {s' : Shared} {C : Addr} {pins' : List (Addr × Obj)} (I : Inv X pins σ H s) (hfp : ∀ b ∈ fp, FpOk X pins H b) (J : Inv (blkCx X scope N' C s H fp pins) pins' σ' H' s') : Inv X pins σ H' s' :=
 I.call' (ch := fp) J.os J.base J.hok J.bare fun b hb => ⟨(hfp b hb).2.2.2.1, (hfp b hb).2.1, (hfp b hb).2.2.2.2.1, (hfp b hb).2.2.2.2.2⟩
end
section
variable {prog : Program} {w : World} {A : Around} {R : Result → Shared → Prop} {s : Shared}
theorem compLoop_gen {elt target iter : Expr} {ifs : List Expr} {scope : Scope} {pos : Pos} {it acc : Value} {env : Env} (I : Nat → Shared → Prop)
  (turn : ∀ n s, I n s → wpAny (model prog w) A (pyNext it) (fun r s₁ => match r with
   | none => R (.ok .next) s₁
   | some v => wpAny (model prog w) A (letOwnedTupleGo target it v) (fun _ s₁' => wpAny (model prog w) A (assign target env v) (fun _ s₂ =>
     wpAny (model prog w) A (forIn ifs true fun c r => if r = true then do let ok ← isTrue c env (eval c env); pure (ForInStep.yield ok) else pure (ForInStep.yield r)) (fun ok s₃ =>
      if ok = true then wpAny (model prog w) A (eval elt env) (fun x s₄ =>
       wpAny (model prog w) A (call (.builtin "list.append") [acc, x]) (fun _ s₅ => ∃ m, m < n ∧ I m s₅) (notedBy (model prog w) A env fun e s' => R (.error e) s') s₄) (notedBy (model prog w) A env fun e s' => R (.error e) s') s₃
      else ∃ m, m < n ∧ I m s₃) (notedBy (model prog w) A env fun e s' => R (.error e) s') s₂) (notedBy (model prog w) A env fun e s' => R (.error e) s') s₁') (notedBy (model prog w) A env fun e s' => R (.error e) s') s₁) (notedBy (model prog w) A env fun e s' => R (.error e) s') s)
  (n : Nat) (h : I n s) : codeAny (model prog w) A (.compLoop (.ListComp elt [⟨target, iter, ifs, 0⟩] scope pos) 0 it acc env) R s := by
 refine codeAny_loop rfl I (fun n s hI => ?_) n h
 show wpAny _ A ((compTurn (.ListComp elt [⟨target, iter, ifs, 0⟩] scope pos) 0 it acc env).onRaise (fun x => do noteFrame x env; theTreesLotGoes x)) _ _ s
 refine wpAny_noted ?_
 rw [compTurn_list]
 refine wpAny_bind (wpAny_standAt (wpAny_bind (wpAny_mono (turn n s hI) (fun r s₁ h₁ => ?_) fun _ _ h' => h')))
 cases r with
 | none => exact wpAny_pure h₁
 | some v =>
  refine wpAny_bind (wpAny_mono h₁ (fun _ s₁' h₁' => ?_) fun _ _ h' => h')
  refine wpAny_bind (wpAny_mono h₁' (fun _ s₂ h₂ => wpAny_bind (wpAny_mono h₂ (fun ok s₃ h₃ => ?_) fun _ _ h' => h')) fun _ _ h' => h')
  cases ok with
  | false => exact wpAny_pure ⟨rfl, h₃⟩
  | true =>
   exact wpAny_bind (wpAny_bind (wpAny_mono h₃ (fun x s₄ h₄ => wpAny_bind (wpAny_mono h₄ (fun _ s₅ h₅ => wpAny_pure (wpAny_pure ⟨rfl, h₅⟩)) fun _ _ h' => h')) fun _ _ h' => h'))
end
noncomputable def PIfs (X : Cx) (ifs : List Expr) (t : TT) : Prop :=
 ∀ (pins : List (Addr × Obj)) (s : Shared) (σ : St) (H : Hp) (Q : Bool → Hp → Prop), Inv X pins σ H s → t σ H Q →
  wpAny (model X.prog X.w) X.A (forIn ifs true fun c r => if r = true then do let ok ← isTrue c X.env (eval c X.env); pure (ForInStep.yield ok) else pure (ForInStep.yield r)) (TP X pins σ Q) X.xe s
noncomputable def tTrue : TT := fun _ H Q => Q true H
theorem pif_nil {X : Cx} : PIfs X [] tTrue := fun _ _ _ H _ I h => wpAny_tests_nil ⟨H, I, h⟩
theorem pif_one {X : Cx} {c : Expr} {t : TT} (h : PT X c t) : PIfs X [c] t := fun pins s σ H Q I q => wpAny_tests_one (h pins s σ H Q I q)
noncomputable def KeepG (g : TG) (σ0 : St) : Prop := ∀ (x : V) (H : Hp) (R : St → Hp → Prop), g x σ0 H R → g x σ0 H fun σ2 H2 => R σ2 H2 ∧ (∀ (j : Nat) v, σ0[j]? = some (some v) → σ2[j]? = some (some v)) ∧ σ2.length = σ0.length
noncomputable def CompB (bl : List (Option Nat)) (g : TG) (tc : TT) (te : TE) (σ : St) (Q : VK) (J : It) (H1 : Hp) : Prop := ∀ D, H1 D = none → ∃ W : Nat → Nat → Hp → Prop, (∃ m, W 0 m (upd H1 D (.lst []))) ∧ ∀ i m H2, W i m H2 →
 (J.stop i H2 ∧ Q (.ref D) H2) ∨ (J.go i H2 ∧ ∀ x H3, J.yld i H2 x H3 → KeepG g (blkSt bl σ) ∧ g x (blkSt bl σ) H3 fun σ2 H4 => tc σ2 H4 fun b H5 =>
  if b = true then te σ2 H5 fun v H6 => ∃ xs, H6 D = some (.lst xs) ∧ xs.length < sizeLine ∧ ∃ m', m' < m ∧ W (i + 1) m' (upd H6 D (.lst (xs ++ [v]))) else ∃ m', m' < m ∧ W (i + 1) m' H5)
noncomputable def tComp (bl : List (Option Nat)) (wi : TI) (g : TG) (tc : TT) (te : TE) : TE := fun σ H Q => wi σ H fun J H1 => CompB bl g tc te σ Q J H1
section
variable {X : Cx} {pins : List (Addr × Obj)} {σ : St} {H : Hp} {s : Shared} {scope : Scope} {N' : List Str} {bl : List (Option Nat)} {elt tg iter : Expr} {ifs : List Expr} {pos pos' : Pos} {wi : TI} {g : TG} {tc : TT} {te : TE}
theorem comp_core {use : Option (Value → Sem Unit)} {Qr : VK} {Qv : Value → Shared → Prop} (hc : X.calm = true) (k : CompOk X.env.scope scope X.N N' bl) (hi : PI X tg iter wi)
  (hg : ∀ C s H fp pins, PG (blkCx X scope N' C s H fp pins) tg g) (hf : ∀ C s H fp pins, PIfs (blkCx X scope N' C s H fp pins) ifs tc) (he : ∀ C s H fp pins, PE (blkCx X scope N' C s H fp pins) elt te)
  (hs : ∀ x, foldedSetIterable iter X.env x = pure x) (I : Inv X pins σ H s) (h : tComp bl wi g tc te σ H Qr)
  (fin : ∀ (D C : Addr) (H6 : Hp) (s6 : Shared) (m : Str → Option Value), Inv X pins σ H6 s6 → s6.heap.Ns C m → FpOk X pins H6 C → Qr (.ref D) H6 → compPost (model X.prog X.w) X.A X.xe use Qv (.ref D) C (.ok .next) s6) :
  wpAny (model X.prog X.w) X.A (comprehension (.ListComp elt [⟨tg, iter, ifs, 0⟩] scope pos) scope X.env pos' (newList []) false (eval iter X.env) use) Qv X.xe s := by
 refine wpAny_comprehension_free rfl hs (closureFor_cl (I.cellsOf k)) k.kind k.names (thn (hi pins s σ H _ I h) fun v s1 h1 => thn h1 fun itv s2 h2 => ?_)
 obtain ⟨it, fp, tn, J, H2, e, I2, T, st2, f2, rd⟩ := h2
 subst e
 have nocell := k.nocell
 refine wpAny_newObj_type (wpAny_newFunctionEnv nocell (by intro y hy; simp at hy) (fun h₁ hns₁ hsb₁ => ?_) k.kind)
 dsimp only at hns₁ hsb₁ ⊢
 have I3 := I2.lnew (ys := []) (its := []) (t' := s2.toks) .nil (Nat.zero_le _)
 obtain ⟨W, ⟨m0, w0⟩, turn⟩ := rd s2.heap.objs.size I2.fresh
 have hD : H2 s2.heap.objs.size = none := I2.fresh
 have hlt : ∀ b ∈ fp, b < s2.heap.objs.size := fun b hb => by
  obtain ⟨o, e, _⟩ := T.obj _ _ st2 b hb
  exact Heap.lt_size e
 have f3 : ∀ b ∈ fp, FpOk X pins (upd H2 s2.heap.objs.size (.lst [])) b := fun b hb => by
  refine ⟨?_, (f2 b hb).2⟩
  rw [upd_ne (Nat.ne_of_lt (hlt b hb))]
  exact (f2 b hb).1
 generalize hs3 : ({ s2 with heap := s2.heap.push { cls := .type "list", data := .seq ([] : List Value).toArray }, toks := s2.toks } : Shared) = s3 at I3
 have hh3 : s3.heap = s2.heap.push { cls := .type "list", data := .seq ([] : List Value).toArray } := by rw [← hs3]
 have k23 : ∀ b o, s2.heap.get? b = some o → s3.heap.get? b = some o := fun b o e => by rw [hh3]; exact Heap.get?_push_of_some _ e
 have keep : ∀ b o, s3.heap.get? b = some o → h₁.get? b = some o := fun b o e => by
  refine hsb₁.extBut b o ?_ ?_
  ·have := Heap.lt_size e
   rw [hh3] at this
   exact Nat.ne_of_lt this
  ·rw [hh3] at e
   exact Heap.get?_push_of_some _ e
 have hns : ∃ mm, h₁.Ns s3.heap.objs.size mm := ⟨_, by rw [hh3]; exact hns₁⟩
 obtain ⟨mm, hns⟩ := hns
 have hex : ∀ b ∈ fp, ∃ o, s3.heap.get? b = some o := fun b hb => by
  obtain ⟨o, e, _⟩ := T.obj _ _ st2 b hb
  exact ⟨o, k23 b o e⟩
 have st4 : tn 0 h₁ := T.keep _ _ _ st2 fun b hb o e => keep b o (k23 b o e)
 have loop : ∀ s4 : Shared, (∃ tk, s4 = { s3 with heap := h₁, toks := tk }) →
   codeAny (model X.prog X.w) X.A (.compLoop (.ListComp elt [⟨tg, iter, ifs, 0⟩] scope pos) 0 (.ref it) (.ref s2.heap.objs.size) (compEnvC scope (clOf scope X.env) s3.heap.objs.size X.env))
    (compPost (model X.prog X.w) X.A X.xe use Qv (.ref s2.heap.objs.size) s3.heap.objs.size) s4 := by
  rintro s4 ⟨tk, rfl⟩
  have I4 := I3.block (tk := tk) k f3 hex hns keep
  refine compLoop_gen (fun n s' => ∃ i σ' H', Inv (blkCx X scope N' s3.heap.objs.size s3 (upd H2 s2.heap.objs.size (.lst [])) fp pins) [] σ' H' s' ∧ (∀ (j : Nat) v, (blkSt bl σ)[j]? = some (some v) → σ'[j]? = some (some v)) ∧ tn i s'.heap ∧ (∀ b ∈ fp, H' b = none) ∧ W i n H')
   ?_ m0 ⟨0, blkSt bl σ, _, I4, fun _ _ e => e, st4, fun b hb => (f3 b hb).1, w0⟩
  rintro n s5 ⟨i, σ5, H5, I5, wk5, st5, fr5, w5⟩
  have ln : ∀ {σ' : St} {H' : Hp} {s' : Shared} {pins' : List (Addr × Obj)}, Inv (blkCx X scope N' s3.heap.objs.size s3 (upd H2 s2.heap.objs.size (.lst [])) fp pins) pins' σ' H' s' → (blkSt bl σ).length = σ'.length := fun {σ' H' s' pins'} J => by
   rw [J.len]
   show (bl.map _).length = N'.length
   rw [List.length_map]
   exact k.len
  have I5w := I5.weak (σ' := blkSt bl σ) (ln I5) wk5
  have stat : ∀ {H' : Hp}, (∀ b ∈ fp, H' b = none) → ∀ b ∈ fp, FpOk (blkCx X scope N' s3.heap.objs.size s3 (upd H2 s2.heap.objs.size (.lst [])) fp pins) [] H' b := fun {H'} hn b hb => by
   have F := I4.ok
   refine ⟨hn b hb, (F.exf b hb).1, F.exfs b hb, .inl hb, (fun x c e => (F.exf b hb).2 x c e), fun p hp => ?_⟩
   have hp' : p ∈ (X.pn ++ pins) ++ [] := hp
   rw [List.append_nil] at hp'
   exact (f2 b hb).2.2.2.2.2 p hp'
  rcases turn i n H5 w5 with ⟨stop, q⟩ | ⟨go, step⟩
  ·refine thn (T.done (blkCx X scope N' s3.heap.objs.size s3 (upd H2 s2.heap.objs.size (.lst [])) fp pins) rfl rfl rfl hc i [] s5 _ H5 _ I5w (stat fr5) st5 stop) fun r s6 ⟨hr, I6⟩ => ?_
   subst hr
   obtain ⟨m6, n6, _⟩ := I6.loc
   exact fin _ s3.heap.objs.size H5 s6 m6 (Inv.unblock I3 f3 I6) n6 (I3.fpOk (Nat.le_refl _) I6.free) q
  ·refine thn (T.item (blkCx X scope N' s3.heap.objs.size s3 (upd H2 s2.heap.objs.size (.lst [])) fp pins) rfl rfl rfl hc i [] s5 _ H5 _ I5w (stat fr5) st5 go) fun r s6 ⟨u, hr, h6⟩ => ?_
   subst hr
   refine thn h6 fun _ s7 ⟨x, H7, I7, r7, y7, st7, fr7⟩ => ?_
   have I7' := I7.pinned (stat fr7) (T.obj _ _ st7)
   obtain ⟨kg, sx⟩ := step x H7 y7
   have again : ∀ {σ' : St} {H' : Hp} {s' : Shared} {m' : Nat}, Inv (blkCx X scope N' s3.heap.objs.size s3 (upd H2 s2.heap.objs.size (.lst [])) fp pins) ([] ++ pinsAt fp s7.heap) σ' H' s' → (∀ (j : Nat) v, (blkSt bl σ)[j]? = some (some v) → σ'[j]? = some (some v)) → m' < n → W (i + 1) m' H' →
     ∃ m, m < n ∧ ∃ i σ' H', Inv (blkCx X scope N' s3.heap.objs.size s3 (upd H2 s2.heap.objs.size (.lst [])) fp pins) [] σ' H' s' ∧ (∀ (j : Nat) v, (blkSt bl σ)[j]? = some (some v) → σ'[j]? = some (some v)) ∧ tn i s'.heap ∧ (∀ b ∈ fp, H' b = none) ∧ W i m H' := fun {σ' H' s' m'} J wk hm w => by
    refine ⟨m', hm, i + 1, σ', H', J.unpinned, wk, T.keep _ _ _ st7 fun b hb o e => (J.pin (b, o) (List.mem_append_right _ (List.mem_append_right _ (mem_pinsAt hb e)))).1, fun b hb => ?_, w⟩
    obtain ⟨o, e, d⟩ := T.obj _ _ st7 b hb
    exact (J.pin (b, o) (List.mem_append_right _ (List.mem_append_right _ (mem_pinsAt hb e)))).2.1
   refine wpAny_mono (hg _ _ _ _ _ _ s7 _ H7 x u _ I7' r7 (kg x H7 _ sx)) (fun _ s8 ⟨σ8, H8, I8, q8, wk8, ln8⟩ => ?_) fun _ _ f => f.elim
   refine wpAny_mono (hf _ _ _ _ _ _ s8 σ8 H8 _ I8 q8) (fun b s9 ⟨H9, I9, q9⟩ => ?_) fun _ _ f => f.elim
   cases b with
   | true =>
    rw [if_pos rfl] at q9
    rw [if_pos rfl]
    refine wpAny_mono (he _ _ _ _ _ _ s9 σ8 H9 _ I9 q9) (fun y s10 ⟨v, H10, I10, r10, xs, hx, hz, m', hm, w10⟩ => ?_) fun _ _ f => f.elim
    refine wpAny_mono (mt_append (X := blkCx X scope N' s3.heap.objs.size s3 (upd H2 s2.heap.objs.size (.lst [])) fp pins) _ s10 σ8 H10 (.ref s2.heap.objs.size) [v] (.ref s2.heap.objs.size) [y] (fun _ H11 => H11 = upd H10 s2.heap.objs.size (.lst (xs ++ [v]))) I10 rfl (.cons r10 .nil)
     ⟨s2.heap.objs.size, xs, v, rfl, rfl, hx, hz, rfl⟩) (fun _ s11 ⟨_, H11, I11, _, e11⟩ => ?_) fun _ _ f => f.elim
    subst e11
    exact again I11 wk8 hm w10
   | false =>
    rw [if_neg Bool.false_ne_true] at q9
    rw [if_neg Bool.false_ne_true]
    obtain ⟨m', hm, w9⟩ := q9
    exact again I9 wk8 hm w9
 have hC : (s2.heap.push { cls := .type "list", data := .seq ([] : List Value).toArray }).objs.size = s3.heap.objs.size := by rw [hh3]
 have L := loop { s3 with heap := h₁, toks := s2.toks + ([] : List (Str × Value)).length } ⟨_, rfl⟩
 subst hs3
 exact codeAny_compStart_list L (T.self _ 0 _ _ _ st4 L)
theorem pe_comp (bl : List (Option Nat)) (N' : List Str) (hc : X.calm = true) (k : compOk X.env.scope scope X.N N' bl = true) (hi : PI X tg iter wi) (hg : ∀ C s H fp pins, PG (blkCx X scope N' C s H fp pins) tg g)
  (hf : ∀ C s H fp pins, PIfs (blkCx X scope N' C s H fp pins) ifs tc) (he : ∀ C s H fp pins, PE (blkCx X scope N' C s H fp pins) elt te)
  (hs : ∀ x, foldedSetIterable iter X.env x = pure x := by intro _; rfl) : PE X (.ListComp elt [⟨tg, iter, ifs, 0⟩] scope pos) (tComp bl wi g tc te) := by
 intro pins s σ H Q I h
 rw [eval_ListComp]
 refine comp_core (use := none) hc (CompOk.of k) hi hg hf he hs I h fun D C H6 s6 m I6 n6 f6 q6 => ?_
 exact ⟨m, n6, fun h' hs' => ⟨.ref D, H6, I6.turned (t' := s6.toks) (fun b o hb e => (hs'.2 b hb).trans e) f6.1 f6.2.1 f6.2.2.2.1 f6.2.2.2.2.1 f6.2.2.2.2.2, rfl, q6⟩⟩
theorem ps_setC {i : Nat} {y : Str} {py spos : Pos} (bl : List (Option Nat)) (N' : List Str) (hN : X.N.Nodup) (hi' : X.N[i]? = some y) (hy : X.env.kindOf y = some .local) (hc : X.calm = true) (k : compOk X.env.scope scope X.N N' bl = true) (hi : PI X tg iter wi)
  (hg : ∀ C s H fp pins, PG (blkCx X scope N' C s H fp pins) tg g) (hf : ∀ C s H fp pins, PIfs (blkCx X scope N' C s H fp pins) ifs tc) (he : ∀ C s H fp pins, PE (blkCx X scope N' C s H fp pins) elt te)
  (hsw : swapsWith (.ListComp elt [⟨tg, iter, ifs, 0⟩] scope pos) (some (.Name y py)) spos.line X.env = pure true := by rfl) (hs : ∀ x, foldedSetIterable iter X.env x = pure x := by intro _; rfl) :
  PS X (.Assign [.Name y py] (.ListComp elt [⟨tg, iter, ifs, 0⟩] scope pos) spos) (tAsg (tComp bl wi g tc te) (gName i)) := by
 intro pins s σ H D I h
 rw [exec_Assign_Name_used _ _ _ _ hsw]
 refine wpAny_bind (wpAny_standAt (wpAny_bind ?_))
 show wpAny _ X.A (do let _ ← comprehension (.ListComp elt [⟨tg, iter, ifs, 0⟩] scope pos) scope X.env _ (newList []) false (eval iter X.env) (some (assign (.Name y py) X.env))) _ _ s
 refine wpAny_bind (wpAny_mono (comp_core (use := some (assign (.Name y py) X.env)) (Qv := fun _ s' => SP X pins D .next s') hc (CompOk.of k) hi hg hf he hs I h fun Da C H6 s6 m I6 n6 f6 q6 => ?_) (fun _ s' hq => wpAny_pure (wpAny_pure hq)) fun _ _ e => e)
 show wpAny _ X.A (assign (.Name y py) X.env (.ref Da)) _ _ s6
 refine wpAny_assign_Name (store_ok2 I6 hN hi' (.inl hy) (v := .ref Da) rfl (fun s7 I7 ⟨a, sb, ha⟩ => ?_) (.inr hy))
 have hCa : C ≠ a := by
  rcases ha with z | z
  ·rw [z]; exact f6.2.1
  ·intro e; exact f6.2.2.2.2.1 y a z e.symm
 exact ⟨m, n6.sameBut sb hCa, fun h' hs' => ⟨_, H6, I7.turned (t' := s7.toks) (fun b o hb e => (hs'.2 b hb).trans e) f6.1 f6.2.1 f6.2.2.2.1 f6.2.2.2.2.1 f6.2.2.2.2.2, q6⟩⟩
end
theorem keepName {j : Nat} {σ0 : St} (h : σ0[j]? = some none) : KeepG (gName j) σ0 := fun x H R r => by
 refine ⟨r, fun i v e => ?_, by simp⟩
 have hne : j ≠ i := by
  intro z; subst z; rw [h] at e; cases e
 rw [List.getElem?_set_ne hne]
 exact e
theorem keepTup2 {K : FrK} {i j : Nat} {σ0 : St} (hi : σ0[i]? = some none) (hj : σ0[j]? = some none) : KeepG (gTup K 2 (gCons (gName i) (gCons (gName j) gNil))) σ0 := fun x H R r => by
 obtain ⟨a, xs, e1, hq, hl, v, r1, e2, w, r2, e3, e4, q⟩ := r
 refine ⟨a, xs, e1, hq, hl, v, r1, e2, w, r2, e3, e4, q, fun k z e => ?_, by simp⟩
 have h1 : i ≠ k := by intro z; subst z; rw [hi] at e; cases e
 have h2 : j ≠ k := by intro z; subst z; rw [hj] at e; cases e
 rw [List.getElem?_set_ne h2, List.getElem?_set_ne h1]
 exact e
structure JP (J : It) (H : Hp) (n : Nat) (P : Nat → V → Hp → Prop) : Prop where
 go : ∀ i H', i < n → Same H H' → J.go i H'
 yld : ∀ i H' x H'', i < n → Same H H' → J.yld i H' x H'' → Same H' H'' ∧ P i x H''
 stop : ∀ H', Same H H' → J.stop n H'
theorem jp_list {K : FrK} {H : Hp} {a : Addr} {xs : List V} (h : SqL K H a xs) : JP (Itl K a) H xs.length (fun i x _ => xs[i]? = some x) where
 go := fun i H' hi s => ⟨xs, xs[i], s.seq h, by simp [hi]⟩
 yld := fun i H' x H'' hi s y => ⟨by rw [y.1]; exact Same.refl _, y.2 xs (s.seq h)⟩
 stop := fun H' s => ⟨xs, s.seq h, Nat.le_refl _⟩
theorem jp_range {lo : Int} {n : Nat} {H : Hp} : JP (Itr lo n) H n (fun i x _ => x = .int (lo + i)) where
 go := fun i H' hi s => hi
 yld := fun i H' x H'' hi s y => ⟨by rw [y.1]; exact Same.refl _, y.2⟩
 stop := fun H' s => Nat.le_refl _
theorem Same.put {H H' : Hp} {D : Addr} {o : HO} (s : Same H H') (h : H D = none) : Same H (upd H' D o) := fun b u e => by
 rw [upd_ne (ne_of_none e h)]
 exact s b u e
theorem Same.new {H : Hp} {D : Addr} {o : HO} (h : H D = none) : Same H (upd H D o) := (Same.refl H).put h
theorem range_filter_succ {f : Nat → V} {p : Nat → Bool} (i : Nat) : ((List.range (i + 1)).filter p).map f = ((List.range i).filter p).map f ++ (if p i = true then [f i] else []) := by
 rw [List.range_succ, List.filter_append, List.map_append]
 cases h : p i <;> simp [h]
theorem range_filter_len {f : Nat → V} {p : Nat → Bool} (i : Nat) : (((List.range i).filter p).map f).length ≤ i := by
 rw [List.length_map]
 exact Nat.le_trans (List.length_filter_le _ _) (by simp)
theorem comp_by {J : It} {H1 : Hp} {n : Nat} {P : Nat → V → Hp → Prop} {bl : List (Option Nat)} {σ : St} {g : TG} {tc : TT} {te : TE} {Q : VK} (f : Nat → V) (p : Nat → Bool) (jp : JP J H1 n P) (hn : n < sizeLine) (kg : KeepG g (blkSt bl σ))
  (step : ∀ i x H' (R : VK) (Z : Hp → Prop), i < n → Same H1 H' → P i x H' → (p i = true → ∀ H6, Same H' H6 → R (f i) H6) → (p i = false → ∀ H6, Same H' H6 → Z H6) →
   g x (blkSt bl σ) H' fun σ2 H4 => tc σ2 H4 fun b H5 => if b = true then te σ2 H5 R else Z H5)
  (fin : ∀ D H', H1 D = none → Same H1 H' → H' D = some (.lst (((List.range n).filter p).map f)) → Q (.ref D) H') :
  CompB bl g tc te σ Q J H1 := by
 intro D hD
 refine ⟨fun i m H2 => m = n - i ∧ i ≤ n ∧ Same H1 H2 ∧ H2 D = some (.lst (((List.range i).filter p).map f)), ⟨n, rfl, Nat.zero_le _, Same.new hD, upd_same⟩, ?_⟩
 rintro i m H2 ⟨rfl, hi, sm, hx⟩
 by_cases hlt : i < n
 ·refine .inr ⟨jp.go i H2 hlt sm, fun x H3 y => ⟨kg, ?_⟩⟩
  obtain ⟨s3, p3⟩ := jp.yld i H2 x H3 hlt sm y
  have hx3 := s3 D _ hx
  refine step i x H3 _ _ hlt (sm.trans s3) p3 (fun hp H6 s6 => ?_) (fun hp H6 s6 => ?_)
  ·refine ⟨_, s6 D _ hx3, Nat.lt_of_le_of_lt (range_filter_len i) (by omega), n - (i + 1), by omega, rfl, hlt, ((sm.trans s3).trans s6).put hD, ?_⟩
   rw [upd_same, range_filter_succ, hp, if_pos rfl]
  ·refine ⟨n - (i + 1), by omega, rfl, hlt, (sm.trans s3).trans s6, ?_⟩
   rw [s6 D _ hx3, range_filter_succ, hp, if_neg Bool.false_ne_true, List.append_nil]
 ·have e : i = n := by omega
  subst e
  exact .inl ⟨jp.stop H2 sm, fin D H2 hD sm hx⟩
end L2
namespace L2
open PySem PySem.Spec PyProof.Rows
section
variable {X : Cx}
theorem call_isi : CallR X (.builtin "isinstance") (fun xs H Q => ∃ x n t b, xs = [x, .ty n] ∧ TyOf X.K H x t ∧ PySem.W.kitOne X.K t (.type n) = some b ∧ Q (.bl b) H) := by
 intro pins s σ H xs us Q I r h
 obtain ⟨x, n, t, b, rfl, ty, e, q⟩ := h
 obtain ⟨u, v, rfl, rx, ry⟩ := vals2 r
 cases ry
 exact isinst_ok I rx ty e fun tk => ⟨.bl b, H, I.tok _, rfl, q⟩
inductive EqV (K : FrK) (H : Hp) : Nat → V → V → Bool → Prop where
 | flat {n : Nat} {x y : V} (fx : flatV x = true) (fy : flatV y = true) : EqV K H n x y (eqV x y)
 | same {n : Nat} (a : Addr) : EqV K H n (.ref a) (.ref a) true
 | lists {n : Nat} {a b : Addr} {xs ys : List V} {e : Nat → Bool} (ha : SqL K H a xs) (hb : SqL K H b ys) (hne : a ≠ b) (hl : xs.length = ys.length) (he : ∀ (j : Nat) x y, xs[j]? = some x → ys[j]? = some y → EqV K H n x y (e j)) :
   EqV K H (n + 1) (.ref a) (.ref b) ((List.range xs.length).all e)
 | lengths {n : Nat} {a b : Addr} {xs ys : List V} (ha : SqL K H a xs) (hb : SqL K H b ys) (hne : a ≠ b) (hl : xs.length ≠ ys.length) : EqV K H (n + 1) (.ref a) (.ref b) false
theorem EqV.at {pins : List (Addr × Obj)} {σ : St} {H : Hp} {s : Shared} (I : Inv X pins σ H s) {n : Nat} {x y : V} {b : Bool} (h : EqV X.K H n x y b) : ∀ {A : Around} {u v : Value}, A.units + n < cLine → RelV x u → RelV y v → SeqAt.EqAt A s u v b := by
 induction h with
 | flat fx fy => intro A u v _ rx ry; exact eqAt_V rx ry fx fy
 | same a => intro A u v _ rx ry; cases rx; cases ry; exact SeqAt.EqAt.same _
 | @lists n a b xs ys e ha hb hne hl he ih =>
  intro A u v hu rx ry
  cases rx; cases ry
  obtain ⟨i1, r1, p1, _⟩ := I.list ha
  obtain ⟨i2, r2, p2, _⟩ := I.list hb
  have l1 := r1.length
  have l2 := r2.length
  have q : (List.range xs.length).all e = (List.range i1.toArray.size).all e := by rw [List.size_toArray, l1]
  rw [q]
  refine SeqAt.EqAt.of_refs hne (SeqAt.RcAt.lists p1.isList p2.isList (by rw [List.size_toArray, List.size_toArray, ← l1, ← l2, hl]) (by omega) fun j h1 h2 => ?_)
  have hj1 : j < xs.length := by rw [l1]; simpa using h1
  have hj2 : j < ys.length := by rw [l2]; simpa using h2
  obtain ⟨u1, e1, q1⟩ := r1.get (List.getElem?_eq_getElem hj1)
  obtain ⟨u2, e2, q2⟩ := r2.get (List.getElem?_eq_getElem hj2)
  have g1 : i1.toArray[j] = u1 := by
   have : i1[j]? = some (i1.toArray[j]) := by simp
   rw [this] at e1; exact Option.some.inj e1
  have g2 : i2.toArray[j] = u2 := by
   have : i2[j]? = some (i2.toArray[j]) := by simp
   rw [this] at e2; exact Option.some.inj e2
  rw [g1, g2]
  exact ih j _ _ (List.getElem?_eq_getElem hj1) (List.getElem?_eq_getElem hj2) (by show A.units + 1 + n < cLine; omega) q1 q2
 | @lengths n a b xs ys ha hb hne hl =>
  intro A u v hu rx ry
  cases rx; cases ry
  obtain ⟨i1, r1, p1, _⟩ := I.list ha
  obtain ⟨i2, r2, p2, _⟩ := I.list hb
  have l1 := r1.length
  have l2 := r2.length
  exact SeqAt.EqAt.of_refs hne (SeqAt.RcAt.lists_lengths p1.isList p2.isList (by rw [List.size_toArray, List.size_toArray, ← l1, ← l2]; simpa using hl) (by omega))
noncomputable def rEqL (K : FrK) (neg : Bool) : R2 := fun x y H Q => ∃ a b xs ys, x = .ref a ∧ y = .ref b ∧ SqL K H a xs ∧ SqL K H b ys ∧
 ((xs.length = ys.length ∧ ∃ e : Nat → Bool, (∀ (j : Nat) x y, xs[j]? = some x → ys[j]? = some y → EqV K H 3 x y (e j)) ∧ Q (.bl (if neg then !(List.range xs.length).all e else (List.range xs.length).all e)) H) ∨ (xs.length ≠ ys.length ∧ Q (.bl neg) H))
theorem op_eqL (hu : X.A.units + 8 < cLine) : OpR X (compareOp .Eq) (rEqL X.K false) := by
 intro pins s σ H x y v u Q I rx ry h
 obtain ⟨a, b, xs, ys, rfl, rfl, ha, hb, h⟩ := h
 cases rx; cases ry
 obtain ⟨i1, r1, p1, _⟩ := I.list ha
 obtain ⟨i2, r2, p2, _⟩ := I.list hb
 have l1 := r1.length
 have l2 := r2.length
 rcases h with ⟨hl, e, he, q⟩ | ⟨hl, q⟩
 ·refine SeqAt.eq_listAt (e := e) p1.isList p2.isList (by rw [List.size_toArray, List.size_toArray, ← l1, ← l2, hl]) (by omega) (fun j h1 h2 => ?_) ⟨.bl _, H, I, rfl, ?_⟩
  ·have hj1 : j < xs.length := by rw [l1]; simpa using h1
   have hj2 : j < ys.length := by rw [l2]; simpa using h2
   obtain ⟨u1, e1, q1⟩ := r1.get (List.getElem?_eq_getElem hj1)
   obtain ⟨u2, e2, q2⟩ := r2.get (List.getElem?_eq_getElem hj2)
   have g1 : i1.toArray[j] = u1 := by
    have : i1[j]? = some (i1.toArray[j]) := by simp
    rw [this] at e1; exact Option.some.inj e1
   have g2 : i2.toArray[j] = u2 := by
    have : i2[j]? = some (i2.toArray[j]) := by simp
    rw [this] at e2; exact Option.some.inj e2
   rw [g1, g2]
   exact (he j _ _ (List.getElem?_eq_getElem hj1) (List.getElem?_eq_getElem hj2)).at I (by show X.A.units + 1 + 3 < cLine; omega) q1 q2
  ·rw [List.size_toArray, ← l1]
   exact q
 ·exact SeqAt.eq_list_lengthsAt p1.isList p2.isList (by rw [List.size_toArray, List.size_toArray, ← l1, ← l2]; simpa using hl) (by omega) ⟨.bl _, H, I, rfl, q⟩
theorem op_neL (hu : X.A.units + 8 < cLine) : OpR X (compareOp .NotEq) (rEqL X.K true) := by
 intro pins s σ H x y v u Q I rx ry h
 obtain ⟨a, b, xs, ys, rfl, rfl, ha, hb, h⟩ := h
 cases rx; cases ry
 obtain ⟨i1, r1, p1, _⟩ := I.list ha
 obtain ⟨i2, r2, p2, _⟩ := I.list hb
 have l1 := r1.length
 have l2 := r2.length
 rcases h with ⟨hl, e, he, q⟩ | ⟨hl, q⟩
 ·refine SeqAt.RcNeAt.lists (e := e) p1.isList p2.isList (by rw [List.size_toArray, List.size_toArray, ← l1, ← l2, hl]) (by omega) (fun j h1 h2 => ?_) X.prog X.w X.xe _ ⟨.bl _, H, I, rfl, ?_⟩
  ·have hj1 : j < xs.length := by rw [l1]; simpa using h1
   have hj2 : j < ys.length := by rw [l2]; simpa using h2
   obtain ⟨u1, e1, q1⟩ := r1.get (List.getElem?_eq_getElem hj1)
   obtain ⟨u2, e2, q2⟩ := r2.get (List.getElem?_eq_getElem hj2)
   have g1 : i1.toArray[j] = u1 := by
    have : i1[j]? = some (i1.toArray[j]) := by simp
    rw [this] at e1; exact Option.some.inj e1
   have g2 : i2.toArray[j] = u2 := by
    have : i2[j]? = some (i2.toArray[j]) := by simp
    rw [this] at e2; exact Option.some.inj e2
   rw [g1, g2]
   exact (he j _ _ (List.getElem?_eq_getElem hj1) (List.getElem?_eq_getElem hj2)).at I (by show X.A.units + 1 + 3 < cLine; omega) q1 q2
  ·rw [List.size_toArray, ← l1]
   exact q
 ·exact SeqAt.RcNeAt.lists_lengths p1.isList p2.isList (by rw [List.size_toArray, List.size_toArray, ← l1, ← l2]; simpa using hl) (by omega) X.prog X.w X.xe _ ⟨.bl _, H, I, rfl, q⟩
end
theorem eqInts {K : FrK} {H : Hp} {neg : Bool} {Q : VK} {a b : Addr} {ns ms : List Int} (ha : SqL K H a (ns.map V.int)) (hb : SqL K H b (ms.map V.int)) (q : Q (.bl (if neg then !decide (ns = ms) else decide (ns = ms))) H) :
  rEqL K neg (.ref a) (.ref b) H Q := by
 refine ⟨a, b, _, _, rfl, rfl, ha, hb, ?_⟩
 by_cases hl : ns.length = ms.length
 ·refine .inl ⟨by simp [hl], fun j => ns[j]? == ms[j]?, fun j x y hx hy => ?_, ?_⟩
  ·rw [List.getElem?_map] at hx hy
   cases e1 : ns[j]? with
   | none => rw [e1] at hx; cases hx
   | some n =>
    cases e2 : ms[j]? with
    | none => rw [e2] at hy; cases hy
    | some m =>
     rw [e1] at hx
     rw [e2] at hy
     cases hx; cases hy
     have : (some n == some m) = eqV (.int n) (.int m) := by
      show (n == m) = (n == m)
      rfl
     show EqV K H 3 (V.int n) (V.int m) (ns[j]? == ms[j]?)
     rw [e1, e2, this]
     exact .flat rfl rfl
  ·have : (List.range (ns.map V.int).length).all (fun j => ns[j]? == ms[j]?) = decide (ns = ms) := by
    rw [Bool.eq_iff_iff]
    simp only [List.all_eq_true, List.mem_range, List.length_map, beq_iff_eq, decide_eq_true_eq]
    constructor
    ·intro h
     apply List.ext_getElem?
     intro i
     by_cases hi : i < ns.length
     ·exact h i hi
     ·rw [List.getElem?_eq_none (by omega), List.getElem?_eq_none (by omega)]
    ·intro h i _
     rw [h]
   rw [this]
   exact q
 ·refine .inr ⟨by simpa using hl, ?_⟩
  have : decide (ns = ms) = false := by
   simp only [decide_eq_false_iff_not]
   intro e
   exact hl (by rw [e])
  rw [this] at q
  cases neg
  ·exact q
  ·exact q
end L2
namespace PG
noncomputable def gcdL (ns : List Int) : Nat := ns.foldl (fun g n => Nat.gcd g n.toNat) 0
theorem gcd_fold (ns : List Int) : ∀ g, ns.foldl (fun g n => Nat.gcd g n.toNat) g = Nat.gcd g (gcdL ns) := by
 induction ns with
 | nil => intro g; simp [gcdL]
 | cons n r ih =>
  intro g
  unfold gcdL
  rw [List.foldl_cons, List.foldl_cons, ih, ih (Nat.gcd 0 n.toNat), Nat.gcd_zero_left, Nat.gcd_assoc]
theorem gcdL_cons (n : Int) (ns : List Int) : gcdL (n :: ns) = Nat.gcd n.toNat (gcdL ns) := by
 show (n :: ns).foldl _ 0 = _
 rw [List.foldl_cons, gcd_fold, Nat.gcd_zero_left]
theorem gcd_step {a b : Int} (ha : 0 ≤ a) (hb : 0 < b) : Nat.gcd b.toNat (a % b).toNat = Nat.gcd a.toNat b.toNat := by
 have h : (a % b).toNat = a.toNat % b.toNat := by
  rw [Int.toNat_emod ha (by omega)]
 rw [h, Nat.gcd_comm a.toNat, Nat.gcd_rec b.toNat a.toNat, Nat.gcd_comm]
end PG
namespace PG
open PySem L2 PyProof.Rows
structure G (P : Program) (w : World) (K : FrK) (mg : Str → Option Value) (base : Heap) (CX : CXT) (x : Str) (ps : List Str) (k : Nat) (sp : Sp) : Prop where
 ex : ∃ f fd, mg x = some (.ref f) ∧ PySem.W.keepIn K (.ref f) = true ∧ Binds K fd ps [] ∧ FnOk P w K mg base CX k f fd ps sp
theorem pe_g {X : Cx} {CX : CXT} {x : Str} {ps : List Str} {k : Nat} {sp : Sp} {E : XK} {e : Expr} {es : List Expr} {t : TA} {p pos : Pos} (g : G X.prog X.w X.K X.mg X.base CX x ps k sp) (hr : Room k X.A) (hx : Passes CX X E) (ha : PA X (e :: es) t) (hg : Gl X x := by rfl)
  (hdb : (x == ("__debug__" : Str)) = false := by decide) (he : starEach (e :: es) X.env = (false, eval e X.env) :: starEach es X.env := by rfl) (hpl : (backTo pos (starEach es X.env)).any (·.1) = false := by rfl) :
  PE X (.Call (.Name x p) (e :: es) [] pos) (tCall sp [] E t) := by
 obtain ⟨f, fd, hm, hk, hb, F⟩ := g.ex
 exact pe_call F hr hg hm hk hb .nil hx ha hdb he hpl
theorem ifF {c : Bool} {A B : Prop} (hc : c = false) (h : B) : if c = true then A else B := by
 rw [hc, if_neg Bool.false_ne_true]
 exact h
theorem ifT {c : Bool} {A B : Prop} (hc : c = true) (h : A) : if c = true then A else B := by
 rw [hc, if_pos rfl]
 exact h
theorem ifB {c : Bool} {A B : Prop} (h1 : c = true → A) (h2 : c = false → B) : if c = true then A else B := by
 cases c with
 | true => exact ifT rfl (h1 rfl)
 | false => exact ifF rfl (h2 rfl)
theorem tT {j : Nat} {x : V} {te : TE} {R : VK} {Z : Hp → Prop} {σ : L2.St} {H : Hp} (h : te (σ.set j (some x)) H R) : gName j x σ H fun σ2 H4 => tTrue σ2 H4 fun b H5 => if b = true then te σ2 H5 R else Z H5 := by
 show if true = true then te (σ.set j (some x)) H R else Z H
 rw [if_pos rfl]
 exact h
theorem rangeT {α : Type} (n : Nat) (f : Nat → α) : ((List.range n).filter fun _ => true).map f = (List.range n).map f := by rw [List.filter_eq_self.mpr (by simp)]
theorem _root_.L2.Room.u8 {k : Nat} {A : Around} (r : Room k A) : A.units + 8 < cLine := by have := r.un; omega
theorem int_at {ns : List Int} {i : Nat} {x : V} (hx : (ns.map V.int)[i]? = some x) : ∃ n, ns[i]? = some n ∧ x = V.int n := by
 rw [List.getElem?_map] at hx
 cases e : ns[i]? with
 | none => rw [e] at hx; cases hx
 | some n => rw [e] at hx; cases hx; exact ⟨n, rfl, rfl⟩
theorem mapAt (F : Int → Int) (cs : List Int) : ((List.range (cs.map V.int).length).filter fun _ => true).map (fun i => V.int (F (cs.getD i 0))) = (cs.map F).map V.int := by
 rw [rangeT, List.length_map]
 apply List.ext_getElem
 ·simp
 ·intro i h1 h2
  have hi : i < cs.length := by simpa using h1
  simp [List.getD_eq_getElem?_getD, hi]
theorem getD_at {cs : List Int} {i : Nat} {c : Int} (h : cs[i]? = some c) : cs.getD i 0 = c := by rw [List.getD_eq_getElem?_getD, h]; rfl
noncomputable def isNumV : V → Bool
 | .int _ => true
 | _ => false
noncomputable def Kn (H : Hp) : V → Prop
 | .non => True
 | .bl _ => True
 | .int _ => True
 | .str _ => True
 | .ref a => (∃ xs, H a = some (.lst xs)) ∨ (∃ xs, H a = some (.tup xs)) ∨ ∃ kvs, H a = some (.dK kvs)
 | _ => False
structure Blt (mg : Str → Option Value) : Prop where
 len : mg "len" = none
 isi : mg "isinstance" = none
 int : mg "int" = none
 bool : mg "bool" = none
 all : mg "all" = none
 any : mg "any" = none
 set : mg "set" = none
 range : mg "range" = none
 list : mg "list" = none
 abs : mg "abs" = none
 min : mg "min" = none
 max : mg "max" = none
 sum : mg "sum" = none
 sorted : mg "sorted" = none
 zip : mg "zip" = none
 enumerate : mg "enumerate" = none
 tuple : mg "tuple" = none
 str : mg "str" = none
 dict : mg "dict" = none
 ValueError : mg "ValueError" = none
 reversed : mg "reversed" = none
end PG
namespace L2
open PySem PySem.Spec PyProof.Rows
section
variable {X : Cx}
theorem handled_in1 {A : Around} (h : A.handled = none) : A.in1.handled = none := by rw [show A.in1.handled = A.handled by simp]; exact h
theorem call_minL (hc : X.calm = true) : CallR X (.builtin "min") (fun xs H Q => ∃ (p : Addr) (ns : List Int), xs = [.ref p] ∧ SqL X.K H p (ns.map V.int) ∧ 0 < ns.length ∧ ∀ m, m ∈ ns → (∀ n ∈ ns, m ≤ n) → Q (.int m) H) := by
 intro pins s σ H xs us Q I r h
 obtain ⟨p, ns, rfl, hq, hne, q⟩ := h
 obtain ⟨u, rfl, rx⟩ := vals1 r
 cases rx
 obtain ⟨its, r', pl, hz⟩ := I.list hq
 have hi := intsAre_of r'
 have hlen : its.length = ns.length := by rw [← r'.length, List.length_map]
 have hl := pl.isList
 have hlt : p < s.heap.objs.size := by
  obtain ⟨o, ho, _⟩ := hl
  exact Heap.lt_size ho
 refine call_min_walk (wpAny_pyIter_list hl ?_)
 refine ⟨s.heap.objs.size, _, _, _, _, _, fun i j => decide (ns.getD i 0 < ns.getD j 0), rfl, Walks.list (prog := X.prog) (w := X.w) (handled_in1 (I.ok.hd hc)) s.heap.objs.size p (Nat.ne_of_lt hlt) its.toArray, ⟨⟨_, Heap.get?_push_size _ rfl, rfl, rfl⟩, hl.push _⟩, ?_, by rw [List.size_toArray]; omega, ?_, fun v h' tk hP hk => ?_⟩
 ·intro b hb
  rw [Heap.size_push]
  rcases List.mem_cons.mp hb with z | z
  ·rw [z]; exact Nat.lt_succ_self _
  ·have : b = p := by simpa using z
   rw [this]; exact Nat.lt_succ_of_lt hlt
 ·intro i j vi vj s' Q' E' h1 h2 hQ'
  obtain ⟨t1, e1⟩ := IntsAre.int_at hi i vi (by simpa using h1)
  obtain ⟨t2, e2⟩ := IntsAre.int_at hi j vj (by simpa using h2)
  subst e1 e2
  exact lt_int hQ'
 ·obtain ⟨a1, a2⟩ := argBest_lt (fun i => ns.getD i 0) (its.toArray.size - 1)
  have hsz : its.toArray.size = ns.length := by rw [List.size_toArray, hlen]
  have hb : argBest (fun i j => decide (ns.getD i 0 < ns.getD j 0)) (its.toArray.size - 1) < ns.length := by omega
  generalize hbb : argBest (fun i j => decide (ns.getD i 0 < ns.getD j 0)) (its.toArray.size - 1) = b at *
  obtain ⟨t, e⟩ := IntsAre.int_at hi b v (by simpa using hP)
  subst e
  refine ⟨.int (ns.getD b 0), H, I.kept (t' := tk) fun c o ec => hk c o (by simp only [List.mem_singleton]; exact Nat.ne_of_lt (Heap.lt_size ec)) (Heap.get?_push_of_some _ ec), ⟨_, rfl⟩, q _ ?_ fun n hn => ?_⟩
  ·rw [List.getD_eq_getElem?_getD, List.getElem?_eq_getElem hb]
   exact List.getElem_mem hb
  ·obtain ⟨i, hi', rfl⟩ := List.mem_iff_getElem.mp hn
   have := a2 i (by omega)
   rw [List.getD_eq_getElem?_getD, List.getD_eq_getElem?_getD, List.getElem?_eq_getElem hi'] at this
   rw [List.getD_eq_getElem?_getD]
   exact this
theorem call_maxL (hc : X.calm = true) : CallR X (.builtin "max") (fun xs H Q => ∃ (p : Addr) (ns : List Int), xs = [.ref p] ∧ SqL X.K H p (ns.map V.int) ∧ 0 < ns.length ∧ ∀ m, m ∈ ns → (∀ n ∈ ns, n ≤ m) → Q (.int m) H) := by
 intro pins s σ H xs us Q I r h
 obtain ⟨p, ns, rfl, hq, hne, q⟩ := h
 obtain ⟨u, rfl, rx⟩ := vals1 r
 cases rx
 obtain ⟨its, r', pl, hz⟩ := I.list hq
 have hi := intsAre_of r'
 have hlen : its.length = ns.length := by rw [← r'.length, List.length_map]
 have hl := pl.isList
 have hlt : p < s.heap.objs.size := by
  obtain ⟨o, ho, _⟩ := hl
  exact Heap.lt_size ho
 refine call_max_walk (wpAny_pyIter_list hl ?_)
 refine ⟨s.heap.objs.size, _, _, _, _, _, fun i j => decide (ns.getD i 0 > ns.getD j 0), rfl, Walks.list (prog := X.prog) (w := X.w) (handled_in1 (I.ok.hd hc)) s.heap.objs.size p (Nat.ne_of_lt hlt) its.toArray, ⟨⟨_, Heap.get?_push_size _ rfl, rfl, rfl⟩, hl.push _⟩, ?_, by rw [List.size_toArray]; omega, ?_, fun v h' tk hP hk => ?_⟩
 ·intro b hb
  rw [Heap.size_push]
  rcases List.mem_cons.mp hb with z | z
  ·rw [z]; exact Nat.lt_succ_self _
  ·have : b = p := by simpa using z
   rw [this]; exact Nat.lt_succ_of_lt hlt
 ·intro i j vi vj s' Q' E' h1 h2 hQ'
  obtain ⟨t1, e1⟩ := IntsAre.int_at hi i vi (by simpa using h1)
  obtain ⟨t2, e2⟩ := IntsAre.int_at hi j vj (by simpa using h2)
  subst e1 e2
  exact gt_int hQ'
 ·obtain ⟨a1, a2⟩ := argBest_gt (fun i => ns.getD i 0) (its.toArray.size - 1)
  have hsz : its.toArray.size = ns.length := by rw [List.size_toArray, hlen]
  have hb : argBest (fun i j => decide (ns.getD i 0 > ns.getD j 0)) (its.toArray.size - 1) < ns.length := by omega
  generalize hbb : argBest (fun i j => decide (ns.getD i 0 > ns.getD j 0)) (its.toArray.size - 1) = b at *
  obtain ⟨t, e⟩ := IntsAre.int_at hi b v (by simpa using hP)
  subst e
  refine ⟨.int (ns.getD b 0), H, I.kept (t' := tk) fun c o ec => hk c o (by simp only [List.mem_singleton]; exact Nat.ne_of_lt (Heap.lt_size ec)) (Heap.get?_push_of_some _ ec), ⟨_, rfl⟩, q _ ?_ fun n hn => ?_⟩
  ·rw [List.getD_eq_getElem?_getD, List.getElem?_eq_getElem hb]
   exact List.getElem_mem hb
  ·obtain ⟨i, hi', rfl⟩ := List.mem_iff_getElem.mp hn
   have := a2 i (by omega)
   rw [List.getD_eq_getElem?_getD, List.getD_eq_getElem?_getD, List.getElem?_eq_getElem hi'] at this
   rw [List.getD_eq_getElem?_getD]
   exact this
theorem call_rangeV : CallR X (.type "range") (fun xs H Q => ∃ i j : Int, xs = [.int i, .int j] ∧ ∀ p, H p = none → Q (.ref p) (upd H p (.rng i j))) := by
 intro pins s σ H xs us Q I r h
 obtain ⟨i, j, rfl, q⟩ := h
 obtain ⟨u, v, rfl, ⟨t1, rfl⟩, ⟨t2, rfl⟩⟩ := vals2 r
 refine call_range_2 ⟨.ref s.heap.objs.size, _, I.laid (o := .rng i j) (fun b o e => Heap.get?_push_of_some _ e) (Nat.le_refl _) ?_, rfl, q _ I.fresh⟩
 exact ⟨_, _, _, Heap.get?_push_size _ rfl⟩
theorem call_list_rng (hc : X.calm = true) : CallR X (.type "list") (fun xs H Q => ∃ (p : Addr) (i j : Int), xs = [.ref p] ∧ H p = some (.rng i j) ∧ -1000000 ≤ i ∧ i ≤ j ∧ j ≤ 1000000 ∧
  ∀ l, H l = none → Q (.ref l) (upd H l (.lst ((List.range (j - i).toNat).map fun (k : Nat) => V.int (i + (k : Int)))))) := by
 intro pins s σ H xs us Q I r h
 obtain ⟨p, i, j, rfl, hp, b1, b2, b3, q⟩ := h
 obtain ⟨u, rfl, rx⟩ := vals1 r
 cases rx
 obtain ⟨t1, t2, t3, ho⟩ := (show ObjOk X.prog X.w H s.heap p (.rng i j) from I.hok p _ hp)
 have hs : Builtin.Range.rangeSize i j 1 = ((j - i).toNat : Nat) := by rw [rangeSize_one]; split <;> omega
 refine call_list_range (I.ok.hd hc) ho (small_one (by omega) (by omega) (by omega) (by omega)) hs (by omega) fun h' tk acc' c' hk hS hI => ?_
 have hz : ((List.range (j - i).toNat).map fun (k : Nat) => V.int (i + (k : Int))).length ≤ sizeLine := by
  rw [List.length_map, List.length_range, sizeLine_eq]; omega
 have hv : Vals ((List.range (j - i).toNat).map fun (k : Nat) => V.int (i + (k : Int))) acc'.toList := by
  obtain ⟨hsz, hit⟩ := hI
  have all : ∀ (n : Nat) (us : List Value), us.length = n → (∀ (k : Nat) v, us[k]? = some v → ∃ t, v = .int (i + k * 1) t) → Vals ((List.range n).map fun (k : Nat) => V.int (i + (k : Int))) us := by
   intro n
   induction n with
   | zero =>
    intro us hl _
    cases us with
    | nil => exact .nil
    | cons _ _ => cases hl
   | succ n ih =>
    intro us hl hu
    have e1 : us = us.take n ++ [us[n]'(by omega)] := by
     have := List.take_append_drop n us
     rw [List.drop_eq_getElem_cons (by omega), List.drop_of_length_le (by omega)] at this
     exact this.symm
    rw [e1, List.range_succ, List.map_append]
    refine Vals.append (ih _ (by simp; omega) fun k v hk => ?_) (.cons ?_ .nil)
    ·rw [List.getElem?_take] at hk
     split at hk
     ·exact hu k v hk
     ·cases hk
    ·obtain ⟨t, e⟩ := hu n _ (List.getElem?_eq_getElem (by omega))
     refine ⟨t, ?_⟩
     rw [e, Int.mul_one]
  exact all _ _ (by simpa using hsz) fun k v hk => hit k v (by simpa using hk)
 refine ⟨.ref s.heap.objs.size, _, I.laid (o := .lst _) (t' := tk) hk (Nat.le_refl _) ⟨hz, acc'.toList, c', hv, ?_⟩, rfl, q _ I.fresh⟩
 simpa using hS
end
end L2
namespace L2
open PySem PySem.Spec PyProof.Rows
section
variable {X : Cx} {a b c e : Expr} {es : List Expr} {ta tb tc te : TE} {pos : Pos}
theorem PE.imp {t t' : TE} (h : PE X e t) (hi : ∀ σ H Q, t' σ H Q → t σ H Q) : PE X e t' := fun pins s σ H Q I q => h pins s σ H Q I (hi σ H Q q)
theorem OpR.imp {f : Value → Value → Sem Value} {r r' : R2} (h : OpR X f r) (hi : ∀ x y H Q, r' x y H Q → r x y H Q) : OpR X f r' := fun pins s σ H x y v u Q I rx ry q => h pins s σ H x y v u Q I rx ry (hi x y H Q q)
theorem CallR.imp {f : Value} {r r' : List V → Hp → VK → Prop} (h : CallR X f r) (hi : ∀ xs H Q, r' xs H Q → r xs H Q) : CallR X f r' := fun pins s σ H xs us Q I rx q => h pins s σ H xs us Q I rx (hi xs H Q q)
theorem IxR.imp {r r' : R2} (h : IxR X r) (hi : ∀ x y H Q, r' x y H Q → r x y H Q) : IxR X r' := fun va sl pins s σ H x y v u Q I rx ry q => h va sl pins s σ H x y v u Q I rx ry (hi x y H Q q)
noncomputable def notStar : Expr → Bool
 | .Starred _ _ => false
 | _ => true
theorem se {e : Expr} {es : List Expr} {env : Env} (h : notStar e = true) : starEach (e :: es) env = (false, eval e env) :: starEach es env := by
 cases e <;> first | (cases h; done) | (rw [starEach]; intro _ _ z; cases z) | rw [starEach]
theorem seAny {env : Env} {pos : Pos} : ∀ {es : List Expr}, es.all notStar = true → (backTo pos (starEach es env)).any (·.1) = false
 | [], _ => by rw [starEach]; rfl
 | e :: es, h => by
  rw [List.all_cons, Bool.and_eq_true] at h
  rw [se h.1]
  have ih := seAny (env := env) (pos := pos) (es := es) h.2
  unfold backTo at ih ⊢
  rw [List.map_cons, List.any_cons, ih]
  rfl
theorem seNone {env : Env} {pos : Pos} : ∀ {es : List Expr}, es.all notStar = true → (backTo pos (starEach es env)).all (fun x => !x.1) = true
 | [], _ => by rw [starEach]; rfl
 | e :: es, h => by
  rw [List.all_cons, Bool.and_eq_true] at h
  rw [se h.1]
  have ih := seNone (env := env) (pos := pos) (es := es) h.2
  unfold backTo at ih ⊢
  rw [List.map_cons, List.all_cons, ih]
  rfl
theorem seHd {e : Expr} {es : List Expr} (h : (e :: es).all notStar = true) : notStar e = true ∧ es.all notStar = true := by
 rw [List.all_cons, Bool.and_eq_true] at h
 exact h
theorem ua_cons {t : TA} (ha : PE X e te) (hr : PA X es t) (hn : notStar e = true := by rfl) : PA X (e :: es) (tCons te t) := pa_cons ha hr (se hn)
theorem ue_callB {x : Str} {id : String} {r : List V → Hp → VK → Prop} {t : TA} {p : Pos} (hc : CallR X (.builtin id) r) (hg : Gl X x) (hm : X.mg x = none) (hv : bootBuiltins x = some (.builtin id)) (ha : PA X (e :: es) t) (hn : x ≠ "__name__" := by decide) (hdb : (x == ("__debug__" : Str)) = false := by decide)
  (hs : (e :: es).all notStar = true := by rfl) : PE X (.Call (.Name x p) (e :: es) [] pos) (tCB r t) := pe_callB hc hg hm hv ha hn hdb (se (seHd hs).1) (seAny (seHd hs).2)
theorem ue_callTy {x : Str} {T : String} {r : List V → Hp → VK → Prop} {t : TA} {p : Pos} (hc : CallR X (.type T) r) (hg : Gl X x) (hm : X.mg x = none) (hv : bootBuiltins x = some (.type T)) (ha : PA X (e :: es) t) (hn : x ≠ "__name__" := by decide) (hdb : (x == ("__debug__" : Str)) = false := by decide)
  (hs : (e :: es).all notStar = true := by rfl) : PE X (.Call (.Name x p) (e :: es) [] pos) (tCB r t) := pe_callTy hc hg hm hv ha hn hdb (se (seHd hs).1) (seAny (seHd hs).2)
theorem ue_g {CX : CXT} {x : Str} {ps : List Str} {k : Nat} {sp : Sp} {E : XK} {t : TA} {p : Pos} (g : PG.G X.prog X.w X.K X.mg X.base CX x ps k sp) (hr : Room k X.A) (hx : Passes CX X E) (ha : PA X (e :: es) t) (hg : Gl X x := by rfl)
  (hdb : (x == ("__debug__" : Str)) = false := by decide) (hs : (e :: es).all notStar = true := by rfl) : PE X (.Call (.Name x p) (e :: es) [] pos) (tCall sp [] E t) := PG.pe_g g hr hx ha hg hdb (se (seHd hs).1) (seAny (seHd hs).2)
noncomputable def uVar (i : Nat) : TE := fun σ H Q => match σ[i]? with
 | some (some v) => Q v H
 | _ => False
theorem uVar_of {i : Nat} {σ : St} {H : Hp} {Q : VK} (h : uVar i σ H Q) : tVar i σ H Q := by
 unfold uVar at h
 split at h
 ·rename_i v e
  exact ⟨v, e, h⟩
 ·exact h.elim
theorem uv (i : Nat) {x : Str} {pos : Pos} (hN : X.N[i]? = some x := by rfl) (hv : Vis X.env.scope x := by first | exact Or.inl rfl | exact Or.inr (Or.inl rfl) | exact Or.inr (Or.inr rfl)) (hd : (x == ("__debug__" : Str)) = false := by decide) (hcd : (x == ("__classdict__" : Str)) = false := by decide) : PE X (.Name x pos) (uVar i) :=
 (pv i hN hv hd hcd).imp fun _ _ _ h => uVar_of h
noncomputable def uAdd : R2 := fun x y H Q => match x, y with
 | .int i, .int j => Q (.int (i + j)) H
 | .ref l, .ref b => ∃ xs zs, H l = some (.lst xs) ∧ H b = some (.lst zs) ∧ xs.length + zs.length ≤ sizeLine ∧ ∀ p, H p = none → Q (.ref p) (upd H p (.lst (xs ++ zs)))
 | _, _ => False
theorem uo_add : OpR X (binaryOp .Add) uAdd := (op_add.or op_cat).imp fun x y H Q h => by
 cases x <;> cases y <;> first
  | exact .inl ⟨_, _, rfl, rfl, h⟩
  | (obtain ⟨xs, zs, h1, h2, h3, h4⟩ := h; exact .inr ⟨_, _, xs, zs, rfl, rfl, h1, h2, h3, h4⟩)
  | exact False.elim h
noncomputable def uSub : R2 := fun x y H Q => match x, y with
 | .int i, .int j => Q (.int (i - j)) H
 | _, _ => False
theorem uo_sub : OpR X (binaryOp .Sub) uSub := op_sub.imp fun x y H Q h => by
 cases x <;> cases y <;> first | exact ⟨_, _, rfl, rfl, h⟩ | exact False.elim h
noncomputable def uMul : R2 := fun x y H Q => match x, y with
 | .int i, .int j => CMul i j ∧ Q (.int (i * j)) H
 | .ref l, .int k => ∃ xs, H l = some (.lst xs) ∧ (-(2 ^ 63) ≤ k ∧ k < 2 ^ 63) ∧ xs.length * k.toNat ≤ sizeLine ∧ ∀ p, H p = none → Q (.ref p) (upd H p (.lst (List.replicate k.toNat xs).flatten))
 | _, _ => False
theorem uo_mul : OpR X (binaryOp .Mult) uMul := (op_mul.or op_rep).imp fun x y H Q h => by
 cases x <;> cases y <;> first
  | exact .inl ⟨_, _, rfl, rfl, h.1, h.2⟩
  | (obtain ⟨xs, h1, ⟨h2, h3⟩, h4, h5⟩ := h; exact .inr ⟨_, _, xs, rfl, rfl, h1, h2, h3, h4, h5⟩)
  | exact False.elim h
noncomputable def uMod : R2 := fun x y H Q => match x, y with
 | .int i, .int j => 0 < j ∧ Q (.int (i % j)) H
 | _, _ => False
theorem uo_mod : OpR X (binaryOp .Mod) uMod := op_mod.imp fun x y H Q h => by
 cases x <;> cases y <;> first | exact ⟨_, _, rfl, rfl, h.1, h.2⟩ | exact False.elim h
noncomputable def uDiv : R2 := fun x y H Q => match x, y with
 | .int i, .int j => CDiv i j ∧ Q (.int (i / j)) H
 | _, _ => False
theorem uo_fdiv : OpR X (binaryOp .FloorDiv) uDiv := op_fdiv.imp fun x y H Q h => by
 cases x <;> cases y <;> first | exact ⟨_, _, rfl, rfl, h.1, h.2⟩ | exact False.elim h
noncomputable def uNeg : V → Hp → VK → Prop := fun x H Q => match x with
 | .int i => Q (.int (-i)) H
 | _ => False
theorem uu_neg : UnR X (unaryOp .USub) uNeg := fun pins s σ H x v Q I rx h => by
 cases x <;> first | exact un_neg pins s σ H _ v Q I rx ⟨_, rfl, h⟩ | exact False.elim h
noncomputable def uCmp (p : Int → Int → Bool) : R2 := fun x y H Q => match x, y with
 | .int i, .int j => Q (.bl (p i j)) H
 | _, _ => False
theorem uo_lt : OpR X (compareOp .Lt) (uCmp fun i j => decide (i < j)) := op_lt.imp fun x y H Q h => by
 cases x <;> cases y <;> first | exact ⟨_, _, rfl, rfl, h⟩ | exact False.elim h
theorem uo_le : OpR X (compareOp .LtE) (uCmp fun i j => decide (i ≤ j)) := op_le.imp fun x y H Q h => by
 cases x <;> cases y <;> first | exact ⟨_, _, rfl, rfl, h⟩ | exact False.elim h
theorem uo_gt : OpR X (compareOp .Gt) (uCmp fun i j => decide (j < i)) := op_gt.imp fun x y H Q h => by
 cases x <;> cases y <;> first | exact ⟨_, _, rfl, rfl, h⟩ | exact False.elim h
theorem uo_ge : OpR X (compareOp .GtE) (uCmp fun i j => decide (j ≤ i)) := op_ge.imp fun x y H Q h => by
 cases x <;> cases y <;> first | exact ⟨_, _, rfl, rfl, h⟩ | exact False.elim h
noncomputable def uEq (K : FrK) : R2 := fun x y H Q => match x, y with
 | .int i, .int j => Q (.bl (decide (i = j))) H
 | .bl i, .bl j => Q (.bl (decide (i = j))) H
 | .str i, .str j => Q (.bl (decide (i = j))) H
 | .non, .int _ => Q (.bl false) H
 | .int _, .non => Q (.bl false) H
 | .non, .non => Q (.bl true) H
 | .ref a, .ref b => rEqL K false (.ref a) (.ref b) H Q
 | _, _ => False
noncomputable def uNe (K : FrK) : R2 := fun x y H Q => match x, y with
 | .int i, .int j => Q (.bl (!decide (i = j))) H
 | .bl i, .bl j => Q (.bl (!decide (i = j))) H
 | .str i, .str j => Q (.bl (!decide (i = j))) H
 | .ref a, .ref b => rEqL K true (.ref a) (.ref b) H Q
 | _, _ => False
theorem uo_eq_0 (hu : X.A.units + 8 < cLine) : OpR X (compareOp .Eq) (uEq X.K) := (op_eq.or (op_eqL hu)).imp fun x y H Q h => by
 cases x <;> cases y <;> first
  | exact False.elim h
  | exact .inr h
  | (refine .inl ⟨rfl, ?_⟩; have h' := h; simp only [uEq] at h'; simp only [V.int.injEq, V.bl.injEq, V.str.injEq]; exact h')
  | (refine .inl ⟨rfl, ?_⟩; have h' := h; simp only [uEq] at h'; simpa using h')
theorem uo_ne_0 (hu : X.A.units + 8 < cLine) : OpR X (compareOp .NotEq) (uNe X.K) := (op_ne.or (op_neL hu)).imp fun x y H Q h => by
 cases x <;> cases y <;> first
  | exact False.elim h
  | exact .inr h
  | (refine .inl ⟨rfl, ?_⟩; have h' := h; simp only [uNe] at h'; simp only [V.int.injEq, V.bl.injEq, V.str.injEq]; exact h')
noncomputable def uIs : R2 := fun x y H Q => match y with
 | .non => Q (.bl (decide (x = .non))) H
 | .bl k => match x with
  | .bl j => Q (.bl (j == k)) H
  | .non => Q (.bl false) H
  | _ => False
 | _ => False
theorem op_isB : OpR X (compareOp .Is) (fun x y H Q => ∃ a b, x = .bl a ∧ y = .bl b ∧ Q (.bl (a == b)) H) := by
 intro pins s σ H x y v u Q I rx ry h
 obtain ⟨a, b, rfl, rfl, q⟩ := h
 cases rx; cases ry
 have e : compareOp .Is (.bool a) (.bool b) = pure (.bool (a == b)) := by cases a <;> cases b <;> rfl
 rw [e]
 exact wpAny_pure ⟨.bl _, H, I, rfl, q⟩
theorem op_isNB : OpR X (compareOp .Is) (fun x y H Q => ∃ b, x = .non ∧ y = .bl b ∧ Q (.bl false) H) := by
 intro pins s σ H x y v u Q I rx ry h
 obtain ⟨b, rfl, rfl, q⟩ := h
 cases rx; cases ry
 have e : compareOp .Is .none (.bool b) = pure (.bool false) := by cases b <;> rfl
 rw [e]
 exact wpAny_pure ⟨.bl _, H, I, rfl, q⟩
theorem uo_is : OpR X (compareOp .Is) uIs := (op_isN.or (op_isB.or op_isNB)).imp fun x y H Q h => by
 cases y with
 | non => exact .inl ⟨rfl, h⟩
 | bl k => cases x with
  | bl j => exact .inr (.inl ⟨_, _, rfl, rfl, h⟩)
  | non => exact .inr (.inr ⟨_, rfl, rfl, h⟩)
  | _ => exact False.elim h
 | _ => exact False.elim h
noncomputable def uB (Q : Bool → Hp → Prop) : VK := fun x H => match x with
 | .bl k => Q k H
 | _ => False
theorem uB_of {Q : Bool → Hp → Prop} {x : V} {H : Hp} (h : uB Q x H) : ∃ k, x = .bl k ∧ Q k H := by
 cases x <;> first | exact ⟨_, rfl, h⟩ | exact False.elim h
noncomputable def uTest (t : TE) : TT := fun σ H Q => t σ H (uB Q)
theorem ut_cmp {op : CmpOp} {r : R2} (ho : OpR X (compareOp op) r) (ha : PE X a ta) (hb : PE X b tb) (hm : behindInMarks op b = false) : PT X (.Compare a [op] [b] pos) (uTest (tOp r ta tb)) := by
 intro pins s σ H Q I h
 refine wpAny_isTrue_Compare1 (thn (ha pins s σ H _ I h) fun v s1 ⟨x, H1, I1, r1, q1⟩ => thn (hb pins s1 σ H1 _ I1 q1) fun u s2 ⟨y, H2, I2, r2, q2⟩ =>
  thn (ho pins s2 σ H2 x y v u _ I2 r1 r2 q2) fun c s3 ⟨z, H3, I3, r3, q3⟩ => ?_) hm
 obtain ⟨k, e, q⟩ := uB_of q3
 subst e
 cases r3
 exact wpAny_truthy_bool ⟨H3, I3, q⟩
noncomputable def uTru (K : FrK) (Q : Bool → Hp → Prop) : VK := fun x H => match x with
 | .bl k => Q k H
 | .non => Q false H
 | .int i => Q (decide (i ≠ 0)) H
 | .ref p => ∃ xs, (SqL K H p xs ∨ SqT K H p xs) ∧ Q (!xs.isEmpty) H
 | _ => False
noncomputable def uTruth (K : FrK) (t : TE) : TT := fun σ H Q => t σ H (uTru K Q)
theorem ut_val_0 (ha : PE X a ta) (he : ∀ whole, isTrue a X.env whole = (do let v ← whole; standAt a.pos; holding [v] (truthy v)) := by intro _; rfl) : PT X a (uTruth X.K ta) := by
 intro pins s σ H Q I h
 refine isTrue_plain (thn (ha pins s σ H _ I h) fun v s1 ⟨x, H1, I1, r1, q1⟩ => tru_ok pins s1 σ H1 x v Q I1 r1 ?_) (he _)
 cases x with
 | bl k => exact ⟨k, rfl, q1⟩
 | non => exact ⟨false, rfl, q1⟩
 | int i =>
  refine ⟨i != 0, rfl, ?_⟩
  have e : (i != 0) = decide (i ≠ 0) := by
   by_cases h : i = 0
   ·subst h; rfl
   ·simp [h]
  rw [e]; exact q1
 | ref p =>
  obtain ⟨xs, h1 | h1, q⟩ := q1
  ·exact ⟨_, .inl ⟨xs, h1, rfl⟩, q⟩
  ·exact ⟨_, .inr (.inl ⟨xs, h1, rfl⟩), q⟩
 | _ => exact False.elim q1
noncomputable def uAndV (ta tb : TE) : TE := fun σ H Q => ta σ H fun x H1 => match x with
 | .bl c => if c = true then tb σ H1 Q else Q (.bl false) H1
 | _ => False
noncomputable def uNotV (ta : TE) : TE := fun σ H Q => ta σ H fun x H1 => match x with
 | .bl c => Q (.bl (!c)) H1
 | _ => False
variable {rest : List Expr}
theorem ue_and (ha : PE X a ta) (hb : PE X (.BoolOp .And (b :: rest) pos) tb) : PE X (.BoolOp .And (a :: b :: rest) pos) (uAndV ta tb) := by
 intro pins s σ H Q I h
 refine BoolOp_and (thn (ha pins s σ H _ I h) fun v s1 ⟨x, H1, I1, r1, q1⟩ => ?_)
 cases x with
 | bl c =>
  cases r1
  refine wpAny_truthy_bool ?_
  cases c with
  | true => exact hb pins s1 σ H1 Q I1 q1
  | false => exact ⟨.bl false, H1, I1, rfl, q1⟩
 | _ => exact False.elim q1
theorem ue_not (ha : PE X a ta) : PE X (.UnaryOp .Not a pos) (uNotV ta) := by
 intro pins s σ H Q I h
 refine UnaryOp_ (thn (ha pins s σ H _ I h) fun v s1 ⟨x, H1, I1, r1, q1⟩ => ?_)
 cases x with
 | bl c =>
  cases r1
  exact not_of (wpAny_truthy_bool ⟨.bl (!c), H1, I1, rfl, q1⟩)
 | _ => exact False.elim q1
noncomputable def uIx (K : FrK) : R2 := fun x y H Q => match x, y with
 | .ref p, .int i => ∃ xs v, (SqL K H p xs ∨ SqT K H p xs) ∧ atI xs i = some v ∧ Q v H
 | _, _ => False
theorem ux_0 : IxR X (uIx X.K) := (ix_list.or ix_tup).imp fun x y H Q h => by
  cases x <;> cases y <;> first
    | exact False.elim h
    | (obtain ⟨xs, v, h1 | h1, h2, h3⟩ := h
       · exact .inl ⟨_, xs, _, v, rfl, rfl, h1, h2, h3⟩
       · exact .inr ⟨_, xs, _, v, rfl, rfl, h1, h2, h3⟩)
noncomputable def uSet : TSet := fun o i v H Q => match o, i with
 | .ref p, .int k => ∃ xs j, H p = some (.lst xs) ∧ ixN xs.length k = some j ∧ Q (upd H p (.lst (xs.set j v)))
 | _, _ => False
theorem us_set : PSet X uSet := fun pins s σ H o i v vo vi vv Q I h1 h2 h3 h => by
 cases o <;> cases i <;> first
  | exact False.elim h
  | (obtain ⟨xs, j, e1, e2, q⟩ := h; exact set_list pins s σ H _ _ v vo vi vv Q I h1 h2 h3 ⟨_, xs, _, j, rfl, rfl, e1, e2, q⟩)
noncomputable def uSl (K : FrK) : V → Option Int → Option Int → Hp → VK → Prop := fun x lo hi H Q => match x with
 | .ref a => ∃ xs, SqL K H a xs ∧ ∀ p, H p = none → Q (.ref p) (upd H p (.lst (cutV xs lo hi)))
 | _ => False
theorem usl_0 : SlR X (uSl X.K) := fun pins s σ H x v vl vu lo hi sl Q I rx h1 h2 h3 h => by
 cases x <;> first
  | exact False.elim h
  | (obtain ⟨xs, e1, q⟩ := h; exact sl_list pins s σ H _ v vl vu lo hi sl Q I rx h1 h2 h3 ⟨_, xs, rfl, e1, q⟩)
noncomputable def uPart (t : TE) : TO := fun σ H Q => t σ H fun x H1 => match x with
 | .int i => Q (some i) H1
 | _ => False
noncomputable def u1 (r : V → Hp → VK → Prop) : List V → Hp → VK → Prop := fun xs H Q => match xs with
 | [x] => r x H Q
 | _ => False
noncomputable def u2 (r : V → V → Hp → VK → Prop) : List V → Hp → VK → Prop := fun xs H Q => match xs with
 | [x, y] => r x y H Q
 | _ => False
theorem u1_of {r : V → Hp → VK → Prop} {xs : List V} {H : Hp} {Q : VK} (h : u1 r xs H Q) : ∃ x, xs = [x] ∧ r x H Q := by
 unfold u1 at h
 split at h
 ·exact ⟨_, rfl, h⟩
 ·exact h.elim
theorem u2_of {r : V → V → Hp → VK → Prop} {xs : List V} {H : Hp} {Q : VK} (h : u2 r xs H Q) : ∃ x y, xs = [x, y] ∧ r x y H Q := by
 unfold u2 at h
 split at h
 ·exact ⟨_, _, rfl, h⟩
 ·exact h.elim
noncomputable def uLen (K : FrK) : List V → Hp → VK → Prop := u1 fun x H Q => match x with
 | .ref p => ∃ xs, (SqL K H p xs ∨ SqT K H p xs) ∧ Q (.int xs.length) H
 | _ => False
theorem uc_len_0 : CallR X (.builtin "len") (uLen X.K) := call_len_seq.imp fun xs H Q h => by
 obtain ⟨x, rfl, h⟩ := u1_of h
 cases x <;> first
  | exact False.elim h
  | (obtain ⟨xs, h1, q⟩ := h; exact ⟨_, xs, rfl, h1, q⟩)
noncomputable def uIsi (K : FrK) : List V → Hp → VK → Prop := u2 fun x y H Q => match y with
 | .ty n => ∃ t b, TyOf K H x t ∧ PySem.W.kitOne K t (.type n) = some b ∧ Q (.bl b) H
 | _ => False
theorem uc_isi_0 : CallR X (.builtin "isinstance") (uIsi X.K) := call_isi.imp fun xs H Q h => by
 obtain ⟨x, y, rfl, h⟩ := u2_of h
 cases y <;> first
  | exact False.elim h
  | (obtain ⟨t, b, h1, h2, q⟩ := h; exact ⟨x, _, t, b, rfl, h1, h2, q⟩)
noncomputable def uList (K : FrK) : List V → Hp → VK → Prop := u1 fun x H Q => match x with
 | .ref p => ∃ ys, (SqL K H p ys ∨ SqT K H p ys) ∧ ∀ l, H l = none → Q (.ref l) (upd H l (.lst ys))
 | _ => False
theorem uc_list_0 : CallR X (.type "list") (uList X.K) := call_list_of.imp fun xs H Q h => by
 obtain ⟨x, rfl, h⟩ := u1_of h
 cases x <;> first
  | exact False.elim h
  | (obtain ⟨ys, h1, q⟩ := h; exact ⟨_, ys, rfl, h1, q⟩)
noncomputable def uMin (K : FrK) : List V → Hp → VK → Prop := u1 fun x H Q => match x with
 | .ref p => ∃ ns : List Int, SqL K H p (ns.map V.int) ∧ 0 < ns.length ∧ ∀ m, m ∈ ns → (∀ n ∈ ns, m ≤ n) → Q (.int m) H
 | _ => False
theorem uc_min_0 (hc : X.calm = true) : CallR X (.builtin "min") (uMin X.K) := (call_minL hc).imp fun xs H Q h => by
 obtain ⟨x, rfl, h⟩ := u1_of h
 cases x <;> first
  | exact False.elim h
  | (obtain ⟨ns, h1, h2, q⟩ := h; exact ⟨_, ns, rfl, h1, h2, q⟩)
noncomputable def uMax (K : FrK) : List V → Hp → VK → Prop := u1 fun x H Q => match x with
 | .ref p => ∃ ns : List Int, SqL K H p (ns.map V.int) ∧ 0 < ns.length ∧ ∀ m, m ∈ ns → (∀ n ∈ ns, n ≤ m) → Q (.int m) H
 | _ => False
theorem uc_max_0 (hc : X.calm = true) : CallR X (.builtin "max") (uMax X.K) := (call_maxL hc).imp fun xs H Q h => by
 obtain ⟨x, rfl, h⟩ := u1_of h
 cases x <;> first
  | exact False.elim h
  | (obtain ⟨ns, h1, h2, q⟩ := h; exact ⟨_, ns, rfl, h1, h2, q⟩)
noncomputable def uRangeV : List V → Hp → VK → Prop := u2 fun x y H Q => match x, y with
 | .int i, .int j => ∀ p, H p = none → Q (.ref p) (upd H p (.rng i j))
 | _, _ => False
theorem uc_rangeV : CallR X (.type "range") uRangeV := call_rangeV.imp fun xs H Q h => by
 obtain ⟨x, y, rfl, h⟩ := u2_of h
 cases x <;> cases y <;> first
  | exact False.elim h
  | exact ⟨_, _, rfl, h⟩
noncomputable def uListRng : List V → Hp → VK → Prop := u1 fun x H Q => match x with
 | .ref p => ∃ i j : Int, H p = some (.rng i j) ∧ (-1000000 ≤ i ∧ i ≤ j ∧ j ≤ 1000000) ∧ ∀ l, H l = none → Q (.ref l) (upd H l (.lst ((List.range (j - i).toNat).map fun (k : Nat) => V.int (i + (k : Int)))))
 | _ => False
theorem uc_listRng (hc : X.calm = true) : CallR X (.type "list") uListRng := (call_list_rng hc).imp fun xs H Q h => by
 obtain ⟨x, rfl, h⟩ := u1_of h
 cases x <;> first
  | exact False.elim h
  | (obtain ⟨i, j, h1, ⟨h2, h3, h4⟩, q⟩ := h; exact ⟨_, i, j, rfl, h1, h2, h3, h4, q⟩)
noncomputable def uAppend : V → List V → Hp → VK → Prop := fun x vs H Q => match x, vs with
 | .ref l, [y] => ∃ xs, H l = some (.lst xs) ∧ xs.length < sizeLine ∧ Q .non (upd H l (.lst (xs ++ [y])))
 | _, _ => False
theorem um_append : MtM X "list.append" uAppend := fun pins s σ H x xs v us Q I rx rs h => by
 unfold uAppend at h
 split at h
 ·obtain ⟨ys, h1, h2, q⟩ := h
  exact mt_append pins s σ H _ _ v us Q I rx rs ⟨_, ys, _, rfl, rfl, h1, h2, q⟩
 ·exact h.elim
theorem upo_some (h : PE X e te) : PO X (some e) (uPart te) := by
 intro pins s σ H Q I hw
 rw [evalPart_some]
 refine thn (h pins s σ H _ I hw) fun u s1 ⟨x, H1, I1, r1, q1⟩ => ?_
 cases x with
 | int i =>
  obtain ⟨t, rfl⟩ := r1
  exact ⟨some i, H1, I1, .int i t, q1⟩
 | _ => exact False.elim q1
variable {tg : Expr}
noncomputable def uiRng1 (ta : TA) : TI := fun σ H R => ta σ H fun vs H1 => match vs with
 | [.int j] => (-(2 ^ 62) ≤ j ∧ j < 2 ^ 62) ∧ R (Itr 0 j.toNat) H1
 | _ => False
noncomputable def uiRng2 (ta : TA) : TI := fun σ H R => ta σ H fun vs H1 => match vs with
 | [.int i, .int j] => (-(2 ^ 62) ≤ i ∧ i < 2 ^ 62 ∧ -(2 ^ 62) ≤ j ∧ j < 2 ^ 62) ∧ R (Itr i (j - i).toNat) H1
 | _ => False
theorem ui_range1 {a : Expr} {ta : TA} {p pos : Pos} (hm : X.mg "range" = none) (ha : PA X [a] ta) (hg : Gl X "range" := by rfl) (hn : notStar a = true := by rfl) : PI X tg (.Call (.Name "range" p) [a] [] pos) (uiRng1 ta) := by
 have hs : starEach [a] X.env = [(false, eval a X.env)] := by rw [se hn, starEach]
 intro pins s σ H R I h
 refine Call_ (ld_blt I hg hm boot_range (PyProof.Rows.callWith_type1 (thn (ha pos pins s σ H _ I h) fun us s1 ⟨vs, H1, I1, r1, q1⟩ => ?_) hs rfl))
 dsimp only at q1
 split at q1
 ·obtain ⟨⟨q1, q2⟩, q⟩ := q1
  cases r1 with
  | cons r rr =>
   cases rr
   obtain ⟨t, rfl⟩ := r
   exact call_range_1 (range_it I1 (by omega) (by omega) q1 q2 (by simpa using q))
 ·exact q1.elim
theorem ui_range2 {a b : Expr} {ta : TA} {p pos : Pos} (hm : X.mg "range" = none) (ha : PA X [a, b] ta) (hg : Gl X "range" := by rfl) (hn : notStar a = true := by rfl) (hn2 : notStar b = true := by rfl) :
  PI X tg (.Call (.Name "range" p) [a, b] [] pos) (uiRng2 ta) := by
 have hs2 : starEach [b] X.env = [(false, eval b X.env)] := by rw [se hn2, starEach]
 have hs : starEach [a, b] X.env = [(false, eval a X.env), (false, eval b X.env)] := by rw [se hn, hs2]
 intro pins s σ H R I h
 refine Call_ (ld_blt I hg hm boot_range (PyProof.Rows.callWith_type1 (thn (ha pos pins s σ H _ I h) fun us s1 ⟨vs, H1, I1, r1, q1⟩ => ?_) (by rw [hs, hs2]) (by rw [hs2]; rfl)))
 dsimp only at q1
 split at q1
 ·obtain ⟨⟨q1, q2, q3, q4⟩, q⟩ := q1
  cases r1 with
  | cons r rr =>
   cases rr with
   | cons r' rr =>
    cases rr
    obtain ⟨t, rfl⟩ := r
    obtain ⟨t', rfl⟩ := r'
    exact call_range_2 (range_it I1 q1 q2 q3 q4 q)
 ·exact q1.elim
noncomputable def uiSeq (K : FrK) (tl : TE) : TI := fun σ H R => tl σ H fun x H1 => match x with
 | .ref a => (∃ xs, SqL K H1 a xs ∧ R (Itl K a) H1) ∨ ∃ xs, SqT K H1 a xs ∧ R (Itt K a) H1
 | _ => False
theorem ui_seq_0 {l : Expr} {tl : TE} (hl : PE X l tl) : PI X tg l (uiSeq X.K tl) := by
 intro pins s σ H R I h
 refine thn (hl pins s σ H _ I h) fun v s1 ⟨x, H1, I1, r1, q1⟩ => ?_
 cases x with
 | ref a =>
  cases r1
  rcases q1 with ⟨xs, hq, q⟩ | ⟨xs, hq, q⟩
  ·obtain ⟨its, rv, p, hz⟩ := I1.list hq
   refine wpAny_pyIter_list p.isList ?_
   refine ⟨s1.heap.objs.size, [s1.heap.objs.size], _, _, H1, rfl, I1.kept (t' := s1.toks) fun b o e => Heap.get?_push_of_some _ e, turn_list a _, ⟨_, Heap.get?_push_size _ rfl, rfl, rfl⟩, fun b hb => ?_, q⟩
   have e : b = s1.heap.objs.size := by simpa using hb
   subst e
   exact I1.fpOk (Nat.le_refl _) (I1.hok.fresh (Nat.le_refl _))
  ·obtain ⟨its, rv, p, hz⟩ := I1.tuple hq
   refine wpAny_pyIter_tuple (show s1.heap.IsTuple a its.toArray from p) ?_
   refine ⟨s1.heap.objs.size, [s1.heap.objs.size], _, _, H1, rfl, I1.kept (t' := s1.toks) fun b o e => Heap.get?_push_of_some _ e, turn_tuple a _, ⟨_, Heap.get?_push_size _ rfl, rfl, rfl⟩, fun b hb => ?_, q⟩
   have e : b = s1.heap.objs.size := by simpa using hb
   subst e
   exact I1.fpOk (Nat.le_refl _) (I1.hok.fresh (Nat.le_refl _))
 | _ => exact False.elim q1
noncomputable def uBM (K : FrK) (r : V → List V → Hp → VK → Prop) (to : TE) (t : TA) : TE := fun σ H Q => to σ H fun x H1 => match x with
 | .ref p => (∃ xs, SqL K H1 p xs) ∧ t σ H1 fun xs H2 => r (.ref p) xs H2 Q
 | _ => False
variable {o : Expr} {to : TE} {t : TA} {name : Str} {apos cpos : Pos} {id : String} {r : V → List V → Hp → VK → Prop}
theorem ue_bm_0 (slot : Slot "list" name id) (hty : typeOf (.builtin id) = pure (.type "method_descriptor")) (hm : MtR X id r) (ho : PE X o to) (ha : PA X (e :: es) t)
  (hbase : attributeBase o name X.env (eval o X.env) = eval o X.env := by rfl)
  (hfew : ((backTo cpos (starEach (e :: es) X.env)).all (fun x => !x.1) && (backToKw cpos (keywordEach [] X.env)).all (fun x => x.1.isSome)
   && decide ((e :: es).length + ([] : List Keyword).length + (if ([] : List Keyword).isEmpty then 0 else 1) < 30)) = true := by rfl)
  (hline : (apos.endLine == cpos.line) = true := by rfl) (hs : starEach (e :: es) X.env = (false, eval e X.env) :: starEach es X.env := by rfl) (hplain : (backTo cpos (starEach es X.env)).any (·.1) = false := by rfl) :
  PE X (.Call (.Attribute o name apos) (e :: es) [] cpos) (uBM X.K r to t) := by
 intro pins s σ H Q I h
 refine wpAny_Call_method_late hbase hfew hline rfl (thn (ho pins s σ H _ I h) fun v s1 ⟨x, H1, I1, r1, q1⟩ => ?_)
 cases x with
 | ref p =>
  obtain ⟨ty, q1⟩ := q1
  obtain ⟨h1, h2⟩ := tyV_is (T := "list") I1 r1 (.inl ⟨rfl, ty⟩)
  refine ⟨"list", id, PySem.F.plainAttrs_list, slot, hty, h1, h2, ?_⟩
  have hA := ha cpos pins s1 σ H1 _ I1 q1
  rw [hs] at hA ⊢
  refine Calls.callWith_builtin (by show (false || (backTo cpos (starEach es X.env)).any (·.1)) = false; rw [hplain] <;> rfl) (Calls.evalArgs_plain ?_)
  exact thn hA fun us s2 ⟨vs, H2, I2, r2, q2⟩ => hm pins s2 σ H2 _ vs v us Q I2 r1 r2 q2
 | _ => exact False.elim q1
theorem uo_eq {K : FrK} (hu : X.A.units + 8 < cLine) (hK : X.K = K := by rfl) : OpR X (compareOp .Eq) (uEq K) := by subst hK; exact uo_eq_0 hu
theorem uo_ne {K : FrK} (hu : X.A.units + 8 < cLine) (hK : X.K = K := by rfl) : OpR X (compareOp .NotEq) (uNe K) := by subst hK; exact uo_ne_0 hu
theorem ux {K : FrK} (hK : X.K = K := by rfl) : IxR X (uIx K) := by subst hK; exact ux_0
theorem usl {K : FrK} (hK : X.K = K := by rfl) : SlR X (uSl K) := by subst hK; exact usl_0
theorem uc_len {K : FrK} (hK : X.K = K := by rfl) : CallR X (.builtin "len") (uLen K) := by subst hK; exact uc_len_0
theorem uc_isi {K : FrK} (hK : X.K = K := by rfl) : CallR X (.builtin "isinstance") (uIsi K) := by subst hK; exact uc_isi_0
theorem uc_list {K : FrK} (hK : X.K = K := by rfl) : CallR X (.type "list") (uList K) := by subst hK; exact uc_list_0
theorem uc_min {K : FrK} (hc : X.calm = true) (hK : X.K = K := by rfl) : CallR X (.builtin "min") (uMin K) := by subst hK; exact uc_min_0 hc
theorem uc_max {K : FrK} (hc : X.calm = true) (hK : X.K = K := by rfl) : CallR X (.builtin "max") (uMax K) := by subst hK; exact uc_max_0 hc
theorem ut_val {K : FrK} (ha : PE X a ta) (hK : X.K = K := by rfl) (he : ∀ whole, isTrue a X.env whole = (do let v ← whole; standAt a.pos; holding [v] (truthy v)) := by intro _; rfl) : PT X a (uTruth K ta) := by subst hK; exact ut_val_0 ha he
theorem ui_seq {K : FrK} {l : Expr} {tl : TE} (hl : PE X l tl) (hK : X.K = K := by rfl) : PI X tg l (uiSeq K tl) := by subst hK; exact ui_seq_0 hl
theorem ue_bm {K : FrK} (slot : Slot "list" name id) (hty : typeOf (.builtin id) = pure (.type "method_descriptor")) (hm : MtR X id r) (ho : PE X o to) (ha : PA X (e :: es) t) (hK : X.K = K := by rfl)
  (hbase : attributeBase o name X.env (eval o X.env) = eval o X.env := by rfl) (hfew : (e :: es).length < 30 := by decide)
  (hline : (apos.endLine == cpos.line) = true := by rfl) (hs : (e :: es).all notStar = true := by rfl) :
  PE X (.Call (.Attribute o name apos) (e :: es) [] cpos) (uBM K r to t) := by
 subst hK
 refine ue_bm_0 slot hty hm ho ha hbase ?_ hline (se (seHd hs).1) (seAny (seHd hs).2)
 rw [seNone hs, keywordEach]
 simpa [backToKw] using hfew
noncomputable def eCut (t : TE) : TE := fun σ H Q => ∃ M : VK, t σ H M ∧ ∀ v H', M v H' → Q v H'
theorem pe_cut {t : TE} (h : PE X e t) : PE X e (eCut t) := fun pins s σ H Q I ⟨M, h1, h2⟩ =>
 thn (h pins s σ H M I h1) fun _ _ ⟨v, H', I', r, q⟩ => ⟨v, H', I', r, h2 v H' q⟩
noncomputable def sCut (t u : TS) : TS := fun D σ H => ∃ M : St → Hp → Prop, t { D with nx := M } σ H ∧ ∀ σ' H', M σ' H' → u D σ' H'
theorem pss_cut {st : Stmt} {sts : List Stmt} {t u : TS} (h1 : PS X st t) (h2 : PSs X sts u) : PSs X (st :: sts) (sCut t u) := by
 intro pins s σ H D I ⟨M, q1, q2⟩
 refine wpAny_execs_cons (thn (h1 pins s σ H { D with nx := M } I q1) fun f s1 q => ?_)
 cases f with
 | next =>
  obtain ⟨σ', H', I', q⟩ := q
  exact h2 pins s1 σ' H' D I' (q2 σ' H' q)
 | ret v => exact q
 | brk => exact q
 | cont => exact q
end
theorem while_of {c : TT} {tb : TS} {D : Ends} {σ : St} {H : Hp} (Pv : St → Hp → Prop) (μ : St → Hp → Nat) (h0 : Pv σ H)
  (hs : ∀ σ H, Pv σ H → c σ H fun b H1 => if b = true then ∃ N : St → Hp → Prop, (∀ σ' H', N σ' H' → ∃ m', m' < μ σ H ∧ Pv σ' H' ∧ m' = μ σ' H') ∧ tb { D with nx := N, ct := N, bk := D.nx } σ H1 else D.nx σ H1) : tWhile c tb D σ H := by
 refine ⟨fun m σ H => Pv σ H ∧ m = μ σ H, ⟨_, h0, rfl⟩, ?_⟩
 rintro m σ H ⟨p, rfl⟩
 exact hs σ H p
theorem while_go {Pv : St → Hp → Prop} {μ : St → Hp → Nat} {m : Nat} {tb : TS} {D : Ends} {σ : St} {H1 : Hp} (h : tb { D with nx := fun σ' H' => Pv σ' H' ∧ μ σ' H' < m, ct := fun σ' H' => Pv σ' H' ∧ μ σ' H' < m, bk := D.nx } σ H1) :
  ∃ N : St → Hp → Prop, (∀ σ' H', N σ' H' → ∃ m', m' < m ∧ Pv σ' H' ∧ m' = μ σ' H') ∧ tb { D with nx := N, ct := N, bk := D.nx } σ H1 := ⟨_, fun _ _ h => ⟨_, h.2, h.1, rfl⟩, h⟩
end L2
namespace L2
open PySem PySem.Spec PyProof.Rows
structure QE (X : Cx) (e : Expr) (t : TE) : Prop where
 run : PE X e t
structure QT (X : Cx) (e : Expr) (t : TT) : Prop where
 run : PT X e t
structure QW (X : Cx) (e : Expr) (t : TT) : Prop where
 run : PW X e t
structure QA (X : Cx) (es : List Expr) (t : TA) : Prop where
 run : PA X es t
structure QS (X : Cx) (st : Stmt) (t : TS) : Prop where
 run : PS X st t
structure QSs (X : Cx) (st : List Stmt) (t : TS) : Prop where
 run : PSs X st t
structure QG (X : Cx) (e : Expr) (t : TG) : Prop where
 run : PG X e t
structure QGs (X : Cx) (es : List Expr) (t : TGs) : Prop where
 run : PGs X es t
structure QI (X : Cx) (tg it : Expr) (t : TI) : Prop where
 run : PI X tg it t
structure QF (X : Cx) (es : List Expr) (t : TT) : Prop where
 run : PIfs X es t
structure QO (X : Cx) (e : Option Expr) (t : TO) : Prop where
 run : PO X e t
section
variable {X : Cx} {K : FrK} {a b c e o tg iter : Expr} {es rest : List Expr} {ta tb tc te to : TE} {t : TA} {tA tB' : TT} {pos p apos cpos : Pos}
theorem q_v (i : Nat) {x : Str} (hN : X.N[i]? = some x := by rfl) (hv : Vis X.env.scope x := by first | exact Or.inl rfl | exact Or.inr (Or.inl rfl) | exact Or.inr (Or.inr rfl)) (hd : (x == ("__debug__" : Str)) = false := by decide) (hcd : (x == ("__classdict__" : Str)) = false := by decide) : QE X (.Name x pos) (uVar i) := ⟨uv i hN hv hd hcd⟩
theorem q_glob {x : Str} {v : V} {u : Value} (hg : Gl X x) (hm : X.mg x = some u) (r : RelV v u) (hd : (x == ("__debug__" : Str)) = false := by decide) : QE X (.Name x pos) (tC v) := ⟨pe_glob hg hm r hd⟩
theorem q_bltn {x : Str} {v : V} {u : Value} (hg : Gl X x) (hm : X.mg x = none) (hv : bootBuiltins x = some u) (r : RelV v u) (hn : x ≠ "__name__" := by decide) (hd : (x == ("__debug__" : Str)) = false := by decide) : QE X (.Name x pos) (tC v) := ⟨pe_bltn hg hm hv r hn hd⟩
theorem q_int {i j} : QE X (.Constant (.int i) j pos) (tC (.int i)) := ⟨pe_int⟩
theorem q_bl {b j} : QE X (.Constant (.bool b) j pos) (tC (.bl b)) := ⟨pe_bl⟩
theorem q_non {j} : QE X (.Constant .none j pos) (tC .non) := ⟨pe_non⟩
theorem q_str {x j} : QE X (.Constant (.str x) j pos) (tC (.str x)) := ⟨pe_str⟩
theorem q_op {op : Operator} {r : R2} (ho : OpR X (binaryOp op) r) (ha : QE X a ta) (hb : QE X b tb) : QE X (.BinOp a op b pos) (tOp r ta tb) := ⟨pe_op ho ha.run hb.run⟩
theorem q_un {op : UnaryOp} {r : V → Hp → VK → Prop} (ho : UnR X (unaryOp op) r) (ha : QE X a ta) : QE X (.UnaryOp op a pos) (tUn r ta) := ⟨pe_un ho ha.run⟩
theorem q_not (ha : QE X a ta) : QE X (.UnaryOp .Not a pos) (uNotV ta) := ⟨ue_not ha.run⟩
theorem q_cmp {op : CmpOp} {r : R2} (ho : OpR X (compareOp op) r) (ha : QE X a ta) (hb : QE X b tb) (hm : behindInMarks op b = false) : QE X (.Compare a [op] [b] pos) (tOp r ta tb) := ⟨pe_cmpR ho ha.run hb.run hm⟩
theorem q_and (ha : QE X a ta) (hb : QE X (.BoolOp .And (b :: rest) pos) tb) : QE X (.BoolOp .And (a :: b :: rest) pos) (uAndV ta tb) := ⟨ue_and ha.run hb.run⟩
theorem q_one {op} (h : QE X a ta) : QE X (.BoolOp op [a] pos) ta := ⟨pe_one h.run⟩
theorem q_if (hc : QT X c tA) (ha : QE X a ta) (hb : QE X b tb) : QE X (.IfExp c a b pos) (tIf tA ta tb) := ⟨pe_ifExp hc.run ha.run hb.run⟩
theorem q_none : QO X none tNoPart := ⟨po_none⟩
theorem q_some (h : QE X e te) : QO X (some e) (uPart te) := ⟨upo_some h.run⟩
theorem q_slice {lo hi : Option Expr} {tl th : TO} {p2 : Pos} {r : V → Option Int → Option Int → Hp → VK → Prop} (hr : SlR X r) (he : QE X e te) (hl : QO X lo tl) (hu : QO X hi th) : QE X (.Subscript e (.Slice lo hi none p2) pos) (tSl r te tl th) := ⟨pe_slice hr he.run hl.run hu.run⟩
theorem q_ix {r : R2} (hr : IxR X r) (ha : QE X a ta) (hb : QE X b tb) (hs : PlainIx b) : QE X (.Subscript a b pos) (tOp r ta tb) := ⟨pe_ix hr ha.run hb.run hs⟩
theorem q_nil : QA X [] tNil := ⟨pa_nil⟩
theorem q_cons (ha : QE X e te) (hr : QA X es t) (hn : notStar e = true := by rfl) : QA X (e :: es) (tCons te t) := ⟨ua_cons ha.run hr.run hn⟩
theorem q_lst (h : QA X es t) : QE X (.List es pos) (tLst t) := ⟨pe_lst h.run⟩
theorem q_tup {x1} (h : QA X es t) : QE X (.Tuple es x1 pos) (tTup t) := ⟨pe_tup h.run⟩
theorem q_callB {x : Str} {id : String} {r : List V → Hp → VK → Prop} (hc : CallR X (.builtin id) r) (hg : Gl X x) (hm : X.mg x = none) (hv : bootBuiltins x = some (.builtin id)) (ha : QA X (e :: es) t) (hn : x ≠ "__name__" := by decide) (hdb : (x == ("__debug__" : Str)) = false := by decide)
  (hs : (e :: es).all notStar = true := by rfl) : QE X (.Call (.Name x p) (e :: es) [] pos) (tCB r t) := ⟨ue_callB hc hg hm hv ha.run hn hdb hs⟩
theorem q_callTy {x : Str} {T : String} {r : List V → Hp → VK → Prop} (hc : CallR X (.type T) r) (hg : Gl X x) (hm : X.mg x = none) (hv : bootBuiltins x = some (.type T)) (ha : QA X (e :: es) t) (hn : x ≠ "__name__" := by decide) (hdb : (x == ("__debug__" : Str)) = false := by decide)
  (hs : (e :: es).all notStar = true := by rfl) : QE X (.Call (.Name x p) (e :: es) [] pos) (tCB r t) := ⟨ue_callTy hc hg hm hv ha.run hn hdb hs⟩
theorem q_g {CX : CXT} {x : Str} {ps : List Str} {k : Nat} {sp : Sp} {E : XK} (g : PG.G X.prog X.w X.K X.mg X.base CX x ps k sp) (hr : Room k X.A) (hx : Passes CX X E) (ha : QA X (e :: es) t) (hg : Gl X x := by rfl)
  (hdb : (x == ("__debug__" : Str)) = false := by decide) (hs : (e :: es).all notStar = true := by rfl) : QE X (.Call (.Name x p) (e :: es) [] pos) (tCall sp [] E t) := ⟨ue_g g hr hx ha.run hg hdb hs⟩
theorem q_bm {name : Str} {id : String} {r : V → List V → Hp → VK → Prop} (slot : Slot "list" name id) (hty : typeOf (.builtin id) = pure (.type "method_descriptor")) (hm : MtR X id r) (ho : QE X o to) (ha : QA X (e :: es) t) (hK : X.K = K := by rfl)
  (hbase : attributeBase o name X.env (eval o X.env) = eval o X.env := by rfl) (hfew : (e :: es).length < 30 := by decide)
  (hline : (apos.endLine == cpos.line) = true := by rfl) (hs : (e :: es).all notStar = true := by rfl) : QE X (.Call (.Attribute o name apos) (e :: es) [] cpos) (uBM K r to t) := ⟨ue_bm slot hty hm ho.run ha.run hK hbase hfew hline hs⟩
theorem q_cut {t : TE} (h : QE X e t) : QE X e (eCut t) := ⟨pe_cut h.run⟩
theorem q_tcmp {op : CmpOp} {r : R2} (ho : OpR X (compareOp op) r) (ha : QE X a ta) (hb : QE X b tb) (hm : behindInMarks op b = false) : QT X (.Compare a [op] [b] pos) (uTest (tOp r ta tb)) := ⟨ut_cmp ho ha.run hb.run hm⟩
theorem q_tw (h : QW X e tA) : QT X e tA := ⟨PW.pt h.run⟩
theorem q_tand1 (ha : QT X a tA) : QW X (.BoolOp .And [a] pos) tA := ⟨pw_and1 ha.run⟩
theorem q_tor1 (ha : QT X a tA) : QW X (.BoolOp .Or [a] pos) tA := ⟨pw_or1 ha.run⟩
theorem q_tand (ha : QT X a tA) (hb : QW X (.BoolOp .And (b :: rest) pos) tB') : QW X (.BoolOp .And (a :: b :: rest) pos) (tAnd tA tB') := ⟨pw_and ha.run hb.run⟩
theorem q_tor (ha : QT X a tA) (hb : QW X (.BoolOp .Or (b :: rest) pos) tB') : QW X (.BoolOp .Or (a :: b :: rest) pos) (tOr tA tB') := ⟨pw_or ha.run hb.run⟩
theorem q_tnot (ha : QT X a tA) : QT X (.UnaryOp .Not a pos) (tNot tA) := ⟨pt_not ha.run⟩
theorem q_tval (ha : QE X a ta) (hK : X.K = K := by rfl) (he : ∀ whole, isTrue a X.env whole = (do let v ← whole; standAt a.pos; holding [v] (truthy v)) := by intro _; rfl) : QT X a (uTruth K ta) := ⟨ut_val ha.run hK he⟩
theorem q_range1 (hm : X.mg "range" = none) (ha : QA X [a] t) (hg : Gl X "range" := by rfl) (hn : notStar a = true := by rfl) : QI X tg (.Call (.Name "range" p) [a] [] pos) (uiRng1 t) := ⟨ui_range1 hm ha.run hg hn⟩
theorem q_range2 (hm : X.mg "range" = none) (ha : QA X [a, b] t) (hg : Gl X "range" := by rfl) (hn : notStar a = true := by rfl) (hn2 : notStar b = true := by rfl) : QI X tg (.Call (.Name "range" p) [a, b] [] pos) (uiRng2 t) := ⟨ui_range2 hm ha.run hg hn hn2⟩
theorem q_seq {l : Expr} {tl : TE} (hl : QE X l tl) (hK : X.K = K := by rfl) : QI X tg l (uiSeq K tl) := ⟨ui_seq hl.run hK⟩
theorem q_name {i : Nat} {x : Str} (hN : X.N.Nodup) (hi : X.N[i]? = some x) (hx : Loc X.env.scope x) (hf : X.fn x = true ∨ X.env.scope.names.lookup x = some .local := by first | exact .inl rfl | exact .inr rfl | assumption) : QG X (.Name x pos) (gName i) := ⟨pg_name hN hi hx hf⟩
theorem q_gnil : QGs X [] gNil := ⟨pgs_nil⟩
theorem q_gcons {g : TG} {u : TGs} (h1 : QG X e g) (h2 : QGs X es u) (hs : (assignEach (e :: es) X.env).map (·.2) = assign e X.env :: (assignEach es X.env).map (·.2) := by rfl) : QGs X (e :: es) (gCons g u) := ⟨pgs_cons h1.run h2.run hs⟩
theorem q_gtup {k : Nat} {u : TGs} {n : Nat} (hc : X.calm = true) (h : QGs X es u) (hK : X.K = K := by rfl) (hn : (assignEach es X.env).length = n := by rfl) (hst : (assignEach es X.env).findIdx? (·.1) = none := by rfl) : QG X (.Tuple es k pos) (gTup K n u) := by subst hK; exact ⟨pg_tup hc h.run hn hst⟩
theorem q_gsub {i : Expr} {ti : TE} {u : TSet} (ho : QE X o to) (hi : QE X i ti) (hs : PSet X u)
  (ha : ∀ v, assign (.Subscript o i pos) X.env v = (do
   let ov ← holding [v] (eval o X.env)
   let iv ← holding [v, ov] (eval i X.env)
   standAt pos
   holding [v, ov, iv] (setItem ov iv v)
   release [v, ov, iv] []) := by intro _; rfl) : QG X (.Subscript o i pos) (gSub to ti u) := ⟨pg_sub ho.run hi.run hs ha⟩
theorem q_fnil : QF X [] tTrue := ⟨pif_nil⟩
theorem q_fone (h : QT X c tA) : QF X [c] tA := ⟨pif_one h.run⟩
theorem q_comp {scope : Scope} {wi : TI} {g : TG} {tc : TT} {elt : Expr} {ifs : List Expr} (bl : List (Option Nat)) (N' : List Str) (hc : X.calm = true) (k : compOk X.env.scope scope X.N N' bl = true) (hi : QI X tg iter wi) (hg : ∀ C s H fp pins, QG (blkCx X scope N' C s H fp pins) tg g)
  (hf : ∀ C s H fp pins, QF (blkCx X scope N' C s H fp pins) ifs tc) (he : ∀ C s H fp pins, QE (blkCx X scope N' C s H fp pins) elt te)
  (hs : ∀ x, foldedSetIterable iter X.env x = pure x := by intro _; rfl) : QE X (.ListComp elt [⟨tg, iter, ifs, 0⟩] scope pos) (tComp bl wi g tc te) :=
 ⟨pe_comp bl N' hc k hi.run (fun C s H fp pins => (hg C s H fp pins).run) (fun C s H fp pins => (hf C s H fp pins).run) (fun C s H fp pins => (he C s H fp pins).run) hs⟩
variable {st : Stmt} {sts body els : List Stmt} {t1 t2 : TS}
theorem q_set {i : Nat} {x : Str} {pos' : Pos} (hN : X.N.Nodup) (hi : X.N[i]? = some x) (hx : Loc X.env.scope x) (he : QE X e te) (hs : swapsWith e (some (.Name x pos')) pos.line X.env = pure false := by rfl) (hf : X.fn x = true ∨ X.env.scope.names.lookup x = some .local := by first | exact .inl rfl | exact .inr rfl | assumption) :
  QS X (.Assign [.Name x pos'] e pos) (tAsg te (gName i)) := ⟨ps_set hN hi hx he.run hs hf⟩
theorem q_setC {scope : Scope} {wi : TI} {g : TG} {tc : TT} {elt : Expr} {ifs : List Expr} {i : Nat} {y : Str} {py spos : Pos} (bl : List (Option Nat)) (N' : List Str) (hN : X.N.Nodup) (hi' : X.N[i]? = some y) (hy : X.env.kindOf y = some .local) (hc : X.calm = true) (k : compOk X.env.scope scope X.N N' bl = true) (hi : QI X tg iter wi)
  (hg : ∀ C s H fp pins, QG (blkCx X scope N' C s H fp pins) tg g) (hf : ∀ C s H fp pins, QF (blkCx X scope N' C s H fp pins) ifs tc) (he : ∀ C s H fp pins, QE (blkCx X scope N' C s H fp pins) elt te)
  (hsw : swapsWith (.ListComp elt [⟨tg, iter, ifs, 0⟩] scope pos) (some (.Name y py)) spos.line X.env = pure true := by rfl) (hs : ∀ x, foldedSetIterable iter X.env x = pure x := by intro _; rfl) :
  QS X (.Assign [.Name y py] (.ListComp elt [⟨tg, iter, ifs, 0⟩] scope pos) spos) (tAsg (tComp bl wi g tc te) (gName i)) :=
 ⟨ps_setC bl N' hN hi' hy hc k hi.run (fun C s H fp pins => (hg C s H fp pins).run) (fun C s H fp pins => (hf C s H fp pins).run) (fun C s H fp pins => (he C s H fp pins).run) hsw hs⟩
theorem q_par {i j : Nat} {x y : Str} {px py pt : Pos} {kt k2 pt2} (hc : X.calm = true) (hN : X.N.Nodup) (hi : X.N[i]? = some x) (hj : X.N[j]? = some y) (hij : i ≠ j)
  (hx : X.env.scope.names.lookup x = some .local) (hy : X.env.scope.names.lookup y = some .local) (ha : QA X [a, b] t)
  (hw : swappedStores [.Tuple [.Name x px, .Name y py] kt pt] (.Tuple [a, b] k2 pt2) X.env = pure (some [x, y]))
  (hs : swapsWithSole [.Tuple [.Name x px, .Name y py] kt pt] (.Tuple [a, b] k2 pt2) pos.line X.env = pure false := by rfl) :
  QS X (.Assign [.Tuple [.Name x px, .Name y py] kt pt] (.Tuple [a, b] k2 pt2) pos) (tPar i j t) := ⟨ps_par hc hN hi hj hij hx hy ha.run hw hs⟩
theorem q_asg {g : TG} (he : QE X e te) (hg : QG X tg g) (hs : swapsWithSole [tg] e pos.line X.env = pure false := by rfl) (hw : swappedStores [tg] e X.env = pure none := by rfl)
  (h1 : (assignEach [tg] X.env).map (·.2) = [assign tg X.env] := by rfl) : QS X (.Assign [tg] e pos) (tAsg te g) := ⟨ps_asg he.run hg.run hs hw h1⟩
theorem q_sif (hc : QT X c tA) (ha : QSs X body t1) (hb : QSs X els t2) : QS X (.If c body els pos) (tIfS tA t1 t2) := ⟨ps_if hc.run ha.run hb.run⟩
theorem q_for {wi : TI} {g : TG} (hp : PassesOwn (model X.prog X.w) X.A X.env X.xe) (hc : X.calm = true) (hi : QI X tg iter wi) (hg : QG X tg g) (hb : QSs X body t1)
  (hs : ∀ x, foldedSetIterable iter X.env x = pure x := by intro _; rfl) : QS X (.For tg iter body [] pos) (tFor wi g t1) := ⟨ps_for hp hc hi.run hg.run hb.run hs⟩
theorem q_while (hp : PassesOwn (model X.prog X.w) X.A X.env X.xe) (hc : QT X c tA) (hb : QSs X body t1) : QS X (.While c body [] pos) (tWhile tA t1) := ⟨ps_while hp hc.run hb.run⟩
theorem q_retN : QS X (.Return none pos) tRetN := ⟨ps_retN⟩
theorem q_ret (he : QE X e te) : QS X (.Return (some e) pos) (tRet te) := ⟨ps_ret he.run⟩
theorem q_expr (he : QE X e te) (hs : swapsWith e none pos.line X.env = pure false := by rfl) : QS X (.Expr e pos) (tDrop te) := ⟨ps_expr he.run hs⟩
theorem q_never : QS X st tNever := ⟨ps_never⟩
theorem q_snil : QSs X [] tNext := ⟨pss_nil⟩
theorem q_sone (h : QS X st t1) : QSs X [st] t1 := ⟨pss_one h.run⟩
theorem q_scons (h : QS X st t1) (h2 : QSs X sts t2) : QSs X (st :: sts) (tSeq t1 t2) := ⟨pss_cons h.run h2.run⟩
theorem q_scut (h : QS X st t1) (h2 : QSs X sts t2) : QSs X (st :: sts) (sCut t1 t2) := ⟨pss_cut h.run h2.run⟩
end
end L2
namespace PG
noncomputable def Pay (cs : List Int) (k : Nat) (s : Int) : Prop := ∃ l : List Int, l.length = k ∧ (∀ c ∈ l, c ∈ cs) ∧ l.sum = s
noncomputable def Payable (cs : List Int) (s : Int) : Prop := ∃ k, Pay cs k s
theorem Pay.zero {cs : List Int} : Pay cs 0 0 := ⟨[], rfl, (fun _ h => by cases h), rfl⟩
theorem Pay.one {cs : List Int} {c : Int} (h : c ∈ cs) : Pay cs 1 c := ⟨[c], rfl, fun d hd => by rw [List.mem_singleton.mp hd]; exact h, by simp⟩
theorem Pay.add {cs : List Int} {k l : Nat} {s t : Int} (h : Pay cs k s) (h' : Pay cs l t) : Pay cs (k + l) (s + t) := by
 obtain ⟨a, h1, h2, h3⟩ := h
 obtain ⟨b, g1, g2, g3⟩ := h'
 refine ⟨a ++ b, by simp [h1, g1], fun c hc => ?_, by simp [h3, g3]⟩
 rcases List.mem_append.mp hc with z | z
 ·exact h2 c z
 ·exact g2 c z
theorem Payable.zero {cs : List Int} : Payable cs 0 := ⟨0, .zero⟩
theorem Payable.one {cs : List Int} {c : Int} (h : c ∈ cs) : Payable cs c := ⟨1, .one h⟩
theorem Payable.add {cs : List Int} {s t : Int} (h : Payable cs s) (h' : Payable cs t) : Payable cs (s + t) := by
 obtain ⟨k, h⟩ := h
 obtain ⟨l, h'⟩ := h'
 exact ⟨_, h.add h'⟩
theorem Payable.mul {cs : List Int} {c : Int} (h : Payable cs c) : ∀ x : Nat, Payable cs ((x : Int) * c)
 | 0 => by simpa using Payable.zero
 | x + 1 => by
  have := (Payable.mul h x).add h
  rw [show ((x + 1 : Nat) : Int) * c = (x : Int) * c + c by rw [Int.natCast_succ, Int.add_mul, Int.one_mul]]
  exact this
theorem Payable.sub {cs ds : List Int} {s : Int} (h : Payable cs s) (hs : ∀ c ∈ cs, c ∈ ds) : Payable ds s := by
 obtain ⟨k, l, h1, h2, h3⟩ := h
 exact ⟨k, l, h1, fun c hc => hs c (h2 c hc), h3⟩
theorem sum_ge {l : List Int} {b : Int} (h : ∀ c ∈ l, b ≤ c) : (l.length : Int) * b ≤ l.sum := by
 induction l with
 | nil => simp
 | cons c r ih =>
  have := ih fun d hd => h d (List.mem_cons_of_mem _ hd)
  have := h c List.mem_cons_self
  rw [List.sum_cons, List.length_cons, Int.natCast_succ, Int.add_mul, Int.one_mul]
  omega
theorem Pay.ge {cs : List Int} {k : Nat} {s b : Int} (hb : ∀ c ∈ cs, b ≤ c) (h : Pay cs k s) : (k : Int) * b ≤ s := by
 obtain ⟨l, h1, h2, h3⟩ := h
 have := sum_ge (l := l) (b := b) fun c hc => hb c (h2 c hc)
 rw [h1, h3] at this
 exact this
theorem Payable.nonneg {cs : List Int} {s : Int} (hp : ∀ c ∈ cs, 1 ≤ c) (h : Payable cs s) : 0 ≤ s := by
 obtain ⟨k, h⟩ := h
 have := h.ge hp
 omega
noncomputable def Cl (cs : List Int) (m d : Nat) : Prop := ∀ x : Nat, ∃ s, Payable cs s ∧ s % (m : Int) = ((d * x : Nat) : Int) % (m : Int)
theorem Cl.zero {cs : List Int} {m : Nat} : Cl cs m 0 := fun x => ⟨0, .zero, by simp⟩
theorem Cl.coin {cs : List Int} {m : Nat} {c : Int} (h : c ∈ cs) (hc : 0 ≤ c) : Cl cs m c.toNat := fun x => ⟨(x : Int) * c, (Payable.one h).mul x, by
 have : ((c.toNat * x : Nat) : Int) = (x : Int) * c := by
  rw [Int.natCast_mul, Int.toNat_of_nonneg hc, Int.mul_comm]
 rw [this]⟩
theorem Cl.mod {cs : List Int} {m a b : Nat} (hm : 0 < m) (ha : Cl cs m a) (hb : Cl cs m b) : Cl cs m (a % b) := fun x => by
 obtain ⟨s, hs, es⟩ := ha x
 obtain ⟨t, ht, et⟩ := hb ((m - 1) * (a / b) * x)
 refine ⟨s + t, hs.add ht, ?_⟩
 rw [Int.add_emod, es, et, ← Int.add_emod]
 have e : a * x + b * ((m - 1) * (a / b) * x) = a % b * x + m * (b * (a / b) * x) := by
  obtain ⟨n, rfl⟩ : ∃ n, m = n + 1 := ⟨m - 1, by omega⟩
  have h1 : a = a % b + b * (a / b) := (Nat.mod_add_div a b).symm
  generalize hq : a / b = q at *
  generalize hr : a % b = r at *
  subst h1
  simp only [Nat.add_sub_cancel, Nat.add_mul, Nat.mul_add, Nat.one_mul, Nat.mul_one]
  have : b * (n * q * x) = n * (b * q * x) := by
   rw [← Nat.mul_assoc, ← Nat.mul_assoc, ← Nat.mul_assoc, ← Nat.mul_assoc, Nat.mul_comm b n]
  omega
 rw [← Int.natCast_add, e, Int.natCast_add, Int.natCast_mul m, Int.add_mul_emod_self_left]
theorem Cl.gcd {cs : List Int} {m : Nat} (hm : 0 < m) : ∀ {a b : Nat}, Cl cs m a → Cl cs m b → Cl cs m (Nat.gcd a b) := by
 intro a b
 induction a, b using Nat.gcd.induction with
 | H0 n => intro _ h; rw [Nat.gcd_zero_left]; exact h
 | H1 a b ha ih =>
  intro h1 h2
  rw [Nat.gcd_rec]
  exact ih (Cl.mod hm h2 h1) h1
theorem Cl.gcdL {cs : List Int} {m : Nat} (hm : 0 < m) (hp : ∀ c ∈ cs, 0 ≤ c) : ∀ (l : List Int), (∀ c ∈ l, c ∈ cs) → Cl cs m (gcdL l)
 | [], _ => Cl.zero
 | c :: r, h => by
  rw [gcdL_cons]
  exact Cl.gcd hm (Cl.coin (h c List.mem_cons_self) (hp c (h c List.mem_cons_self))) (Cl.gcdL hm hp r fun d hd => h d (List.mem_cons_of_mem _ hd))
theorem every_rest {cs : List Int} {m : Nat} (hm : 0 < m) (hp : ∀ c ∈ cs, 1 ≤ c) (hg : gcdL cs = 1) {r : Nat} (hr : r < m) : ∃ s, Payable cs s ∧ s % (m : Int) = r := by
 obtain ⟨s, h1, h2⟩ := Cl.gcdL (cs := cs) hm (fun c hc => by have := hp c hc; omega) cs (fun _ h => h) r
 rw [hg, Nat.one_mul] at h2
 exact ⟨s, h1, by rw [h2]; exact Int.emod_eq_of_lt (by omega) (by omega)⟩
end PG
namespace PG
noncomputable abbrev Sums := List (Option Int)
noncomputable def relax (v : Sums) (p : Nat) (c : Int) : Sums :=
 match v[p]? with
 | some (some x) =>
  match v[((x + c) % (v.length : Int)).toNat]? with
  | some (some y) => if x + c < y then v.set ((x + c) % (v.length : Int)).toNat (some (x + c)) else v
  | some none => v.set ((x + c) % (v.length : Int)).toNat (some (x + c))
  | none => v
 | _ => v
noncomputable def run (v : Sums) (ops : List (Nat × Int)) : Sums := ops.foldl (fun v o => relax v o.1 o.2) v
theorem relax_length (v : Sums) (p : Nat) (c : Int) : (relax v p c).length = v.length := by
 unfold relax
 split
 ·split
  ·split <;> simp
  ·simp
  ·rfl
 ·rfl
theorem run_length : ∀ (ops : List (Nat × Int)) (v : Sums), (run v ops).length = v.length
 | [], _ => rfl
 | o :: r, v => by
  show (run (relax v o.1 o.2) r).length = _
  rw [run_length r, relax_length]
theorem run_append (v : Sums) (a b : List (Nat × Int)) : run v (a ++ b) = run (run v a) b := by unfold run; rw [List.foldl_append]
theorem run_cons (v : Sums) (o : Nat × Int) (b : List (Nat × Int)) : run v (o :: b) = run (relax v o.1 o.2) b := rfl
noncomputable def LeS (v' v : Sums) : Prop := ∀ (r : Nat) (x : Int), v[r]? = some (some x) → ∃ y, v'[r]? = some (some y) ∧ y ≤ x
theorem LeS.refl (v : Sums) : LeS v v := fun r x h => ⟨x, h, Int.le_refl _⟩
theorem LeS.trans {a b c : Sums} (h : LeS a b) (h' : LeS b c) : LeS a c := fun r x hx => by
 obtain ⟨y, hy, l⟩ := h' r x hx
 obtain ⟨z, hz, l'⟩ := h r y hy
 exact ⟨z, hz, by omega⟩
theorem getElem?_lt {α : Type} {l : List α} {i : Nat} {x : α} (h : l[i]? = some x) : i < l.length := (List.getElem?_eq_some_iff.mp h).1
theorem relax_le (v : Sums) (p : Nat) (c : Int) : LeS (relax v p c) v := by
 intro r x hx
 unfold relax
 split
 ·rename_i z hz
  split
  ·rename_i y hy
   split
   ·rename_i hlt
    by_cases hr : ((z + c) % (v.length : Int)).toNat = r
    ·subst hr
     rw [hx] at hy
     cases hy
     exact ⟨z + c, by rw [List.getElem?_set_self (getElem?_lt hx)], by omega⟩
    ·exact ⟨x, by rw [List.getElem?_set_ne hr]; exact hx, Int.le_refl _⟩
   ·exact ⟨x, hx, Int.le_refl _⟩
  ·rename_i hy
   by_cases hr : ((z + c) % (v.length : Int)).toNat = r
   ·subst hr
    rw [hx] at hy
    cases hy
   ·exact ⟨x, by rw [List.getElem?_set_ne hr]; exact hx, Int.le_refl _⟩
  ·exact ⟨x, hx, Int.le_refl _⟩
 ·exact ⟨x, hx, Int.le_refl _⟩
theorem run_le : ∀ (ops : List (Nat × Int)) (v : Sums), LeS (run v ops) v
 | [], v => LeS.refl v
 | o :: r, v => (run_le r _).trans (relax_le v o.1 o.2)
theorem place_lt {v : Sums} {i : Nat} {o : Option Int} (h : v[i]? = some o) (t : Int) : (t % (v.length : Int)).toNat < v.length := by
 have hl := getElem?_lt h
 have a := Int.emod_lt_of_pos t (show (0 : Int) < v.length by omega)
 have b := Int.emod_nonneg t (show (v.length : Int) ≠ 0 by omega)
 omega
theorem relax_hit {v : Sums} {p : Nat} {c x : Int} (hx : v[p]? = some (some x)) : ∃ y, (relax v p c)[((x + c) % (v.length : Int)).toNat]? = some (some y) ∧ y ≤ x + c := by
 have hp := place_lt hx (x + c)
 unfold relax
 rw [hx]
 dsimp only
 cases e : v[((x + c) % (v.length : Int)).toNat]? with
 | none => exact absurd (List.getElem?_eq_none_iff.mp e) (by omega)
 | some o =>
  cases o with
  | none =>
   dsimp only
   exact ⟨x + c, List.getElem?_set_self hp, Int.le_refl _⟩
  | some y =>
   dsimp only
   split
   ·exact ⟨x + c, List.getElem?_set_self hp, Int.le_refl _⟩
   ·exact ⟨y, e, by omega⟩
noncomputable def Sound (cs : List Int) (v : Sums) : Prop := ∀ (r : Nat) (x : Int), v[r]? = some (some x) → Payable cs x ∧ x % (v.length : Int) = r
theorem relax_sound {cs : List Int} {v : Sums} {c : Int} (h : Sound cs v) (hc : c ∈ cs) (p : Nat) : Sound cs (relax v p c) := by
 intro r x hx
 rw [relax_length]
 unfold relax at hx
 split at hx
 ·rename_i z hz
  have hpl := place_lt hz (z + c)
  have key : ∀ {w : Option Int}, (v.set ((z + c) % (v.length : Int)).toNat (some (z + c)))[r]? = some w → w = some x → Payable cs x ∧ x % (v.length : Int) = r := fun {w} hw e => by
   subst e
   by_cases hr : ((z + c) % (v.length : Int)).toNat = r
   ·subst hr
    rw [List.getElem?_set_self hpl] at hw
    cases hw
    refine ⟨(h p z hz).1.add (Payable.one hc), ?_⟩
    have b := Int.emod_nonneg (z + c) (show (v.length : Int) ≠ 0 by have := getElem?_lt hz; omega)
    omega
   ·rw [List.getElem?_set_ne hr] at hw
    exact h r x hw
  split at hx
  ·split at hx
   ·exact key hx rfl
   ·exact h r x hx
  ·exact key hx rfl
  ·exact h r x hx
 ·exact h r x hx
theorem run_sound {cs : List Int} : ∀ (ops : List (Nat × Int)) {v : Sums}, Sound cs v → (∀ o ∈ ops, o.2 ∈ cs) → Sound cs (run v ops)
 | [], _, h, _ => h
 | o :: r, v, h, hc => run_sound r (relax_sound h (hc o List.mem_cons_self) o.1) fun q hq => hc q (List.mem_cons_of_mem _ hq)
noncomputable def Has (v : Sums) (s : Int) : Prop := ∃ y, v[(s % (v.length : Int)).toNat]? = some (some y) ∧ y ≤ s
theorem Has.le {v' v : Sums} {s : Int} (h : Has v s) (hl : LeS v' v) (e : v'.length = v.length) : Has v' s := by
 obtain ⟨y, hy, l⟩ := h
 obtain ⟨z, hz, l'⟩ := hl _ _ hy
 exact ⟨z, by rw [e]; exact hz, by omega⟩
theorem emod_add_congr {a b c m : Int} (h : a % m = b % m) : (a + c) % m = (b + c) % m := by rw [Int.add_emod, h, ← Int.add_emod]
theorem has_step {cs : List Int} {v : Sums} {s c : Int} {p : Nat} (hs : Sound cs v) (h : Has v s) (hp : (p : Int) = s % (v.length : Int)) : Has (relax v p c) (s + c) := by
 obtain ⟨y, hy, l⟩ := h
 have e : (s % (v.length : Int)).toNat = p := by omega
 rw [e] at hy
 obtain ⟨z, hz, l'⟩ := relax_hit (c := c) hy
 have hm := (hs p y hy).2
 refine ⟨z, ?_, by omega⟩
 rw [relax_length]
 have : (y + c) % (v.length : Int) = (s + c) % (v.length : Int) := emod_add_congr (by rw [hm, hp])
 rw [← this]
 exact hz
structure House (h : List Int) : Prop where
 pos : 0 < h.length
 zero : h[0]? = some 0
 above : ∀ (r : Nat) (x : Int), h[r]? = some x → r ≠ 0 → (h.length : Int) < x
 rest : ∀ (r : Nat) (x : Int), h[r]? = some x → x % (h.length : Int) = r
 closed : ∀ (i j k : Nat) (x y z : Int), h[i]? = some x → h[j]? = some y → h[k]? = some z → (k : Int) = ((i : Int) + j) % (h.length : Int) → z ≤ x + y
end PG
namespace PG
noncomputable def Dl (m c d : Nat) : Prop := ∀ x : Nat, ∃ i : Nat, (i * c) % m = (d * x) % m
theorem Dl.mod {m c a b : Nat} (hm : 0 < m) (ha : Dl m c a) (hb : Dl m c b) : Dl m c (a % b) := fun x => by
 obtain ⟨i, ei⟩ := ha x
 obtain ⟨j, ej⟩ := hb ((m - 1) * (a / b) * x)
 refine ⟨i + j, ?_⟩
 have e : a * x + b * ((m - 1) * (a / b) * x) = a % b * x + m * (b * (a / b) * x) := by
  obtain ⟨n, rfl⟩ : ∃ n, m = n + 1 := ⟨m - 1, by omega⟩
  have h1 : a = a % b + b * (a / b) := (Nat.mod_add_div a b).symm
  generalize hq : a / b = q at *
  generalize hr : a % b = r at *
  subst h1
  simp only [Nat.add_sub_cancel, Nat.add_mul, Nat.mul_add, Nat.one_mul, Nat.mul_one]
  have : b * (n * q * x) = n * (b * q * x) := by
   rw [← Nat.mul_assoc, ← Nat.mul_assoc, ← Nat.mul_assoc, ← Nat.mul_assoc, Nat.mul_comm b n]
  omega
 rw [Nat.add_mul, Nat.add_mod, ei, ej, ← Nat.add_mod, e, Nat.add_mul_mod_self_left]
theorem Dl.gcd {m c : Nat} (hm : 0 < m) : ∀ {a b : Nat}, Dl m c a → Dl m c b → Dl m c (Nat.gcd a b) := by
 intro a b
 induction a, b using Nat.gcd.induction with
 | H0 n => intro _ h; rw [Nat.gcd_zero_left]; exact h
 | H1 a b ha ih =>
  intro h1 h2
  rw [Nat.gcd_rec]
  exact ih (Dl.mod hm h2 h1) h1
theorem ring_place {m c p : Nat} (hm : 0 < m) (hp : p < m) : ∃ i, i < m / Nat.gcd m c ∧ (p % Nat.gcd m c + i * c) % m = p := by
 have hg : 0 < Nat.gcd m c := Nat.gcd_pos_of_pos_left c hm
 have hd : Dl m c (Nat.gcd m c) := Dl.gcd hm (fun x => ⟨0, by simp⟩) (fun x => ⟨x, by rw [Nat.mul_comm]⟩)
 obtain ⟨i, ei⟩ := hd (p / Nat.gcd m c)
 have hL : m = Nat.gcd m c * (m / Nat.gcd m c) := (Nat.mul_div_cancel' (Nat.gcd_dvd_left m c)).symm
 have hcg : c = Nat.gcd m c * (c / Nat.gcd m c) := (Nat.mul_div_cancel' (Nat.gcd_dvd_right m c)).symm
 have hLp : 0 < m / Nat.gcd m c := Nat.div_pos (Nat.le_of_dvd hm (Nat.gcd_dvd_left m c)) hg
 refine ⟨i % (m / Nat.gcd m c), Nat.mod_lt _ hLp, ?_⟩
 have e1 : (i % (m / Nat.gcd m c)) * c % m = (i * c) % m := by
  generalize hLL : m / Nat.gcd m c = L at *
  generalize hqq : c / Nat.gcd m c = q at *
  generalize hgg : Nat.gcd m c = g at *
  have : i * c = i % L * c + m * (q * (i / L)) := by
   have h1 : i = i % L + L * (i / L) := (Nat.mod_add_div i L).symm
   have h2 : L * (i / L) * c = m * (q * (i / L)) := by
    rw [hL, hcg]
    simp only [Nat.mul_assoc, Nat.mul_comm, Nat.mul_left_comm]
   calc i * c = (i % L + L * (i / L)) * c := by rw [← h1]
    _ = i % L * c + L * (i / L) * c := by rw [Nat.add_mul]
    _ = _ := by rw [h2]
  rw [this, Nat.add_mul_mod_self_left]
 rw [Nat.add_mod, e1, ei, ← Nat.add_mod, Nat.mod_add_div, Nat.mod_eq_of_lt hp]
theorem ring_round {m c : Nat} : (m / Nat.gcd m c * c) % m = 0 := by
 have hcg : c = Nat.gcd m c * (c / Nat.gcd m c) := (Nat.mul_div_cancel' (Nat.gcd_dvd_right m c)).symm
 have h : m / Nat.gcd m c * c = m * (c / Nat.gcd m c) := by
  have hL : m / Nat.gcd m c * Nat.gcd m c = m := Nat.div_mul_cancel (Nat.gcd_dvd_left m c)
  generalize c / Nat.gcd m c = q at *
  generalize hg : Nat.gcd m c = g at *
  calc m / g * c = m / g * (g * q) := by rw [← hcg]
   _ = m / g * g * q := by rw [Nat.mul_assoc]
   _ = m * q := by rw [hL]
 rw [h, Nat.mul_mod_right]
noncomputable def ringRow (m c st n : Nat) : List (Nat × Int) := (List.range n).map fun j => ((st + j * c) % m, (c : Int))
noncomputable def ringOps (m c g : Nat) : List (Nat × Int) := (List.range g).flatMap fun st => ringRow m c st (2 * (m / g))
theorem ringRow_succ (m c st n : Nat) : ringRow m c st (n + 1) = ringRow m c st n ++ [((st + n * c) % m, (c : Int))] := by
 unfold ringRow
 rw [List.range_succ, List.map_append]
 rfl
theorem mem_ringRow {m c st n : Nat} {o : Nat × Int} (h : o ∈ ringRow m c st n) : o.2 = (c : Int) := by
 obtain ⟨j, _, rfl⟩ := List.mem_map.mp h
 rfl
theorem ring_has {cs : List Int} {m c : Nat} (hm : 0 < m) (hc : (c : Int) ∈ cs) {v : Sums} (hv : v.length = m) (hs : Sound cs v) {s : Int} (h : Has v s) {st i : Nat} (hi : (((st + i * c) % m : Nat) : Int) = s % (m : Int)) :
  ∀ (n k : Nat), (k = 0 ∨ i + k ≤ n) → Has (run v (ringRow m c st n)) (s + (k : Int) * c)
 | 0, k, hk => by
  have : k = 0 := by omega
  subst this
  simpa [ringRow, run] using h
 | n + 1, k, hk => by
  have ih := ring_has hm hc hv hs h hi n
  rw [ringRow_succ, run_append]
  have hl : (run v (ringRow m c st n)).length = m := by rw [run_length, hv]
  have mono : ∀ {t : Int}, Has (run v (ringRow m c st n)) t → Has (run (run v (ringRow m c st n)) [((st + n * c) % m, (c : Int))]) t := fun h => h.le (run_le _ _) (run_length _ _)
  by_cases hk2 : k = 0 ∨ i + k ≤ n
  ·exact mono (ih k hk2)
  ·obtain ⟨j, rfl⟩ : ∃ j, k = j + 1 := ⟨k - 1, by omega⟩
   have e : i + j = n := by omega
   have h1 := ih j (.inr (by omega))
   have hs1 : Sound cs (run v (ringRow m c st n)) := run_sound _ hs fun o ho => by rw [mem_ringRow ho]; exact hc
   have h2 : Has (relax (run v (ringRow m c st n)) ((st + n * c) % m) (c : Int)) (s + (j : Int) * c + c) := has_step hs1 h1 (by
    rw [hl, ← e, Nat.add_mul, ← Nat.add_assoc]
    rw [Int.add_emod, ← hi, Int.natCast_emod, Int.natCast_emod, Int.natCast_add (st + i * c) (j * c), Int.natCast_mul j c]
    exact Int.add_emod _ _ _)
   have e3 : s + ((j + 1 : Nat) : Int) * c = s + (j : Int) * c + c := by rw [Int.natCast_succ, Int.add_mul, Int.one_mul, Int.add_assoc]
   rw [e3]
   exact h2
theorem ringOps_split {m c g st : Nat} (h : st < g) : ∃ a b, ringOps m c g = a ++ ringRow m c st (2 * (m / g)) ++ b := by
 obtain ⟨a, b, e⟩ := List.append_of_mem (List.mem_range.mpr h)
 refine ⟨a.flatMap fun st => ringRow m c st (2 * (m / g)), b.flatMap fun st => ringRow m c st (2 * (m / g)), ?_⟩
 unfold ringOps
 rw [e, List.flatMap_append, List.flatMap_cons, List.append_assoc]
theorem mem_ringOps {m c g : Nat} {o : Nat × Int} (h : o ∈ ringOps m c g) : o.2 = (c : Int) := by
 obtain ⟨st, _, h⟩ := List.mem_flatMap.mp h
 exact mem_ringRow h
theorem ringOps_has {cs : List Int} {m c : Nat} (hm : 0 < m) (hc : (c : Int) ∈ cs) {v : Sums} (hv : v.length = m) (hs : Sound cs v) {s : Int} (h : Has v s) : ∀ k : Nat, Has (run v (ringOps m c (Nat.gcd m c))) (s + (k : Int) * c) := by
 intro k
 have hlen : (run v (ringOps m c (Nat.gcd m c))).length = m := by rw [run_length, hv]
 induction k using Nat.strongRecOn with
 | ind k ih =>
  by_cases hk : k < m / Nat.gcd m c
  ·have hmI : (m : Int) ≠ 0 := by omega
   have p0 := Int.emod_nonneg s hmI
   have p1 := Int.emod_lt_of_pos s (show (0 : Int) < m by omega)
   obtain ⟨i, hi, e⟩ := ring_place (m := m) (c := c) (p := (s % (m : Int)).toNat) hm (by omega)
   have hg : 0 < Nat.gcd m c := Nat.gcd_pos_of_pos_left c hm
   obtain ⟨a, b, eo⟩ := ringOps_split (m := m) (c := c) (g := Nat.gcd m c) (st := (s % (m : Int)).toNat % Nat.gcd m c) (Nat.mod_lt _ hg)
   have hops : ∀ o ∈ a, o.2 ∈ cs := fun o ho => by
    rw [mem_ringOps (m := m) (c := c) (g := Nat.gcd m c) (by rw [eo]; exact List.mem_append_left _ (List.mem_append_left _ ho))]
    exact hc
   rw [eo, run_append, run_append]
   have h1 : Has (run v a) s := h.le (run_le a v) (run_length a v)
   have s1 : Sound cs (run v a) := run_sound a hs hops
   have h2 := ring_has hm hc (v := run v a) (by rw [run_length, hv]) s1 h1 (st := (s % (m : Int)).toNat % Nat.gcd m c) (i := i) (by rw [e]; omega) (2 * (m / Nat.gcd m c)) k (.inr (by omega))
   exact h2.le (run_le _ _) (run_length _ _)
  ·have hg : 0 < Nat.gcd m c := Nat.gcd_pos_of_pos_left c hm
   have hLp : 0 < m / Nat.gcd m c := Nat.div_pos (Nat.le_of_dvd hm (Nat.gcd_dvd_left m c)) hg
   obtain ⟨y, hy, l⟩ := ih (k - m / Nat.gcd m c) (by omega)
   have hr := ring_round (m := m) (c := c)
   generalize hL : m / Nat.gcd m c = L at *
   obtain ⟨j, rfl⟩ : ∃ j, k = j + L := ⟨k - L, by omega⟩
   rw [Nat.add_sub_cancel] at hy l
   have hz : 0 ≤ (L : Int) * c := Int.mul_nonneg (by omega) (by omega)
   have e2 : s + ((j + L : Nat) : Int) * c = s + (j : Int) * c + (L : Int) * c := by rw [Int.natCast_add, Int.add_mul, Int.add_assoc]
   refine ⟨y, ?_, by omega⟩
   rw [hlen] at hy ⊢
   have e3 : ((L : Int) * c) % (m : Int) = 0 := by
    rw [← Int.natCast_mul, ← Int.natCast_emod, hr]
    rfl
   have e4 : (s + ((j + L : Nat) : Int) * c) % (m : Int) = (s + (j : Int) * c) % (m : Int) := by
    rw [e2, Int.add_emod (s + (j : Int) * c), e3, Int.add_zero, Int.emod_emod_of_dvd _ (Int.dvd_refl _)]
   rw [e4]
   exact hy
noncomputable def withCoin (v : Sums) (c : Int) : Sums := run v (ringOps v.length c.toNat (Nat.gcd v.length c.toNat))
theorem withCoin_length (v : Sums) (c : Int) : (withCoin v c).length = v.length := run_length _ _
end PG
namespace PG
open PySem L2 PyProof.Rows
theorem atInt {ns : List Int} {k : Int} (h0 : 0 ≤ k) (h1 : k < ns.length) : atI (ns.map V.int) k = some (.int (ns.getD k.toNat 0)) := by
 have hlt : k.toNat < ns.length := by omega
 have := atI_nat (xs := ns.map V.int) (j := k.toNat) (v := .int (ns.getD k.toNat 0)) (by simp [hlt, List.getD_eq_getElem?_getD])
 rw [Int.toNat_of_nonneg h0] at this
 exact this
theorem getD_some {ns : List Int} {i : Nat} (h : i < ns.length) : ns[i]? = some (ns.getD i 0) := by
 rw [List.getD_eq_getElem?_getD, List.getElem?_eq_getElem h]
 rfl
end PG
namespace PG
open PySem L2 PyProof.Rows
noncomputable def toV : Option Int → V
 | none => .non
 | some x => .int x
theorem atI_lt {α : Type} {xs : List α} {k : Int} (h0 : 0 ≤ k) (h1 : k < xs.length) : ∃ v, atI xs k = some v ∧ v ∈ xs ∧ xs[k.toNat]? = some v := by
 have hlt : k.toNat < xs.length := by omega
 refine ⟨xs[k.toNat], ?_, List.getElem_mem hlt, List.getElem?_eq_getElem hlt⟩
 have := atI_nat (xs := xs) (j := k.toNat) (List.getElem?_eq_getElem hlt)
 rw [Int.toNat_of_nonneg h0] at this
 exact this
theorem atI_of {α : Type} {xs : List α} {k : Int} {v : α} (h0 : 0 ≤ k) (h : xs[k.toNat]? = some v) : atI xs k = some v := by
 have := atI_nat (xs := xs) (j := k.toNat) h
 rw [Int.toNat_of_nonneg h0] at this
 exact this
theorem ixN_pos {n : Nat} {k : Int} (h0 : 0 ≤ k) (h1 : k < n) : ixN n k = some k.toNat := by unfold ixN; rw [if_pos h0, if_pos h1]
theorem mapV_some (h : List Int) : (h.map some).map toV = h.map V.int := by rw [List.map_map]; rfl
theorem relax_no {v : Sums} {p : Nat} {c : Int} (h : v[p]? = some none) : relax v p c = v := by unfold relax; rw [h]
theorem setV (v : Sums) (i : Nat) (t : Int) : (v.map toV).set i (.int t) = (v.set i (some t)).map toV := by rw [List.map_set]; rfl
end PG
namespace PG
open PySem L2 PyProof.Rows
noncomputable abbrev LI (K : FrK) (H : Hp) (a : Addr) (ns : List Int) : Prop := SqL K H a (ns.map V.int)
noncomputable def sNum : Sp := fun vs H Q _ => match vs with
 | [x] => Kn H x ∧ Q (.bl (isNumV x)) H
 | _ => False
noncomputable def sGcd : Sp := fun vs H Q _ => match vs with
 | [.int a, .int b] => 0 ≤ a ∧ 0 ≤ b ∧ Q (.int (Nat.gcd a.toNat b.toNat)) H
 | _ => False
noncomputable def sLaw (K : FrK) : Sp := fun vs H Q _ => match vs with
 | [.ref a] => ∃ ns, LI K H a ns ∧ ns.length ≤ 63 ∧ ∀ H', Q (.bl true) H'
 | _ => False
theorem rep_int (k : Nat) (c : Int) : (List.replicate k [V.int c]).flatten = (List.replicate k c).map V.int := by
 induction k with
 | zero => rfl
 | succ k ih => rw [List.replicate_succ, List.replicate_succ, List.flatten_cons, List.map_cons, ih]; rfl
theorem set_int (ms : List Int) (i : Nat) (c : Int) : (ms.map V.int).set i (.int c) = (ms.set i c).map V.int := by rw [List.map_set]
theorem range_ints {n : Nat} (f : Nat → Int) : ((List.range n).filter fun _ => true).map (fun i => V.int (f i)) = ((List.range n).map f).map V.int := by rw [rangeT, List.map_map]; rfl
end PG
namespace PySem
noncomputable def KeepE (e : Addr) (od : Option Addr) (c : Value) (h : Heap) : Prop := ∃ o vs, h.get? e = some o ∧ o.dict = od ∧ o.data = .fields vs ∧ vs[2]? = some c
noncomputable def MildF (f : Obj → Obj) : Prop := ∀ o vs, o.data = .fields vs → (f o).dict = o.dict ∧ ∃ ws : Array Value, (f o).data = .fields ws ∧ ws[2]? = vs[2]?
noncomputable def Mild {α : Type} : Sem α → Prop
 | .pure _ => True
 | .raise _ => True
 | .unsupported _ => True
 | .finish _ => True
 | .rule _ k => Mild (k ())
 | .at _ k => Mild (k ())
 | .load _ _ k => ∀ o, Mild (k o)
 | .update _ _ f k => MildF f ∧ Mild (k ())
 | .alloc _ k => ∀ a, Mild (k a)
 | .loadIfAlive _ k => ∀ o, Mild (k o)
 | .point _ k => Mild (k ())
 | .fresh k => ∀ t, Mild (k t)
 | .ask k => ∀ x, Mild (k x)
 | .handled _ k => ∀ x, Mild (k x)
 | .stack k => ∀ x, Mild (k x)
 | .thread k => ∀ x, Mild (k x)
 | _ => False
theorem Mild.bind {α β : Type} {f : α → Sem β} (hf : ∀ a, Mild (f a)) : ∀ {m : Sem α}, Mild m → Mild (m.bind f) := by
 intro m
 induction m with
 | pure a => intro _; exact hf a
 | raise _ => intro _; trivial
 | unsupported _ => intro _; trivial
 | finish _ => intro _; trivial
 | rule _ k ih => intro h; exact ih () h
 | «at» _ k ih => intro h; exact ih () h
 | load _ _ k ih => intro h o; exact ih o (h o)
 | update _ _ f k ih => intro h; exact ⟨h.1, ih () h.2⟩
 | alloc _ k ih => intro h o; exact ih o (h o)
 | loadIfAlive _ k ih => intro h o; exact ih o (h o)
 | point _ k ih => intro h; exact ih () h
 | fresh k ih => intro h o; exact ih o (h o)
 | ask k ih => intro h o; exact ih o (h o)
 | handled _ k ih => intro h o; exact ih o (h o)
 | stack k ih => intro h o; exact ih o (h o)
 | thread k ih => intro h o; exact ih o (h o)
 | _ => intro h; exact h.elim
theorem KeepE.upd {e a : Addr} {od : Option Addr} {c : Value} {h : Heap} {f : Obj → Obj} (k : KeepE e od c h) (hf : MildF f) : KeepE e od c (h.update a f) := by
 obtain ⟨o, vs, h1, h2, h3, h4⟩ := k
 by_cases q : a = e
 ·subst q
  obtain ⟨f1, ws, f2, f3⟩ := hf o vs h3
  exact ⟨f o, ws, Heap.get?_update_self f h1 (Obj.isFreed_of_fields f2), f1.trans h2, f2, f3.trans h4⟩
 ·exact ⟨o, vs, (Heap.get?_update_other h f q).trans h1, h2, h3, h4⟩
theorem Mild.wp {α : Type} {M : Model} {Γ : Ctx} {e : Addr} {od : Option Addr} {c : Value} {Q : α → Pos → Shared → Prop} {E : Value → Pos → Shared → Prop} : ∀ {t : Sem α}, Mild t → ∀ (p : Pos) (s : Shared), KeepE e od c s.heap → Sem.wp M Γ t Q E p s →
  Sem.wp M Γ t (fun a p s => Q a p s ∧ KeepE e od c s.heap) (fun a p s => E a p s ∧ KeepE e od c s.heap) p s := by
 intro t
 induction t with
 | pure a => intro _ p s k w; exact ⟨w, k⟩
 | raise _ => intro _ p s k w; exact ⟨w, k⟩
 | unsupported _ => intro _ p s k w; exact w
 | finish _ => intro _ p s k w; exact w
 | rule _ k ih => intro h p s kk w; exact ih () h p s kk w
 | «at» q k ih => intro h p s kk w; exact ih () h q s kk w
 | load _ _ k ih => intro h p s kk ⟨o, h1, w⟩; exact ⟨o, h1, ih o (h o) p s kk w⟩
 | update a _ f k ih => intro h p s kk ⟨h1, w⟩; exact ⟨h1, ih () h.2 p _ (kk.upd h.1) w⟩
 | alloc o k ih =>
  intro h p s kk w
  refine ih _ (h _) p _ ?_ w
  obtain ⟨o', vs, h1, h2⟩ := kk
  exact ⟨o', vs, Heap.get?_push_of_some _ h1, h2⟩
 | loadIfAlive a k ih => intro h p s kk w; exact ih _ (h _) p s kk w
 | point _ k ih => intro h p s kk w; exact ih () h p s kk w
 | fresh k ih => intro h p s kk w; exact ih _ (h _) p { s with toks := s.toks + 1 } kk w
 | ask k ih => intro h p s kk w; exact ih _ (h _) p s kk w
 | handled _ k ih => intro h p s kk w; exact ih _ (h _) p s kk w
 | stack k ih => intro h p s kk w; exact ih _ (h _) p s kk w
 | thread k ih => intro h p s kk w; exact ih _ (h _) p s kk w
 | _ => intro h; exact h.elim
theorem Mild.any {α : Type} {M : Model} {A : Around} {e : Addr} {od : Option Addr} {c : Value} {Q : α → Shared → Prop} {E : Value → Shared → Prop} {t : Sem α} {s : Shared} (h : Mild t) (k : KeepE e od c s.heap) (w : wpAny M A t Q E s) :
  wpAny M A t (fun a s => Q a s ∧ KeepE e od c s.heap) (fun a s => E a s ∧ KeepE e od c s.heap) s := fun Γ p hΓ => h.wp p s k (w Γ p hΓ)
theorem mild_bind {α β : Type} {m : Sem α} {f : α → Sem β} (h : Mild m) (hf : ∀ a, Mild (f a)) : Mild (m >>= f) := Mild.bind hf h
theorem mild_pure {α : Type} {a : α} : Mild (pure a : Sem α) := trivial
theorem mild_uns {α : Type} {x : String} : Mild (unsupported x : Sem α) := trivial
theorem mild_fieldsOf {v : Value} : Mild (fieldsOf v) := by
 unfold fieldsOf
 split
 ·refine mild_bind (fun o => trivial) fun o => ?_
  split
  ·exact mild_pure
  ·exact mild_uns
 ·exact mild_uns
theorem mild_field {v : Value} {i : Nat} : Mild (field v i) := by
 unfold field
 refine mild_bind mild_fieldsOf fun vs => ?_
 split
 ·exact mild_pure
 ·exact mild_uns
theorem mildF_set {i : Nat} {x : Value} (h : i ≠ 2) : MildF (Obj.mapFields (·.setIfInBounds i x)) := fun o vs hd => by
 refine ⟨?_, _, Obj.data_mapFields hd _, ?_⟩
 ·obtain ⟨c, d, dt, sl⟩ := o
  cases hd
  rfl
 ·rw [Array.getElem?_setIfInBounds_ne h]
theorem mild_setField {v : Value} {i : Nat} {x : Value} (h : i ≠ 2) : Mild (setField v i x) := by
 unfold setField
 split
 ·unfold updateField
  refine mild_bind (fun o => trivial) fun o => ?_
  split
  ·split
   ·exact ⟨mildF_set h, trivial⟩
   ·exact mild_uns
  ·exact mild_uns
 ·exact mild_uns
theorem mild_setFlight {v : Value} {f : Option Addr} : Mild (setFlight v f) := by
 unfold setFlight
 refine mild_bind mild_field fun tb => ?_
 split
 ·exact mild_setField (by decide)
 ·exact mild_pure
theorem mild_stack : Mild stack := fun _ => trivial
theorem mild_newTb {vs : List Value} : Mild (newFields "traceback" vs) := by
 have last : Mild (newObjAsIs (.type "traceback") (.fields vs.toArray)) := fun a => trivial
 show Mild (if vs.toArray.size > sizeLine + 2 then unsupported "record:memory" else newObjAsIs (.type "traceback") (.fields vs.toArray))
 split
 ·exact mild_uns
 ·exact last
theorem mild_newEntry {a b c d e : Value} {l : List Value} : Mild (EntryCells.newEntry a b c d e l) := mild_newTb
theorem mild_entryPlaceOf {f : Addr} {b : Bool} : Mild (entryPlaceOf f b) := by
 unfold entryPlaceOf
 refine mild_bind mild_stack fun acts => ?_
 split
 ·exact mild_pure
 ·exact mild_pure
theorem mild_keptBack {env : Env} {i : Bool} : ∀ l, Mild (keptBack env i l)
 | [] => by
  show Mild (if (env.scope.isGenerator || env.scope.isCoroutine) = true then (pure Value.none : Sem Value) else (do return if (← underTheClaimsCaller) then Value.notImplemented else Value.none))
  by_cases q : (env.scope.isGenerator || env.scope.isCoroutine) = true
  ·rw [if_pos q]; exact mild_pure
  ·rw [if_neg q]; exact mild_bind (mild_bind mild_stack fun _ => mild_pure) fun _ => by split <;> exact mild_pure
 | _ :: _ => mild_pure
theorem mild_behindIsImport {env : Env} {l : List Env} : Mild (behindIsImport env l) := by
 unfold behindIsImport
 split
 ·exact mild_pure
 ·split
  ·exact mild_pure
  ·exact mild_bind mild_field fun _ => mild_pure
theorem mild_readyFrames : ∀ l, Mild (readyFrames l)
 | [] => mild_pure
 | env :: outer => by
  unfold readyFrames
  split
  ·refine mild_bind (fun o => trivial) fun o => ?_
   split
   ·exact mild_pure
   ·refine mild_bind mild_behindIsImport fun _ => mild_bind (mild_keptBack _) fun _ => mild_bind ⟨fun o vs hd => ⟨rfl, vs, hd, rfl⟩, trivial⟩ fun _ => mild_readyFrames outer
  ·exact mild_uns
theorem mild_frameOf {env : Env} : Mild (frameOf env) := by
 unfold frameOf
 refine mild_bind (mild_bind mild_stack fun _ => mild_pure) fun l => mild_bind ?_ fun r => ?_
 ·unfold frameObject
  split
  ·exact mild_pure
  ·exact mild_bind (mild_readyFrames _) fun _ => mild_pure
 ·split
  ·exact mild_pure
  ·exact mild_uns
theorem mild_noteFrame {v : Value} {env : Env} : Mild (noteFrame v env) := by
 unfold noteFrame
 split
 ·refine mild_bind mild_field fun head => ?_
  have rest : ∀ f b, Mild (do setField v 1 (← EntryCells.newEntry head (← frameOf env) .none (rawInt f) .none (← entryPlaceOf f b))) := fun f b =>
   mild_bind mild_frameOf fun _ => mild_bind mild_entryPlaceOf fun _ => mild_bind mild_newEntry fun _ => mild_setField (by decide)
  split
  ·refine mild_bind mild_field fun x => ?_
   split
   ·exact mild_pure
   ·exact mild_bind (mild_setField (by decide)) fun _ => rest _ _
  ·exact rest _ _
 ·exact mild_uns
theorem mild_leaving {v : Value} {env : Env} : Mild (leaving env v) := mild_bind mild_noteFrame fun _ => mild_setFlight
end PySem
namespace L2
open PySem PySem.Spec PyProof.Rows
noncomputable def CX1 (P : Program) (w : World) : CXT := fun outer H s E e s' => ∃ (ea C : Addr) (H' : Hp) (B : Heap) (a0 : Value) (od : Option Addr),
 e = .ref ea ∧ s'.os = s.os ∧ AllBare s'.gens ∧ Heap.FlyingW B outer ea (.ref C) a0 s'.heap ∧ HOk P w H' B ∧ Un (frs outer) [] H H' s.heap s'.heap ∧
 (∀ b o, s.heap.get? b = some o → H b = none → b ∉ frs outer → B.get? b = some o) ∧ (∀ b o, s.heap.get? b = some o → b ∉ frs outer → ∃ o', B.get? b = some o') ∧ KeepE ea od .none s'.heap ∧ E (.ref C) od H'
theorem pass1E {P : Program} {w : World} {X : Cx} : Passes (CX1 P w) X E0 := fun _ _ _ _ _ _ _ ⟨_, _, _, _, _, _, _, _, _, _, _, _, _, _, _, h⟩ => h.elim
theorem hok_hide {P : Program} {w : World} {H : Hp} {h : Heap} {as : List Addr} (x : HOk P w H h) (hn : ∀ b ∈ as, H b = none) : HOk P w H (PySem.W.hideAll h as) := fun a o e => by
 refine (x a o e).stay (fun b u hb q => PySem.W.hideAll_get _ q fun hm => ?_) (fun _ q => q) fun _ _ q => q
 have := hn b hm
 rcases hb with z | z
 ·rw [z, e] at this; cases this
 ·rw [z] at this; cases this
noncomputable def Raises (X : Cx) (E : XK) : Prop := ∀ (pins : List (Addr × Obj)) (σ : St) (H : Hp) (s : Shared) (h' : Heap) (e C : Addr) (vs : List Value), Inv X pins σ H s → Heap.MadeExcOf s.heap h' e (.ref C) vs → E (.ref C) none H → X.xe (.ref e) { s with heap := h' }
section
variable {P : Program} {w : World} {K : FrK} {mg : Str → Option Value} {base : Heap} {N : List Str} {qual : Str} {scope : Scope} {f : Addr} {cd : Value} {A : Around} {outer : List Env} {s : Shared} {H : Hp} {E : XK}
theorem frs_cons {qual : Str} {scope : Scope} {L f : Addr} {cd : Value} {outer : List Env} {b : Addr} (h : b ∈ frs (envOfC qual scope L f cd :: outer)) : b = L ∨ b ∈ frs outer := by
 have : frs (envOfC qual scope L f cd :: outer) = L :: frs outer := rfl
 rw [this] at h
 exact List.mem_cons.mp h
theorem pass1 : Passes (CX1 P w) (cxOf (CX1 P w) P w K mg base N qual scope f cd A outer s H E) E := by
 intro pins σ H1 s1 e s' I hx
 obtain ⟨ea, C, H', B, a0, od, rfl, os, bare, fl, hok, un, hB, thB, hk, hE⟩ := hx
 have b0 : Un (frs outer) [] H H1 s.heap s1.heap := I.base
 have ff := fl.2.2.1
 have nx : ∀ {b : Addr}, b ∉ ([] : List Addr) := fun {b} z => by cases z
 refine wpAny_mono (Mild.any mild_leaving hk (wpAny_leaves_onW (Q := fun _ s2 => ∃ h', Heap.FlyingW B outer ea (.ref C) a0 h' ∧ s'.heap.UpToSlots h' ∧ s2 = { s' with heap := h' }) (L := s.heap.objs.size) (E := fun _ _ => False) I.ok.frames rfl fl fun h' fl' up => ⟨h', fl', up, rfl⟩)) (fun _ s2 hz => ?_) fun _ _ z => z.1.elim
 obtain ⟨⟨h', fl', up, rfl⟩, hk'⟩ := hz
 have out : ∀ b o, s.heap.get? b = some o → b ∉ frs outer → b ∉ frs (envOfC qual scope s.heap.objs.size f cd :: outer) := fun b o e hb z => by
  rcases frs_cons z with q | q
  ·exact absurd (Heap.lt_size e) (by rw [q]; exact Nat.lt_irrefl _)
  ·exact hb q
 have inn : ∀ b, b ∈ frs outer → b ∈ frs (envOfC qual scope s.heap.objs.size f cd :: outer) := fun b hb => List.mem_cons_of_mem _ hb
 have hB' : ∀ b o, s.heap.get? b = some o → H b = none → b ∉ frs outer → B.get? b = some o := fun b o e n hb => hB b o (b0.keep b o e n hb nx) (b0.free b o e n nx) (out b o e hb)
 have thB' : ∀ b o, s.heap.get? b = some o → b ∉ frs outer → ∃ o', B.get? b = some o' := fun b o e hb => by
  obtain ⟨o1, e1⟩ := b0.there b o e nx
  exact thB b o1 e1 (out b o e hb)
 refine ⟨ea, C, H', B, a0, od, rfl, os.trans I.os, bare, fl', hok, ⟨fun b o e n hb _ => fl'.1 b o (hB' b o e n hb), fun b o e n hb _ => ?_, fun b o e n _ => ?_, fun b o e _ => ?_, fun b xs e => un.tups b xs (b0.tups b xs e), fun b o u e => un.frzs b o u (b0.frzs b o u e), fun b ps e => ?_⟩, hB', thB', hk', hE⟩
 ·obtain ⟨sl, e1⟩ := b0.slot b o e n hb nx
  obtain ⟨sl2, e2⟩ := un.slot b _ e1 (b0.free b o e n nx) (inn b hb) nx
  obtain ⟨_, o3, e3, hd⟩ := ff.mem (inn b hb)
  rw [e2] at e3
  cases e3
  obtain ⟨sl3, e4⟩ := up b _ e2 hd
  exact ⟨sl3, e4⟩
 ·by_cases hb : b ∈ frs outer
  ·obtain ⟨sl, e1⟩ := b0.slot b o e n hb nx
   exact un.free b _ e1 (b0.free b o e n nx) nx
  ·exact un.free b o (b0.keep b o e n hb nx) (b0.free b o e n nx) nx
 ·by_cases hb : b ∈ frs outer
  ·obtain ⟨_, o3, e3, hd⟩ := ff.mem (inn b hb)
   obtain ⟨sl3, e4⟩ := up b _ e3 hd
   exact ⟨_, e4⟩
  ·obtain ⟨o1, e1⟩ := thB' b o e hb
   exact ⟨o1, fl'.1 b o1 e1⟩
 ·obtain ⟨m1, e1⟩ := b0.tbls b ps e
  obtain ⟨m2, e2⟩ := un.tbls b _ e1
  exact ⟨m1 ++ m2, by rw [e2, Array.append_assoc]⟩
theorem raises1 : Raises (cxOf (CX1 P w) P w K mg base N qual scope f cd A outer s H E) E := by
 intro pins σ H1 s1 h' ea C vs I hx hE
 have b0 : Un (frs outer) [] H H1 s.heap s1.heap := I.base
 have nx : ∀ {b : Addr}, b ∉ ([] : List Addr) := fun {b} z => by cases z
 have hst : ∀ b ∈ frs (envOfC qual scope s.heap.objs.size f cd :: outer), H1 b = none := I.stkFree
 have ffr : s1.heap.FunFrames (PySem.W.hideAll s1.heap (frs (envOfC qual scope s.heap.objs.size f cd :: outer))) (envOfC qual scope s.heap.objs.size f cd :: outer) :=
  PySem.W.funFrames_hide I.stack fun env he a ha => List.mem_filterMap.mpr ⟨env, he, ha⟩
 have hk : KeepE ea none .none h' := by
  obtain ⟨t, e1, _⟩ := hx.there
  exact ⟨_, _, e1, rfl, rfl, rfl⟩
 refine wpAny_mono (Mild.any (s := { s1 with heap := h' }) mild_leaving hk (wpAny_leaves_madeW (Q := fun _ s2 => ∃ h'' t, Heap.FlyingW (PySem.W.hideAll s1.heap (frs (envOfC qual scope s.heap.objs.size f cd :: outer))) outer ea (.ref C) (.ref t) h'' ∧ h'.UpToSlots h'' ∧ s2 = { s1 with heap := h'' }) (E := fun _ _ => False) (L := s.heap.objs.size) (base := PySem.W.hideAll s1.heap (frs (envOfC qual scope s.heap.objs.size f cd :: outer))) (h := s1.heap) I.ok.frames rfl (fun b o q => PySem.W.of_hideAll _ q) ffr hx fun h'' t fl' _ _ up => ⟨h'', t, fl', up, rfl⟩)) (fun _ s2 hz => ?_) fun _ _ z => z.1.elim
 obtain ⟨⟨h'', t, fl', up, rfl⟩, hk'⟩ := hz
 have out : ∀ b o, s.heap.get? b = some o → b ∉ frs outer → b ∉ frs (envOfC qual scope s.heap.objs.size f cd :: outer) := fun b o e hb z => by
  rcases frs_cons z with q | q
  ·exact absurd (Heap.lt_size e) (by rw [q]; exact Nat.lt_irrefl _)
  ·exact hb q
 have inn : ∀ b, b ∈ frs outer → b ∈ frs (envOfC qual scope s.heap.objs.size f cd :: outer) := fun b hb => List.mem_cons_of_mem _ hb
 have hB' : ∀ b o, s.heap.get? b = some o → H b = none → b ∉ frs outer → (PySem.W.hideAll s1.heap (frs (envOfC qual scope s.heap.objs.size f cd :: outer))).get? b = some o := fun b o e n hb => PySem.W.hideAll_get _ (b0.keep b o e n hb nx) (out b o e hb)
 have thB' : ∀ b o, s.heap.get? b = some o → b ∉ frs outer → ∃ o', (PySem.W.hideAll s1.heap (frs (envOfC qual scope s.heap.objs.size f cd :: outer))).get? b = some o' := fun b o e hb => by
  obtain ⟨o1, e1⟩ := b0.there b o e nx
  exact ⟨o1, PySem.W.hideAll_get _ e1 (out b o e hb)⟩
 have fs : ∀ b o, b ∈ frs outer → s1.heap.get? b = some o → ∃ sl, h''.get? b = some { o with slots := sl } := fun b o hb e1 => by
  obtain ⟨_, o3, e3, hd⟩ := ffr.mem (inn b hb)
  rw [e1] at e3
  cases e3
  exact up b _ (hx.keeps b o e1) hd
 refine ⟨ea, C, H1, _, .ref t, none, rfl, I.os, I.bare, fl', hok_hide I.hok hst, ⟨fun b o e n hb _ => fl'.1 b o (hB' b o e n hb), fun b o e n hb _ => ?_, fun b o e n _ => b0.free b o e n nx, fun b o e _ => ?_, b0.tups, b0.frzs, b0.tbls⟩, hB', thB', hk', hE⟩
 ·obtain ⟨sl, e1⟩ := b0.slot b o e n hb nx
  obtain ⟨sl2, e2⟩ := fs b _ hb e1
  exact ⟨sl2, e2⟩
 ·by_cases hb : b ∈ frs outer
  ·obtain ⟨_, o3, e3, hd⟩ := ffr.mem (inn b hb)
   obtain ⟨sl3, e4⟩ := fs b _ hb e3
   exact ⟨_, e4⟩
  ·obtain ⟨o1, e1⟩ := thB' b o e hb
   exact ⟨o1, fl'.1 b o1 e1⟩
end
noncomputable def ExcC (K : FrK) (C : Addr) : Prop := PySem.W.excIn K C [.type "ValueError", .type "Exception", .type "BaseException", .type "object"] "ValueError.__new__" = true
theorem excObj {K : FrK} {h : Heap} {C : Addr} {bmB : List Value} {newId : String} (X : K.In h) (q : PySem.W.excIn K C bmB newId = true) :
  ∃ bm N nm qn bs hd sn sub ab col dd k0 k1 k2 k3 k5 mN, h.get? C = some (excClassObj nm qn C N bs bm hd sn sub ab col dd k0 k1 k2 k3 k5 newId) ∧ h.Ns N mN ∧ mN "__init__" = none ∧ OwnTail h bmB bm := by
 unfold PySem.W.excIn at q
 split at q
 ·rename_i dd cd sl ho
  split at q
  ·rename_i C' bm k0 k1 k2 k3 n k5 hm hs
   simp only [Bool.and_eq_true, beq_iff_eq, Bool.not_eq_true'] at q
   obtain ⟨⟨⟨⟨⟨rfl, rfl⟩, hdel⟩, ht⟩, hok⟩, hni⟩ := q
   obtain ⟨nm, bs, mro, ns, qn, hd, sn, sub, ab, col, del⟩ := cd
   dsimp only at hm hdel hok hni
   subst hm hdel
   have hsl : sl = #[k0, k1, k2, k3, some (.builtin n), k5] := by
    obtain ⟨l⟩ := sl
    simp only at hs
    rw [hs]
   subst hsl
   exact ⟨bm, ns, nm, qn, bs, hd, sn, sub, ab, col, dd, k0, k1, k2, k3, k5, _, X _ _ ho, .of_isNs (PySem.W.isNs_of_in X hok), PySem.W.nsMap_none_of_in X hok hni, PySem.W.tail_of_in X ht⟩
  ·cases q
 ·cases q
section
variable {X : Cx} {E : XK} {x : Str} {C : Addr} {e : Expr} {es : List Expr} {ta : TA} {np cpos pos : Pos}
noncomputable def tRaise (C : Addr) (E : XK) (ta : TA) : TS := fun D σ H => ta σ H fun vs H1 => vs.length ≤ sizeLine ∧ E (.ref C) none H1
theorem ps_raise (hr : Raises X E) (hc : X.calm = true) (hm : X.mg x = some (.ref C)) (q : ExcC X.K C) (ha : PA X (e :: es) ta) (hg : Gl X x := by rfl) (hdb : (x == ("__debug__" : Str)) = false := by decide)
  (he : starEach (e :: es) X.env = (false, eval e X.env) :: starEach es X.env := by rfl) (hpl : (backTo cpos (starEach es X.env)).any (·.1) = false := by rfl) :
  PS X (.Raise (some (.Call (.Name x np) (e :: es) [] cpos)) none pos) (tRaise C E ta) := by
 intro pins s σ H D I h
 obtain ⟨bm, N, nm, qn, bs, hd, sn, sub, ab, col, dd, k0, k1, k2, k3, k5, mN, hC, hN, hni, T⟩ := excObj I.ok.mod.kin q
 refine wpAny_Raise_call_subT (C := C) (nm := nm) (q := qn) (N := N) (bs := bs) (bm := bm) (hdct := hd) (sn := sn) (sub := sub) (ab := ab) (col := col) (dd := dd) (k0 := k0) (k1 := k1) (k2 := k2) (k3 := k3) (k5 := k5)
  PySem.F.excBase_ValueError (mN := mN) (T.hasType PySem.F.excBase_ValueError.hasBase) (I.ok.hd hc) (by rw [he]; show (false || (backTo cpos (starEach es X.env)).any (·.1)) = false; rw [hpl]; rfl) hni (ld_glob I hg hm ⟨rfl, ?_⟩ hdb)
 have hA := ha cpos pins s σ H _ I h
 rw [he] at hA ⊢
 refine Calls.evalArgs_plain (thn hA fun us s2 ⟨vs, H2, I2, r2, hz, hE⟩ => ?_)
 exact ⟨rfl, by rw [← r2.length]; exact hz, I2.bk _ _ hC, hN.keeps I2.bk, T.keeps I2.bk, fun h' ea hx => hr pins σ H2 s2 h' ea C _ I2 hx hE⟩
end
end L2
namespace L2
open PySem PySem.Spec PyProof.Rows
noncomputable abbrev Cx.marked (X : Cx) (v : Value) : Cx := { X with A := X.A.mark (some v), calm := false }
theorem Cx.Ok.marked {X : Cx} (ok : X.Ok) (v : Value) : (X.marked v).Ok :=
 ⟨ok.mod, ok.kind, ok.glob, ok.blt, ok.above, ok.inj, ok.has, ok.cab, (fun h => by cases h), ok.frames, ok.stk, ok.exf, ok.bs, ok.bsz, ok.noex, ok.exfs, ok.funs, ok.frf⟩
theorem Inv.marked {X : Cx} {pins : List (Addr × Obj)} {σ : St} {H : Hp} {s : Shared} (I : Inv X pins σ H s) (v : Value) : Inv (X.marked v) pins σ H s := ⟨I.ok.marked v, I.os, I.bare, I.base, I.loc, I.cell, I.free, I.freeC, I.pin, I.hok, I.len⟩
theorem Inv.unmarked {X : Cx} {v : Value} {pins : List (Addr × Obj)} {σ : St} {H : Hp} {s : Shared} (ok : X.Ok) (I : Inv (X.marked v) pins σ H s) : Inv X pins σ H s := ⟨ok, I.os, I.bare, I.base, I.loc, I.cell, I.free, I.freeC, I.pin, I.hok, I.len⟩
noncomputable def WX (CX : CXT) (X : Cx) (pins : List (Addr × Obj)) (σ : St) (E : XK) (e : Value) (s' : Shared) : Prop := ∃ H1 s1, Inv X pins σ H1 s1 ∧ CX X.stack H1 s1 E e s'
noncomputable abbrev TEX := St → Hp → VK → XK → Prop
noncomputable abbrev TSX := Ends → XK → St → Hp → Prop
noncomputable def PEX (CX : CXT) (X : Cx) (e : Expr) (t : TEX) : Prop :=
 ∀ (pins : List (Addr × Obj)) (s : Shared) (σ : St) (H : Hp) (Q : VK) (E : XK), Inv X pins σ H s → t σ H Q E → wpAny (model X.prog X.w) X.A (eval e X.env) (EP X pins σ Q) (WX CX X pins σ E) s
noncomputable def PSX (CX : CXT) (X : Cx) (st : List Stmt) (t : TSX) : Prop :=
 ∀ (pins : List (Addr × Obj)) (s : Shared) (σ : St) (H : Hp) (D : Ends) (E : XK), Inv X pins σ H s → t D E σ H → wpAny (model X.prog X.w) X.A (execs st X.env) (SP X pins D) (WX CX X pins σ E) s
section
variable {CX : CXT} {X : Cx} {k : Nat} {f : Addr} {fd : FuncData} {ps : List Str} {sp : Sp} {x : Str} {p pos pos' : Pos} {e : Expr} {es : List Expr} {ta : TA} {t : TEX}
theorem pex_call (F : FnOk X.prog X.w X.K X.mg X.base CX k f fd ps sp) (hr : Room k X.A) (hg : Gl X x) (hm : X.mg x = some (.ref f)) (hk : PySem.W.keepIn X.K (.ref f) = true) (hb : Binds X.K fd ps [])
  (ha : PA X.nox (e :: es) ta) (hdb : (x == ("__debug__" : Str)) = false := by decide) (he : starEach (e :: es) X.env = (false, eval e X.env) :: starEach es X.env := by rfl) (hpl : (backTo pos (starEach es X.env)).any (·.1) = false := by rfl) :
  PEX CX X (.Call (.Name x p) (e :: es) [] pos) (fun σ H Q E => ta σ H fun vs H1 => sp (vs ++ []) H1 Q E) := by
 intro pins s σ H Q E I h
 refine wpAny_Call_Name_kw (ld_glob I hg hm ?_ hdb)
 refine PySem.W.callWith_K (h₀ := X.base) I.ok.mod.kin hk (wpAny_mono (ha pos pins s σ H _ (I.wish _) h) (fun us s1 hq => ?_) fun _ _ z => z.elim) he hpl
 obtain ⟨vs, H1, I1, r, q⟩ := hq
 have I1 := I1.unwish
 refine ⟨I1.kIn, ?_⟩
 have r2 : Vals (vs ++ []) (us ++ []) := r.append .nil
 have hl : (us ++ []).length = ps.length := by rw [← r2.length]; exact F.len _ _ _ _ q
 refine wpAny_call (codeAny_mono (F.run X.A X.stack s1 H1 ⟨us, []⟩ (us ++ []) (vs ++ []) Q E hr I1.env0 (hb s1 us I1.kIn hl) r2 q) fun r s' hq => ?_)
 cases r with
 | error e => exact ⟨H1, s1, I1, hq⟩
 | ok fl =>
  cases fl with
  | ret u => exact I1.after hq
  | next => exact False.elim hq
  | brk => exact False.elim hq
  | cont => exact False.elim hq
theorem psx_expr (h : PEX CX X e t) (hs : swapsWith e none pos.line X.env = pure false := by rfl) : PSX CX X [.Expr e pos] (fun D E σ H => t σ H (fun _ H1 => D.nx σ H1) E) := by
 intro pins s σ H D E I hw
 refine wpAny_execs_cons (thn (wpAny_Expr_any (thn (h pins s σ H (fun _ H1 => D.nx σ H1) E I hw) fun v s1 ⟨x, H1, I1, r1, q1⟩ => (show SP X pins D .next s1 from ⟨σ, H1, I1, q1⟩)) I.quiet hs) fun f s1 q => ?_)
 cases f with
 | next => exact wpAny_execs_nil q
 | ret v => exact q
 | brk => exact q
 | cont => exact q
end
theorem ObjOk.there {P : Program} {w : World} {H : Hp} {h : Heap} {a : Addr} {o : HO} (x : ObjOk P w H h a o) : ∃ ob, h.get? a = some ob := by
 induction o with
 | lst xs => obtain ⟨_, _, _, _, e⟩ := x; exact ⟨_, e⟩
 | tup xs => obtain ⟨_, _, _, ob, e, _⟩ := x; exact ⟨_, e⟩
 | dK kvs => obtain ⟨_, _, _, _, ob, _, _, e, _⟩ := x; exact ⟨_, e⟩
 | dT kvs => obtain ⟨_, _, _, _, ob, _, _, e, _⟩ := x; exact ⟨_, e⟩
 | set S n => obtain ⟨ob, _, _, _, e, _⟩ := x; exact ⟨_, e⟩
 | ins C dx fs => obtain ⟨_, _, _, e, _⟩ := x; exact ⟨_, e⟩
 | own _ => obtain ⟨ob, e⟩ := x; exact ⟨_, e⟩
 | xd fs => obtain ⟨mA, ⟨ob, _, _, e, _⟩, _⟩ := x; exact ⟨_, e⟩
 | rng lo hi => obtain ⟨_, _, _, e⟩ := x; exact ⟨_, e⟩
 | frz ob u ih => obtain ⟨e, _⟩ := x; exact ⟨_, e⟩
 | tbl ps => exact ⟨_, x⟩
 | met f y => exact ⟨_, x⟩
 | ext φ => exact x.2.1
noncomputable def ExcAt (e C : Addr) (h : Heap) : Prop := ∃ o vs, h.get? e = some o ∧ o.cls = .ref C ∧ o.data = .fields vs
section
variable {X : Cx} {pins : List (Addr × Obj)} {σ : St} {H H' : Hp} {s s' : Shared}
theorem Inv.track {e : Addr} {u : HO} {o : Obj} (I : Inv X pins σ H s) (he : s.heap.get? e = some o) (hn : H e = none) (h0 : X.s₀.heap.get? e = none) (hL : e ≠ X.env.locals) (hC : ∀ x c, X.env.cells.lookup x = some c → c ≠ e) (hp : ∀ p ∈ X.pn ++ pins, p.1 ≠ e)
  (ok : ObjOk X.prog X.w (upd H e u) s.heap e u) : Inv X pins σ (upd H e u) s := by
 have ne : ∀ b, H b ≠ none → b ≠ e := fun b h z => h (by rw [z]; exact hn)
 refine ⟨I.ok, I.os, I.bare, ⟨I.base.keep, I.base.slot, fun b ob q n hx => ?_, I.base.there, fun b xs q => ?_, fun b ob v q => ?_, fun b ps q => ?_⟩, I.loc, I.cell, ?_, fun x c q => ?_, fun p hp' => ?_, fun a ob q => ?_, I.len⟩
 ·rw [upd_ne (by rintro rfl; rw [h0] at q; cases q)]
  exact I.base.free b ob q n hx
 ·have := I.base.tups b xs q
  rw [upd_ne (ne b (by rw [this]; simp))]
  exact this
 ·have := I.base.frzs b ob v q
  rw [upd_ne (ne b (by rw [this]; simp))]
  exact this
 ·obtain ⟨m, this⟩ := I.base.tbls b ps q
  refine ⟨m, ?_⟩
  rw [upd_ne (ne b (by rw [this]; simp))]
  exact this
 ·rw [upd_ne (Ne.symm hL)]
  exact I.free
 ·rw [upd_ne (hC x c q)]
  exact I.freeC x c q
 ·obtain ⟨a1, a2, a3⟩ := I.pin p hp'
  refine ⟨a1, ?_, a3⟩
  rw [upd_ne (hp p hp')]
  exact a2
 ·by_cases ha : a = e
  ·subst ha
   rw [upd_same] at q
   cases q
   exact ok
  ·rw [upd_ne ha] at q
   refine (I.hok a ob q).stay (fun _ _ _ z => z) (fun b z => ?_) fun b xs z => ?_
   ·rw [upd_ne (ne b (by rw [z]; simp))]; exact z
   ·rw [upd_ne (ne b (by rw [z]; simp))]; exact z
theorem Inv.caught {B : Heap} {h' : Heap} (I : Inv X pins σ H s) (hst : X.stack = X.env :: X.outer) (os : s'.os = s.os) (bare : AllBare s'.gens) (hok : HOk X.prog X.w H' B) (un : Un (frs X.stack) [] H H' s.heap s'.heap)
  (hB : ∀ b o, s.heap.get? b = some o → H b = none → b ∉ frs X.stack → B.get? b = some o) (thB : ∀ b o, s.heap.get? b = some o → b ∉ frs X.stack → ∃ o', B.get? b = some o') (ff : s'.heap.FunFrames B X.stack) (st : B.StaysIn h') (up : s'.heap.UpToSlots h') :
  Inv X pins σ H' { s' with heap := h' } := by
 have nx : ∀ {b : Addr}, b ∉ ([] : List Addr) := fun {b} z => by cases z
 have fs : ∀ b o, b ∈ frs X.stack → s'.heap.get? b = some o → ∃ sl, h'.get? b = some { o with slots := sl } := fun b o hb e1 => by
  obtain ⟨_, o3, e3, hd⟩ := ff.mem hb
  rw [e1] at e3
  cases e3
  exact up b _ e1 hd
 refine I.call' (s' := { s' with heap := h' }) (ch := []) os ⟨fun b o e n hb _ => st b o (hB b o e n hb), fun b o e n hb _ => ?_, fun b o e n hx => un.free b o e n hx, fun b o e _ => ?_, un.tups, un.frzs, un.tbls⟩ (hok.kept st) bare (fun b z => by cases z)
 ·obtain ⟨sl, e1⟩ := un.slot b o e n hb nx
  obtain ⟨sl2, e2⟩ := fs b _ hb e1
  exact ⟨sl2, e2⟩
 ·by_cases hb : b ∈ frs X.stack
  ·obtain ⟨_, o3, e3, hd⟩ := ff.mem hb
   obtain ⟨sl3, e4⟩ := fs b _ hb e3
   exact ⟨_, e4⟩
  ·obtain ⟨o1, e1⟩ := thB b o e hb
   exact ⟨o1, st b o1 e1⟩
theorem unbind_ok {M : Model} {A : Around} {E : Value → Shared → Prop} {i : Nat} {x : Str} {pos : Pos} {Q : Unit → Shared → Prop} (I : Inv X pins σ H s) (hN : X.N.Nodup) (hi : X.N[i]? = some x) (hk : X.env.scope.names.lookup x = some .local)
  (h : ∀ s', Inv X pins (σ.set i none) H s' → Q () s') : wpAny M A (do bindName X.env x .none; unbindBehindTheSuite X.env x pos) Q E s := by
 obtain ⟨m, hn, hl⟩ := id I.loc
 have hcls : (X.env.scope.kind == .class || (X.env.scope.kind == .module && X.env.locals != X.env.globals)) = false := by rw [I.ok.kind]; rfl
 have hiσ : i < σ.length := by rw [I.len]; exact (List.getElem?_eq_some_iff.mp hi).1
 have cne := I.cne
 refine wpAny_nameGoes_keeps hk hn hcls fun h' v hn' hs => ?_
 obtain ⟨oL, _, _, hoL, _⟩ := id hn
 refine h _ ⟨I.ok, I.os, I.bare, ⟨fun b o e n hb hx => ?_, fun b o e n hb hx => ?_, I.base.free, fun b o e hx => ?_, I.base.tups, I.base.frzs, I.base.tbls⟩, ⟨_, hn', fun j y v' e1 e2 e3 => ?_⟩, fun y c e => ?_, I.free, I.freeC, fun p hp => ?_, fun b ob e => ?_, by simpa using I.len⟩
 ·exact (hs.2 b (Nat.ne_of_lt (Nat.lt_of_lt_of_le (Heap.lt_size e) I.ok.above))).trans (I.base.keep b o e n hb hx)
 ·obtain ⟨sl, e1⟩ := I.base.slot b o e n hb hx
  exact ⟨sl, (hs.2 b (Nat.ne_of_lt (Nat.lt_of_lt_of_le (Heap.lt_size e) I.ok.above))).trans e1⟩
 ·obtain ⟨o', e1⟩ := I.base.there b o e hx
  exact ⟨o', (hs.2 b (Nat.ne_of_lt (Nat.lt_of_lt_of_le (Heap.lt_size e) I.ok.above))).trans e1⟩
 ·by_cases hj : j = i
  ·subst hj
   rw [List.getElem?_set_self hiσ] at e2
   cases e2
  ·rw [List.getElem?_set_ne (Ne.symm hj)] at e2
   obtain ⟨u', r', q⟩ := hl j y v' e1 e2 e3
   refine ⟨u', r', ?_⟩
   rcases q with ⟨k, e⟩ | ⟨k, c, e, z⟩
   ·refine .inl ⟨k, ?_⟩
    have : y ≠ x := fun e => hj (nodup_ix hN e1 (e ▸ hi))
    simp [this, e]
   ·exact .inr ⟨k, c, e, z.sameBut hs (cne y c e)⟩
 ·obtain ⟨w', z⟩ := I.cell y c e
  exact ⟨w', z.sameBut hs (cne y c e)⟩
 ·obtain ⟨e, n, ne, nf, d⟩ := I.pin p hp
  exact ⟨(hs.2 p.1 ne).trans e, n, ne, nf, d⟩
 ·refine (I.hok b ob e).stay (fun c w' hc q => (hs.2 c ?_).trans q) (fun _ q => q) fun _ _ q => q
  rintro rfl
  rcases hc with rfl | hc
  ·rw [I.free] at e; cases e
  ·rw [I.free] at hc; cases hc
end
end L2
namespace PySem.W
open PySem PySem.Spec PySem.Calls PyProof.Rows Builtin Builtin.ObjectAttr Builtin.Getset_descriptor
structure ErrC (K : Frag) (C : Addr) : Prop where
 ga : findIn K (.ref C) "__getattribute__" = some (some (.builtin "BaseException.__getattribute__"))
 gt : findIn K (.ref C) "__getattr__" = some none
 cl : findIn K (.ref C) "__class__" = some (some (.builtin "object.__class__"))
 be : mroIn K C (.type "BaseException") = some true
 ob : mroIn K C (.type "object") = some true
 it : clsIn K C ≠ none
section
variable {prog : Program} {w : World} {A : Around} {E : Value → Shared → Prop} {s : Shared} {K : Frag} {x C : Addr} {R : Result → Shared → Prop}
theorem exc_class_get {tp : Value} (X : K.In s.heap) (L0 : Looks (model prog w) s.heap (typeOf (.ref x)) (.ref C)) (hm : mroIn K C (.type "object") = some true)
  (h : R (.ok (.ret (.ref C))) s) : codeAny (model prog w) A (.call (.builtin "getset_descriptor.__get__") ⟨[.builtin "object.__class__", .ref x, tp], []⟩) R s := by
 obtain ⟨hh, g, dr, t, os⟩ := s
 have L1 := looks_mroIn (M := model prog w) X hm
 refine codeAny_call_builtin KF.slot_gs.plain KF.entry_gs (KF.slot_gs.check _ _ _ _ _ _ _ _ KF.type_class (KF.args_gs _ _ _) ?_)
 unfold Builtin.«getset_descriptor.__get__» descrGet
 rw [dga_obj]
 refine wpAny_bind (wpAny_pure ?_)
 unfold descrGetter descrCheckInstance descrNameAndClass isInstance
 simp only [KF.owner_class]
 repeat lk
 refine ⟨Code.quiet_builtin _ (by decide +kernel), codeAny_builtin KF.entry_class ?_⟩
 unfold Builtin.«object.__class__» shownTypeOf
 repeat lk
 exact h
theorem exc_check {M : Model} {nameV : Value} {Q : Unit → Shared → Prop} (X : K.In s.heap) (L0 : Looks M s.heap (typeOf (.ref x)) (.ref C)) (hm : mroIn K C (.type "BaseException") = some true) (hq : Q () s) :
  wpAny M A (checkBuiltinCall "BaseException.__getattribute__" ⟨[.ref x, nameV], []⟩) Q E s := by
 obtain ⟨hh, g, dr, t, os⟩ := s
 have hk : builtinKind "BaseException.__getattribute__" = some .slot := by decide +kernel
 have hsplit : splitId "BaseException.__getattribute__" = some ("BaseException", "__getattribute__") := by decide +kernel
 have L1 := looks_mroIn (M := M) X hm
 have ha := F.args_bexc_ga (.ref x) nameV
 simp only [checkBuiltinCall, hk, hsplit]
 refine wpAny_bind ?_
 unfold isInstance
 repeat (first | lk | wp_step)
 exact hq
theorem exc_entry {tk : Tok} {Q : Fin → Shared → Prop} (X : K.In s.heap) (L0 : Looks (model prog w) s.heap (typeOf (.ref x)) (.ref C)) (c : ErrC K C) (hq : Q (.done (.ret (.ref C))) s) :
  wpAny (model prog w) A (Builtin.«object.__getattribute__» ⟨[.ref x, .str "__class__" tk], []⟩) Q E s := by
 obtain ⟨hh, g, dr, t, os⟩ := s
 have L1 := looks_findIn (M := model prog w) X c.cl
 have hT5 : (⟨hh, g, dr, t, os⟩ : Shared).TypeIs (.builtin "object.__class__") "getset_descriptor" := F.typeOf_object_class
 have f5 := F.typeOf_object_class
 have f6 := F.slot_gs_get.lookup
 have f7 := F.slot_gs_set.lookup
 repeat (any_goals (first | assumption | with_reducible refine L0.at ?_ | with_reducible refine L1.at ?_ | wp_step))
 refine exc_class_get X L0 c.ob ?_
 repeat (any_goals (first | assumption | wp_step))
theorem exc_call {tk : Tok} (X : K.In s.heap) (L0 : Looks (model prog w) s.heap (typeOf (.ref x)) (.ref C)) (c : ErrC K C) (hq : R (.ok (.ret (.ref C))) s) :
  codeAny (model prog w) A (.call (.builtin "BaseException.__getattribute__") ⟨[.ref x, .str "__class__" tk], []⟩) R s :=
 codeAny_call_builtin F.attrBase_ValueError.ga.plain F.entry_bexc_ga (exc_check X L0 c.be (exc_entry X L0 c hq))
theorem exc_attr {Q : Option Value → Shared → Prop} (X : K.In s.heap) (L0 : Looks (model prog w) s.heap (typeOf (.ref x)) (.ref C)) (c : ErrC K C) (hq : Q (some (.ref C)) { s with toks := s.toks + 1 }) :
  wpAny (model prog w) A (getAttr? (.ref x) "__class__") Q E s := by
 obtain ⟨hh, g, dr, t, os⟩ := s
 have L1 := looks_findIn (M := model prog w) X c.ga
 have L2 := looks_findIn (M := model prog w) X c.gt
 have f3 := F.attrBase_ValueError.ga.bind (.ref x)
 have hx2 : (Value.builtin "BaseException.__getattribute__" == Value.builtin "object.__getattribute__") = false := by decide +kernel
 have hx1 : (onTheHeap (Value.ref C) && Value.builtin "BaseException.__getattribute__" == Value.builtin "object.__getattribute__") = false := by rw [hx2]; rfl
 unfold getAttr? getAttrBy? getAttrBy
 repeat (any_goals (first | assumption | with_reducible refine L0.at ?_ | with_reducible refine L1.at ?_ | with_reducible refine L2.at ?_ | wp_step))
 refine exc_call (s := ⟨hh, g, dr, t + 1, os⟩) X L0 c ?_
 repeat (any_goals (first | assumption | wp_step))
theorem kitx_exc (c : ErrC K C) : KitX K (.ref x) (.ref C) (L2.ExcAt x C) where
 ty := fun M h _ p => by
  obtain ⟨o, vs, h1, h2, _⟩ := p
  exact h2 ▸ (Looks.ld h1).andThen .now
 it := fun M h X _ => by
  intro A' Q' E' s' k q
  cases hc : clsIn K C with
  | none => exact absurd hc c.it
  | some cd =>
   unfold clsIn at hc
   split at hc
   ·rename_i c' d' cd' sl' ho
    unfold isType loadHead
    exact wpAny_bind (wpAny_loadPart (k _ _ (X _ _ ho)) (wpAny_pure q))
   ·cases hc
 ne := fun h tp dd its n sl X htp => by
  refine Bool.eq_false_iff.mpr fun q => ?_
  have e : C = tp := Value.ref.inj (beq_iff_eq.mp q)
  subst e
  cases hc : clsIn K C with
  | none => exact absurd hc c.it
  | some cd =>
   unfold clsIn at hc
   split at hc
   ·rename_i c' d' cd' sl' ho
    have z := (X _ _ ho).symm.trans htp
    cases z
   ·cases hc
 ca := fun {prog w A E Q s} X p k => by
  obtain ⟨o, vs, h1, h2, _⟩ := p
  exact exc_attr X (h2 ▸ (Looks.ld h1).andThen .now) c k
end
end PySem.W
namespace L2
open PySem PySem.Spec PyProof.Rows
section
variable {X : Cx}
noncomputable def clsV : V → Value
 | .ty n => .type n
 | .ref a => .ref a
 | _ => .none
theorem vals_cls : ∀ {ys : List V} {us : List Value}, Vals ys us → (∀ y ∈ ys, y = .ref (match y with | .ref a => a | _ => 0)) → us = ys.map clsV
 | [], _, .nil, _ => rfl
 | y :: ys, _, .cons r t, h => by
  rw [List.map_cons, ← vals_cls t fun z hz => h z (List.mem_cons_of_mem _ hz)]
  have := h y List.mem_cons_self
  rw [this] at r ⊢
  cases r
  rfl
end
end L2
namespace L2
open PySem PySem.Spec PyProof.Rows
section
variable {P : Program} {w : World} {K : FrK} {mg : Str → Option Value} {base : Heap} {x qual : Str} {st : Stmt} {f : Addr} {fd : FuncData} {N ps : List Str} {k : Nat} {sp : Sp}
theorem Fun.okN (F : Fun K x qual st f fd) (S : FnScope N ps (defScope st)) (len : ∀ vs H Q E, sp vs H Q E → vs.length = ps.length)
  (hbody : ∀ (cdv : Value) (A : Around) (outer : List Env) (s : Shared) (H : Hp) (vs : List V) (Q : VK) (E : XK), Room k (A.deeper (envOfC qual (defScope st) s.heap.objs.size f cdv)) → sp vs H Q E →
   ∃ t, QSs (cxOf (CX1 P w) P w K mg base N qual (defScope st) f cdv A outer s H E).nox (defBody st) t ∧ t { nx := fun _ H' => Q .non H', rt := Q } (start N vs) H) : FnOk P w K mg base (CX1 P w) (k + 1) f fd ps sp := by
 obtain ⟨oc, od, kV, doc, pm, an, cdv, ct, osl, rfl, lk, hcd⟩ := F.ex
 refine fn_of lk hcd S len fun A outer s H vs Q E hr hsp => ?_
 obtain ⟨t, h, q⟩ := hbody cdv A outer s H vs Q E hr hsp
 exact ⟨t, h.run.nox, q⟩
theorem Fun.okX (F : Fun K x qual st f fd) (S : FnScope N ps (defScope st)) (len : ∀ vs H Q E, sp vs H Q E → vs.length = ps.length)
  (hbody : ∀ (cdv : Value) (A : Around) (outer : List Env) (s : Shared) (H : Hp) (vs : List V) (Q : VK) (E : XK), Room k (A.deeper (envOfC qual (defScope st) s.heap.objs.size f cdv)) → sp vs H Q E →
   ∃ t, QSs (cxOf (CX1 P w) P w K mg base N qual (defScope st) f cdv A outer s H E) (defBody st) t ∧ t { nx := fun _ H' => Q .non H', rt := Q } (start N vs) H) : FnOk P w K mg base (CX1 P w) (k + 1) f fd ps sp := by
 obtain ⟨oc, od, kV, doc, pm, an, cdv, ct, osl, rfl, lk, hcd⟩ := F.ex
 refine fn_of lk hcd S len fun A outer s H vs Q E hr hsp => ?_
 obtain ⟨t, h, q⟩ := hbody cdv A outer s H vs Q E hr hsp
 exact ⟨t, h.run, q⟩
end
structure QEX (X : Cx) (e : Expr) (t : TEX) : Prop where
 run : PEX (CX1 X.prog X.w) X e t
structure QSX (X : Cx) (st : List Stmt) (t : TSX) : Prop where
 run : PSX (CX1 X.prog X.w) X st t
section
variable {X : Cx} {e : Expr} {es : List Expr} {t : TA} {p pos np cpos hpos : Pos} {x n : Str} {ps : List Str} {k : Nat} {sp : Sp}
theorem q_raise {E : XK} {C : Addr} (hr : Raises X E) (hc : X.calm = true) (hm : X.mg x = some (.ref C)) (q : ExcC X.K C) (ha : QA X (e :: es) t) (hg : Gl X x := by rfl) (hdb : (x == ("__debug__" : Str)) = false := by decide)
  (hs : (e :: es).all notStar = true := by rfl) : QS X (.Raise (some (.Call (.Name x np) (e :: es) [] cpos)) none pos) (tRaise C E t) := ⟨ps_raise hr hc hm q ha.run hg hdb (se (seHd hs).1) (seAny (seHd hs).2)⟩
theorem q_xg (g : PG.G X.prog X.w X.K X.mg X.base (CX1 X.prog X.w) x ps k sp) (hr : Room k X.A) (ha : QA X.nox (e :: es) t) (hg : Gl X x := by rfl) (hdb : (x == ("__debug__" : Str)) = false := by decide) (hs : (e :: es).all notStar = true := by rfl) :
  QEX X (.Call (.Name x p) (e :: es) [] pos) (fun σ H Q E => t σ H fun vs H1 => sp (vs ++ []) H1 Q E) := by
 obtain ⟨f, fd, hm, hk, hb, F⟩ := g.ex
 exact ⟨pex_call F hr hg hm hk hb ha.run hdb (se (seHd hs).1) (seAny (seHd hs).2)⟩
theorem q_xexpr {t : TEX} (h : QEX X e t) (hs : swapsWith e none pos.line X.env = pure false := by rfl) : QSX X [.Expr e pos] (fun D E σ H => t σ H (fun _ H1 => D.nx σ H1) E) := ⟨psx_expr h.run hs⟩
end
end L2
namespace L2
open PySem PySem.Spec PyProof.Rows
section
variable {X : Cx} {pins : List (Addr × Obj)} {σ : St} {H H' : Hp} {s s' : Shared}
theorem Inv.trackT {e : Addr} {u : HO} {o : Obj} (I : Inv X pins σ H s) (he : s.heap.get? e = some o) (hn : H e = none) (h0 : X.s₀.heap.get? e = none) (hL : e ≠ X.env.locals) (hC : ∀ x c, X.env.cells.lookup x = some c → c ≠ e) (hp : ∀ p ∈ X.pn ++ pins, p.1 ≠ e)
  (ok : ObjOk X.prog X.w (upd H e u) s.heap e u) : Inv X pins σ (upd H e u) s := by
 have ne : ∀ b, H b ≠ none → b ≠ e := fun b h z => h (by rw [z]; exact hn)
 refine ⟨I.ok, I.os, I.bare, ⟨I.base.keep, I.base.slot, fun b ob q n hx => ?_, I.base.there, fun b xs q => ?_, fun b ob v q => ?_, fun b ps q => ?_⟩, I.loc, I.cell, ?_, fun x c q => ?_, fun p hp' => ?_, fun a ob q => ?_, I.len⟩
 ·rw [upd_ne (by rintro rfl; rw [h0] at q; cases q)]
  exact I.base.free b ob q n hx
 ·have := I.base.tups b xs q
  rw [upd_ne (ne b (by rw [this]; simp))]
  exact this
 ·have := I.base.frzs b ob v q
  rw [upd_ne (ne b (by rw [this]; simp))]
  exact this
 ·obtain ⟨m, this⟩ := I.base.tbls b ps q
  refine ⟨m, ?_⟩
  rw [upd_ne (ne b (by rw [this]; simp))]
  exact this
 ·rw [upd_ne (Ne.symm hL)]
  exact I.free
 ·rw [upd_ne (hC x c q)]
  exact I.freeC x c q
 ·obtain ⟨a1, a2, a3⟩ := I.pin p hp'
  refine ⟨a1, ?_, a3⟩
  rw [upd_ne (hp p hp')]
  exact a2
 ·by_cases ha : a = e
  ·subst ha
   rw [upd_same] at q
   cases q
   exact ok
  ·rw [upd_ne ha] at q
   refine (I.hok a ob q).stay (fun _ _ _ z => z) (fun b z => ?_) fun b xs z => ?_
   ·rw [upd_ne (ne b (by rw [z]; simp))]; exact z
   ·rw [upd_ne (ne b (by rw [z]; simp))]; exact z
theorem Inv.turnedL {t' : Nat} {h' : Heap} {ch : List Addr} (I : Inv X pins σ H s) (k : ∀ b o, b ∉ ch → s.heap.get? b = some o → h'.get? b = some o) (hf : ∀ b ∈ ch, FpOk X pins H b) : Inv X pins σ H { s with heap := h', toks := t' } := by
 have nit : ∀ b u, H b = some u → b ∉ ch := fun b u e z => by rw [(hf b z).1] at e; cases e
 refine I.step (g' := s.gens) (d' := s.drawn) (ch := ch) (fun b hb => ⟨(hf b hb).2.2.2.1, (hf b hb).2.1, (hf b hb).2.2.2.2.1, (hf b hb).2.2.2.2.2⟩) (fun b o _ _ hc e _ => k b o hc e) (fun b o _ _ hc e _ => ⟨o.slots, k b o hc e⟩) (fun _ _ _ _ n => n)
  (fun b o hc e => ⟨o, k b o hc e⟩) (fun _ _ e => e) (fun _ _ _ e => e) (fun b ps e => ⟨#[], by rw [e]; simp⟩) (fun m hm => ?_) (fun b u e => ?_) I.bare
 ·obtain ⟨o, es, ep, ho, r⟩ := hm
  exact ⟨o, es, ep, k _ o (fun z => (hf _ z).2.1 rfl) ho, r⟩
 ·refine (I.hok b u e).stay (fun c v hc q => k c v ?_ q) (fun _ q => q) fun _ _ q => q
  rcases hc with z | z
  ·rw [z]; exact nit b u e
  ·exact nit c _ z
end
noncomputable def Itz (K : FrK) (a b : Addr) : It where
 go := fun i H => ∃ xs ys x y, SqL K H a xs ∧ SqL K H b ys ∧ xs[i]? = some x ∧ ys[i]? = some y
 yld := fun i H v H' => ∃ T x y, v = .ref T ∧ H T = none ∧ H' = upd H T (.tup [x, y]) ∧ (∀ xs, SqL K H a xs → xs[i]? = some x) ∧ ∀ ys, SqL K H b ys → ys[i]? = some y
 stop := fun i H => ∃ xs ys, SqL K H a xs ∧ SqL K H b ys ∧ (xs.length ≤ i ∨ ys.length ≤ i)
theorem turn_zip {P : Program} {w : World} {K : FrK} {elts : List Expr} {x1 : Nat} {tpos : Pos} (l1 l2 z TI TO i1 i2 : Addr) (D : ZipApart z TI TO i1 i2 l1 l2) : Turn P w K (.Tuple elts x1 tpos) (Itz K l1 l2) [z, TI, TO, i1, i2] z
  (fun i h => IsZip h z TI TO .none ∧ IsPair h TI (.ref i1) (.ref i2) ∧ (∃ a b, IsPair h TO a b) ∧ h.IsListIter i1 l1 i ∧ h.IsListIter i2 l2 i) where
 mem := by simp
 obj := fun i h ⟨hz, hTI, ⟨a, b, hTO⟩, ⟨o1, e1, c1, d1⟩, ⟨o2, e2, c2, d2⟩⟩ b hb => by
  simp only [List.mem_cons, List.not_mem_nil, or_false] at hb
  rcases hb with rfl | rfl | rfl | rfl | rfl
  ·exact ⟨_, hz, fun v q => by cases q⟩
  ·exact ⟨_, hTI, fun v q => by cases q⟩
  ·exact ⟨_, hTO, fun v q => by cases q⟩
  ·exact ⟨o1, e1, fun v q => by rw [d1] at q; cases q⟩
  ·exact ⟨o2, e2, fun v q => by rw [d2] at q; cases q⟩
 keep := fun i h h' ⟨hz, hTI, ⟨a, b, hTO⟩, h1, h2⟩ k => ⟨k z (by simp) _ hz, k TI (by simp) _ hTI, ⟨a, b, k TO (by simp) _ hTO⟩, h1.at fun o e => k i1 (by simp) o e, h2.at fun o e => k i2 (by simp) o e⟩
 item := by
  intro X hP hw hK hc i pins s σ H E I hf st hg
  subst hP hw hK
  obtain ⟨hz, hTI, ⟨a, b, hTO⟩, h1, h2⟩ := st
  obtain ⟨xs, ys, x, y, hx, hy, ex, ey⟩ := hg
  obtain ⟨it1, r1, p1, _⟩ := I.list hx
  obtain ⟨it2, r2, p2, _⟩ := I.list hy
  obtain ⟨u1, hu1, ru1⟩ := r1.get ex
  obtain ⟨u2, hu2, ru2⟩ := r2.get ey
  refine wpAny_pyNext_zip_item D hz hTI hTO h1 h2 p1.isList p2.isList (x := u1) (y := u2) (by simpa using hu1) (by simpa using hu2) fun h' a1 a2 a3 a4 a5 a6 hk => ?_
  refine ⟨_, rfl, wpAny_letOwnedTupleGo_zip (s := { s with heap := h' }) a1 fun h'' b1 hs => ?_⟩
  have zT : s.heap.objs.size ≠ z := Nat.ne_of_gt (Heap.lt_size hz)
  have k2 : ∀ c o, c ∉ [z, TO, i1, i2] → s.heap.get? c = some o → h''.get? c = some o := fun c o hc e => by
   simp only [List.mem_cons, List.not_mem_nil, or_false, not_or] at hc
   exact hs.extBut _ _ hc.1 (hk c o hc.1 hc.2.1 hc.2.2.1 hc.2.2.2 e)
  have b2 : IsPair h'' TO u1 u2 := hs.extBut _ _ D.TOz a2
  have b3 := a3.extBut hs.extBut D.i1z
  have b4 := a4.extBut hs.extBut D.i2z
  have b5 : IsPair h'' s.heap.objs.size u1 u2 := hs.extBut _ _ zT a5
  have sub : ∀ c ∈ [z, TO, i1, i2], c ∈ [z, TI, TO, i1, i2] := fun c hc => by
   simp only [List.mem_cons, List.not_mem_nil, or_false] at hc ⊢
   rcases hc with rfl | rfl | rfl | rfl <;> simp
  have I1 : Inv X pins σ H { s with heap := h'' } := I.turnedL (t' := s.toks) k2 (fun c hc => hf c (sub c hc))
  have hT0 : H s.heap.objs.size = none := I.hok.fresh (Nat.le_refl _)
  have fT := I.fpOk (H' := H) (b := s.heap.objs.size) (Nat.le_refl _) hT0
  have I2 := I1.trackT (u := .tup [x, y]) b5 hT0 (Heap.get?_none_of_le I.sz) fT.2.1 fT.2.2.2.2.1 fT.2.2.2.2.2 ⟨by show 2 ≤ sizeLine; decide, [u1, u2], .cons ru1 (.cons ru2 .nil), ⟨_, b5, rfl, _, rfl⟩⟩
  have lt : ∀ c ∈ [z, TI, TO, i1, i2], c ≠ s.heap.objs.size := fun c hc => by
   simp only [List.mem_cons, List.not_mem_nil, or_false] at hc
   rcases hc with rfl | rfl | rfl | rfl | rfl
   ·exact Nat.ne_of_lt (Heap.lt_size hz)
   ·exact Nat.ne_of_lt (Heap.lt_size hTI)
   ·exact Nat.ne_of_lt (Heap.lt_size hTO)
   ·obtain ⟨o, e, _⟩ := h1; exact Nat.ne_of_lt (Heap.lt_size e)
   ·obtain ⟨o, e, _⟩ := h2; exact Nat.ne_of_lt (Heap.lt_size e)
  refine ⟨.ref s.heap.objs.size, _, I2, rfl, ⟨_, x, y, rfl, hT0, rfl, fun xs' h => by rw [I.list_inj h hx]; exact ex, fun ys' h => by rw [I.list_inj h hy]; exact ey⟩, ⟨b1, k2 TI _ (by simp [D.TIz, D.TITO, D.TIi1, D.TIi2]) hTI, ⟨_, _, b2⟩, b3, b4⟩, fun c hc => ?_⟩
  rw [upd_ne (lt c hc)]
  exact (hf c hc).1
 done := by
  intro X hP hw hK hc i pins s σ H E I hf st hg
  subst hP hw hK
  obtain ⟨hz, hTI, ⟨a, b, hTO⟩, h1, h2⟩ := st
  obtain ⟨xs, ys, hx, hy, hl⟩ := hg
  obtain ⟨it1, r1, p1, _⟩ := I.list hx
  obtain ⟨it2, r2, p2, _⟩ := I.list hy
  have e1 := r1.length
  have e2 := r2.length
  refine wpAny_pyNext_zip_end (I.ok.hd hc) D hz hTI hTO h1 h2 p1.isList p2.isList (by rcases hl with z | z; exact .inl (by simp; omega); exact .inr (by simp; omega)) fun h' hk => ⟨rfl, ?_⟩
  refine I.turnedL (t' := s.toks) (ch := [z, TO, i1, i2]) (fun c o hc e => ?_) fun c hc => hf c ?_
  ·simp only [List.mem_cons, List.not_mem_nil, or_false, not_or] at hc
   exact hk c o hc.1 hc.2.1 hc.2.2.1 hc.2.2.2 e
  ·simp only [List.mem_cons, List.not_mem_nil, or_false] at hc ⊢
   rcases hc with rfl | rfl | rfl | rfl <;> simp
 self := fun _ _ _ _ _ st h => wpAny_pyIter_zip st.1 h
section
variable {X : Cx} {a b : Expr} {ta : TA} {p pos tpos : Pos} {elts : List Expr} {x1 : Nat} {K : FrK}
noncomputable def uiZip (K : FrK) (ta : TA) : TI := fun σ H R => ta σ H fun vs H1 => match vs with
 | [.ref l1, .ref l2] => ∃ xs ys, SqL K H1 l1 xs ∧ SqL K H1 l2 ys ∧ R (Itz K l1 l2) H1
 | _ => False
theorem ui_zip_0 (hm : X.mg "zip" = none) (ha : PA X [a, b] ta) (hg : Gl X "zip") (hn : notStar a = true) (hn2 : notStar b = true) : PI X (.Tuple elts x1 tpos) (.Call (.Name "zip" p) [a, b] [] pos) (uiZip X.K ta) := by
 have hs2 : starEach [b] X.env = [(false, eval b X.env)] := by rw [se hn2, starEach]
 have hs : starEach [a, b] X.env = [(false, eval a X.env), (false, eval b X.env)] := by rw [se hn, hs2]
 intro pins s σ H R I h
 refine Call_ (ld_blt I hg hm boot_zip (PyProof.Rows.callWith_type1 (thn (ha pos pins s σ H _ I h) fun us s1 ⟨vs, H1, I1, r1, q1⟩ => ?_) (by rw [hs, hs2]) (by rw [hs2]; rfl)))
 dsimp only at q1
 split at q1
 ·rename_i l1 l2
  obtain ⟨xs, ys, hx, hy, q⟩ := q1
  obtain ⟨u, v, rfl, ru, rv⟩ := vals2 r1
  cases ru
  cases rv
  obtain ⟨it1, r1, p1, _⟩ := I1.list hx
  obtain ⟨it2, r2, p2, _⟩ := I1.list hy
  have hl1 : l1 < s1.heap.objs.size := by obtain ⟨o, ho, _⟩ := p1.isList; exact Heap.lt_size ho
  have hl2 : l2 < s1.heap.objs.size := by obtain ⟨o, ho, _⟩ := p2.isList; exact Heap.lt_size ho
  refine call_zip_2 p1.isList p2.isList fun h' b1 b2 b3 b4 b5 b6 hk => ?_
  have n1 : @LT.lt Nat instLTNat l1 s1.heap.objs.size := hl1
  have n2 : @LT.lt Nat instLTNat l2 s1.heap.objs.size := hl2
  generalize hsz : s1.heap.objs.size = sz at n1 n2 b1 b2 b3 b4 b5 b6 ⊢
  have D : ZipApart (sz + 4) (sz + 2) (sz + 3) sz (sz + 1) l1 l2 := by
   constructor <;> (show @Ne Nat _ _; omega)
  refine wpAny_pyIter_zip (s := { s1 with heap := h' }) b1 ?_
  refine ⟨_, _, _, _, H1, rfl, I1.kept (t' := s1.toks) hk, turn_zip l1 l2 _ _ _ _ _ D, ⟨b1, b2, ⟨_, _, b3⟩, b4, b5⟩, fun c hc => ?_, q⟩
  have hge : s1.heap.objs.size ≤ c := by
   rw [hsz]
   simp only [List.mem_cons, List.not_mem_nil, or_false] at hc
   rcases hc with rfl | rfl | rfl | rfl | rfl <;> (show @LE.le Nat instLENat _ _; omega)
  exact I1.fpOk hge (I1.hok.fresh hge)
 ·exact q1.elim
theorem q_zip {t : TA} (hm : X.mg "zip" = none) (ha : QA X [a, b] t) (hg : Gl X "zip" := by rfl) (hn : notStar a = true := by rfl) (hn2 : notStar b = true := by rfl) (hK : X.K = K := by rfl) : QI X (.Tuple elts x1 tpos) (.Call (.Name "zip" p) [a, b] [] pos) (uiZip K t) := by
 subst hK; exact ⟨ui_zip_0 hm ha.run hg hn hn2⟩
end
theorem for_zip {K : FrK} {a b : Addr} {xs ys : List V} {g : TG} {tb : TS} {D : Ends} {σ : St} {H : Hp} (Pv : Nat → St → Hp → Prop) (hxy : xs.length = ys.length) (h0 : Pv 0 σ H) (hl : ∀ i σ H, i ≤ xs.length → Pv i σ H → SqL K H a xs ∧ SqL K H b ys)
  (hs : ∀ i x y T σ H, xs[i]? = some x → ys[i]? = some y → H T = none → Pv i σ H → g (.ref T) σ (upd H T (.tup [x, y])) fun σ2 H2 => tb { D with nx := Pv (i + 1), ct := Pv (i + 1), bk := D.nx } σ2 H2) (hd : ∀ σ H, Pv xs.length σ H → D.nx σ H) :
  ∃ W : Nat → Nat → St → Hp → Prop, (∃ m, W 0 m σ H) ∧ ∀ i m σ H, W i m σ H →
   ((Itz K a b).stop i H ∧ D.nx σ H) ∨ ((Itz K a b).go i H ∧ ∃ N : St → Hp → Prop, (∀ σ' H', N σ' H' → ∃ m', m' < m ∧ W (i + 1) m' σ' H') ∧ ∀ x H', (Itz K a b).yld i H x H' → g x σ H' fun σ2 H2 => tb { D with nx := N, ct := N, bk := D.nx } σ2 H2) := by
 refine ⟨fun i m σ H => m = xs.length - i ∧ i ≤ xs.length ∧ Pv i σ H, ⟨xs.length, by simp, Nat.zero_le _, h0⟩, ?_⟩
 rintro i m σ H ⟨rfl, hi, p⟩
 obtain ⟨q1, q2⟩ := hl i σ H hi p
 by_cases hlt : i < xs.length
 ·refine .inr ⟨⟨xs, ys, xs[i], ys[i], q1, q2, by simp [hlt], by simp [show i < ys.length by omega]⟩, Pv (i + 1), fun σ' H' p' => ⟨xs.length - (i + 1), by omega, rfl, hlt, p'⟩, fun v H' yl => ?_⟩
  obtain ⟨T, x, y, rfl, hT, rfl, y1, y2⟩ := yl
  exact hs i x y T σ _ (y1 xs q1) (y2 ys q2) hT p
 ·have e : i = xs.length := by omega
  subst e
  exact .inl ⟨⟨xs, ys, q1, q2, .inl (Nat.le_refl _)⟩, hd σ H p⟩
end L2
namespace PG
open PySem L2 PyProof.Rows
noncomputable def dot : List Int → List Int → Int
 | n :: ns, m :: ms => n * m + dot ns ms
 | _, _ => 0
theorem kitAny_no {K : FrK} {t : Value} : ∀ {l : List Value}, (∀ c ∈ l, PySem.W.kitOne K t c = some false) → PySem.W.kitAny K t l = some false
 | [], _ => rfl
 | c :: r, h => by
  unfold PySem.W.kitAny
  rw [h c List.mem_cons_self]
  exact kitAny_no fun d hd => h d (List.mem_cons_of_mem _ hd)
theorem cutV_drop (xs : List V) (t : Nat) : cutV xs (some (t : Int)) none = xs.drop t := by
 unfold cutV
 rw [HT.sIx_nat, HT.sIx_none]
 rcases Nat.le_total t xs.length with h | h
 ·rw [Nat.min_eq_left h, List.take_of_length_le (by rw [List.length_drop]; omega)]
 ·rw [Nat.min_eq_right h, List.drop_of_length_le (Nat.le_refl _), List.drop_of_length_le h, List.take_nil]
end PG
namespace L2
open PySem PySem.Spec PyProof.Rows
noncomputable def Ite (K : FrK) (a : Addr) : It where
 go := fun i H => ∃ xs x, SqL K H a xs ∧ xs[i]? = some x
 yld := fun i H v H' => ∃ T x, v = .ref T ∧ H T = none ∧ H' = upd H T (.tup [.int (i : Int), x]) ∧ ∀ xs, SqL K H a xs → xs[i]? = some x
 stop := fun i H => ∃ xs, SqL K H a xs ∧ xs.length ≤ i
theorem turn_enum {P : Program} {w : World} {K : FrK} {elts : List Expr} {x1 : Nat} {tpos : Pos} (l z i1 : Addr) (D : z ≠ i1) : Turn P w K (.Tuple elts x1 tpos) (Ite K l) [z, i1] z
  (fun i h => (∃ old, IsEnum h z i1 (i : Int) old) ∧ h.IsListIter i1 l i) where
 mem := by simp
 obj := fun i h ⟨⟨old, hz⟩, ⟨o1, e1, c1, d1⟩⟩ b hb => by
  simp only [List.mem_cons, List.not_mem_nil, or_false] at hb
  rcases hb with rfl | rfl
  ·exact ⟨_, hz, fun v q => by cases q⟩
  ·exact ⟨o1, e1, fun v q => by rw [d1] at q; cases q⟩
 keep := fun i h h' ⟨⟨old, hz⟩, h1⟩ k => ⟨⟨old, k z (by simp) _ hz⟩, h1.at fun o e => k i1 (by simp) o e⟩
 item := by
  intro X hP hw hK hc i pins s σ H E I hf st hg
  subst hP hw hK
  obtain ⟨⟨old, hz⟩, h1⟩ := st
  obtain ⟨xs, x, hx, ex⟩ := hg
  obtain ⟨it1, r1, p1, _⟩ := I.list hx
  obtain ⟨u1, hu1, ru1⟩ := r1.get ex
  refine wpAny_pyNext_enum_item hz h1 p1.isList (x := u1) (by simpa using hu1) D fun h' a1 a2 a3 a4 hk => ?_
  refine ⟨_, rfl, wpAny_letOwnedTupleGo_enum (s := { s with heap := h', toks := s.toks + 1 }) a1 fun h'' b1 hs => ?_⟩
  have zT : s.heap.objs.size ≠ z := Nat.ne_of_gt (Heap.lt_size hz)
  have k2 : ∀ c o, c ∉ [z, i1] → s.heap.get? c = some o → h''.get? c = some o := fun c o hc e => by
   simp only [List.mem_cons, List.not_mem_nil, or_false, not_or] at hc
   exact hs.extBut _ _ hc.1 (hk c o hc.1 hc.2 e)
  have b3 := a2.extBut hs.extBut (Ne.symm D)
  have b5 := hs.extBut _ _ zT a3
  have I1 : Inv X pins σ H { s with heap := h'', toks := s.toks + 1 } := I.turnedL (t' := s.toks + 1) k2 (fun c hc => hf c hc)
  have hT0 : H s.heap.objs.size = none := I.hok.fresh (Nat.le_refl _)
  have fT := I.fpOk (H' := H) (b := s.heap.objs.size) (Nat.le_refl _) hT0
  have I2 := I1.trackT (u := .tup [.int (i : Int), x]) b5 hT0 (Heap.get?_none_of_le I.sz) fT.2.1 fT.2.2.2.2.1 fT.2.2.2.2.2 ⟨by show 2 ≤ sizeLine; decide, [.int (i : Int) s.toks, u1], .cons ⟨_, rfl⟩ (.cons ru1 .nil), ⟨_, b5, rfl, _, rfl⟩⟩
  have lt : ∀ c ∈ [z, i1], c ≠ s.heap.objs.size := fun c hc => by
   simp only [List.mem_cons, List.not_mem_nil, or_false] at hc
   rcases hc with rfl | rfl
   ·exact Nat.ne_of_lt (Heap.lt_size hz)
   ·obtain ⟨o, e, _⟩ := h1; exact Nat.ne_of_lt (Heap.lt_size e)
  refine ⟨.ref s.heap.objs.size, _, I2, rfl, ⟨_, x, rfl, hT0, rfl, fun xs' h => by rw [I.list_inj h hx]; exact ex⟩, ⟨⟨_, b1⟩, b3⟩, fun c hc => ?_⟩
  rw [upd_ne (lt c hc)]
  exact (hf c hc).1
 done := by
  intro X hP hw hK hc i pins s σ H E I hf st hg
  subst hP hw hK
  obtain ⟨⟨old, hz⟩, h1⟩ := st
  obtain ⟨xs, hx, hl⟩ := hg
  obtain ⟨it1, r1, p1, _⟩ := I.list hx
  have e1 := r1.length
  refine wpAny_pyNext_enum_end (I.ok.hd hc) hz h1 p1.isList (by rw [List.getElem?_toArray]; exact List.getElem?_eq_none (by omega)) fun h' hk => ⟨rfl, ?_⟩
  refine I.turnedL (t' := s.toks) (ch := [i1]) (fun c o hc e => ?_) fun c hc => hf c ?_
  ·simp only [List.mem_cons, List.not_mem_nil, or_false] at hc
   exact hk c o hc e
  ·simp only [List.mem_cons, List.not_mem_nil, or_false] at hc ⊢
   exact .inr hc
 self := fun _ _ _ _ _ st h => by
  obtain ⟨⟨old, hz⟩, _⟩ := st
  exact wpAny_pyIter_enum hz h
section
variable {X : Cx} {a : Expr} {ta : TA} {p pos tpos : Pos} {elts : List Expr} {x1 : Nat} {K : FrK}
noncomputable def uiEnum (K : FrK) (ta : TA) : TI := fun σ H R => ta σ H fun vs H1 => match vs with
 | [.ref l1] => ∃ xs, SqL K H1 l1 xs ∧ R (Ite K l1) H1
 | _ => False
theorem ui_enum_0 (hm : X.mg "enumerate" = none) (ha : PA X [a] ta) (hg : Gl X "enumerate") (hn : notStar a = true) : PI X (.Tuple elts x1 tpos) (.Call (.Name "enumerate" p) [a] [] pos) (uiEnum X.K ta) := by
 have hs : starEach [a] X.env = [(false, eval a X.env)] := by rw [se hn, starEach]
 intro pins s σ H R I h
 refine Call_ (ld_blt I hg hm boot_enumerate (PyProof.Rows.callWith_type1 (thn (ha pos pins s σ H _ I h) fun us s1 ⟨vs, H1, I1, r1, q1⟩ => ?_) hs rfl))
 dsimp only at q1
 split at q1
 ·rename_i l1
  obtain ⟨xs, hx, q⟩ := q1
  obtain ⟨u, rfl, ru⟩ := vals1 r1
  cases ru
  obtain ⟨it1, r1, p1, _⟩ := I1.list hx
  refine call_enumerate_list p1.isList fun h' b1 b2 b3 hk => ?_
  have D : s1.heap.objs.size + 1 ≠ s1.heap.objs.size := Nat.succ_ne_self _
  refine wpAny_pyIter_enum (s := { s1 with heap := h' }) b1 ?_
  refine ⟨_, _, _, _, H1, rfl, I1.kept (t' := s1.toks) hk, turn_enum l1 _ _ D, ⟨⟨_, b1⟩, b2⟩, fun c hc => ?_, q⟩
  have hge : s1.heap.objs.size ≤ c := by
   simp only [List.mem_cons, List.not_mem_nil, or_false] at hc
   rcases hc with rfl | rfl
   ·exact Nat.le_succ _
   ·exact Nat.le_refl _
  exact I1.fpOk hge (I1.hok.fresh hge)
 ·exact q1.elim
theorem q_enum {t : TA} (hm : X.mg "enumerate" = none) (ha : QA X [a] t) (hg : Gl X "enumerate" := by rfl) (hn : notStar a = true := by rfl) (hK : X.K = K := by rfl) : QI X (.Tuple elts x1 tpos) (.Call (.Name "enumerate" p) [a] [] pos) (uiEnum K t) := by
 subst hK; exact ⟨ui_enum_0 hm ha.run hg hn⟩
end
theorem jp_enum {K : FrK} {H : Hp} {a : Addr} {xs : List V} (h1 : SqL K H a xs) : JP (Ite K a) H xs.length (fun i v H' => ∃ T x, v = .ref T ∧ H' T = some (.tup [.int (i : Int), x]) ∧ xs[i]? = some x) where
 go := fun i H' hi s => ⟨xs, xs[i], s.seq h1, by simp [hi]⟩
 yld := fun i H' x H'' hi s y => by
  obtain ⟨T, x, rfl, hT, rfl, y1⟩ := y
  exact ⟨Same.new hT, T, x, rfl, upd_same, y1 xs (s.seq h1)⟩
 stop := fun H' s => ⟨xs, s.seq h1, Nat.le_refl _⟩
section
variable {X : Cx}
noncomputable def uMin2 : List V → Hp → VK → Prop := u2 fun x y H Q => match x, y with
 | .int i, .int j => Q (.int (if j < i then j else i)) H
 | _, _ => False
theorem uc_min2 (hc : X.calm = true) : CallR X (.builtin "min") uMin2 := (call_min2 hc).imp fun xs H Q h => by
 obtain ⟨x, y, rfl, h⟩ := u2_of h
 cases x <;> cases y <;> first
  | exact False.elim h
  | exact ⟨_, _, rfl, h⟩
end
end L2
namespace PG
open PySem L2 PyProof.Rows
theorem range_get {α : Type} (xs : List α) (d : α) : (List.range xs.length).map (fun i => xs.getD i d) = xs := by
 apply List.ext_getElem
 ·simp
 ·intro i h1 h2
  have hi : i < xs.length := by simpa using h1
  simp [List.getD_eq_getElem?_getD, hi]
theorem range_filter_map {α β : Type} (xs : List α) (d : α) (p : α → Bool) (f : α → β) : ((List.range xs.length).filter (fun i => p (xs.getD i d))).map (fun i => f (xs.getD i d)) = (xs.filter p).map f := by
 have e := congrArg (fun l => (l.filter p).map f) (range_get xs d)
 rw [← e]
 simp only [List.filter_map, List.map_map]
 rfl
theorem optV_get {fs : List (Option Int)} {k : Int} (h0 : 0 ≤ k) (h1 : k < fs.length) : atI (fs.map toV) k = some (toV (fs.getD k.toNat none)) := by
 refine atI_of h0 ?_
 rw [List.getElem?_map, List.getElem?_eq_getElem (show k.toNat < fs.length by omega), List.getD_eq_getElem?_getD, List.getElem?_eq_getElem (show k.toNat < fs.length by omega)]
 rfl
noncomputable def sFrom0 : Sp := fun vs H Q _ => match vs with
 | [.int l, .int n] => l ≤ n ∧ Q .non H
 | _ => False
theorem dot_set : ∀ (cs ps : List Int) (i : Nat) (c x t : Int), cs[i]? = some c → ps[i]? = some x → dot cs (ps.set i (x + t)) = dot cs ps + c * t
 | [], _, i, _, _, _, h, _ => by simp at h
 | _ :: _, [], i, _, _, _, _, h => by simp at h
 | a :: cs, b :: ps, 0, c, x, t, h1, h2 => by
  simp at h1 h2
  subst h1 h2
  simp only [List.set_cons_zero, dot]
  rw [Int.mul_add]
  omega
 | a :: cs, b :: ps, i + 1, c, x, t, h1, h2 => by
  have ih := dot_set cs ps i c x t (by simpa using h1) (by simpa using h2)
  simp only [List.set_cons_succ, dot]
  rw [ih]
  omega
theorem sum_set : ∀ (ps : List Int) (i : Nat) (x t : Int), ps[i]? = some x → (ps.set i (x + t)).sum = ps.sum + t
 | [], i, _, _, h => by simp at h
 | b :: ps, 0, x, t, h => by
  simp at h
  subst h
  simp only [List.set_cons_zero, List.sum_cons]
  omega
 | b :: ps, i + 1, x, t, h => by
  have ih := sum_set ps i x t (by simpa using h)
  simp only [List.set_cons_succ, List.sum_cons, ih]
  omega
theorem dot_zero : ∀ (cs : List Int) (n : Nat), dot cs (List.replicate n 0) = 0
 | [], _ => by cases ‹Nat› <;> rfl
 | _ :: _, 0 => rfl
 | c :: cs, n + 1 => by
  rw [List.replicate_succ]
  show c * 0 + dot cs (List.replicate n 0) = 0
  rw [dot_zero cs n]
  simp
theorem sum_zero (n : Nat) : (List.replicate n (0 : Int)).sum = 0 := by
 induction n with
 | zero => rfl
 | succ n ih => rw [List.replicate_succ, List.sum_cons, ih]; rfl
end PG
namespace PG
open PySem L2 PyProof.Rows
noncomputable def sNums21 (K : FrK) : Sp := fun vs H Q _ => match vs with
 | [.ref p, .ref r] => ∃ ps : List Int, H p = some (.lst (ps.map V.int)) ∧ H r = some (.lst (ps.map V.int)) ∧ ∀ H', Same H H' → Q (.bl true) H'
 | _ => False
end PG
namespace PG
open PySem L2 PyProof.Rows
theorem House.nonneg {h : List Int} (a : House h) : ∀ x ∈ h, 0 ≤ x := fun x hx => by
 obtain ⟨r, hr, e⟩ := List.mem_iff_getElem.mp hx
 have hr' : h[r]? = some x := by rw [List.getElem?_eq_getElem hr, e]
 by_cases h0 : r = 0
 ·subst h0
  rw [a.zero] at hr'
  cases hr'
  omega
 ·have := a.above r x hr' h0
  omega
noncomputable def canB (h : List Int) (a : Int) : Bool := decide (h.getD (a % (h.length : Int)).toNat 0 ≤ a)
noncomputable def partedB (h : List Int) (x : Int) : Bool := (h.drop 1).any fun part => decide (0 < x - part) && canB h (x - part)
noncomputable def partsB (h : List Int) (x : Int) : Bool := (List.range (x - 1).toNat).any fun i => canB h (1 + (i : Int)) && canB h (x - (1 + (i : Int)))
noncomputable def need (h : List Int) : List Int := (h.length : Int) :: (h.drop 1).filter fun x => !partedB h x
theorem House.at {h : List Int} (a : House h) (n : Int) : h[(n % (h.length : Int)).toNat]? = some (h.getD (n % (h.length : Int)).toNat 0) := by
 have := a.pos
 have h1 := Int.emod_lt_of_pos n (show (0 : Int) < h.length by omega)
 have h0 := Int.emod_nonneg n (show (h.length : Int) ≠ 0 by omega)
 exact getD_some (by omega)
theorem House.small {h : List Int} (a : House h) {n : Int} (h1 : 1 ≤ n) (h2 : n < h.length) : canB h n = false := by
 unfold canB
 have e := Int.emod_eq_of_lt (a := n) (b := h.length) (by omega) h2
 rw [e]
 have := a.above n.toNat _ (getD_some (by omega)) (by omega)
 exact decide_eq_false (by omega)
theorem House.parts {h : List Int} (a : House h) {r : Nat} {x : Int} (hx : h[r]? = some x) (hr : r ≠ 0) : partsB h x = partedB h x := by
 have hpos := a.pos
 rw [Bool.eq_iff_iff]
 unfold partsB partedB
 rw [List.any_eq_true, List.any_eq_true]
 constructor
 ·rintro ⟨i, hi, hc⟩
  have hi' := List.mem_range.mp hi
  rw [Bool.and_eq_true] at hc
  generalize hA : (1 : Int) + (i : Int) = A at hc
  have c1 : h.getD (A % (h.length : Int)).toNat 0 ≤ A := of_decide_eq_true hc.1
  have c2 : h.getD ((x - A) % (h.length : Int)).toNat 0 ≤ x - A := of_decide_eq_true hc.2
  have r1 := a.at A
  have r2 := a.at (x - A)
  have m1 := Int.emod_nonneg A (show (h.length : Int) ≠ 0 by omega)
  have m2 := Int.emod_nonneg (x - A) (show (h.length : Int) ≠ 0 by omega)
  have hrest := a.rest r x hx
  have cl := a.closed _ _ r _ _ x r1 r2 hx (by
   rw [Int.toNat_of_nonneg m1, Int.toNat_of_nonneg m2, ← Int.add_emod, show A + (x - A) = x by omega, hrest])
  have eA : h.getD (A % (h.length : Int)).toNat 0 = A := by omega
  rw [eA] at r1
  have nz : (A % (h.length : Int)).toNat ≠ 0 := by
   intro z
   rw [z, a.zero] at r1
   cases r1
   omega
  refine ⟨A, ?_, ?_⟩
  ·rw [List.mem_iff_getElem?]
   refine ⟨(A % (h.length : Int)).toNat - 1, ?_⟩
   rw [List.getElem?_drop, show 1 + ((A % (h.length : Int)).toNat - 1) = (A % (h.length : Int)).toNat by omega]
   exact r1
  ·rw [Bool.and_eq_true]
   exact ⟨decide_eq_true (by omega), hc.2⟩
 ·rintro ⟨p, hp, hc⟩
  rw [Bool.and_eq_true] at hc
  have hlt : 0 < x - p := of_decide_eq_true hc.1
  obtain ⟨k, hk⟩ := List.mem_iff_getElem?.mp hp
  rw [List.getElem?_drop] at hk
  have hk' := a.above _ _ hk (by omega)
  have hrest := a.rest _ _ hk
  refine ⟨(p - 1).toNat, List.mem_range.mpr (by omega), ?_⟩
  rw [show (1 : Int) + ((p - 1).toNat : Int) = p by omega, Bool.and_eq_true]
  refine ⟨?_, hc.2⟩
  unfold canB
  rw [hrest, Int.toNat_natCast, getD_at hk]
  simp
theorem House.lenparts {h : List Int} (a : House h) : partsB h (h.length : Int) = false := by
 unfold partsB
 rw [List.any_eq_false]
 intro i hi
 have hi' := List.mem_range.mp hi
 rw [a.small (by omega) (by omega)]
 simp
theorem House.need_eq {h : List Int} (a : House h) : ((h.length : Int) :: h.drop 1).filter (fun x => !partsB h x) = need h := by
 unfold need
 rw [List.filter_cons, a.lenparts]
 simp only [Bool.not_false, if_true]
 congr 1
 apply List.filter_congr
 intro x hx
 obtain ⟨k, hk⟩ := List.mem_iff_getElem?.mp hx
 rw [List.getElem?_drop] at hk
 rw [a.parts hk (by omega)]
noncomputable def sParted (K : FrK) : Sp := fun vs H Q _ => match vs with
 | [.ref a, .int x] => ∃ h, LI K H a h ∧ House h ∧ ∀ H', Same H H' → Q (.bl (partedB h x)) H'
 | _ => False
end PG
namespace PG
open PySem L2 PyProof.Rows
noncomputable def lowR (v : Sums) (t : Int) : Sums :=
 match v[(t % (v.length : Int)).toNat]? with
 | some (some y) => if t < y then v.set (t % (v.length : Int)).toNat (some t) else v
 | some none => v.set (t % (v.length : Int)).toNat (some t)
 | none => v
theorem relax_low' {v : Sums} {p : Nat} {c x : Int} (h : v[p]? = some (some x)) : relax v p c = lowR v (x + c) := by
 unfold relax lowR
 rw [h]
 all_goals rfl
theorem lowR_length (v : Sums) (t : Int) : (lowR v t).length = v.length := by
 unfold lowR
 split
 ·split <;> simp
 ·simp
 ·rfl
theorem rest_lt {n : Nat} (h : 0 < n) (t : Int) : (t % (n : Int)).toNat < n := by
 have h1 := Int.emod_lt_of_pos t (show (0 : Int) < n by omega)
 have h0 := Int.emod_nonneg t (show (n : Int) ≠ 0 by omega)
 omega
noncomputable def InS (S : Int → Prop) (v : Sums) : Prop := ∀ (r : Nat) (x : Int), v[r]? = some (some x) → S x ∧ x % (v.length : Int) = r
theorem InS.set {S : Int → Prop} {v : Sums} {t : Int} (h : InS S v) (ht : S t) (h0 : 0 < v.length) : InS S (v.set (t % (v.length : Int)).toNat (some t)) := fun r x hx => by
 rw [List.length_set]
 rw [List.getElem?_set] at hx
 split at hx
 ·rename_i e
  split at hx
  ·cases hx
   refine ⟨ht, ?_⟩
   have := Int.emod_nonneg t (show (v.length : Int) ≠ 0 by omega)
   omega
  ·cases hx
 ·exact h r x hx
theorem InS.low {S : Int → Prop} {v : Sums} {t : Int} (h : InS S v) (ht : S t) (h0 : 0 < v.length) : InS S (lowR v t) := by
 unfold lowR
 split
 ·split
  ·exact h.set ht h0
  ·exact h
 ·exact h.set ht h0
 ·exact h
theorem InS.relax {S : Int → Prop} {v : Sums} {p : Nat} {c : Int} (h : InS S v) (hc : ∀ x, S x → S (x + c)) (h0 : 0 < v.length) : InS S (relax v p c) := by
 cases e : v[p]? with
 | none => unfold PG.relax; rw [e]; exact h
 | some o => cases o with
  | none => unfold PG.relax; rw [e]; exact h
  | some x =>
   rw [relax_low' e]
   exact h.low (hc x (h p x e).1) h0
theorem InS.run {S : Int → Prop} {c : Int} (hc : ∀ x, S x → S (x + c)) : ∀ (ops : List (Nat × Int)) {v : Sums}, InS S v → (∀ o ∈ ops, o.2 = c) → 0 < v.length → InS S (run v ops)
 | [], _, h, _, _ => h
 | o :: r, v, h, ho, h0 => by
  rw [run_cons]
  refine InS.run hc r (h.relax ?_ h0) (fun o' h' => ho o' (List.mem_cons_of_mem _ h')) (by rw [relax_length]; exact h0)
  rw [ho o List.mem_cons_self]
  exact hc
theorem InS.coin {S : Int → Prop} {v : Sums} {c : Int} (h : InS S v) (h1 : 1 ≤ c) (hc : ∀ x, S x → S (x + c)) (h0 : 0 < v.length) : InS S (withCoin v c) := by
 unfold withCoin
 refine InS.run hc _ h (fun o ho => ?_) h0
 rw [mem_ringOps ho]
 omega
theorem all_payable (c s : Int) : Payable [1, -1, c] s := by
 by_cases h : 0 ≤ s
 ·refine ⟨s.toNat, List.replicate s.toNat 1, by simp, fun d hd => by rw [(List.mem_replicate.mp hd).2]; simp, ?_⟩
  have : ∀ n : Nat, (List.replicate n (1 : Int)).sum = n := fun n => by induction n with
   | zero => rfl
   | succ n ih => rw [List.replicate_succ, List.sum_cons, ih]; omega
  rw [this]; omega
 ·refine ⟨(-s).toNat, List.replicate (-s).toNat (-1), by simp, fun d hd => by rw [(List.mem_replicate.mp hd).2]; simp, ?_⟩
  have : ∀ n : Nat, (List.replicate n (-1 : Int)).sum = -(n : Int) := fun n => by induction n with
   | zero => rfl
   | succ n ih => rw [List.replicate_succ, List.sum_cons, ih]; omega
  rw [this]; omega
theorem InS.sound {S : Int → Prop} {v : Sums} {c : Int} (h : InS S v) : Sound [1, -1, c] v := fun r x hx => ⟨all_payable c x, (h r x hx).2⟩
theorem InS.has {S : Int → Prop} {v : Sums} {c s : Int} (h : InS S v) (h1 : 1 ≤ c) (h0 : 0 < v.length) (hs : Has v s) (k : Nat) : Has (withCoin v c) (s + (k : Int) * c) := by
 have := ringOps_has (cs := [1, -1, c]) (m := v.length) (c := c.toNat) h0 (by rw [show ((c.toNat : Nat) : Int) = c by omega]; simp) rfl h.sound hs k
 rw [show ((c.toNat : Nat) : Int) = c by omega] at this
 exact this
theorem low_has {v : Sums} {t : Int} (h0 : 0 < v.length) : Has (lowR v t) t := by
 have hlt := rest_lt h0 t
 unfold Has
 rw [lowR_length]
 unfold lowR
 cases e : v[(t % (v.length : Int)).toNat]? with
 | none => rw [List.getElem?_eq_getElem hlt] at e; cases e
 | some o => cases o with
  | none => exact ⟨t, by simp [hlt], Int.le_refl _⟩
  | some y =>
   dsimp only
   split
   ·exact ⟨t, by simp [hlt], Int.le_refl _⟩
   ·exact ⟨y, e, by omega⟩
theorem low_le (v : Sums) (t : Int) : LeS (lowR v t) v := fun r x hx => by
 unfold lowR
 have put : ∀ (i : Nat), (i = r → t ≤ x) → ∃ y, (v.set i (some t))[r]? = some (some y) ∧ y ≤ x := fun i hi => by
  rw [List.getElem?_set]
  split
  ·rename_i e
   subst e
   have := getElem?_lt hx
   rw [if_pos this]
   exact ⟨t, rfl, hi rfl⟩
  ·exact ⟨x, hx, Int.le_refl _⟩
 split
 ·rename_i y e
  split
  ·refine put _ fun z => ?_
   rw [z, hx] at e
   cases e
   omega
  ·exact ⟨x, hx, Int.le_refl _⟩
 ·rename_i e
  refine put _ fun z => ?_
  rw [z, hx] at e
  cases e
 ·exact ⟨x, hx, Int.le_refl _⟩
theorem Has.low {v : Sums} {t s : Int} (h : Has v s) : Has (lowR v t) s := h.le (low_le v t) (lowR_length v t)
noncomputable def lows (v : Sums) (ts : List Int) : Sums := ts.foldl lowR v
theorem lows_length : ∀ (ts : List Int) (v : Sums), (lows v ts).length = v.length
 | [], _ => rfl
 | t :: r, v => by show (lows (lowR v t) r).length = _; rw [lows_length r, lowR_length]
theorem lows_snoc (v : Sums) (ts : List Int) (t : Int) : lows v (ts ++ [t]) = lowR (lows v ts) t := by unfold lows; rw [List.foldl_append]; rfl
theorem InS.lows {S : Int → Prop} : ∀ (ts : List Int) {v : Sums}, InS S v → (∀ t ∈ ts, S t) → 0 < v.length → InS S (lows v ts)
 | [], _, h, _, _ => h
 | t :: r, v, h, ht, h0 => InS.lows r (h.low (ht t List.mem_cons_self) h0) (fun t' h' => ht t' (List.mem_cons_of_mem _ h')) (by rw [lowR_length]; exact h0)
theorem Has.lows {s : Int} : ∀ (ts : List Int) {v : Sums}, Has v s → Has (lows v ts) s
 | [], _, h => h
 | t :: r, v, h => Has.lows r h.low
theorem lows_has : ∀ (ts : List Int) {v : Sums} {t : Int}, t ∈ ts → 0 < v.length → Has (lows v ts) t
 | u :: r, v, t, ht, h0 => by
  rcases List.mem_cons.mp ht with z | z
  ·subst z
   exact Has.lows r (low_has h0)
  ·exact lows_has r z (by rw [lowR_length]; exact h0)
noncomputable def nones (n : Nat) : Sums := List.replicate n none
theorem nones_in (S : Int → Prop) (n : Nat) : InS S (nones n) := fun r x hx => by
 unfold nones at hx
 rw [List.getElem?_replicate] at hx
 split at hx <;> cases hx
noncomputable def sbr (gs : List Int) (step : Int) (n : Nat) : Sums := withCoin (lows (nones n) gs) step
theorem sbr_length (gs : List Int) (step : Int) (n : Nat) : (sbr gs step n).length = n := by unfold sbr; rw [withCoin_length, lows_length]; simp [nones]
theorem sbr_in {S : Int → Prop} {gs : List Int} {step : Int} {n : Nat} (hn : 0 < n) (h1 : 1 ≤ step) (hg : ∀ g ∈ gs, S g) (hc : ∀ x, S x → S (x + step)) : InS S (sbr gs step n) :=
 ((nones_in S n).lows gs hg (by simpa [nones] using hn)).coin h1 hc (by rw [lows_length]; simpa [nones] using hn)
theorem sbr_has {gs : List Int} {step : Int} {n : Nat} (hn : 0 < n) (h1 : 1 ≤ step) {g : Int} (hg : g ∈ gs) (k : Nat) : Has (sbr gs step n) (g + (k : Int) * step) := by
 have i := (nones_in (fun _ => True) n).lows gs (fun _ _ => trivial) (by simpa [nones] using hn)
 exact i.has h1 (by rw [lows_length]; simpa [nones] using hn) (lows_has gs hg (by simpa [nones] using hn)) k
structure LeastS (S : Int → Prop) (g : List Int) : Prop where
 pos : 0 < g.length
 mem : ∀ (r : Nat) (x : Int), g[r]? = some x → S x ∧ x % (g.length : Int) = r
 least : ∀ s, S s → g.getD (s % (g.length : Int)).toNat 0 ≤ s
theorem LeastS.uniq {S : Int → Prop} {g g' : List Int} (a : LeastS S g) (b : LeastS S g') (e : g.length = g'.length) : g = g' := by
 apply List.ext_getElem e
 intro i h1 h2
 obtain ⟨a1, a2⟩ := a.mem i _ (List.getElem?_eq_getElem h1)
 obtain ⟨b1, b2⟩ := b.mem i _ (List.getElem?_eq_getElem h2)
 have l1 := a.least _ b1
 have l2 := b.least _ a1
 rw [e, b2, Int.toNat_natCast, getD_at (List.getElem?_eq_getElem h1)] at l1
 rw [← e, a2, Int.toNat_natCast, getD_at (List.getElem?_eq_getElem h2)] at l2
 omega
theorem LeastS.congr {S T : Int → Prop} {g : List Int} (a : LeastS S g) (h : ∀ s, S s ↔ T s) : LeastS T g := ⟨a.pos, fun r x hx => ⟨(h x).mp (a.mem r x hx).1, (a.mem r x hx).2⟩, fun s hs => a.least s ((h s).mpr hs)⟩
theorem full_S {S : Int → Prop} {v : Sums} (h0 : 0 < v.length) (hi : InS S v) (hh : ∀ s, S s → Has v s) (hr : ∀ r : Nat, r < v.length → ∃ s, S s ∧ s % (v.length : Int) = r) : ∃ g : List Int, v = g.map some ∧ LeastS S g := by
 have all : ∀ r, r < v.length → ∃ x, v[r]? = some (some x) := fun r hr' => by
  obtain ⟨s, hs, e⟩ := hr r hr'
  obtain ⟨y, hy, _⟩ := hh s hs
  rw [e, Int.toNat_natCast] at hy
  exact ⟨y, hy⟩
 have eg : v = (v.map (Option.getD · 0)).map some := by
  rw [List.map_map]
  apply List.ext_getElem
  ·simp
  ·intro i h1 h2
   obtain ⟨x, hx⟩ := all i h1
   rw [List.getElem?_eq_getElem h1] at hx
   have hx' := Option.some.inj hx
   simp [hx']
 generalize v.map (Option.getD · 0) = g at eg
 subst eg
 rw [List.length_map] at *
 have at' : ∀ (r : Nat) (x : Int), g[r]? = some x → (g.map some)[r]? = some (some x) := fun r x hx => by rw [List.getElem?_map, hx]; rfl
 refine ⟨g, rfl, h0, fun r x hx => ?_, fun s hs => ?_⟩
 ·have := hi r x (at' r x hx)
  rw [List.length_map] at this
  exact this
 ·obtain ⟨y, hy, l⟩ := hh s hs
  rw [List.length_map, List.getElem?_map] at hy
  cases e : g[(s % (g.length : Int)).toNat]? with
  | none => rw [e] at hy; cases hy
  | some z =>
   rw [e] at hy
   cases hy
   rw [getD_at e]
   exact l
noncomputable def Can (h : List Int) (a : Int) : Prop := canB h a = true
theorem can_iff {h : List Int} {a : Int} : Can h a ↔ h.getD (a % (h.length : Int)).toNat 0 ≤ a := by unfold Can canB; exact decide_eq_true_iff
theorem House.can0 {h : List Int} (a : House h) : Can h 0 := by
 rw [can_iff, Int.zero_emod, show (0 : Int).toNat = 0 from rfl, getD_at a.zero]
 exact Int.le_refl _
theorem House.leastS {h : List Int} (a : House h) : LeastS (Can h) h := ⟨a.pos, fun r x hx => ⟨by rw [can_iff, a.rest r x hx, Int.toNat_natCast, getD_at hx]; exact Int.le_refl _, a.rest r x hx⟩, fun s hs => can_iff.mp hs⟩
theorem House.canAdd {h : List Int} (a : House h) {x y : Int} (hx : Can h x) (hy : Can h y) : Can h (x + y) := by
 have hpos := a.pos
 rw [can_iff] at *
 have m1 := Int.emod_nonneg x (show (h.length : Int) ≠ 0 by omega)
 have m2 := Int.emod_nonneg y (show (h.length : Int) ≠ 0 by omega)
 have m3 := Int.emod_nonneg (x + y) (show (h.length : Int) ≠ 0 by omega)
 have := a.closed _ _ _ _ _ _ (a.at x) (a.at y) (a.at (x + y)) (by rw [Int.toNat_of_nonneg m1, Int.toNat_of_nonneg m2, Int.toNat_of_nonneg m3, ← Int.add_emod])
 omega
theorem House.canLen {h : List Int} (a : House h) : Can h (h.length : Int) := by
 rw [can_iff, Int.emod_self, show (0 : Int).toNat = 0 from rfl, getD_at a.zero]
 omega
theorem House.canMem {h : List Int} (a : House h) {x : Int} (hx : x ∈ h) : Can h x := by
 obtain ⟨r, hr⟩ := List.mem_iff_getElem?.mp hx
 exact (a.leastS.mem r x hr).1
theorem pos_big (k n x : Int) (hn : 1 ≤ n) (hk : 0 ≤ k) : k ≤ k * n := by
 have := Int.mul_le_mul_of_nonneg_left (show (1 : Int) ≤ n by omega) hk
 omega
end PG
namespace PG
open PySem L2 PyProof.Rows
theorem upd_id {H : Hp} {a : Addr} {o : HO} (h : H a = some o) : upd H a o = H := by
 funext b
 by_cases e : b = a
 ·subst e; rw [upd_same, h]
 ·rw [upd_ne e]
theorem reps_none (k : Nat) : (List.replicate k [V.non]).flatten = (nones k).map toV := by
 induction k with
 | zero => rfl
 | succ k ih => rw [List.replicate_succ, List.flatten_cons, ih]; rfl
noncomputable def sLowRest (K : FrK) : Sp := fun vs H Q _ => match vs with
 | [.ref a, .int t] => ∃ v : Sums, H a = some (.lst (v.map toV)) ∧ 0 < v.length ∧ Q .non (upd H a (.lst ((lowR v t).map toV)))
 | _ => False
noncomputable def sLowNext (K : FrK) : Sp := fun vs H Q _ => match vs with
 | [.ref a, .int p, .int c] => ∃ v : Sums, H a = some (.lst (v.map toV)) ∧ (0 ≤ p ∧ p < v.length) ∧ Q .non (upd H a (.lst ((relax v p.toNat c).map toV)))
 | _ => False
noncomputable def sWithCoin (K : FrK) : Sp := fun vs H Q _ => match vs with
 | [.ref a, .int c] => ∃ v : Sums, SqL K H a (v.map toV) ∧ (0 < v.length ∧ v.length ≤ 100000) ∧ 1 ≤ c ∧ ∀ (p : Addr) (H' : Hp), Same H H' → H p = none → H' p = some (.lst ((withCoin v c).map toV)) → Q (.ref p) H'
 | _ => False
noncomputable def sByRests (K : FrK) : Sp := fun vs H Q _ => match vs with
 | [.ref a, .int st, .int n] => ∃ gs, LI K H a gs ∧ 1 ≤ st ∧ (0 < n ∧ n ≤ 100000) ∧ ∀ (p : Addr) (H' : Hp), Same H H' → H p = none → H' p = some (.lst ((sbr gs st n.toNat).map toV)) → Q (.ref p) H'
 | _ => False
end PG
namespace PG
open PySem L2 PyProof.Rows
noncomputable def fullL (m : Nat) : List Int := 0 :: (List.range (m - 1)).map fun (i : Nat) => (m : Int) + (1 + (i : Int))
theorem fullL_len {m : Nat} (h : 1 ≤ m) : (fullL m).length = m := by unfold fullL; simp; omega
theorem fullL_get {m r : Nat} {x : Int} (h : (fullL m)[r]? = some x) : (r = 0 ∧ x = 0) ∨ (1 ≤ r ∧ r < m ∧ x = (m : Int) + r) := by
 unfold fullL at h
 cases r with
 | zero => left; simp at h; exact ⟨rfl, h.symm⟩
 | succ r =>
  right
  rw [List.getElem?_cons_succ, List.getElem?_map] at h
  by_cases hr : r < m - 1
  ·rw [List.getElem?_range hr] at h
   simp at h
   exact ⟨by omega, by omega, by omega⟩
  ·rw [List.getElem?_eq_none (by simp; omega)] at h
   cases h
theorem full_house {m : Nat} (h : 1 ≤ m) : House (fullL m) := by
 have hl := fullL_len h
 refine ⟨by omega, rfl, fun r x hx hr => ?_, fun r x hx => ?_, fun i j k x y z hx hy hz e => ?_⟩
 ·rw [hl]
  rcases fullL_get hx with q | q <;> omega
 ·rw [hl]
  rcases fullL_get hx with ⟨q1, q2⟩ | ⟨q1, q2, q3⟩
  ·subst q1 q2; simp
  ·subst q3
   rw [Int.add_emod, Int.emod_self, Int.zero_add, Int.emod_emod_of_dvd _ (Int.dvd_refl _)]
   exact Int.emod_eq_of_lt (by omega) (by omega)
 ·rw [hl] at e
  have hi := fullL_get hx
  have hj := fullL_get hy
  have hk := fullL_get hz
  have k1 : (k : Int) < m := by
   rw [e]; exact Int.emod_lt_of_pos _ (by omega)
  rcases hi with ⟨i1, i2⟩ | ⟨i1, i2, i3⟩
  ·subst i1 i2
   have ejk : (k : Int) = j := by
    rw [e]
    rcases hj with ⟨j1, j2⟩ | ⟨j1, j2, j3⟩
    ·subst j1; simp
    ·rw [show ((0 : Nat) : Int) + (j : Int) = j by omega]; exact Int.emod_eq_of_lt (by omega) (by omega)
   have : k = j := by omega
   subst this
   rw [hy] at hz
   cases hz
   omega
  ·rcases hj with ⟨j1, j2⟩ | ⟨j1, j2, j3⟩
   ·subst j1 j2
    have eik : (k : Int) = i := by
     rw [e, show (i : Int) + ((0 : Nat) : Int) = i by omega]; exact Int.emod_eq_of_lt (by omega) (by omega)
    have : k = i := by omega
    subst this
    rw [hx] at hz
    cases hz
    omega
   ·rcases hk with ⟨k2, k3⟩ | ⟨k2, k3, k4⟩ <;> omega
end PG
namespace PG
open PySem L2 PyProof.Rows
theorem emod_eq_diff {x y : Int} {n : Nat} (hn : 0 < n) (e : x % (n : Int) = y % (n : Int)) (hl : x ≤ y) : ∃ k : Nat, y = x + (k : Int) * n := by
 have hd : (n : Int) ∣ y - x := Int.dvd_of_emod_eq_zero (by rw [Int.sub_emod, e]; simp)
 obtain ⟨q, hq⟩ := hd
 have q0 : 0 ≤ q := by
  rcases Int.lt_or_le q 0 with z | z
  ·exfalso
   have : (n : Int) * q < 0 := Int.mul_neg_of_pos_of_neg (by omega) z
   omega
  ·exact z
 exact ⟨q.toNat, by rw [Int.toNat_of_nonneg q0, Int.mul_comm]; omega⟩
structure LeastN (P : Int → Prop) (n : Int) : Prop where
 one : 1 ≤ n
 has : P n
 low : ∀ k, 1 ≤ k → k < n → ¬ P k
end PG
namespace PG
open PySem L2 PyProof.Rows
noncomputable def firstF (s r n : Int) : Int := s + (r - s) % n
theorem first_ge {s r n : Int} (hn : 0 < n) : s ≤ firstF s r n := by
 unfold firstF
 have := Int.emod_nonneg (r - s) (show n ≠ 0 by omega)
 omega
theorem first_rest {s r n : Int} : firstF s r n % n = r % n := by
 unfold firstF
 rw [Int.add_emod, Int.emod_emod_of_dvd _ (Int.dvd_refl n), ← Int.add_emod, show s + (r - s) = r by omega]
theorem emod_le_nn {x n : Int} (hn : 0 < n) (hx : 0 ≤ x) : x % n ≤ x := by
 rw [Int.emod_def]
 have := Int.mul_nonneg (show 0 ≤ n by omega) (Int.ediv_nonneg hx (show 0 ≤ n by omega))
 omega
theorem first_least {s r n t : Int} (hn : 0 < n) (ht : s ≤ t) (e : t % n = r % n) : firstF s r n ≤ t := by
 unfold firstF
 have e2 : (r - s) % n = (t - s) % n := by rw [Int.sub_emod, ← e, ← Int.sub_emod]
 rw [e2]
 have := emod_le_nn hn (show 0 ≤ t - s by omega)
 omega
noncomputable def FillS (h : List Int) (st s : Int) : Prop := 0 ≤ s ∧ (st ≤ s ∨ Can h s)
structure Sums0 (S : Int → Prop) (m : Nat) : Prop where
 pos : 0 < m
 nn : ∀ s, S s → 0 ≤ s
 zero : S 0
 add : ∀ s t, S s → S t → S (s + t)
 len : S (m : Int)
theorem fill_sums0 {h : List Int} (a : House h) {st : Int} : Sums0 (FillS h st) h.length := by
 refine ⟨a.pos, fun _ hs => hs.1, ⟨by omega, .inr a.can0⟩, fun s t hs ht => ⟨by have := hs.1; have := ht.1; omega, ?_⟩, by omega, .inr a.canLen⟩
 obtain ⟨s0, hs⟩ := hs
 obtain ⟨t0, ht⟩ := ht
 rcases hs with z | z
 ·exact .inl (by omega)
 ·rcases ht with z' | z'
  ·exact .inl (by omega)
  ·exact .inr (a.canAdd z z')
noncomputable def divF (h : List Int) (b : Int) (r : Int) : Int := firstF ((h.getD ((r * b) % (h.length : Int)).toNat 0 + b - 1) / b) r (h.length : Int)
noncomputable def fillF (h : List Int) (st : Int) (r : Nat) : Int := if firstF st (r : Int) (h.length : Int) < h.getD r 0 then firstF st (r : Int) (h.length : Int) else h.getD r 0
theorem range_map_get {n : Nat} {f : Nat → Int} {r : Nat} {x : Int} (h : ((List.range n).map f)[r]? = some x) : r < n ∧ x = f r := by
 have hr : r < n := by have := getElem?_lt h; simpa using this
 rw [List.getElem?_map, List.getElem?_range hr] at h
 exact ⟨hr, (Option.some.inj h).symm⟩
theorem range_map_getD {n : Nat} {f : Nat → Int} {r : Nat} (hr : r < n) : ((List.range n).map f).getD r 0 = f r := by
 rw [List.getD_eq_getElem?_getD, List.getElem?_map, List.getElem?_range hr]
 rfl
theorem fill_least {h : List Int} (a : House h) {st : Int} (h1 : 1 ≤ st) : LeastS (FillS h st) ((List.range h.length).map fun r => fillF h st r) := by
 have hpos := a.pos
 have hl : ((List.range h.length).map fun r => fillF h st r).length = h.length := by simp
 refine ⟨by rw [hl]; exact hpos, fun r x hx => ?_, fun s hs => ?_⟩
 ·obtain ⟨hr, rfl⟩ := range_map_get hx
  rw [hl]
  have hg := getD_some (ns := h) (i := r) hr
  have e1 : firstF st (r : Int) (h.length : Int) % (h.length : Int) = r := by rw [first_rest, Int.emod_eq_of_lt (by omega) (by omega)]
  have ge := first_ge (s := st) (r := (r : Int)) (n := (h.length : Int)) (by omega)
  unfold fillF
  split
  ·exact ⟨⟨by omega, .inl ge⟩, e1⟩
  ·exact ⟨⟨a.nonneg _ (List.mem_of_getElem? hg), .inr (a.canMem (List.mem_of_getElem? hg))⟩, a.rest _ _ hg⟩
 ·have hlt := rest_lt hpos s
  rw [hl, range_map_getD hlt]
  have m0 := Int.emod_nonneg s (show (h.length : Int) ≠ 0 by omega)
  unfold fillF
  rw [Int.toNat_of_nonneg m0]
  rcases hs.2 with z | z
  ·have := first_least (r := s % (h.length : Int)) (n := (h.length : Int)) (by omega) z (by rw [Int.emod_emod_of_dvd _ (Int.dvd_refl _)])
   split <;> omega
  ·have := can_iff.mp z
   split <;> omega
theorem LeastS.inS {S : Int → Prop} {w : List Int} (L : LeastS S w) (s0 : Sums0 S w.length) {s : Int} (hl : w.getD (s % (w.length : Int)).toNat 0 ≤ s) : S s := by
 have hpos := L.pos
 obtain ⟨m1, m2⟩ := L.mem _ _ (getD_some (rest_lt hpos s))
 have m0 := Int.emod_nonneg s (show (w.length : Int) ≠ 0 by omega)
 rw [Int.toNat_of_nonneg m0] at m2
 obtain ⟨k, e⟩ := emod_eq_diff hpos m2 hl
 rw [e]
 have mul : ∀ k : Nat, S ((k : Int) * (w.length : Int)) := fun k => by
  induction k with
  | zero => simpa using s0.zero
  | succ k ih =>
   have := s0.add _ _ ih s0.len
   rw [show ((k + 1 : Nat) : Int) * (w.length : Int) = (k : Int) * (w.length : Int) + (w.length : Int) by rw [Int.natCast_add, Int.add_mul]; simp]
   exact this
 exact s0.add _ _ m1 (mul k)
theorem LeastS.split {S : Int → Prop} {w : List Int} (L : LeastS S w) {s : Int} (hs : S s) : ∃ (x : Int) (k : Nat), x ∈ w ∧ s = x + (k : Int) * (w.length : Int) := by
 have hpos := L.pos
 have hg := getD_some (rest_lt hpos s)
 obtain ⟨m1, m2⟩ := L.mem _ _ hg
 have m0 := Int.emod_nonneg s (show (w.length : Int) ≠ 0 by omega)
 rw [Int.toNat_of_nonneg m0] at m2
 obtain ⟨k, e⟩ := emod_eq_diff hpos m2 (L.least s hs)
 exact ⟨_, k, List.mem_of_getElem? hg, e⟩
theorem bound_ex (l : List Int) : ∃ B : Int, 0 ≤ B ∧ ∀ z ∈ l, z ≤ B := by
 induction l with
 | nil => exact ⟨0, by omega, by simp⟩
 | cons c l ih =>
  obtain ⟨B, h0, h1⟩ := ih
  refine ⟨B + (if 0 ≤ c then c else 0), by split <;> omega, fun z hz => ?_⟩
  rcases List.mem_cons.mp hz with q | q
  ·subst q; split <;> omega
  ·have := h1 z q; split <;> omega
theorem relaid {S : Int → Prop} {w : List Int} (L : LeastS S w) (s0 : Sums0 S w.length) {n : Nat} (hn : 0 < n) : ∃ g, sbr w (w.length : Int) n = g.map some ∧ LeastS S g ∧ g.length = n := by
 have hpos := L.pos
 have hl := sbr_length w (w.length : Int) n
 have hi := sbr_in (S := S) (gs := w) (step := (w.length : Int)) hn (by omega) (fun g hg => by
  obtain ⟨r, hr⟩ := List.mem_iff_getElem?.mp hg
  exact (L.mem r g hr).1) (fun x hx => s0.add _ _ hx s0.len)
 obtain ⟨B, B0, hB⟩ := bound_ex w
 obtain ⟨g, e, L'⟩ := full_S (by rw [hl]; exact hn) hi (fun s hs => by
  obtain ⟨x, k, hx, rfl⟩ := L.split hs
  exact sbr_has hn (by omega) hx k) (fun r hr => by
   rw [hl] at hr ⊢
   have big := pos_big B n 0 (by omega) B0
   refine ⟨(r : Int) + B * n, L.inS s0 ?_, ?_⟩
   ·have := hB _ (List.mem_of_getElem? (getD_some (rest_lt hpos ((r : Int) + B * n))))
    omega
   ·rw [Int.add_mul_emod_self_right]
    exact Int.emod_eq_of_lt (by omega) (by omega))
 refine ⟨g, e, L', ?_⟩
 rw [e, List.length_map] at hl
 exact hl
theorem least_of_min {S : Int → Prop} {w : List Int} (L : LeastS S w) (s0 : Sums0 S w.length) {n : Int} (hm : n ∈ (w.length : Int) :: w.drop 1) (hmin : ∀ x ∈ (w.length : Int) :: w.drop 1, n ≤ x) : LeastN S n := by
 have hpos := L.pos
 have one : ∀ x ∈ w.drop 1, 1 ≤ x ∧ S x := fun x hx => by
  obtain ⟨k, hk⟩ := List.mem_iff_getElem?.mp hx
  rw [List.getElem?_drop] at hk
  obtain ⟨m1, m2⟩ := L.mem _ _ hk
  have := s0.nn x m1
  refine ⟨?_, m1⟩
  rcases Int.lt_or_le x 1 with z | z
  ·have : x = 0 := by omega
   subst this
   rw [Int.zero_emod] at m2
   omega
  ·exact z
 refine ⟨?_, ?_, fun k k1 k2 hk => ?_⟩
 ·rcases List.mem_cons.mp hm with z | z
  ·omega
  ·exact (one n z).1
 ·rcases List.mem_cons.mp hm with z | z
  ·rw [z]; exact s0.len
  ·exact (one n z).2
 ·have l := L.least k hk
  have m0 := Int.emod_nonneg k (show (w.length : Int) ≠ 0 by omega)
  have hlt := rest_lt hpos k
  by_cases hz : (k % (w.length : Int)).toNat = 0
  ·have hd : (w.length : Int) ∣ k := Int.dvd_of_emod_eq_zero (by omega)
   have := Int.le_of_dvd (by omega) hd
   have := hmin _ List.mem_cons_self
   omega
  ·have hg := getD_some hlt
   have : w.getD (k % (w.length : Int)).toNat 0 ∈ w.drop 1 := by
    rw [List.mem_iff_getElem?]
    refine ⟨(k % (w.length : Int)).toNat - 1, ?_⟩
    rw [List.getElem?_drop, show 1 + ((k % (w.length : Int)).toNat - 1) = (k % (w.length : Int)).toNat by omega]
    exact hg
   have := hmin _ (List.mem_cons_of_mem _ this)
   omega
noncomputable def sFirst : Sp := fun vs H Q _ => match vs with
 | [.int s, .int r, .int n] => 0 < n ∧ Q (.int (firstF s r n)) H
 | _ => False
noncomputable def sHBS (K : FrK) : Sp := fun vs H Q _ => match vs with
 | [.ref a] => ∃ (w : List Int) (S : Int → Prop), SqL K H a (w.map V.int) ∧ w.length ≤ 1000 ∧ LeastS S w ∧ Sums0 S w.length ∧
  ∀ (p : Addr) (g : List Int) (H' : Hp), Same H H' → H p = none → H' p = some (.lst (g.map V.int)) → LeastS S g → LeastN S (g.length : Int) → g.length ≤ w.length → Q (.ref p) H'
 | _ => False
end PG
namespace PG
open PySem L2 PyProof.Rows
theorem dot_nonneg : ∀ (cs ps : List Int), (∀ c ∈ cs, 1 ≤ c) → (∀ x ∈ ps, 0 ≤ x) → 0 ≤ dot cs ps
 | [], _, _, _ => by simp [dot]
 | _ :: _, [], _, _ => by simp [dot]
 | c :: cs, x :: ps, hc, hp => by
  have h1 := hc c List.mem_cons_self
  have h2 := hp x List.mem_cons_self
  have := dot_nonneg cs ps (fun d hd => hc d (List.mem_cons_of_mem _ hd)) (fun y hy => hp y (List.mem_cons_of_mem _ hy))
  have := Int.mul_nonneg (show 0 ≤ c by omega) h2
  show 0 ≤ c * x + dot cs ps
  omega
theorem dot_some : ∀ (cs ps : List Int), (∀ c ∈ cs, 1 ≤ c) → (∀ x ∈ ps, 0 ≤ x) → cs.length = ps.length → (ps.sum = 0 ∧ dot cs ps = 0) ∨ ∃ (i : Nat) (c x : Int), cs[i]? = some c ∧ ps[i]? = some x ∧ 1 ≤ x
 | [], [], _, _, _ => .inl ⟨rfl, rfl⟩
 | [], _ :: _, _, _, h => by cases h
 | _ :: _, [], _, _, h => by cases h
 | c :: cs, x :: ps, hc, hp, hl => by
  by_cases hx : 1 ≤ x
  ·exact .inr ⟨0, c, x, rfl, rfl, hx⟩
  ·have x0 : x = 0 := by have := hp x List.mem_cons_self; omega
   subst x0
   rcases dot_some cs ps (fun d hd => hc d (List.mem_cons_of_mem _ hd)) (fun y hy => hp y (List.mem_cons_of_mem _ hy)) (by simpa using hl) with ⟨h1, h2⟩ | ⟨i, c', x', h1, h2, h3⟩
   ·left
    refine ⟨by rw [List.sum_cons, h1]; rfl, ?_⟩
    show c * 0 + dot cs ps = 0
    rw [h2]; simp
   ·exact .inr ⟨i + 1, c', x', by simpa using h1, by simpa using h2, h3⟩
end PG
namespace PG
open PySem L2 PyProof.Rows
noncomputable def Paid (cs : List Int) (n s : Int) : Prop := ∃ ps : List Int, ps.length = cs.length ∧ (∀ x ∈ ps, 0 ≤ x) ∧ dot cs ps = n ∧ ps.sum = s
theorem Paid.add {cs : List Int} {n s c : Int} (hc : c ∈ cs) (h : Paid cs n s) : Paid cs (n + c) (s + 1) := by
 obtain ⟨ps, h1, h2, h3, h4⟩ := h
 obtain ⟨i, hi⟩ := List.mem_iff_getElem?.mp hc
 have hil := getElem?_lt hi
 have hp := getD_some (ns := ps) (i := i) (by omega)
 refine ⟨ps.set i (ps.getD i 0 + 1), by rw [List.length_set]; exact h1, fun x hx => ?_, by rw [dot_set cs ps i c _ 1 hi hp, h3]; omega, by rw [sum_set ps i _ 1 hp, h4]⟩
 rcases List.mem_or_eq_of_mem_set hx with z | z
 ·exact h2 x z
 ·have := h2 _ (List.mem_of_getElem? hp); omega
theorem Paid.sub {cs : List Int} (hc : ∀ c ∈ cs, 1 ≤ c) {n s : Int} (h : Paid cs n s) (hn : 0 < n) : ∃ c ∈ cs, c ≤ n ∧ Paid cs (n - c) (s - 1) := by
 obtain ⟨ps, h1, h2, h3, h4⟩ := h
 rcases dot_some cs ps hc h2 h1.symm with ⟨e1, e2⟩ | ⟨i, c, x, e1, e2, e3⟩
 ·omega
 ·have hp' : ∀ y ∈ ps.set i (x + -1), 0 ≤ y := fun y hy => by
   rcases List.mem_or_eq_of_mem_set hy with z | z
   ·exact h2 y z
   ·omega
  have d' := dot_set cs ps i c x (-1) e1 e2
  have nn := dot_nonneg cs _ hc hp'
  refine ⟨c, List.mem_of_getElem? e1, by omega, ps.set i (x + -1), by rw [List.length_set]; exact h1, hp', by rw [d', h3]; omega, by rw [sum_set ps i x (-1) e2, h4]; omega⟩
end PG
namespace PG
open PySem L2 PyProof.Rows
theorem paid_payable {cs : List Int} (hc : ∀ c ∈ cs, 1 ≤ c) : ∀ (m n : Nat) (s : Int), n < m → Paid cs (n : Int) s → Payable cs (n : Int) := by
 intro m
 induction m with
 | zero => intro n s h; omega
 | succ m ih =>
  intro n s hn hp
  by_cases h0 : n = 0
  ·subst h0; exact ⟨0, Pay.zero⟩
  ·obtain ⟨c, hcm, hle, hp'⟩ := hp.sub hc (by omega)
   have c1 := hc c hcm
   have := ih ((n : Int) - c).toNat (s - 1) (by omega) (by rw [Int.toNat_of_nonneg (by omega)]; exact hp')
   rw [Int.toNat_of_nonneg (by omega)] at this
   have := this.add (.one hcm)
   rwa [show (n : Int) - c + c = n by omega] at this
theorem payable_paid {cs : List Int} {n : Int} (h : Payable cs n) : ∃ s, Paid cs n s := by
 obtain ⟨k, l, hk, hl, rfl⟩ := h
 clear hk k
 induction l with
 | nil => exact ⟨0, List.replicate cs.length 0, by simp, fun x hx => by rw [(List.mem_replicate.mp hx).2]; omega, dot_zero _ _, sum_zero _⟩
 | cons c l ih =>
  obtain ⟨s, hs⟩ := ih fun d hd => hl d (List.mem_cons_of_mem _ hd)
  refine ⟨s + 1, ?_⟩
  rw [List.sum_cons, Int.add_comm]
  exact hs.add (hl c List.mem_cons_self)
theorem payable_step {cs : List Int} (hc : ∀ c ∈ cs, 1 ≤ c) {t : Nat} (ht : 1 ≤ t) : Payable cs (t : Int) ↔ ∃ c ∈ cs, c ≤ (t : Int) ∧ Payable cs (((t : Int) - c).toNat : Int) := by
 constructor
 ·intro h
  obtain ⟨s, hs⟩ := payable_paid h
  obtain ⟨c, hcm, hle, hp⟩ := hs.sub hc (by omega)
  have := hc c hcm
  refine ⟨c, hcm, hle, paid_payable hc (t + 1) _ (s - 1) (by omega) ?_⟩
  rw [Int.toNat_of_nonneg (by omega)]
  exact hp
 ·rintro ⟨c, hcm, hle, hp⟩
  have := hp.add (.one hcm)
  rwa [Int.toNat_of_nonneg (by omega), show (t : Int) - c + c = t by omega] at this
theorem atBl {bs : List Bool} {k : Int} (h0 : 0 ≤ k) (h1 : k < bs.length) : atI (bs.map V.bl) k = some (.bl (bs.getD k.toNat false)) := by
 refine atI_of h0 ?_
 rw [List.getElem?_map, List.getElem?_eq_getElem (show k.toNat < bs.length by omega), List.getD_eq_getElem?_getD, List.getElem?_eq_getElem (show k.toNat < bs.length by omega)]
 rfl
theorem ref_at {ns : List Addr} {i : Nat} {x : V} (hx : (ns.map V.ref)[i]? = some x) : ∃ n, ns[i]? = some n ∧ x = V.ref n := by
 rw [List.getElem?_map] at hx
 cases e : ns[i]? with
 | none => rw [e] at hx; cases hx
 | some n => rw [e] at hx; cases hx; exact ⟨n, rfl, rfl⟩
end PG
namespace L2
open PySem PySem.Spec PyProof.Rows
theorem q_g0 {X : Cx} {CX : CXT} {x : Str} {k : Nat} {sp : Sp} {E : XK} {p pos : Pos} (g : PG.G X.prog X.w X.K X.mg X.base CX x [] k sp) (hr : Room k X.A) (hx : Passes CX X E) (hg : Gl X x := by rfl)
  (hdb : (x == ("__debug__" : Str)) = false := by decide) : QE X (.Call (.Name x p) [] [] pos) (tCall sp [] E tNil) := by
 obtain ⟨f, fd, hm, hk, hb, F⟩ := g.ex
 exact ⟨pe_call0 F hr hg hm hk hb .nil hx hdb⟩
end L2
namespace PG
open PySem L2 PyProof.Rows
noncomputable def sGreat (K : FrK) : Sp := fun vs H Q _ => match vs with
 | [.ref a] => ∃ h, LI K H a h ∧ 0 < h.length ∧ ∀ M ∈ h, (∀ x ∈ h, x ≤ M) → Q (.int (M - (h.length : Int))) H
 | _ => False
end PG
namespace PG
open PySem L2 PyProof PyProof.Rows
theorem getD_mem0 {h : List Int} {r : Nat} (hr : r < h.length) : h.getD r 0 ∈ h := by
 rw [List.getD_eq_getElem?_getD, List.getElem?_eq_getElem hr]
 exact List.getElem_mem _
theorem rest_le {x n m : Int} (hm : 1 ≤ m) (e : x % m = n % m) (h : x < n + m) : x ≤ n := by
 have e1 := Int.emod_add_mul_ediv x m
 have e2 := Int.emod_add_mul_ediv n m
 have : m * (x / m) < m * (n / m + 1) := by rw [Int.mul_add, Int.mul_one]; omega
 have h2 := Int.lt_of_mul_lt_mul_left this (by omega)
 have h3 := Int.mul_le_mul_of_nonneg_left (show x / m ≤ n / m by omega) (show 0 ≤ m by omega)
 omega
theorem rest_ge {x n m : Int} (hm : 1 ≤ m) (e : x % m = n % m) (h : n < x) : n + m ≤ x := by
 by_cases z : n + m ≤ x
 ·exact z
 ·have := rest_le hm e (by omega)
  omega
theorem House.canAbove {h : List Int} (a : House h) {B n : Int} (hB : ∀ x ∈ h, x ≤ B) (hn : B - (h.length : Int) < n) : Can h n := by
 have hp := a.pos
 have r0 := rest_lt hp n
 rw [can_iff]
 have hm := getD_mem0 r0
 have hr := a.rest (n % (h.length : Int)).toNat _ (getD_some (ns := h) r0)
 have m0 := Int.emod_nonneg n (show (h.length : Int) ≠ 0 by omega)
 refine rest_le (m := (h.length : Int)) (by omega) (by rw [hr]; omega) ?_
 have := hB _ hm
 omega
theorem House.notTop {h : List Int} (a : House h) {M : Int} (hM : M ∈ h) : ¬ Can h (M - (h.length : Int)) := fun c => by
 have hp := a.pos
 obtain ⟨r, hr⟩ := List.mem_iff_getElem?.mp hM
 have e := a.rest r M hr
 rw [can_iff, Int.sub_emod_right, e, Int.toNat_natCast, getD_at hr] at c
 omega
theorem two_rest {b t : Int} (hb : 1 ≤ b) (ht : 1 ≤ t) (hg : gcdL [b, t] = 1) (s : Int) : ∃ y k : Int, s - t * y = b * k := by
 have m0 := Int.emod_nonneg s (show b ≠ 0 by omega)
 have m1 := Int.emod_lt_of_pos s (show 0 < b by omega)
 obtain ⟨p, hp, e⟩ := every_rest (cs := [b, t]) (m := b.toNat) (r := (s % b).toNat) (by omega) (fun c hc => by simp at hc; rcases hc with z | z <;> omega) hg (by omega)
 have split : ∃ x y : Int, p = b * x + t * y := by
  obtain ⟨k, l, hk, hl, rfl⟩ := hp
  clear e hk k
  induction l with
  | nil => exact ⟨0, 0, by simp⟩
  | cons c l ih =>
   obtain ⟨x, y, e⟩ := ih fun d hd => hl d (List.mem_cons_of_mem _ hd)
   have hc := hl c List.mem_cons_self
   simp at hc
   rw [List.sum_cons, e]
   rcases hc with z | z
   ·exact ⟨x + 1, y, by rw [z, Int.mul_add]; omega⟩
   ·exact ⟨x, y + 1, by rw [z, Int.mul_add]; omega⟩
 obtain ⟨x, y, rfl⟩ := split
 rw [Int.toNat_of_nonneg (show 0 ≤ b by omega), Int.toNat_of_nonneg m0] at e
 refine ⟨y, x + (s / b - (b * x + t * y) / b), ?_⟩
 have e1 := Int.emod_add_mul_ediv s b
 have e2 := Int.emod_add_mul_ediv (b * x + t * y) b
 rw [Int.mul_add, Int.mul_sub]
 omega
theorem gcdL_two (b t : Int) : gcdL [b, t] = Nat.gcd b.toNat t.toNat := by
 show Nat.gcd (Nat.gcd 0 b.toNat) t.toNat = _
 rw [Nat.gcd_zero_left]
end PG
namespace PG
open PySem L2 PyProof PyProof.Rows
theorem comp_objs {J : It} {H1 : Hp} {n : Nat} {P : Nat → V → Hp → Prop} {bl : List (Option Nat)} {σ : L2.St} {g : TG} {tc : TT} {te : TE} {Q : VK} (C : Nat → Addr → List (Addr × HO) → Prop) (jp : JP J H1 n P) (hn : n < sizeLine) (kg : KeepG g (blkSt bl σ))
  (step : ∀ i x H' (R : VK) (Z : Hp → Prop), i < n → Same H1 H' → P i x H' → (∀ (p : Addr) (fs : List (Addr × HO)) H6, Same H' H6 → (∀ z ∈ fs, H' z.1 = none ∧ H6 z.1 = some z.2) → C i p fs → R (.ref p) H6) →
   g x (blkSt bl σ) H' fun σ2 H4 => tc σ2 H4 fun b H5 => if b = true then te σ2 H5 R else Z H5)
  (fin : ∀ (D : Addr) H' (ps : List Addr), H1 D = none → Same H1 H' → H' D = some (.lst (ps.map V.ref)) → ps.length = n → (∀ (k : Nat) p, ps[k]? = some p → ∃ fs, (∀ z ∈ fs, H1 z.1 = none ∧ H' z.1 = some z.2) ∧ C k p fs) → Q (.ref D) H') :
  CompB bl g tc te σ Q J H1 := by
 intro D hD
 refine ⟨fun i m H2 => m = n - i ∧ i ≤ n ∧ Same H1 H2 ∧ ∃ ps : List Addr, ps.length = i ∧ H2 D = some (.lst (ps.map V.ref)) ∧ ∀ (k : Nat) p, ps[k]? = some p → ∃ fs, (∀ z ∈ fs, z.1 ≠ D ∧ H1 z.1 = none ∧ H2 z.1 = some z.2) ∧ C k p fs, ⟨n, rfl, Nat.zero_le _, Same.new hD, [], rfl, upd_same, fun k p h => by simp at h⟩, ?_⟩
 rintro i m H2 ⟨rfl, hi, sm, ps, pl, hx, hps⟩
 by_cases hlt : i < n
 ·refine .inr ⟨jp.go i H2 hlt sm, fun x H3 y => ⟨kg, ?_⟩⟩
  obtain ⟨s3, p3⟩ := jp.yld i H2 x H3 hlt sm y
  have hx3 := s3 D _ hx
  refine step i x H3 _ _ hlt (sm.trans s3) p3 fun p fs H6 s6 hfs hC => ?_
  have hfD : ∀ z ∈ fs, z.1 ≠ D := fun z hz e => by
   have := (hfs z hz).1
   rw [e, hx3] at this
   cases this
  refine ⟨_, s6 D _ hx3, by rw [List.length_map]; omega, n - (i + 1), by omega, rfl, hlt, ((sm.trans s3).trans s6).put hD, ps ++ [p], by simp [pl], by rw [upd_same, List.map_append]; rfl, fun k q hq => ?_⟩
  by_cases hk : k < ps.length
  ·rw [List.getElem?_append_left hk] at hq
   obtain ⟨gs, hg, hC'⟩ := hps k q hq
   exact ⟨gs, fun z hz => ⟨(hg z hz).1, (hg z hz).2.1, by rw [upd_ne (hg z hz).1]; exact s6 _ _ (s3 _ _ (hg z hz).2.2)⟩, hC'⟩
  ·rw [List.getElem?_append_right (by omega)] at hq
   by_cases hk0 : k - ps.length = 0
   ·rw [hk0] at hq
    cases hq
    have : k = i := by omega
    subst this
    exact ⟨fs, fun z hz => ⟨hfD z hz, (sm.trans s3).free (hfs z hz).1, by rw [upd_ne (hfD z hz)]; exact (hfs z hz).2⟩, hC⟩
   ·rw [List.getElem?_eq_none (by simp; omega)] at hq
    cases hq
 ·have e : i = n := by omega
  subst e
  refine .inl ⟨jp.stop H2 sm, fin D H2 ps hD sm hx pl fun k p hp => ?_⟩
  obtain ⟨fs, hf, hC⟩ := hps k p hp
  exact ⟨fs, fun z hz => (hf z hz).2, hC⟩
end PG
namespace L2
open PySem PySem.Spec PyProof.Rows
section
variable {prog : Program} {w : World} {A : Around} {I : Addr} {fp wr : List Addr} {n : Nat} {P : Nat → Value → Prop} {St : Nat → Heap → Prop} {R : Result → Shared → Prop} {d : Value}
theorem maxD_more (W : Walks prog w A.in1 I fp wr n P St) (bt : Nat → Nat → Bool) (cm : CmpOf prog w A.in1 .Gt P bt) (S : Addr) (nS : S ∉ fp) (m : Nat) :
  ∀ (j : Nat) (s : Shared) (vb : Value) (c : Nat), n = j + 1 + m → St (j + 1) s.heap → P (argBest bt j) vb → s.heap.get? S = some { cls := .type "list", dict := none, data := .seq #[vb, vb] c, slots := #[] } →
  (∀ v h2 tk, P (argBest bt (n - 1)) v → (∀ b o, b ∉ wr → b ≠ S → s.heap.get? b = some o → h2.get? b = some o) → R (.ok (.ret v)) { s with heap := h2, toks := tk }) →
  codeAny (model prog w) A (.builtin "max.loop" ⟨[.ref I, .none, .ref S], [(Str.ofString "default", d)]⟩) R s := by
 have nw : S ∉ wr := fun z => nS (W.sub _ z)
 have nm : (toString "max" ++ toString ".loop" : String) = "max.loop" := by decide
 induction m with
 | zero =>
  intro j s vb c en st pb gS fin
  (refine codeAny_builtin F.entry_max_loop ?_; rw [Around.under_plainId F.plain_max_loop _])
  refine (show wpAny _ A.in1 (seqItems? (.ref S) >>= _) _ _ s from wpAny_bind (wpAny_seqItems gS rfl ?_))
  refine (show wpAny _ A.in1 (tryCatch (pyNext (.ref I)) _ >>= _) _ _ s from wpAny_bind (wpAny_tryCatch (W.done s _ _ (by rw [en]; exact st) fun h2 tk kk => ?_)))
  have g2 := kk S _ nw gS
  refine (show wpAny _ A.in1 (updateSeq S (fun _ => #[]) >>= _) _ _ _ from wpAny_bind ?_)
  refine wpAny_updateSeq g2 rfl (wpAny_bind (wpAny_letGo (wpAny_pure ?_)))
  exact fin vb _ tk (by rw [en]; exact pb) fun b o b1 b2 e => (Heap.get?_update_other _ _ (Ne.symm b2)).trans (kk b o b1 e)
 | succ m ih =>
  intro j s vb c en st pb gS fin
  (refine codeAny_builtin F.entry_max_loop ?_; rw [Around.under_plainId F.plain_max_loop _])
  refine (show wpAny _ A.in1 (seqItems? (.ref S) >>= _) _ _ s from wpAny_bind (wpAny_seqItems gS rfl ?_))
  refine (show wpAny _ A.in1 (tryCatch (pyNext (.ref I)) _ >>= _) _ _ s from wpAny_bind (wpAny_tryCatch (W.item (j + 1) s _ _ (by omega) st fun v h2 tk pv st2 kk => ?_)))
  have g2 := kk S _ nw gS
  refine (show wpAny _ A.in1 (tryCatch (holding [v, v] (richCompare .Gt v vb >>= _)) _ >>= _) _ _ _ from wpAny_bind (wpAny_tryCatch (wpAny_holding (wpAny_bind (cm (j + 1) (argBest bt j) v vb _ _ _ pv pb ?_)))))
  refine wpAny_bind (wpAny_holding (wpAny_truthy_bool (wpAny_bind (wpAny_letGo (wpAny_pure ?_)))))
  have kS : ∀ (x : Obj → Obj) (b : Addr) (o : Obj), b ∉ wr → b ≠ S → s.heap.get? b = some o → (h2.update S x).get? b = some o := fun x b o b1 b2 e => (Heap.get?_update_other _ _ (Ne.symm b2)).trans (kk b o b1 e)
  cases hb : bt (j + 1) (argBest bt j) with
  | true =>
   rw [if_pos rfl]
   refine wpAny_bind (wpAny_updateSeq g2 rfl (wpAny_bind (wpAny_letGo ?_)))
   rw [nm]
   refine wpAny_pure ⟨plainId_quiet F.plain_max_loop _, ih (j + 1) _ v _ (by omega) (W.frame _ _ _ st2 fun b bf o e => ?_) (by simp only [argBest, hb, if_true]; exact pv) (Heap.get?_update_self _ g2 rfl) fun v2 h3 tk3 pv3 kk3 => ?_⟩
   ·exact (Heap.get?_update_other _ _ fun z : S = b => nS (by rw [z]; exact bf)).trans e
   ·exact fin v2 h3 tk3 pv3 fun b o b1 b2 e => kk3 b o b1 b2 (kS _ b o b1 b2 e)
  | false =>
   rw [if_neg Bool.false_ne_true]
   refine wpAny_bind (wpAny_letGo ?_)
   rw [nm]
   refine wpAny_pure ⟨plainId_quiet F.plain_max_loop _, ih (j + 1) _ vb c (by omega) st2 (by simp only [argBest, hb, Bool.false_eq_true, if_false]; exact pb) g2 fun v2 h3 tk3 pv3 kk3 => ?_⟩
   exact fin v2 h3 tk3 pv3 fun b o b1 b2 e => kk3 b o b1 b2 (kk b o b1 e)
theorem maxD_first (W : Walks prog w A.in1 I fp wr n P St) (bt : Nat → Nat → Bool) (cm : CmpOf prog w A.in1 .Gt P bt) (S : Addr) (nS : S ∉ fp) {s : Shared} {c : Nat} (st : St 0 s.heap)
  (gS : s.heap.get? S = some { cls := .type "list", dict := none, data := .seq #[] c, slots := #[] })
  (f0 : n = 0 → ∀ h2 tk, (∀ b o, b ∉ wr → b ≠ S → s.heap.get? b = some o → h2.get? b = some o) → R (.ok (.ret d)) { s with heap := h2, toks := tk })
  (fin : 0 < n → ∀ v h2 tk, P (argBest bt (n - 1)) v → (∀ b o, b ∉ wr → b ≠ S → s.heap.get? b = some o → h2.get? b = some o) → R (.ok (.ret v)) { s with heap := h2, toks := tk }) :
  codeAny (model prog w) A (.builtin "max.loop" ⟨[.ref I, .none, .ref S], [(Str.ofString "default", d)]⟩) R s := by
 have nw : S ∉ wr := fun z => nS (W.sub _ z)
 have nm : (toString "max" ++ toString ".loop" : String) = "max.loop" := by decide
 (refine codeAny_builtin F.entry_max_loop ?_; rw [Around.under_plainId F.plain_max_loop _])
 refine (show wpAny _ A.in1 (seqItems? (.ref S) >>= _) _ _ s from wpAny_bind (wpAny_seqItems gS rfl ?_))
 by_cases hn : n = 0
 ·subst hn
  refine (show wpAny _ A.in1 (tryCatch (pyNext (.ref I)) _ >>= _) _ _ s from wpAny_bind (wpAny_tryCatch (W.done s _ _ st fun h2 tk kk => ?_)))
  refine wpAny_bind (wpAny_rule (wpAny_pure ?_))
  exact f0 rfl h2 tk fun b o b1 _ e => kk b o b1 e
 ·refine (show wpAny _ A.in1 (tryCatch (pyNext (.ref I)) _ >>= _) _ _ s from wpAny_bind (wpAny_tryCatch (W.item 0 s _ _ (by omega) st fun v h2 tk pv st2 kk => ?_)))
  have g2 := kk S _ nw gS
  refine (show wpAny _ A.in1 (updateSeq S (fun _ => #[v, v]) >>= _) _ _ _ from wpAny_bind (wpAny_updateSeq g2 rfl ?_))
  rw [nm]
  refine wpAny_pure ⟨plainId_quiet F.plain_max_loop _, maxD_more W bt cm S nS (n - 1) 0 _ v _ (by omega) (W.frame _ _ _ st2 fun b bf o e => ?_) pv (Heap.get?_update_self _ g2 rfl) fun v2 h3 tk3 pv3 kk3 => ?_⟩
  ·exact (Heap.get?_update_other _ _ fun z : S = b => nS (by rw [z]; exact bf)).trans e
  ·exact fin (by omega) v2 h3 tk3 pv3 fun b o b1 b2 e => kk3 b o b1 b2 ((Heap.get?_update_other _ _ (Ne.symm b2)).trans (kk b o b1 e))
end
section
variable {prog : Program} {w : World} {A : Around} {E : Value → Shared → Prop} {s : Shared}
theorem call_kws {id : String} {f : Builtin} {us : List Value} {kws : List (Str × Value)} {Q : Value → Shared → Prop} (h1 : builtinKind id = none) (h2 : plainId id = true) (h3 : entryFor table id = some f) (h4 : argsOk id ⟨us, kws⟩)
  (go : wpAny (model prog w) A.in1 (f ⟨us, kws⟩) (fun fin s2 => match fin with
   | .done g => (match (Except.ok g : Result) with | .ok (.ret v) => Q v s2 | .ok _ => False | .error e => E e s2)
   | .again c2 => c2.quiet = true ∧ codeAny (model prog w) A c2 (fun r s3 => match r with | .ok (.ret v) => Q v s3 | .ok _ => False | .error e => E e s3) s2) E s) :
  wpAny (model prog w) A (call (.builtin id) us kws) Q E s := by
 refine wpAny_call (codeAny_call_builtin h2 h3 ?_)
 simp only [checkBuiltinCall, h1]
 cases hq : Manifest.signature? id with
 | none => exact wpAny_pure go
 | some sig =>
  have h5 : Bind.checkArgs id sig ⟨us, kws⟩ = pure () := by simpa only [argsOk, hq] using h4
  simp only [h5]
  exact wpAny_pure go
end
noncomputable def oneOf (f : V → Hp → Prop) : List V → Hp → Prop
 | [d], H => f d H
 | _, _ => False
theorem args_max_dflt (a v : Value) : argsOk "max" ⟨[a], [(Str.ofString "default", v)]⟩ := by
 unfold argsOk
 kernel_rfl
noncomputable def maxP (K : FrK) (Q : VK) : List V → V → Hp → Prop
 | [.ref p], d, H => ∃ ns : List Int, SqL K H p (ns.map V.int) ∧ (ns = [] → Q d H) ∧ ∀ m ∈ ns, (∀ n ∈ ns, n ≤ m) → Q (.int m) H
 | _, _, _ => False
section
variable {X : Cx} {e e2 : Expr} {t : TA} {t2 : TE} {p pos p3 : Pos}
noncomputable def tMaxD (K : FrK) (t : TA) (t2 : TE) : TE := fun σ H Q => t σ H fun vs H1 => t2 σ H1 fun d H2 => maxP K Q vs d H2
theorem pe_maxD (hc : X.calm = true) (hm : X.mg "max" = none) (ha : QA X [e] t) (hd : QE X e2 t2) (hg : Gl X "max") (hn : notStar e = true) : PE X (.Call (.Name "max" p) [e] [⟨some "default", e2, p3⟩] pos) (tMaxD X.K t t2) := by
 have hs : starEach [e] X.env = [(false, eval e X.env)] := by rw [se hn, starEach]
 intro pins s σ H Q I h
 refine wpAny_Call_Name_kw (ld_blt I hg hm boot_max ?_)
 have hA := ha.run pos pins s σ H _ I h
 rw [hs] at hA ⊢
 refine callWith_builtin_kwB rfl rfl (evalArgs_kw rfl ?_)
 refine thn hA fun us s1 ⟨vs, H1, I1, r1, q1⟩ => ?_
 refine thn ((pk_cons hd.run pk_nil : PK X [⟨some "default", e2, p3⟩] _) pos pins s1 σ H1 (oneOf fun d H2 => maxP X.K Q vs d H2) I1 q1) fun ws s2 ⟨zs, H2, I2, rz, q2⟩ => ?_
 clear q1 I1 hA h I
 match zs, rz, q2 with
 | [d], rz, q2 =>
  obtain ⟨ud, rfl, rd⟩ := vals1 rz
  have q3 : maxP X.K Q vs d H2 := q2
  match vs, r1, q3 with
  | [.ref l], r1, ⟨ns, hq, q0, qm⟩ =>
   obtain ⟨u, rfl, ru⟩ := vals1 r1
   cases ru
   show wpAny (model X.prog X.w) X.A (call (.builtin "max") [.ref l] [(Str.ofString "default", ud)]) _ _ s2
   obtain ⟨its, rv, pl, hz⟩ := I2.list hq
   have hi := intsAre_of rv
   have hlen : its.length = ns.length := by rw [← rv.length, List.length_map]
   have hl := pl.isList
   have hlt : l < s2.heap.objs.size := by
    obtain ⟨o, ho, _⟩ := hl
    exact Heap.lt_size ho
   have nm : (toString "max" ++ toString ".loop" : String) = "max.loop" := by decide
   refine call_kws F.kind_max F.plain_max F.entry_max (args_max_dflt _ _) ?_
   refine (show wpAny _ X.A.in1 (Builtin.Builtins.bindParams "max" ["key", "default"] 0 ⟨[], [(Str.ofString "default", ud)]⟩ >>= _) _ _ s2 from wpAny_bind (wpAny_of_eq (show Builtin.Builtins.bindParams "max" ["key", "default"] 0 ⟨[], [(Str.ofString "default", ud)]⟩ = pure [none, some ud] from rfl) ?_))
   refine wpAny_bind (wpAny_pure (wpAny_bind (wpAny_pyIter_list hl (wpAny_bind (wpAny_newList ?_ (Nat.zero_le _))))))
   rw [nm]
   have hS : (s2.heap.push { cls := .type "list_iterator", data := .fields #[.ref l, .int 0 0] }).objs.size = s2.heap.objs.size + 1 := Heap.size_push ..
   have W := Walks.list (prog := X.prog) (w := X.w) (handled_in1 (I2.ok.hd hc)) s2.heap.objs.size l (Nat.ne_of_lt hlt) its.toArray
   refine wpAny_pure ⟨plainId_quiet F.plain_max_loop _, maxD_first W (fun i j => decide (ns.getD i 0 > ns.getD j 0)) ?_ _ ?_ ⟨⟨_, Heap.get?_push_of_some _ (Heap.get?_push_size _ rfl), rfl, rfl⟩, (hl.push _).push _⟩ (Heap.get?_push_size _ rfl) (fun n0 h2 tk kk => ?_) (fun np v h2 tk pv kk => ?_)⟩
   ·intro i j vi vj s3 Q' E' h1 h2 hQ'
    obtain ⟨t1, e1⟩ := IntsAre.int_at hi i vi (by simpa using h1)
    obtain ⟨t2, e2⟩ := IntsAre.int_at hi j vj (by simpa using h2)
    subst e1 e2
    exact gt_int hQ'
   ·intro hb
    simp only [List.mem_cons, List.not_mem_nil, or_false] at hb
    rcases hb with z | z
    ·exact absurd (hS.symm.trans z) (Nat.succ_ne_self _)
    ·exact absurd (hS.symm.trans z) (Nat.ne_of_gt (Nat.lt_succ_of_lt hlt))
   ·have n0' : ns = [] := List.eq_nil_of_length_eq_zero (by rw [← hlen]; simpa using n0)
    exact ⟨d, H2, I2.kept (t' := tk) fun c o ec => kk c o (by simp only [List.mem_singleton]; exact Nat.ne_of_lt (Heap.lt_size ec)) (by rw [hS]; exact Nat.ne_of_lt (Nat.lt_succ_of_lt (Heap.lt_size ec))) (Heap.get?_push_of_some _ (Heap.get?_push_of_some _ ec)), rd, q0 n0'⟩
   ·obtain ⟨a1, a2⟩ := argBest_gt (fun i => ns.getD i 0) (its.toArray.size - 1)
    have hsz : its.toArray.size = ns.length := by rw [List.size_toArray, hlen]
    have hb : argBest (fun i j => decide (ns.getD i 0 > ns.getD j 0)) (its.toArray.size - 1) < ns.length := by omega
    generalize hbb : argBest (fun i j => decide (ns.getD i 0 > ns.getD j 0)) (its.toArray.size - 1) = b at *
    obtain ⟨tv, ev⟩ := IntsAre.int_at hi b v (by simpa using pv)
    subst ev
    refine ⟨.int (ns.getD b 0), H2, I2.kept (t' := tk) fun c o ec => kk c o (by simp only [List.mem_singleton]; exact Nat.ne_of_lt (Heap.lt_size ec)) (by rw [hS]; exact Nat.ne_of_lt (Nat.lt_succ_of_lt (Heap.lt_size ec))) (Heap.get?_push_of_some _ (Heap.get?_push_of_some _ ec)), ⟨_, rfl⟩, qm _ ?_ fun n hn => ?_⟩
    ·rw [List.getD_eq_getElem?_getD, List.getElem?_eq_getElem hb]
     exact List.getElem_mem hb
    ·obtain ⟨i, hi', rfl⟩ := List.mem_iff_getElem.mp hn
     have := a2 i (by omega)
     rw [List.getD_eq_getElem?_getD, List.getD_eq_getElem?_getD, List.getElem?_eq_getElem hi'] at this
     rw [List.getD_eq_getElem?_getD]
     exact this
theorem q_maxD {K : FrK} (hc : X.calm = true) (hm : X.mg "max" = none) (ha : QA X [e] t) (hd : QE X e2 t2) (hg : Gl X "max" := by rfl) (hn : notStar e = true := by rfl) (hK : X.K = K := by rfl) : QE X (.Call (.Name "max" p) [e] [⟨some "default", e2, p3⟩] pos) (tMaxD K t t2) := by
 subst hK
 exact ⟨pe_maxD hc hm ha hd hg hn⟩
end
end L2
namespace L2
open PySem PySem.Spec PyProof.Rows
section
variable {κ : Type} [DecidableEq κ]
noncomputable def valV (kvs : List (κ × V)) (k : κ) : Option V := (kvs.find? fun kv => decide (kv.1 = k)).map (·.2)
noncomputable def putK (kvs : List (κ × V)) (k : κ) (v : V) : List (κ × V) :=
 if (kvs.any fun kv => decide (kv.1 = k)) = true then kvs.map (fun kv => if kv.1 = k then (kv.1, v) else kv) else kvs ++ [(k, v)]
theorem valV_nil {k : κ} : valV ([] : List (κ × V)) k = none := rfl
theorem valV_pos {p : κ × V} {r : List (κ × V)} {k : κ} (e : p.1 = k) : valV (p :: r) k = some p.2 := by simp [valV, List.find?_cons, e]
theorem valV_neg {p : κ × V} {r : List (κ × V)} {k : κ} (e : ¬ p.1 = k) : valV (p :: r) k = valV r k := by simp [valV, List.find?_cons, e]
theorem valV_any (k : κ) : ∀ kvs : List (κ × V), (kvs.any fun kv => decide (kv.1 = k)) = (valV kvs k).isSome
 | [] => rfl
 | p :: r => by
  rw [List.any_cons]
  by_cases e : p.1 = k
  ·simp only [valV_pos e, decide_eq_true e, Bool.true_or, Option.isSome_some]
  ·rw [valV_neg e, decide_eq_false e, Bool.false_or]; exact valV_any k r
theorem valV_map (k j : κ) (y : V) : ∀ kvs : List (κ × V), valV (kvs.map fun kv => if kv.1 = k then (kv.1, y) else kv) j = (valV kvs j).map fun x => if j = k then y else x
 | [] => rfl
 | p :: r => by
  have ih := valV_map k j y r
  rw [List.map_cons]
  by_cases h : p.1 = k
  ·rw [if_pos h]
   by_cases e : p.1 = j
   ·rw [valV_pos (p := (p.1, y)) e, valV_pos e, Option.map_some, if_pos (e.symm.trans h)]
   ·rw [valV_neg (p := (p.1, y)) e, valV_neg e, ih]
  ·rw [if_neg h]
   by_cases e : p.1 = j
   ·rw [valV_pos (p := p) e, valV_pos e, Option.map_some, if_neg (fun z => h (e.trans z))]
   ·rw [valV_neg (p := p) e, valV_neg e, ih]
theorem valV_snoc (k j : κ) (y : V) : ∀ kvs : List (κ × V), valV kvs k = none → valV (kvs ++ [(k, y)]) j = if j = k then some y else valV kvs j
 | [], _ => by
  by_cases e : k = j
  ·rw [if_pos e.symm]; exact valV_pos (p := (k, y)) e
  ·rw [if_neg (fun z => e z.symm)]; exact valV_neg (p := (k, y)) e
 | p :: r, hn => by
  rw [List.cons_append]
  have hk : ¬ p.1 = k := fun z => by rw [valV_pos z] at hn; cases hn
  rw [valV_neg hk] at hn
  have ih := valV_snoc k j y r hn
  by_cases e : p.1 = j
  ·rw [valV_pos e, valV_pos e, if_neg (fun z => hk (e.trans z))]
  ·rw [valV_neg e, valV_neg e, ih]
theorem valV_put (kvs : List (κ × V)) (k j : κ) (y : V) : valV (putK kvs k y) j = if j = k then some y else valV kvs j := by
 unfold putK
 by_cases a : (kvs.any fun kv => decide (kv.1 = k)) = true
 ·rw [if_pos a, valV_map]
  rw [valV_any] at a
  by_cases e : j = k
  ·obtain ⟨x, hx⟩ := Option.isSome_iff_exists.mp a
   rw [if_pos e, e, hx, Option.map_some, if_pos rfl]
  ·rw [if_neg e]
   cases valV kvs j with
   | none => rfl
   | some x => rw [Option.map_some, if_neg e]
 ·rw [if_neg a]
  refine valV_snoc k j y kvs ?_
  rw [valV_any] at a
  cases q : valV kvs k with
  | none => rfl
  | some x => rw [q] at a; exact (a rfl).elim
theorem RelO.isSome_eq {o : Option V} {u : Option Value} (r : RelO o u) : o.isSome = u.isSome := by
 cases o with
 | none => cases u with
  | none => rfl
  | some _ => exact (show False from r).elim
 | some _ => cases u with
  | none => exact (show False from r).elim
  | some _ => rfl
theorem KV.val {kvs : List (κ × V)} {vs : List (κ × Value)} (r : KV kvs vs) (k : κ) : RelO (valV kvs k) (valueAt vs k) := by
 unfold KV at r
 induction r with
 | nil => exact True.intro
 | @cons p q ps qs h t ih =>
  obtain ⟨h1, h2⟩ := h
  by_cases e : p.1 = k
  ·have e' : q.1 = k := h1.symm.trans e
   have b : valueAt (q :: qs) k = some q.2 := by simp [valueAt, List.find?_cons, e']
   rw [valV_pos e, b]; exact h2
  ·have e' : ¬ q.1 = k := fun z => e (h1.trans z)
   have b : valueAt (q :: qs) k = valueAt qs k := by simp [valueAt, List.find?_cons, e']
   rw [valV_neg e, b]; exact ih
theorem KV.any {kvs : List (κ × V)} {vs : List (κ × Value)} (r : KV kvs vs) (k : κ) : (kvs.any fun kv => decide (kv.1 = k)) = vs.any fun kv => decide (kv.1 = k) := by
 unfold KV at r
 induction r with
 | nil => rfl
 | cons h t ih => rw [List.any_cons, List.any_cons, ih, h.1]
theorem KV.repl {kvs : List (κ × V)} {vs : List (κ × Value)} (r : KV kvs vs) (k : κ) {y : V} {u : Value} (ry : RelV y u) :
  KV (kvs.map fun kv => if kv.1 = k then (kv.1, y) else kv) (vs.map fun kv => if kv.1 = k then (kv.1, u) else kv) := by
 unfold KV at r ⊢
 induction r with
 | nil => exact .nil
 | @cons p q ps qs h t ih =>
  rw [List.map_cons, List.map_cons]
  refine .cons ?_ ih
  obtain ⟨h1, h2⟩ := h
  by_cases e : p.1 = k
  ·rw [if_pos e, if_pos (h1.symm.trans e)]; exact ⟨h1, ry⟩
  ·rw [if_neg e, if_neg (fun z => e (h1.trans z))]; exact ⟨h1, h2⟩
theorem KV.put {kvs : List (κ × V)} {vs : List (κ × Value)} (r : KV kvs vs) (k : κ) {y : V} {u : Value} (ry : RelV y u) : KV (putK kvs k y) (stored vs k u) := by
 unfold putK stored
 rw [r.any k]
 by_cases e : (vs.any fun kv => decide (kv.1 = k)) = true
 ·rw [if_pos e, if_pos e]; exact r.repl k ry
 ·rw [if_neg e, if_neg e]; exact Paired.snoc r ⟨rfl, ry⟩
theorem KV.length {kvs : List (κ × V)} {vs : List (κ × Value)} (r : KV kvs vs) : kvs.length = vs.length := Paired.length r
end
theorem kV_is {P : Program} {w : World} {k : Key} {u : Value} (r : RelV (kV k) u) : (mixKind P w).is k u = true := by
 cases k with
 | inl i => obtain ⟨t, e⟩ := (show ∃ t, u = Value.int i t from r); subst e; exact mixKind_int P w i t
 | inr x => obtain ⟨t, e⟩ := (show ∃ t, u = Value.str x t from r); subst e; exact mixKind_str P w x t
theorem items_are {P : Program} {w : World} : ∀ {ks : List Key} {us : List Value}, Vals (ks.map kV) us → ItemsAre (mixKind P w) ks us
 | [], _, r => by rw [List.map_nil] at r; cases r; exact .nil
 | k :: ks, _, r => by
  rw [List.map_cons] at r
  cases r with
  | cons h t => exact .cons (kV_is h) (items_are t)
noncomputable abbrev KT (H : Hp) : List (List Key × V) → List (List Key × Addr × Value) → Prop := Paired fun p q => p.1 = q.1 ∧ H q.2.1 = some (.tup (p.1.map kV)) ∧ RelV p.2 q.2.2
theorem KT.val {H : Hp} {kvs : List (List Key × V)} {xs : List (List Key × Addr × Value)} (r : KT H kvs xs) (k : List Key) : RelO (valV kvs k) ((atKey xs k).map (·.2)) := by
 induction r with
 | nil => exact True.intro
 | @cons p q ps qs h t ih =>
  obtain ⟨h1, _, h2⟩ := h
  by_cases e : p.1 = k
  ·have e' : q.1 = k := h1.symm.trans e
   have b : atKey (q :: qs) k = some q.2 := by simp [atKey, List.find?_cons, e']
   rw [valV_pos e, b]; exact h2
  ·have e' : ¬ q.1 = k := fun z => e (h1.trans z)
   have b : atKey (q :: qs) k = atKey qs k := by simp [atKey, List.find?_cons, e']
   rw [valV_neg e, b]; exact ih
section
variable {P : Program} {w : World} {H : Hp} {h : Heap} {a : Addr}
theorem rd_of {u : HO} (ok : HOk P w H h) (e : Rd H a u) : ObjOk P w H h a u := e.ok ok
theorem dk_rd {kvs : List (Key × V)} (ok : HOk P w H h) (e : Rd H a (.dK kvs)) : kvs.length ≤ sizeLine ∧ (a == sysModules) = false ∧ ∃ vs, KV kvs vs ∧ h.DictOf (mixKind P w) a vs :=
 show ObjOk P w H h a (.dK kvs) from rd_of ok e
theorem key_of {ks : List Key} (ok : HOk P w H h) (e : H a = some (.tup (ks.map kV))) : (tupleKind (mixKind P w)).is h ks a := by
 obtain ⟨_, its, r, o, h1, h2, n, h3⟩ := (show ObjOk P w H h a (.tup (ks.map kV)) from ok a _ e)
 exact ⟨o, its.toArray, n, h1, h2, h3, by simpa using items_are r⟩
theorem dt_rd {kvs : List (List Key × V)} (ok : HOk P w H h) (e : Rd H a (.dT kvs)) : kvs.length ≤ sizeLine ∧ (a == sysModules) = false ∧
  ∃ xs, KT H kvs xs ∧ h.DictOfH (tupleKind (mixKind P w)) a xs := by
 obtain ⟨z, y, xs, r, o, es, ep, h1, h2, h3, h4, h5⟩ := (show ObjOk P w H h a (.dT kvs) from rd_of ok e)
 refine ⟨z, y, xs, r, o, es, ep, h1, h2, h3, h4, fun x hx => ?_, h5⟩
 have all : ∀ {l : List (List Key × V)} {m : List (List Key × Addr × Value)}, KT H l m → ∀ x ∈ m, (tupleKind (mixKind P w)).is h x.1 x.2.1 := by
  intro l m q
  induction q with
  | nil => intro x hx; exact nomatch hx
  | @cons p q ps qs hq t ih =>
   intro x hx
   rcases List.mem_cons.mp hx with e | hx
   ·subst e
    exact key_of ok (by rw [← hq.1]; exact hq.2.1)
   ·exact ih x hx
 exact all r x hx
end
noncomputable def DGet (H : Hp) (a : Addr) (y : V) (r : Option V) : Prop :=
 (∃ kvs k, Rd H a (.dK kvs) ∧ y = kV k ∧ r = valV kvs k) ∨ ∃ kvs k b, Rd H a (.dT kvs) ∧ y = .ref b ∧ H b = some (.tup (k.map kV)) ∧ r = valV kvs k
section
variable {X : Cx} {pins : List (Addr × Obj)} {σ : St} {H : Hp} {s : Shared} {a : Addr} {y v : V} {u r : Value} {o : Option V} {A : Around} {E : Value → Shared → Prop}
theorem Inv.big (I : Inv X pins σ H s) : sysModules < s.heap.objs.size := by
 have h : mainGlobals < s.heap.objs.size := (I.mod.glob.keeps I.bk).lt
 exact Nat.lt_trans (by decide) h
theorem d_in {Q : Value → Shared → Prop} (hu : A.units + 1 < cLine) (I : Inv X pins σ H s) (g : DGet H a y o) (ry : RelV y u) (h : ∀ s', Inv X pins σ H s' → Q (.bool o.isSome) s') :
  wpAny (model X.prog X.w) A (compareOp .In u (.ref a)) Q E s := by
 rcases g with ⟨kvs, k, e, ey, l⟩ | ⟨kvs, k, b, e, ey, eb, l⟩
 ·subst ey
  obtain ⟨z, hd, vs, rel, dd⟩ := dk_rd I.hok e
  refine wpAny_in_of (kV_is ry) hd dd.mapOf ?_
  rw [← (rel.val k).isSome_eq, ← l]
  exact h _ (I.tok _)
 ·subst ey
  cases (show u = Value.ref b from ry)
  obtain ⟨z, hd, xs, rel, dd⟩ := dt_rd I.hok e
  refine wpAny_in_heap (tupleKind_room_in1 hu) (key_of I.hok eb) hd dd ?_
  have q := (rel.val k).isSome_eq
  rw [Option.isSome_map] at q
  rw [← q, ← l]
  exact h _ (I.tok _)
theorem d_notIn {Q : Value → Shared → Prop} (hu : A.units + 1 < cLine) (I : Inv X pins σ H s) (g : DGet H a y o) (ry : RelV y u) (h : ∀ s', Inv X pins σ H s' → Q (.bool (!o.isSome)) s') :
  wpAny (model X.prog X.w) A (compareOp .NotIn u (.ref a)) Q E s := by
 rcases g with ⟨kvs, k, e, ey, l⟩ | ⟨kvs, k, b, e, ey, eb, l⟩
 ·subst ey
  obtain ⟨z, hd, vs, rel, dd⟩ := dk_rd I.hok e
  refine wpAny_notIn_of (kV_is ry) hd dd.mapOf ?_
  rw [← (rel.val k).isSome_eq, ← l]
  exact h _ (I.tok _)
 ·subst ey
  cases (show u = Value.ref b from ry)
  obtain ⟨z, hd, xs, rel, dd⟩ := dt_rd I.hok e
  refine wpAny_notIn_heap (tupleKind_room_in1 hu) (key_of I.hok eb) hd dd ?_
  have q := (rel.val k).isSome_eq
  rw [Option.isSome_map] at q
  rw [← q, ← l]
  exact h _ (I.tok _)
theorem dk_new {P : Program} {w : World} {H' : Hp} {h' : Heap} {kvs : List (Key × V)} {vs : List (Key × Value)} (z : kvs.length ≤ sizeLine) (hd : (a == sysModules) = false) (rel : KV kvs vs) (dd : h'.DictOf (mixKind P w) a vs) :
  ObjOk P w H' h' a (.dK kvs) := ⟨z, hd, vs, rel, dd⟩
end
noncomputable def mergeK (kvs more : List (Key × V)) : List (Key × V) := more.foldl (fun acc kv => putK acc kv.1 kv.2) kvs
theorem KV.merge : ∀ {more : List (Key × V)} {rs : List (Key × Value)} {kvs : List (Key × V)} {vs : List (Key × Value)}, KV more rs → KV kvs vs → KV (mergeK kvs more) (merged vs rs) := by
 intro more rs kvs vs r
 unfold KV at r
 induction r generalizing kvs vs with
 | nil => intro q; exact q
 | @cons p q ps qs h t ih =>
  intro r0
  have e : KV (putK kvs p.1 p.2) (stored vs q.1 q.2) := by
   have := r0.put p.1 h.2
   rw [← h.1]; exact this
  exact ih e
end L2
namespace L2
open PySem PySem.Spec PyProof.Rows
section
variable {X : Cx}
noncomputable def uInD (neg : Bool) : R2 := fun y x H Q => match y, x with
 | .int i, .ref a => ∃ kvs, Rd H a (.dK kvs) ∧ Q (.bl (if neg then !(valV kvs (Sum.inl i)).isSome else (valV kvs (Sum.inl i)).isSome)) H
 | _, _ => False
theorem uo_inD (hu : X.A.units + 8 < cLine) : OpR X (compareOp .In) (uInD false) := fun pins s σ H y x v u Q I ry rx h => by
 cases y <;> cases x <;> first
  | exact False.elim h
  | skip
 obtain ⟨kvs, hd, q⟩ := h
 cases rx
 exact d_in (by omega) I (.inl ⟨kvs, Sum.inl _, hd, rfl, rfl⟩) ry fun s' I' => ⟨.bl _, H, I', rfl, q⟩
theorem uo_notInD (hu : X.A.units + 8 < cLine) : OpR X (compareOp .NotIn) (uInD true) := fun pins s σ H y x v u Q I ry rx h => by
 cases y <;> cases x <;> first
  | exact False.elim h
  | skip
 obtain ⟨kvs, hd, q⟩ := h
 cases rx
 exact d_notIn (by omega) I (.inl ⟨kvs, Sum.inl _, hd, rfl, rfl⟩) ry fun s' I' => ⟨.bl _, H, I', rfl, q⟩
end
end L2
namespace L2
open PySem PySem.Spec PyProof.Rows
theorem list_keys_none : typeLookup (.type "list") "keys" = pure none := by rw [typeLookup_type, builtinLookup_eq_fast]; kernel_rfl
theorem list_ga_none : typeLookup (.type "list") "__getattr__" = pure none := by rw [typeLookup_type, builtinLookup_eq_fast]; kernel_rfl
section
variable {prog : Program} {w : World} {A : Around} {E : Value → Shared → Prop}
theorem ga_keys {s : Shared} {a : Addr} {its : Array Value} {n : Nat} {u : Tok} {Q : Fin → Shared → Prop} (hx : s.heap.get? a = some (seqObj "list" its n)) (hA : A.handled = none)
  (h : ∀ h' tk e, Heap.NewAttrErr s.heap h' e (.ref a) "keys" → E (.ref e) { s with heap := h', toks := tk }) : wpAny (model prog w) A (Builtin.«object.__getattribute__» ⟨[.ref a, .str "keys" u], []⟩) Q E s := by
 have hT : s.TypeIs (.ref a) "list" := ⟨_, hx, rfl⟩
 have f1 := list_keys_none
 obtain ⟨hp, g, d, tk, os⟩ := s
 unfold Builtin.«object.__getattribute__»
 repeat (any_goals (first | assumption | wp_step))
 exact wpAny_raiseAttrError hA h (attrMsg_fits (by decide +kernel) (by size_fits))
theorem call_ga_keys {s : Shared} {a : Addr} {its : Array Value} {n : Nat} {u : Tok} {R : Result → Shared → Prop} (hx : s.heap.get? a = some (seqObj "list" its n)) (hA : A.handled = none)
  (h : ∀ h' tk e, Heap.NewAttrErr s.heap h' e (.ref a) "keys" → R (.error (.ref e)) { s with heap := h', toks := tk }) : codeAny (model prog w) A (.call (.builtin "list.__getattribute__") ⟨[.ref a, .str "keys" u], []⟩) R s :=
 codeAny_call_builtin F.slot_list_getattribute.plain F.entry_list_ga (F.slot_list_getattribute.check _ _ _ _ _ _ _ _ (show s.TypeIs (.ref a) "list" from ⟨_, hx, rfl⟩) (F.args_list_getattribute_2 _ _) (ga_keys hx hA h))
theorem getAttr_keys {s : Shared} {a : Addr} {its : Array Value} {n : Nat} {Q : Option Value → Shared → Prop} (hx : s.heap.get? a = some (seqObj "list" its n)) (hA : A.handled = none)
  (h : ∀ h' tk, (∀ b o, s.heap.get? b = some o → h'.get? b = some o) → Q none { s with heap := h', toks := tk }) : wpAny (model prog w) A (getAttr? (.ref a) "keys") Q E s := by
 have hT : s.TypeIs (.ref a) "list" := ⟨_, hx, rfl⟩
 have f2 := F.slot_list_getattribute.lookup
 have f3 := F.slot_list_getattribute.bind (.ref a)
 have f4 := list_ga_none
 have f5 := sub_AttributeError
 obtain ⟨hp, g, d, tk, os⟩ := s
 unfold getAttr? getAttrBy? getAttrBy
 repeat (any_goals (first | assumption | wp_step))
 refine call_ga_keys hx hA fun h' tk' e hn => ?_
 obtain ⟨t', u', he⟩ := hn.there
 show wpAny _ _ (getattributeRaised _ _ _ _ _ _ _) _ _ _
 unfold getattributeRaised
 repeat (any_goals (first | assumption | wp_step))
 exact h _ _ hn.keeps
theorem merged_len {κ : Type} [DecidableEq κ] : ∀ (more kvs : List (κ × Value)), (merged kvs more).length ≤ kvs.length + more.length
 | [], kvs => Nat.le_refl _
 | p :: r, kvs => by
  have h := merged_len r (stored kvs p.1 p.2)
  have h2 : (stored kvs p.1 p.2).length ≤ kvs.length + 1 := by
   unfold stored
   split
   ·rw [List.length_map]; omega
   ·rw [List.length_append]; exact Nat.le_refl _
  show (merged (stored kvs p.1 p.2) r).length ≤ _
  rw [List.length_cons]
  omega
theorem entry_upd_loop : entryFor table "dict.update.loop" = some Builtin.«dict.update.loop» := entryFor_of_tree (by kernel_rfl)
theorem plain_upd_loop : plainId "dict.update.loop" = true := by decide +kernel
theorem pairs_loop {knd : KeyKind prog w Key} (hh : A.handled = none) (d l it : Addr) (its : Array Value) (kvs : List (Key × Value)) (hl : kvs.length = its.size) (hlit : l ≠ it) (hld : l ≠ d) (hdit : d ≠ it) (hz : kvs.length ≤ sizeLine) {R : Result → Shared → Prop} (h0 : Heap)
  (hp : ∀ (i : Nat) (k : Key) (v : Value), kvs[i]? = some (k, v) → ∃ (t : Addr) (key : Value) (ot : Obj) (n : Nat), its[i]? = some (.ref t) ∧ t ≠ it ∧ t ≠ d ∧ h0.get? t = some ot ∧ ot.cls = .type "tuple" ∧ ot.data = .seq #[key, v] n ∧ knd.is k key = true) :
  ∀ (j i : Nat) (s : Shared) (u : Tok), kvs.length - i = j → i ≤ kvs.length → s.heap.IsListIter it l i → s.heap.IsList l its → s.heap.DictOf knd d (merged [] (kvs.take i)) → (∀ b o, b ≠ it → b ≠ d → h0.get? b = some o → s.heap.get? b = some o) →
   (∀ (h' : Heap) (tk : Nat), h'.DictOf knd d (merged [] kvs) → (∀ b o, b ≠ it → b ≠ d → s.heap.get? b = some o → h'.get? b = some o) → R (.ok (.ret .none)) { s with heap := h', toks := tk }) →
   codeAny (model prog w) A (.builtin "dict.update.loop" ⟨[.ref d, .ref it, .int (i : Int) u, .none], []⟩) R s := by
 intro j
 induction j with
 | zero =>
  intro i s u hj hi hit hL hD hk hR
  have e : i = kvs.length := by omega
  subst e
  refine codeAny_builtin entry_upd_loop ?_
  rw [Around.under_plainId plain_upd_loop _]
  show wpAny _ A.in1 (pyNext (.ref it) >>= _) _ _ s
  refine wpAny_bind (wpAny_pyNext_list_end (handled_in1 hh) hit hL (by rw [hl]; simp) fun h' eb => ?_)
  show wpAny _ A.in1 (Builtin.Dict.addKeywords d [] >>= _) _ _ _
  refine wpAny_bind (wpAny_pure (wpAny_pure ?_))
  rw [List.take_length] at hD
  obtain ⟨o, es, ep, ho, r⟩ := hD
  exact hR h' s.toks ⟨o, es, ep, eb d o hdit ho, r⟩ fun b o h1 h2 e => eb b o h1 e
 | succ j ih =>
  intro i s u hj hi hit hL hD hk hR
  have hlt : i < kvs.length := by omega
  obtain ⟨⟨k, v⟩, hx⟩ : ∃ p, kvs[i]? = some p := ⟨_, List.getElem?_eq_getElem hlt⟩
  obtain ⟨t, key, ot, n, hti, t1, t2, ht0, hc, hdat, hkey⟩ := hp i k v hx
  refine codeAny_builtin entry_upd_loop ?_
  rw [Around.under_plainId plain_upd_loop _]
  show wpAny _ A.in1 (pyNext (.ref it) >>= _) _ _ s
  refine wpAny_bind (wpAny_pyNext_list_item hit hL hti fun h' hit' sb => ?_)
  have ht : h'.get? t = some ot := (sb.2 t t1).trans (hk t ot t1 t2 ht0)
  have hD' : h'.DictOf knd d (merged [] (kvs.take i)) := by
   obtain ⟨o, es, ep, ho, r⟩ := hD
   exact ⟨o, es, ep, (sb.2 d hdit).trans ho, r⟩
  have hL' : h'.IsList l its := by
   obtain ⟨o, ho, r⟩ := hL
   exact ⟨o, (sb.2 l hlit).trans ho, r⟩
  have hmz : (merged [] (kvs.take i)).length ≤ sizeLine := by
   have h1 := merged_len (kvs.take i) ([] : List (Key × Value))
   have h2 := List.length_take_le i kvs
   simp only [List.length_nil] at h1
   omega
  refine wpAny_bind (wpAny_holding ?_)
  refine wpAny_bind (wpAny_tryCatch ?_)
  unfold Builtin.Dict.pairItems
  refine wpAny_bind (wpAny_typeOf (T := "tuple") ⟨_, ht, hc⟩ ?_)
  rw [if_pos (by decide)]
  refine wpAny_bind (wpAny_seqItems ht hdat (wpAny_pure ?_))
  show wpAny _ A.in1 (holding [key, v] (dictSet d key v)) _ _ _
  refine wpAny_holding (wpAny_dictSet_pairs hkey hD' (fun h2 hD2 sb2 => ?_) hmz)
  refine wpAny_pure ⟨plainId_quiet plain_upd_loop _, ?_⟩
  rw [← merged_take_succ [] kvs i (k, v) hx] at hD2
  refine ih (i + 1) _ _ (by omega) (by omega) ?_ ?_ hD2 (fun b o h1 h2 e => ?_) fun h3 tk hD3 k3 => ?_
  ·obtain ⟨o, ho, r⟩ := hit'
   exact ⟨o, (sb2.2 it (Ne.symm hdit)).trans ho, r⟩
  ·obtain ⟨o, ho, r⟩ := hL'
   exact ⟨o, (sb2.2 l hld).trans ho, r⟩
  ·exact (sb2.2 b h2).trans ((sb.2 b h1).trans (hk b o h1 h2 e))
  ·exact hR h3 tk hD3 fun b o h1 h2 e => k3 b o h1 h2 ((sb2.2 b h2).trans ((sb.2 b h1).trans e))
theorem call_dict_pairs {knd : KeyKind prog w Key} {s : Shared} {l : Addr} {its : Array Value} {n : Nat} {kvs : List (Key × Value)} {Q : Value → Shared → Prop} (hh : A.handled = none) (hL : s.heap.get? l = some (seqObj "list" its n)) (hl : kvs.length = its.size) (hz : kvs.length ≤ sizeLine)
  (hp : ∀ (i : Nat) (k : Key) (v : Value), kvs[i]? = some (k, v) → ∃ (t : Addr) (key : Value) (ot : Obj) (m : Nat), its[i]? = some (.ref t) ∧ s.heap.get? t = some ot ∧ ot.cls = .type "tuple" ∧ ot.data = .seq #[key, v] m ∧ knd.is k key = true)
  (h : ∀ (h' : Heap) (tk : Nat), h'.DictOf knd s.heap.objs.size (merged [] kvs) → (∀ b o, s.heap.get? b = some o → h'.get? b = some o) → Q (.ref s.heap.objs.size) { s with heap := h', toks := tk }) :
  wpAny (model prog w) A (call (.type "dict") [.ref l]) Q E s := by
 refine callType_codes (Q₁ := fun obj s₁ => obj = .ref s.heap.objs.size ∧ s₁ = { s with heap := s.heap.push { cls := .type "dict", data := .dict #[] } }) F.kt_called_dict (F.kt_typeCall_dict_1 _) F.entry_dict_init (kt_code_dict_new _ ⟨rfl, rfl⟩) ?_
 rintro obj s₁ ⟨rfl, rfl⟩
 have hnew : (s.heap.push { cls := .type "dict", data := .dict #[] }).DictOf knd s.heap.objs.size [] := Heap.DictOf.new s.heap
 have hL1 : (s.heap.push { cls := .type "dict", data := .dict #[] }).get? l = some (seqObj "list" its n) := Heap.get?_push_of_some _ hL
 refine ⟨hnew.typeIs, F.args_dict_init_2 _ _, ?_⟩
 unfold Builtin.«dict.__init__»
 refine wpAny_bind ?_
 unfold Builtin.Dict.selfAndRest
 refine wpAny_bind (wpAny_notOrdered_dict hnew.typeIs ?_)
 show wpAny _ _ (pure (s.heap.objs.size, [Value.ref l])) _ _ _
 refine wpAny_pure ?_
 show wpAny _ _ (Builtin.Dict.updateFrom "dict.__init__" s.heap.objs.size (.ref l) [] .none) _ _ _
 unfold Builtin.Dict.updateFrom
 refine wpAny_bind (wpAny_typeOf (T := "list") ⟨_, hL1, rfl⟩ ?_)
 rw [if_pos (by decide)]
 refine wpAny_bind (getAttr_keys hL1 (handled_in1 (handled_in1 hh)) fun h1 tk keeps => ?_)
 rw [if_pos (show (none : Option Value).isNone = true from rfl)]
 refine wpAny_bind (wpAny_rule (wpAny_bind ?_))
 have hL2 := keeps _ _ hL1
 have hsz : s.heap.objs.size < h1.objs.size := Heap.lt_size (keeps _ _ (Heap.get?_push_size _ rfl))
 refine wpAny_pyIter_list (s := { s with heap := h1, toks := tk }) ⟨_, hL2, rfl, _, rfl⟩ ?_
 refine wpAny_pure ⟨plainId_quiet plain_upd_loop _, ?_⟩
 have up : ∀ b o, s.heap.get? b = some o → (h1.push { cls := .type "list_iterator", data := .fields #[.ref l, .int 0 0] }).get? b = some o ∧ b ≠ h1.objs.size ∧ b ≠ s.heap.objs.size := fun b o e => by
  have e1 := keeps b o (Heap.get?_push_of_some _ e)
  exact ⟨Heap.get?_push_of_some _ e1, Nat.ne_of_lt (Heap.lt_size e1), Nat.ne_of_lt (Heap.lt_size e)⟩
 have hld := up l _ hL
 refine pairs_loop (knd := knd) (by exact hh) s.heap.objs.size l h1.objs.size its kvs hl hld.2.1 hld.2.2 (Nat.ne_of_lt hsz) hz (h1.push { cls := .type "list_iterator", data := .fields #[.ref l, .int 0 0] }) (fun i k v hx => ?_) kvs.length 0 _ 0 rfl (Nat.zero_le _) ⟨_, Heap.get?_push_size _ rfl, rfl, rfl⟩ ⟨_, hld.1, rfl, _, rfl⟩ ?_ (fun b o _ _ e => e) fun h' tk' hD k => ?_
 ·obtain ⟨t, key, ot, m, e1, e2, e3, e4, e5⟩ := hp i k v hx
  have ut := up t _ e2
  exact ⟨t, key, ot, m, e1, ut.2.1, ut.2.2, ut.1, e3, e4, e5⟩
 ·obtain ⟨o, es, ep, ho, r⟩ := hnew
  exact ⟨o, es, ep, Heap.get?_push_of_some _ (keeps _ _ ho), r⟩
 ·exact ⟨rfl, h h' tk' hD fun b o e => let ub := up b o e; k b o ub.2.1 ub.2.2 ub.1⟩
end
section
variable {X : Cx}
theorem pairs_at {P : Program} {w : World} {H : Hp} {h : Heap} (ok : HOk P w H h) : ∀ {ps : List Addr} {kvs : List (Key × V)}, ps.length = kvs.length → (∀ (i : Nat) p k v, ps[i]? = some p → kvs[i]? = some (k, v) → H p = some (.tup [kV k, v])) →
  ∃ vs, KV kvs vs ∧ ∀ (i : Nat) (k : Key) (v : Value), vs[i]? = some (k, v) → ∃ (t : Addr) (key : Value) (ot : Obj) (m : Nat), ps[i]? = some t ∧ h.get? t = some ot ∧ ot.cls = .type "tuple" ∧ ot.data = .seq #[key, v] m ∧ (mixKind P w).is k key = true
 | [], [], _, _ => ⟨[], .nil, fun i k v h => by simp at h⟩
 | p :: ps, (k, v) :: kvs, hl, hp => by
  obtain ⟨vs, rel, hv⟩ := pairs_at ok (ps := ps) (kvs := kvs) (by simpa using hl) fun i p' k' v' h1 h2 => hp (i + 1) p' k' v' (by rw [List.getElem?_cons_succ]; exact h1) (by rw [List.getElem?_cons_succ]; exact h2)
  obtain ⟨_, its, rv, o, ho, hc, m, hd⟩ := (show ObjOk P w H h p (.tup [kV k, v]) from ok p _ (hp 0 p k v rfl rfl))
  obtain ⟨key, u, rfl, rk, ru⟩ : ∃ key u, its = [key, u] ∧ RelV (kV k) key ∧ RelV v u := by
   cases rv with
   | cons r1 t1 => cases t1 with
    | cons r2 t2 => cases t2 with
     | nil => exact ⟨_, _, rfl, r1, r2⟩
  refine ⟨(k, u) :: vs, .cons ⟨rfl, ru⟩ rel, fun i k' v' hi => ?_⟩
  cases i with
  | zero =>
   rw [List.getElem?_cons_zero] at hi
   cases hi
   exact ⟨p, key, o, m, rfl, ho, hc, hd, kV_is rk⟩
  | succ j =>
   rw [List.getElem?_cons_succ] at hi
   obtain ⟨t, key', ot, m', e1, e2⟩ := hv j k' v' hi
   exact ⟨t, key', ot, m', by rw [List.getElem?_cons_succ]; exact e1, e2⟩
noncomputable def uDictP : List V → Hp → VK → Prop := fun xs H Q => match xs with
 | [.ref a] => ∃ (ps : List Addr) (kvs : List (Key × V)), H a = some (.lst (ps.map V.ref)) ∧ ps.length = kvs.length ∧ (∀ (i : Nat) p k v, ps[i]? = some p → kvs[i]? = some (k, v) → H p = some (.tup [kV k, v])) ∧ ∀ d, H d = none → Q (.ref d) (upd H d (.dK (mergeK [] kvs)))
 | _ => False
theorem vals_refs : ∀ {ps : List Addr} {us : List Value}, Vals (ps.map V.ref) us → us = ps.map Value.ref
 | [], _, .nil => rfl
 | _ :: _, _, .cons r t => by rw [vals_refs t]; cases r; rfl
theorem uc_dictP (hc : X.calm = true) : CallR X (.type "dict") uDictP := fun pins s σ H xs us Q I r h => by
 unfold uDictP at h
 split at h
 ·rename_i a
  obtain ⟨ps, kvs, ha, hl, hp, q⟩ := h
  obtain ⟨u, rfl, ru⟩ := vals1 r
  cases ru
  obtain ⟨hz, its, n, rv, hlen, hg⟩ := I.lstM ha
  have ei := vals_refs rv
  subst ei
  rw [List.length_map] at hz
  obtain ⟨vs, rel, hv⟩ := pairs_at I.hok hl hp
  have vl := rel.length
  have esz : vs.length = (ps.map Value.ref).toArray.size := by
   rw [List.size_toArray, List.length_map]
   omega
  refine call_dict_pairs (knd := mixKind X.prog X.w) (kvs := vs) (I.ok.hd hc) hg esz (by omega) (fun i k v hi => ?_) fun h' tk hD keeps => ?_
  ·obtain ⟨t, key, ot, m, e1, e2, e3, e4, e5⟩ := hv i k v hi
   exact ⟨t, key, ot, m, by simp [e1], e2, e3, e4, e5⟩
  ·have hfresh := I.hok.fresh (Nat.le_refl s.heap.objs.size)
   have rel2 : KV (mergeK [] kvs) (merged [] vs) := KV.merge rel .nil
   refine ⟨.ref s.heap.objs.size, _, I.laid (a := s.heap.objs.size) (o := .dK (mergeK [] kvs)) (h' := h') (t' := tk) keeps (Nat.le_refl _) (dk_new ?_ (beq_eq_false_iff_ne.mpr (Ne.symm (Nat.ne_of_lt I.big))) rel2 hD), rfl, q _ hfresh⟩
   have := merged_len vs ([] : List (Key × Value))
   rw [rel2.length]
   simp only [List.length_nil] at this
   omega
 ·exact h.elim
end
end L2
namespace PG
open PySem L2 PyProof PyProof.Rows
structure Gaps (G : List Int) : Prop where
 pos : ∀ g ∈ G, 1 ≤ g
 le : ∀ g ∈ G, g ≤ 2000
 up : G.Pairwise (· < ·)
 few : G.length ≤ 300
 cl : ∀ g ∈ G, ∀ a, 1 ≤ a → a < g → a ∈ G ∨ g - a ∈ G
structure HouseOf (G h : List Int) : Prop where
 pos : 1 ≤ h.length
 out : (h.length : Int) ∉ G
 low : ∀ k : Int, 1 ≤ k → k < h.length → k ∈ G
 num : ∀ (r : Nat) (x : Int), h[r]? = some x → ∃ k : Nat, x = (r : Int) + (k : Int) * h.length ∧ x ∉ G ∧ ∀ j : Nat, j < k → (r : Int) + (j : Int) * h.length ∈ G
theorem HouseOf.len {G h h' : List Int} (a : HouseOf G h) (b : HouseOf G h') : h.length = h'.length := by
 by_cases z : h.length < h'.length
 ·exact absurd (b.low h.length (by have := a.pos; omega) (by omega)) a.out
 ·by_cases z2 : h'.length < h.length
  ·exact absurd (a.low h'.length (by have := b.pos; omega) (by omega)) b.out
  ·omega
theorem HouseOf.uniq {G h h' : List Int} (a : HouseOf G h) (b : HouseOf G h') : h = h' := by
 have e := a.len b
 apply List.ext_getElem e
 intro i h1 h2
 obtain ⟨k, k1, k2, k3⟩ := a.num i _ (List.getElem?_eq_getElem h1)
 obtain ⟨j, j1, j2, j3⟩ := b.num i _ (List.getElem?_eq_getElem h2)
 rw [← e] at j1 j3
 have : k = j := by
  rcases Nat.lt_trichotomy k j with z | z | z
  ·exact absurd (j3 k z) (by rw [← k1]; exact k2)
  ·exact z
  ·exact absurd (k3 j z) (by rw [← j1]; exact j2)
 subst this
 rw [k1, j1]
theorem Gaps.closed {G : List Int} (g : Gaps G) {x y : Int} (hx : 0 ≤ x) (hy : 0 ≤ y) (nx : x ∉ G) (ny : y ∉ G) : x + y ∉ G := fun h => by
 by_cases x0 : x = 0
 ·rw [x0, Int.zero_add] at h; exact ny h
 ·by_cases y0 : y = 0
  ·rw [y0, Int.add_zero] at h; exact nx h
  ·rcases g.cl _ h x (by omega) (by omega) with z | z
   ·exact nx z
   ·rw [show x + y - x = y by omega] at z
    exact ny z
theorem Gaps.times {G : List Int} (g : Gaps G) {x m : Int} (hx : 0 ≤ x) (hm : 0 ≤ m) (nx : x ∉ G) (nm : m ∉ G) : ∀ k : Nat, x + (k : Int) * m ∉ G
 | 0 => by rw [show x + ((0 : Nat) : Int) * m = x by simp]; exact nx
 | k + 1 => by
  have := g.closed (x := x + (k : Int) * m) (y := m) (by have := Int.mul_nonneg (Int.natCast_nonneg k) hm; omega) hm (g.times hx hm nx nm k) nm
  rw [show x + ((k + 1 : Nat) : Int) * m = x + (k : Int) * m + m by rw [Int.natCast_add, Int.add_mul]; simp; omega]
  exact this
theorem HouseOf.can {G h : List Int} (g : Gaps G) (a : HouseOf G h) (n : Int) : Can h n ↔ 0 ≤ n ∧ n ∉ G := by
 have hp := a.pos
 have m1 := Int.emod_lt_of_pos n (show (0 : Int) < h.length by omega)
 have m0 := Int.emod_nonneg n (show (h.length : Int) ≠ 0 by omega)
 have hr : (n % (h.length : Int)).toNat < h.length := by omega
 obtain ⟨k, k1, k2, k3⟩ := a.num _ _ (getD_some (ns := h) hr)
 rw [can_iff]
 rw [Int.toNat_of_nonneg m0] at k1 k3
 have e := Int.emod_add_mul_ediv n (h.length : Int)
 generalize h.getD (n % (h.length : Int)).toNat 0 = x at k1 k2
 generalize hr' : n % (h.length : Int) = r at *
 generalize n / (h.length : Int) = t at *
 have kn : 0 ≤ (k : Int) * h.length := Int.mul_nonneg (Int.natCast_nonneg k) (Int.natCast_nonneg _)
 constructor
 ·intro hle
  refine ⟨by omega, ?_⟩
  have h1 : (h.length : Int) * (k : Int) ≤ (h.length : Int) * t := by
   have := Int.mul_comm (k : Int) (h.length : Int)
   omega
  have h2 := Int.le_of_mul_le_mul_left h1 (by omega)
  have := g.times (x := x) (m := (h.length : Int)) (by omega) (by omega) k2 a.out (t - k).toNat
  rw [Int.toNat_of_nonneg (by omega), Int.sub_mul, Int.mul_comm t] at this
  rw [show n = x + ((h.length : Int) * t - (k : Int) * h.length) by omega]
  exact this
 ·rintro ⟨n0, hn⟩
  by_cases z : (k : Int) ≤ t
  ·have := Int.mul_le_mul_of_nonneg_right z (show (0 : Int) ≤ h.length by omega)
   rw [Int.mul_comm t] at this
   omega
  ·exfalso
   have t0 : 0 ≤ t := by
    by_cases zz : 0 ≤ t
    ·exact zz
    ·have : (h.length : Int) * t ≤ (h.length : Int) * (-1) := Int.mul_le_mul_of_nonneg_left (by omega) (by omega)
     omega
   obtain ⟨u, rfl⟩ : ∃ u : Nat, t = (u : Int) := ⟨t.toNat, by omega⟩
   have := k3 u (by omega)
   rw [Int.mul_comm] at this
   rw [e] at this
   exact hn this
theorem HouseOf.house {G h : List Int} (g : Gaps G) (a : HouseOf G h) : House h := by
 have hp := a.pos
 have z0 : (0 : Int) ∉ G := fun z => by have := g.pos 0 z; omega
 have hnn : ∀ (r : Nat) (x : Int), h[r]? = some x → 0 ≤ x ∧ x ∉ G ∧ x % (h.length : Int) = r := fun r x hx => by
  obtain ⟨k, k1, k2, k3⟩ := a.num r x hx
  have kn : 0 ≤ (k : Int) * h.length := Int.mul_nonneg (Int.natCast_nonneg k) (Int.natCast_nonneg _)
  have hr : r < h.length := (List.getElem?_eq_some_iff.mp hx).1
  refine ⟨by omega, k2, ?_⟩
  rw [k1, Int.add_mul_emod_self_right]
  exact Int.emod_eq_of_lt (by omega) (by omega)
 refine ⟨by omega, ?_, fun r x hx hr => ?_, fun r x hx => (hnn r x hx).2.2, fun i j k x y z hx hy hz e => ?_⟩
 ·obtain ⟨k, k1, k2, k3⟩ := a.num 0 _ (getD_some (ns := h) (i := 0) (by omega))
  cases k with
  | zero =>
   rw [getD_some (ns := h) (i := 0) (by omega), k1]
   simp
  | succ k =>
   have := k3 0 (by omega)
   rw [show ((0 : Nat) : Int) + ((0 : Nat) : Int) * (h.length : Int) = 0 by simp] at this
   exact absurd this z0
 ·obtain ⟨k, k1, k2, k3⟩ := a.num r x hx
  have hrl : r < h.length := (List.getElem?_eq_some_iff.mp hx).1
  cases k with
  | zero =>
   have := a.low r (by omega) (by omega)
   rw [show x = (r : Int) by rw [k1]; simp] at k2
   exact absurd this k2
  | succ k =>
   have kn : 0 ≤ (k : Int) * h.length := Int.mul_nonneg (Int.natCast_nonneg k) (Int.natCast_nonneg _)
   rw [k1, Int.natCast_add, Int.add_mul]
   simp
   omega
 ·obtain ⟨x0, x1, _⟩ := hnn i x hx
  obtain ⟨y0, y1, _⟩ := hnn j y hy
  obtain ⟨_, _, z2⟩ := hnn k z hz
  have hc := (a.can g (x + y)).mpr ⟨by omega, g.closed x0 y0 x1 y1⟩
  rw [can_iff] at hc
  have ei : (x + y) % (h.length : Int) = (k : Int) := by
   rw [e, Int.add_emod, (hnn i x hx).2.2, (hnn j y hy).2.2]
  rw [ei, Int.toNat_natCast, getD_at hz] at hc
  exact hc
theorem rising_eq : ∀ {xs ys : List Int}, xs.Pairwise (· < ·) → ys.Pairwise (· < ·) → (∀ x, x ∈ xs ↔ x ∈ ys) → xs = ys
 | [], [], _, _, _ => rfl
 | [], y :: ys, _, _, h => absurd ((h y).mpr List.mem_cons_self) (by simp)
 | x :: xs, [], _, _, h => absurd ((h x).mp List.mem_cons_self) (by simp)
 | x :: xs, y :: ys, hx, hy, h => by
  have hx' := List.pairwise_cons.mp hx
  have hy' := List.pairwise_cons.mp hy
  have e : x = y := by
   rcases List.mem_cons.mp ((h x).mp List.mem_cons_self) with z | z
   ·exact z
   ·rcases List.mem_cons.mp ((h y).mpr List.mem_cons_self) with w | w
    ·exact w.symm
    ·have := hy'.1 x z
     have := hx'.1 y w
     omega
  subst e
  rw [rising_eq hx'.2 hy'.2 fun z => ?_]
  constructor
  ·intro hz
   rcases List.mem_cons.mp ((h z).mp (List.mem_cons_of_mem _ hz)) with w | w
   ·have := hx'.1 z hz; omega
   ·exact w
  ·intro hz
   rcases List.mem_cons.mp ((h z).mpr (List.mem_cons_of_mem _ hz)) with w | w
   ·have := hy'.1 z hz; omega
   ·exact w
theorem HouseOf.below {G h : List Int} {M : Int} (g : Gaps G) (a : HouseOf G h) (mx : ∀ x ∈ h, x ≤ M) : ∀ x ∈ G, x ≤ M - (h.length : Int) := fun x hx => by
 by_cases z : x ≤ M - (h.length : Int)
 ·exact z
 ·have := (a.can g x).mp ((a.house g).canAbove mx (by omega))
  exact absurd hx this.2
theorem HouseOf.top {G h : List Int} {M : Int} (g : Gaps G) (a : HouseOf G h) (hM : M ∈ h) (mx : ∀ x ∈ h, x ≤ M) : (G = [] ∧ M - (h.length : Int) = -1) ∨ (M - (h.length : Int) ∈ G ∧ ∀ x ∈ G, x ≤ M - (h.length : Int)) := by
 have hh := a.house g
 have nt : ¬ Can h (M - (h.length : Int)) := hh.notTop hM
 cases hG : G with
 | nil =>
  left
  refine ⟨rfl, ?_⟩
  have hl : h.length = 1 := by
   by_cases z : 1 < h.length
   ·have := a.low 1 (by omega) (by omega)
    rw [hG] at this
    cases this
   ·have := a.pos; omega
  have := hh.nonneg M hM
  rw [a.can g] at nt
  rw [hG] at nt
  by_cases z : 0 ≤ M - (h.length : Int)
  ·exact absurd ⟨z, by simp⟩ nt
  ·omega
 | cons y r =>
  right
  have hy : y ∈ G := by rw [hG]; exact List.mem_cons_self
  have h1 := g.pos y hy
  have h2 := a.below g mx y hy
  rw [← hG]
  refine ⟨?_, a.below g mx⟩
  rw [a.can g] at nt
  by_cases z : M - (h.length : Int) ∈ G
  ·exact z
  ·exact absurd ⟨by omega, z⟩ nt
theorem sub_len {α : Type} [DecidableEq α] : ∀ {l m : List α}, l.Nodup → (∀ x ∈ l, x ∈ m) → l.length ≤ m.length
 | [], _, _, _ => Nat.zero_le _
 | x :: l, m, hn, hs => by
  have hn' := List.nodup_cons.mp hn
  have hx := hs x List.mem_cons_self
  have := sub_len (l := l) (m := m.erase x) hn'.2 fun y hy => by
   have : y ≠ x := fun e => hn'.1 (e ▸ hy)
   exact (List.mem_erase_of_ne this).mpr (hs y (List.mem_cons_of_mem _ hy))
  rw [List.length_erase_of_mem hx] at this
  have := List.length_pos_of_mem hx
  rw [List.length_cons]
  omega
theorem HouseOf.small {G h : List Int} (g : Gaps G) (a : HouseOf G h) : h.length ≤ 301 := by
 have := sub_len (l := (List.range (h.length - 1)).map fun (i : Nat) => 1 + (i : Int)) (m := G) ?_ ?_
 ·rw [List.length_map, List.length_range] at this
  have := g.few
  omega
 ·rw [List.Nodup, List.pairwise_map]
  exact List.pairwise_lt_range.imp fun hab => by omega
 ·intro x hx
  obtain ⟨i, hi, rfl⟩ := List.mem_map.mp hx
  have := List.mem_range.mp hi
  exact a.low _ (by omega) (by omega)
theorem Gaps.nodup {G : List Int} (g : Gaps G) : G.Nodup := g.up.imp fun hab => by omega
theorem gaps_range {m : Nat} (hm : m ≤ 300) : Gaps ((List.range m).map fun (i : Nat) => 1 + (i : Int)) := by
 refine ⟨fun g hg => ?_, fun g hg => ?_, ?_, by simp; exact hm, fun g hg a a1 a2 => .inl ?_⟩
 ·obtain ⟨i, hi, rfl⟩ := List.mem_map.mp hg; omega
 ·obtain ⟨i, hi, rfl⟩ := List.mem_map.mp hg
  have := List.mem_range.mp hi
  omega
 ·rw [List.pairwise_map]
  exact List.pairwise_lt_range.imp fun hab => by omega
 ·obtain ⟨i, hi, rfl⟩ := List.mem_map.mp hg
  have := List.mem_range.mp hi
  exact List.mem_map.mpr ⟨(a - 1).toNat, List.mem_range.mpr (by omega), by omega⟩
theorem two_pay {a b : Int} (ha : 1 ≤ a) (hb : 1 ≤ b) (hg : gcdL [a, b] = 1) (n : Int) : Payable [a, b] n ∨ Payable [a, b] (a * b - a - b - n) := by
 obtain ⟨y, k, e⟩ := two_rest ha hb hg n
 have e1 := Int.emod_add_mul_ediv y a
 have m0 := Int.emod_nonneg y (show a ≠ 0 by omega)
 have m1 := Int.emod_lt_of_pos y (show 0 < a by omega)
 generalize y % a = r at *
 generalize y / a = q at *
 have en : n = a * (k + b * q) + b * r := by
  have : b * y = b * r + b * (a * q) := by rw [← e1, Int.mul_add]
  have h2 : b * (a * q) = a * (b * q) := by rw [← Int.mul_assoc, ← Int.mul_assoc, Int.mul_comm b a]
  rw [Int.mul_add]
  omega
 have pa : Payable [a, b] a := .one List.mem_cons_self
 have pb : Payable [a, b] b := .one (List.mem_cons_of_mem _ List.mem_cons_self)
 generalize k + b * q = t at en
 by_cases z : 0 ≤ t
 ·left
  have h1 := pa.mul t.toNat
  have h2 := pb.mul r.toNat
  rw [Int.toNat_of_nonneg z, Int.mul_comm] at h1
  rw [Int.toNat_of_nonneg m0, Int.mul_comm] at h2
  rw [en]
  exact h1.add h2
 ·right
  have h1 := pa.mul (-1 - t).toNat
  have h2 := pb.mul (a - 1 - r).toNat
  rw [Int.toNat_of_nonneg (by omega), Int.mul_comm, Int.mul_sub] at h1
  rw [Int.toNat_of_nonneg (by omega), Int.mul_comm, Int.mul_sub, Int.mul_sub] at h2
  have := h1.add h2
  rw [show a * b - a - b - n = a * -1 - a * t + (b * a - b * 1 - b * r) by rw [en, Int.mul_comm b a, Int.mul_neg]; omega]
  exact this
theorem gaps_coins {cs : List Int} {a b : Int} {pb : Nat → Bool} (ha : a ∈ cs) (hb : b ∈ cs) (a1 : 1 ≤ a ∧ a ≤ 14) (b1 : 1 ≤ b ∧ b ≤ 42) (hg : gcdL [a, b] = 1) (hc : ∀ c ∈ cs, 1 ≤ c) {N : Nat} (hN : N ≤ 620) (hp : ∀ i : Nat, i < N → (pb i = true ↔ Payable cs (i : Int))) :
  Gaps (((List.range N).filter fun (i : Nat) => !pb i).map fun (i : Nat) => 0 + (i : Int)) := by
 have sub : ∀ n, Payable [a, b] n → Payable cs n := fun n h => h.sub fun c hcc => by
  simp only [List.mem_cons, List.not_mem_nil, or_false] at hcc
  rcases hcc with rfl | rfl
  ·exact ha
  ·exact hb
 have mem : ∀ x : Int, x ∈ (((List.range N).filter fun (i : Nat) => !pb i).map fun (i : Nat) => 0 + (i : Int)) ↔ 0 ≤ x ∧ x < N ∧ ¬ Payable cs x := fun x => by
  rw [List.mem_map]
  constructor
  ·rintro ⟨i, hi, rfl⟩
   obtain ⟨h1, h2⟩ := List.mem_filter.mp hi
   have h1' := List.mem_range.mp h1
   refine ⟨by omega, by omega, fun z => ?_⟩
   rw [Int.zero_add] at z
   rw [(hp i h1').mpr z] at h2
   cases h2
  ·rintro ⟨x0, x1, nx⟩
   refine ⟨x.toNat, List.mem_filter.mpr ⟨List.mem_range.mpr (by omega), ?_⟩, by omega⟩
   cases z : pb x.toNat
   ·rfl
   ·have := (hp x.toNat (by omega)).mp z
    rw [Int.toNat_of_nonneg x0] at this
    exact absurd this nx
 have low : ∀ x : Int, ¬ Payable cs x → Payable cs (a * b - a - b - x) := fun x nx => by
  rcases two_pay a1.1 b1.1 hg x with z | z
  ·exact absurd (sub _ z) nx
  ·exact sub _ z
 have ab : a * b ≤ 14 * b := Int.mul_le_mul_of_nonneg_right a1.2 (by omega)
 refine ⟨fun g hgg => ?_, fun g hgg => ?_, ?_, ?_, fun g hgg x x1 x2 => ?_⟩
 ·obtain ⟨g0, _, ng⟩ := (mem g).mp hgg
  by_cases z : g = 0
  ·rw [z] at ng; exact absurd Payable.zero ng
  ·omega
 ·have := ((mem g).mp hgg).2.1; omega
 ·rw [List.pairwise_map]
  exact (List.Pairwise.filter _ List.pairwise_lt_range).imp fun hab => by omega
 ·rw [List.length_map]
  have hF : ∀ i ∈ (List.range N).filter (fun (i : Nat) => !pb i), (i : Int) ≤ a * b - a - b ∧ ¬ Payable cs (i : Int) := fun i hi => by
   have := (mem (0 + (i : Int))).mp (List.mem_map.mpr ⟨i, hi, rfl⟩)
   rw [Int.zero_add] at this
   refine ⟨?_, this.2.2⟩
   have := (low _ this.2.2).nonneg hc
   omega
  have key := sub_len (l := (List.range N).filter (fun (i : Nat) => !pb i) ++ ((List.range N).filter (fun (i : Nat) => !pb i)).map fun (i : Nat) => (a * b - a - b - (i : Int)).toNat) (m := List.range (a * b - a - b + 1).toNat) ?_ ?_
  ·rw [List.length_append, List.length_map, List.length_range] at key
   omega
  ·have nd : ((List.range N).filter fun (i : Nat) => !pb i).Nodup := (List.Pairwise.filter _ List.pairwise_lt_range).imp fun hab => by omega
   refine List.nodup_append.mpr ⟨nd, ?_, fun x hx y hy e => ?_⟩
   ·rw [List.Nodup, List.pairwise_map]
    refine nd.imp_of_mem fun {i j} hi hj hne e => ?_
    have h1 := (hF i hi).1
    have h2 := (hF j hj).1
    omega
   ·obtain ⟨i, hi, e2⟩ := List.mem_map.mp hy
    have h1 := (hF i hi)
    have h2 := (hF x hx).2
    have h3 := low _ h1.2
    rw [show a * b - a - b - (i : Int) = (x : Int) by omega] at h3
    exact h2 h3
  ·intro x hx
   rcases List.mem_append.mp hx with z | z
   ·have := (hF x z).1
    exact List.mem_range.mpr (by omega)
   ·obtain ⟨i, hi, rfl⟩ := List.mem_map.mp z
    have := (hF i hi).1
    exact List.mem_range.mpr (by omega)
 ·obtain ⟨g0, g1, ng⟩ := (mem g).mp hgg
  by_cases z : Payable cs x
  ·right
   refine (mem _).mpr ⟨by omega, by omega, fun w => ng ?_⟩
   have := z.add w
   rwa [show x + (g - x) = g by omega] at this
  ·exact .inl ((mem x).mpr ⟨by omega, by omega, z⟩)
theorem Gaps.nil : Gaps [] := ⟨by simp, by simp, .nil, by simp, by simp⟩
theorem Gaps.snoc {G : List Int} {x : Int} (g : Gaps G) (hx : ∀ y ∈ G, y < x) (x1 : 1 ≤ x) (x2 : x ≤ 2000) (hl : G.length < 300) (hc : ∀ a, 1 ≤ a → a ≤ x / 2 → a ∈ G ∨ x - a ∈ G) : Gaps (G ++ [x]) := by
 refine ⟨fun y hy => ?_, fun y hy => ?_, ?_, by simp; omega, fun y hy a a1 a2 => ?_⟩
 ·rcases List.mem_append.mp hy with z | z
  ·exact g.pos y z
  ·rw [List.mem_singleton.mp z]; exact x1
 ·rcases List.mem_append.mp hy with z | z
  ·exact g.le y z
  ·rw [List.mem_singleton.mp z]; exact x2
 ·rw [List.pairwise_append]
  exact ⟨g.up, by simp, fun y hy z hz => by rw [List.mem_singleton.mp hz]; exact hx y hy⟩
 ·rcases List.mem_append.mp hy with z | z
  ·rcases g.cl y z a a1 a2 with w | w
   ·exact .inl (List.mem_append_left _ w)
   ·exact .inr (List.mem_append_left _ w)
  ·have e := List.mem_singleton.mp z
   subst e
   by_cases h : a ≤ y / 2
   ·rcases hc a a1 h with w | w
    ·exact .inl (List.mem_append_left _ w)
    ·exact .inr (List.mem_append_left _ w)
   ·rcases hc (y - a) (by omega) (by omega) with w | w
    ·exact .inr (List.mem_append_left _ w)
    ·rw [show y - (y - a) = a by omega] at w
     exact .inl (List.mem_append_left _ w)
noncomputable def MemD (kvs : List (Key × V)) (G : List Int) : Prop := ∀ n : Int, (valV kvs (Sum.inl n)).isSome = decide (n ∈ G)
noncomputable def trueL (G : List Int) : List (Key × V) := G.map fun g => (Sum.inl g, V.bl true)
theorem merge_mem : ∀ (G : List Int) (kvs : List (Key × V)) (n : Int), (valV (mergeK kvs (trueL G)) (Sum.inl n)).isSome = ((valV kvs (Sum.inl n)).isSome || decide (n ∈ G))
 | [], kvs, n => by
  show (valV kvs (Sum.inl n)).isSome = _
  simp
 | g :: G, kvs, n => by
  show (valV (mergeK (putK kvs (Sum.inl g) (V.bl true)) (trueL G)) (Sum.inl n)).isSome = _
  rw [merge_mem G, valV_put]
  by_cases e : n = g
  ·subst e
   simp
  ·rw [if_neg (fun z => e (Sum.inl.inj z))]
   simp [e]
theorem memD_of (G : List Int) : MemD (mergeK [] (trueL G)) G := fun n => by
 rw [merge_mem, valV_nil]
 simp
noncomputable def sCellN (K : FrK) : Sp := fun vs H Q _ => match vs with
 | [.ref a, .int k] => ∃ ns, LI K H a ns ∧ ns.length ≤ 63 ∧ (0 ≤ k ∧ k ≤ 1000) ∧ ∀ n : Int, Q (.int n) H
 | _ => False
noncomputable def sMixN (K : FrK) : Sp := fun vs H Q _ => match vs with
 | [.ref a, .int k] => ∃ ns, LI K H a ns ∧ ns.length ≤ 63 ∧ (0 ≤ k ∧ k ≤ 1000) ∧ ∀ n : Int, 0 ≤ n → Q (.int n) H
 | _ => False
noncomputable def closedB (G : List Int) (n : Int) : Bool := (List.range (n / 2).toNat).all fun (i : Nat) => decide (1 + (i : Int) ∈ G) || decide (n - (1 + (i : Int)) ∈ G)
theorem closedB_of {G : List Int} {n : Int} (h : closedB G n = true) : ∀ x, 1 ≤ x → x ≤ n / 2 → x ∈ G ∨ n - x ∈ G := fun x x1 x2 => by
 unfold closedB at h
 rw [List.all_eq_true] at h
 have := h (x - 1).toNat (List.mem_range.mpr (by omega))
 rw [show 1 + (((x - 1).toNat : Nat) : Int) = x by omega, Bool.or_eq_true, decide_eq_true_iff, decide_eq_true_iff] at this
 exact this
noncomputable def sStays (K : FrK) : Sp := fun vs H Q _ => match vs with
 | [.ref a, .int n] => ∃ G, LI K H a G ∧ G.length ≤ 1000 ∧ (1 ≤ n ∧ n ≤ 2000) ∧ ∀ (H' : Hp), Same H H' → Q (.bl (closedB G n)) H'
 | _ => False
noncomputable def sDueG (K : FrK) : Sp := fun vs H Q _ => match vs with
 | [.ref a] => ∃ G, LI K H a G ∧ Gaps G ∧ ∀ (p : Addr) (h : List Int) (H' : Hp), Same H H' → H p = none → H' p = some (.lst (h.map V.int)) → HouseOf G h → Q (.ref p) H'
 | _ => False
theorem first_ex {G : List Int} (gl : ∀ g ∈ G, g ≤ 2000) {st step : Int} (h0 : 0 ≤ st) (h : 1 ≤ step) : ∃ k : Nat, st + (k : Int) * step ∉ G ∧ ∀ j : Nat, j < k → st + (j : Int) * step ∈ G := by
 have out : st + ((2001 : Nat) : Int) * step ∉ G := fun z => by
  have := gl _ z
  have : ((2001 : Nat) : Int) * 1 ≤ ((2001 : Nat) : Int) * step := Int.mul_le_mul_of_nonneg_left h (by omega)
  omega
 have all : ∀ n : Nat, (∃ k : Nat, k ≤ n ∧ st + (k : Int) * step ∉ G ∧ ∀ j : Nat, j < k → st + (j : Int) * step ∈ G) ∨ ∀ k : Nat, k ≤ n → st + (k : Int) * step ∈ G := fun n => by
  induction n with
  | zero =>
   by_cases z : st + ((0 : Nat) : Int) * step ∈ G
   ·right
    intro k hk
    rw [show k = 0 by omega]
    exact z
   ·exact .inl ⟨0, by omega, z, fun j hj => by omega⟩
  | succ n ih =>
   rcases ih with ⟨k, hk, h1⟩ | ih
   ·exact .inl ⟨k, by omega, h1⟩
   ·by_cases z : st + ((n + 1 : Nat) : Int) * step ∈ G
    ·right
     intro k hk
     by_cases e : k = n + 1
     ·rw [e]; exact z
     ·exact ih k (by omega)
    ·exact .inl ⟨n + 1, by omega, z, fun j hj => ih j (by omega)⟩
 rcases all 2001 with ⟨k, _, h1⟩ | h1
 ·exact ⟨k, h1⟩
 ·exact absurd (h1 2001 (Nat.le_refl _)) out
open Classical in
noncomputable def firstK (G : List Int) (st step : Int) : Nat := if h : ∃ k : Nat, st + (k : Int) * step ∉ G ∧ ∀ j : Nat, j < k → st + (j : Int) * step ∈ G then Classical.choose h else 0
theorem firstK_spec {G : List Int} (gl : ∀ g ∈ G, g ≤ 2000) {st step : Int} (h0 : 0 ≤ st) (h : 1 ≤ step) : st + (firstK G st step : Int) * step ∉ G ∧ ∀ j : Nat, j < firstK G st step → st + (j : Int) * step ∈ G := by
 have ex := first_ex gl h0 h
 unfold firstK
 rw [dif_pos ex]
 exact Classical.choose_spec ex
theorem firstK_uniq {G : List Int} (gl : ∀ g ∈ G, g ≤ 2000) {st step : Int} (h0 : 0 ≤ st) (h : 1 ≤ step) {k : Nat} (k1 : st + (k : Int) * step ∉ G) (k2 : ∀ j : Nat, j < k → st + (j : Int) * step ∈ G) : k = firstK G st step := by
 obtain ⟨f1, f2⟩ := firstK_spec gl h0 h
 rcases Nat.lt_trichotomy k (firstK G st step) with z | z | z
 ·exact absurd (f2 k z) k1
 ·exact z
 ·exact absurd (k2 _ z) f1
noncomputable def hOf (G : List Int) (m : Nat) : List Int := (List.range m).map fun (i : Nat) => 0 + (i : Int) + (firstK G (0 + (i : Int)) (m : Int) : Int) * (m : Int)
theorem hOf_house {G : List Int} (gl : ∀ g ∈ G, g ≤ 2000) {m : Nat} (m1 : 1 ≤ m) (out : (m : Int) ∉ G) (low : ∀ k : Int, 1 ≤ k → k < m → k ∈ G) : HouseOf G (hOf G m) := by
 have hl : (hOf G m).length = m := by unfold hOf; simp
 refine ⟨by omega, by rw [hl]; exact out, by rw [hl]; exact low, fun r x hx => ?_⟩
 have hr : r < m := by have := (List.getElem?_eq_some_iff.mp hx).1; omega
 unfold hOf at hx
 rw [List.getElem?_map, List.getElem?_range hr] at hx
 cases hx
 obtain ⟨f1, f2⟩ := firstK_spec gl (st := 0 + (r : Int)) (step := (m : Int)) (by omega) (by omega)
 rw [hl]
 refine ⟨firstK G (0 + (r : Int)) (m : Int), by show 0 + (r : Int) + (firstK G (0 + (r : Int)) (m : Int) : Int) * (m : Int) = _; omega, f1, fun j hj => ?_⟩
 have := f2 j hj
 rwa [Int.zero_add] at this
end PG
namespace PySem.W
open PySem Builtin Builtin.ObjectAttr
structure XC (K : Frag) (C P : Addr) : Prop where
 cls : ∃ cd : ClassData, clsIn K C = some cd ∧ cd.mro = [.ref C, .ref P, .type "ValueError", .type "Exception", .type "BaseException", .type "object"] ∧ cd.hasDict = true
 sa : findIn K (.ref C) "__setattr__" = some (some (.builtin "object.__setattr__"))
end PySem.W
namespace L2
open PySem PySem.Spec PyProof.Rows
noncomputable def ExcAtD (e C : Addr) (od : Option Addr) (h : Heap) : Prop := ∃ (o : Obj) (vs : Array Value), h.get? e = some o ∧ o.cls = .ref C ∧ o.dict = od ∧ o.data = .fields vs
noncomputable def excD (e C : Addr) (od : Option Addr) : HO := .ext (ExcAtD e C od)
section
variable {P : Program} {w : World} {H : Hp} {h : Heap} {e C d : Addr} {od : Option Addr} {fs : List (Str × V)}
theorem okD (x : ExcAtD e C od h) : ObjOk P w H h e (excD e C od) := by
 obtain ⟨o, vs, g1, r⟩ := id x
 exact ⟨x, ⟨o, g1⟩, fun h1 h2 ⟨o, vs, g1, r⟩ k => ⟨o, vs, k o g1, r⟩⟩
end
end L2
namespace PySem.W
open PySem
noncomputable abbrev bmV : List Value := [.type "ValueError", .type "Exception", .type "BaseException", .type "object"]
end PySem.W
namespace L2
open PySem PySem.Spec PyProof.Rows
section
variable {X : Cx}
noncomputable def uIsiD (K : FrK) : List V → Hp → VK → Prop := u2 fun x y H Q => match x with
 | .ref e => ∃ C od, H e = some (excD e C od) ∧ PySem.W.ErrC K C ∧ match y with
  | .ty n => ∃ b, PySem.W.kitOne K (.ref C) (.type n) = some b ∧ Q (.bl b) H
  | .ref c => (∃ b, PySem.W.kitOne K (.ref C) (.ref c) = some b ∧ Q (.bl b) H) ∨ ∃ ys b, H c = some (.tup ys) ∧ PySem.W.kitAny K (.ref C) (ys.map clsV) = some b ∧ (∀ y ∈ ys, y = .ref (match y with | .ref a => a | _ => 0)) ∧ Q (.bl b) H
  | _ => False
 | _ => False
theorem uc_isiD_0 : CallR X (.builtin "isinstance") (uIsiD X.K) := by
 intro pins s σ H xs us Q I r h
 obtain ⟨x, y, rfl, h⟩ := u2_of h
 obtain ⟨u, v, rfl, rx, ry⟩ := vals2 r
 cases x with
 | ref e =>
  cases rx
  obtain ⟨C, od, hC, c, h⟩ := h
  have hE : ExcAt e C s.heap := by
   obtain ⟨⟨oo, ww, z1, z2, _, z3⟩, _⟩ := (show ObjOk X.prog X.w H s.heap e (excD e C od) from I.hok e _ hC)
   exact ⟨oo, ww, z1, z2, z3⟩
  cases y with
  | ty n =>
   cases ry
   obtain ⟨b, e1, q⟩ := h
   exact PySem.W.kia_one (PySem.W.kitx_exc c) I.kIn hE e1 (fun z => nomatch z) fun tk => ⟨.bl b, H, I.tok _, rfl, q⟩
  | ref a =>
   cases ry
   rcases h with ⟨b, e1, q⟩ | ⟨ys, b, ht, e1, hy, q⟩
   ·exact PySem.W.kia_one (PySem.W.kitx_exc c) I.kIn hE e1 (fun z => nomatch z) fun tk => ⟨.bl b, H, I.tok _, rfl, q⟩
   ·obtain ⟨hz, its, rv, o, ho, hc1, n, hd⟩ := (show ObjOk X.prog X.w H s.heap a (.tup ys) from I.hok a _ ht)
    have := vals_cls rv hy
    subst this
    obtain ⟨oc, od, odt, osl⟩ := o
    cases hc1
    cases hd
    exact PySem.W.kia_tup (PySem.W.kitx_exc c) I.kIn hE ho e1 (fun z => nomatch z) fun tk => ⟨.bl b, H, I.tok _, rfl, q⟩
  | _ => exact False.elim h
 | _ => exact False.elim h
theorem uc_isiD {K : FrK} (hK : X.K = K := by rfl) : CallR X (.builtin "isinstance") (uIsiD K) := by subst hK; exact uc_isiD_0
end
noncomputable def tTryD (K : FrK) (C : Addr) (i : Nat) (tx : TSX) (th : TS) : TS := fun D σ H =>
 tx D (fun cls od H' => ∃ Ce, cls = .ref Ce ∧ PySem.W.exmOne K (.ref Ce) (.ref C) = some true ∧ ∀ ea, H' ea = none →
  th { nx := fun σ' H2 => D.nx (σ'.set i none) H2, rt := D.rt, bk := fun σ' H2 => D.bk (σ'.set i none) H2, ct := fun σ' H2 => D.ct (σ'.set i none) H2 } (σ.set i (some (.ref ea))) (upd H' ea (excD ea Ce od))) σ H
theorem ps_tryD {X : Cx} {x n : Str} {C : Addr} {i : Nat} {tx : TSX} {th : TS} {body suite : List Stmt} {b₀ : Stmt} {np hpos pos : Pos} (hst : X.stack = X.env :: X.outer) (hfr : X.env.frame = some X.env.locals)
  (hm : X.mg x = some (.ref C)) (hN : X.N.Nodup) (hi : X.N[i]? = some n) (hn : X.env.scope.names.lookup n = some .local) (hb : PSX (CX1 X.prog X.w) X body tx) (hh : ∀ v, PSs (X.marked v).nox (b₀ :: suite) th)
  (hxe : X.ex = [] := by rfl) (hg : Gl X x := by rfl) (hd : (x == ("__debug__" : Str)) = false := by decide) :
  PS X (.Try body [.ExceptHandler (some (.Name x np)) (some n) (b₀ :: suite) hpos] [] [] pos) (tTryD X.K C i tx th) := by
 intro pins s σ H D I h
 refine wpAny_Try_except (wpAny_mono (hb pins s σ H D _ I h) (fun f s1 q => ?_) fun e s1 hx => ?_)
 ·cases f with
  | next => exact wpAny_execs_nil q
  | ret v => exact q
  | brk => exact q
  | cont => exact q
 obtain ⟨H1, s0, I1, hx⟩ := hx
 obtain ⟨ea, Ce', H', B, a0, od, rfl, os, bare, fl, hok, un, hB, thB, hk, hE⟩ := hx
 obtain ⟨Ce, hCe, hex, hth⟩ := hE
 cases hCe
 have fr : X.A.frames = some (X.env :: X.outer) := by rw [← hst]; exact I1.ok.frames
 have nx : ∀ {b : Addr}, b ∉ ([] : List Addr) := fun {b} z => by cases z
 have ff := fl.2.2.1
 have new : s0.heap.get? ea = none := by
  cases q : s0.heap.get? ea with
  | none => rfl
  | some o =>
   exfalso
   by_cases hb : ea ∈ frs X.stack
   ·obtain ⟨_, o3, e3, hd3⟩ := ff.mem hb
    obtain ⟨oe, vs, _, _, _, e4, _, hd4, _⟩ := fl.2.2.2
    rw [e3] at e4
    cases e4
    exact hd3 _ hd4
   ·obtain ⟨o', e'⟩ := thB ea o q hb
    rw [fl.2.1] at e'
    cases e'
 have fl0 : Heap.FlyingW B (X.env :: X.outer) ea (.ref Ce') a0 s1.heap := by rw [← hst]; exact fl
 refine wpAny_mono (Mild.any mild_noteFrame hk (wpAny_looks_onW (Q := fun _ s2 => ∃ h', Heap.HeldW B (X.env :: X.outer) ea (.ref Ce') a0 X.env.locals h' ∧ s1.heap.UpToSlots h' ∧ s2 = { s1 with heap := h' }) (E := fun _ _ => False) fr hfr fl0 fun h' a b => ⟨h', a, b, rfl⟩)) (fun _ s2 hz => ?_) fun _ _ z => z.1.elim
 obtain ⟨⟨h4, held4, up4, rfl⟩, hk4⟩ := hz
 refine wpAny_mono (Mild.any mild_setFlight hk4 (wpAny_landsW (Q := fun _ s2 => ∃ h', Heap.FlyingW B (X.env :: X.outer) ea (.ref Ce') a0 h' ∧ h4.UpToSlots h' ∧ s2 = { s1 with heap := h' }) (E := fun _ _ => False) held4 fun h' a b => ⟨h', a, b, rfl⟩)) (fun _ s2 hz => ?_) fun _ _ z => z.1.elim
 obtain ⟨⟨h5, fl5, up5, rfl⟩, hk5⟩ := hz
 have I5 : Inv X pins σ H' { s1 with heap := h5 } := I1.caught hst os bare hok un hB thB ff fl5.1 (up4.trans up5)
 obtain ⟨ob, hob, hobc⟩ := fl5.there
 have LT : PySem.W.Looks (model X.prog X.w) h5 (typeOf (.ref ea)) (.ref Ce') := hobc ▸ (PySem.W.Looks.ld hob).andThen .now
 refine wpAny_handleBy_cons (codeAny_handlers_test (ld_glob (X := X.marked (.ref ea)) (I5.marked _) hg hm ?_ hd)) (by intro q; cases q)
 refine (PySem.W.exm_one I5.kIn LT hex).here ?_
 refine codeAny_handlers_suite_as ?_
 refine wpAny_mono (Mild.any mild_setFlight hk5 (lands_againW (Q := fun _ s2 => ∃ h', Heap.FlyingW B (X.env :: X.outer) ea (.ref Ce') a0 h' ∧ h5.UpToSlots h' ∧ s2 = { s1 with heap := h' }) (E := fun _ _ => False) fl5 fun h' a b => ⟨h', a, b, rfl⟩)) (fun _ s2 hz => ?_) fun _ _ z => z.1.elim
 obtain ⟨⟨h6, fl6, up6, rfl⟩, hk6⟩ := hz
 have I6 : Inv X pins σ H' { s1 with heap := h6 } := I1.caught hst os bare hok un hB thB ff fl6.1 ((up4.trans up5).trans up6)
 obtain ⟨oe, vs, T, oT, ts, e6, ⟨ec, _⟩, ed, _⟩ := fl6.2.2.2
 have hn0 : X.s₀.heap.get? ea = none := by
  cases q : X.s₀.heap.get? ea with
  | none => rfl
  | some o =>
   exfalso
   have hx : ea ∉ X.ex := by rw [hxe]; exact nx
   obtain ⟨o', e'⟩ := I1.base.there ea o q hx
   rw [new] at e'
   cases e'
 have hHn : H' ea = none := by
  cases q : H' ea with
  | none => rfl
  | some u =>
   exfalso
   obtain ⟨o, e⟩ := (hok ea u q).there
   rw [fl.2.1] at e
   cases e
 have hL : ea ≠ X.env.locals := by
  intro z
  obtain ⟨m, ⟨o, es, ep, ho, r⟩, _⟩ := id I1.loc
  rw [← z, new] at ho
  cases ho
 have c2 : oe.dict = od := by
  obtain ⟨o', vs', k1, k2, k3, k4⟩ := hk6
  have k1' : h6.get? ea = some o' := k1
  rw [e6] at k1'
  cases k1'
  exact k2
 have I7 := I6.track (u := excD ea Ce' od) e6 hHn hn0 hL (fun x c q z => by
   obtain ⟨v, o, ho, _⟩ := I1.cell x c q
   rw [z, new] at ho
   cases ho) (fun p hp z => by
   have := (I1.pin p hp).1
   rw [z, new] at this
   cases this) (okD ⟨oe, vs, e6, ec, c2, ed⟩)
 refine store_ok I7 hN hi (.inl hn) (v := .ref ea) rfl (fun s8 I8 => ?_) (.inr hn)
 refine wpAny_mono (hh (.ref ea) pins s8 _ _ _ ((I8.marked _).wish _) (hth ea hHn)) (fun f s9 q => ?_) fun _ _ z => z.elim
 cases f with
 | next =>
  obtain ⟨σ9, H9, I9, q9⟩ := q
  exact unbind_ok (I9.unwish.unmarked I1.ok) hN hi hn fun s10 I10 => ⟨_, H9, I10, q9⟩
 | brk =>
  obtain ⟨σ9, H9, I9, q9⟩ := q
  exact unbind_ok (I9.unwish.unmarked I1.ok) hN hi hn fun s10 I10 => ⟨_, H9, I10, q9⟩
 | cont =>
  obtain ⟨σ9, H9, I9, q9⟩ := q
  exact unbind_ok (I9.unwish.unmarked I1.ok) hN hi hn fun s10 I10 => ⟨_, H9, I10, q9⟩
 | ret v =>
  obtain ⟨x9, σ9, H9, I9, r9, q9⟩ := q
  exact unbind_ok (I9.unwish.unmarked I1.ok) hN hi hn fun s10 I10 => ⟨x9, _, H9, I10, r9, q9⟩
section
variable {X : Cx} {x n : Str} {ps : List Str} {k : Nat} {sp : Sp} {e : Expr} {es : List Expr} {t : TA} {p pos np cpos hpos : Pos}
theorem q_tryD {K : FrK} {C : Addr} {i : Nat} {tx : TSX} {th : TS} {body suite : List Stmt} {b₀ : Stmt} (hm : X.mg x = some (.ref C)) (hN : X.N.Nodup) (hi : X.N[i]? = some n) (hn : X.env.scope.names.lookup n = some .local) (hb : QSX X body tx) (hh : ∀ v, QSs (X.marked v).nox (b₀ :: suite) th)
  (hst : X.stack = X.env :: X.outer := by rfl) (hfr : X.env.frame = some X.env.locals := by rfl) (hxe : X.ex = [] := by rfl) (hg : Gl X x := by rfl) (hd : (x == ("__debug__" : Str)) = false := by decide) (hK : X.K = K := by rfl) :
  QS X (.Try body [.ExceptHandler (some (.Name x np)) (some n) (b₀ :: suite) hpos] [] [] pos) (tTryD K C i tx th) := by
 subst hK
 exact ⟨ps_tryD hst hfr hm hN hi hn hb.run (fun v => (hh v).run) hxe hg hd⟩
end
end L2
namespace PySem
section
variable {M : Model} {A : Around} {E : Value → Shared → Prop} {s : Shared}
noncomputable def NewW (B : Heap) (l : List Env) (e : Addr) (cls a0 : Value) (h : Heap) : Prop :=
 B.StaysIn h ∧ B.get? e = none ∧ h.FunFrames B l ∧ ∃ (oe : Obj) (vs : Array Value), h.get? e = some oe ∧ oe.cls = cls ∧ oe.data = .fields vs ∧ vs[0]? = some a0 ∧ vs[1]? = some .none
theorem back_held {B : Heap} {l : List Env} {L e : Addr} {cls a0 : Value} {Q : Unit → Shared → Prop} (hh : Heap.HeldW B l e cls a0 L s.heap)
  (hQ : ∀ h2, Heap.HeldW B l e cls a0 L h2 → s.heap.UpToSlots h2 → Q () { s with heap := h2 }) : wpAny M A (setFlight (.ref e) (some L)) Q E s := by
 obtain ⟨f1, f2, f3, oe, vs, T, oT, ts, g1, g2, g3, g4, g5, g6, g7, g8, g9⟩ := hh
 have sz : 3 < ts.size := (Array.getElem?_eq_some_iff.mp g9).1
 have oth : ∀ b, b ≠ T → (s.heap.update T (Obj.mapFields (·.setIfInBounds 3 (rawInt L)))).get? b = s.heap.get? b := fun b hb => Heap.get?_update_other _ _ (Ne.symm hb)
 have nor : ∀ b o, s.heap.get? b = some o → (∀ vs, o.data ≠ .fields vs) → b ≠ T := fun b o hb hnf q => by
  rw [q, g7] at hb
  injection hb with hb
  subst hb
  exact hnf ts g8
 unfold setFlight
 refine wpAny_bind (wpAny_field g1 g3 g4 ?_)
 rw [if_pos (by simp)]
 refine wpAny_setField g7 g8 sz (hQ _ ⟨fun b o hb => ?_, f2, f3.of_keeps fun b o hb hnf => ?_, ?_⟩ fun b o hb hnf => ⟨o.slots, (oth b (nor b o hb hnf)).trans hb⟩)
 ·exact (oth b (fun q => by rw [q, g5] at hb; cases hb)).trans (f1 b o hb)
 ·exact ⟨o, (oth b (nor b o hb hnf)).trans hb, rfl⟩
 ·refine ⟨oe, vs, T, _, _, (oth e (Ne.symm g6)).trans g1, g2, g3, g4, g5, g6, Heap.get?_update_self _ g7 (Obj.isFreed_of_fields (Obj.data_mapFields g8 _)), Obj.data_mapFields g8 _, ?_⟩
  simp [sz]
end
end PySem
namespace L2
open PySem PySem.Spec PyProof.Rows
section
variable {P : Program} {w : World} {K : FrK} {mg : Str → Option Value} {base : Heap} {N : List Str} {qual : Str} {scope : Scope} {f : Addr} {cd : Value} {A : Around} {outer : List Env} {s : Shared} {H : Hp} {E : XK}
noncomputable def XL (P : Program) (w : World) (A : Around) (env : Env) (outer : List Env) (s : Shared) (H : Hp) (E : XK) : Value → Shared → Prop := fun e s' => A.frames = some (env :: outer) ∧ ∃ (ea C : Addr) (H' : Hp) (B : Heap) (a0 : Value) (od : Option Addr),
 e = .ref ea ∧ s'.os = s.os ∧ AllBare s'.gens ∧ (Heap.FlyingW B (env :: outer) ea (.ref C) a0 s'.heap ∨ Heap.HeldW B (env :: outer) ea (.ref C) a0 env.locals s'.heap ∨ NewW B (env :: outer) ea (.ref C) a0 s'.heap) ∧ HOk P w H' B ∧ Un (frs outer) [] H H' s.heap s'.heap ∧
 (∀ b o, s.heap.get? b = some o → H b = none → b ∉ frs outer → B.get? b = some o) ∧ (∀ b o, s.heap.get? b = some o → b ∉ frs outer → ∃ o', B.get? b = some o') ∧ KeepE ea od .none s'.heap ∧ E (.ref C) od H'
theorem ff_of {B : Heap} {l : List Env} {ea : Addr} {cls a0 : Value} {L : Addr} {h : Heap} (x : Heap.FlyingW B l ea cls a0 h ∨ Heap.HeldW B l ea cls a0 L h ∨ NewW B l ea cls a0 h) : h.FunFrames B l := by
 rcases x with x | x | x
 ·exact x.2.2.1
 ·exact x.2.2.1
 ·exact x.2.2.1
theorem un_step {B h1 h2 : Heap} {H' : Hp} {env : Env} (un : Un (frs outer) [] H H' s.heap h1) (hB : ∀ b o, s.heap.get? b = some o → H b = none → b ∉ frs outer → B.get? b = some o) (thB : ∀ b o, s.heap.get? b = some o → b ∉ frs outer → ∃ o', B.get? b = some o')
  (ff : h1.FunFrames B (env :: outer)) (st : B.StaysIn h2) (up : h1.UpToSlots h2) : Un (frs outer) [] H H' s.heap h2 := by
 have nx : ∀ {b : Addr}, b ∉ ([] : List Addr) := fun {b} z => by cases z
 have inn : ∀ b, b ∈ frs outer → b ∈ frs (env :: outer) := fun b hb => by
  obtain ⟨e, h1, h2⟩ := List.mem_filterMap.mp hb
  exact List.mem_filterMap.mpr ⟨e, List.mem_cons_of_mem _ h1, h2⟩
 have fs : ∀ b o, b ∈ frs outer → h1.get? b = some o → ∃ sl, h2.get? b = some { o with slots := sl } := fun b o hb e1 => by
  obtain ⟨_, o3, e3, hd⟩ := ff.mem (inn b hb)
  rw [e1] at e3
  cases e3
  exact up b _ e1 hd
 refine ⟨fun b o e n hb _ => st b o (hB b o e n hb), fun b o e n hb _ => ?_, fun b o e n hx => un.free b o e n hx, fun b o e _ => ?_, un.tups, un.frzs, un.tbls⟩
 ·obtain ⟨sl, e1⟩ := un.slot b o e n hb nx
  obtain ⟨sl2, e2⟩ := fs b _ hb e1
  exact ⟨sl2, e2⟩
 ·by_cases hb : b ∈ frs outer
  ·obtain ⟨_, o3, e3, hd⟩ := ff.mem (inn b hb)
   obtain ⟨sl3, e4⟩ := fs b _ hb e3
   exact ⟨_, e4⟩
  ·obtain ⟨o1, e1⟩ := thB b o e hb
   exact ⟨o1, st b o1 e1⟩
theorem xl_leaves {e : Value} {s' : Shared} (x : XL P w (A.deeper (envOfC qual scope s.heap.objs.size f cd)) (envOfC qual scope s.heap.objs.size f cd) outer s H E e s') :
  (cxOf (CX1 P w) P w K mg base N qual scope f cd A outer s H E).xe e s' := by
 obtain ⟨hfr, ea, C, H', B, a0, od, rfl, os, bare, fl, hok, un, hB, thB, hk, hE⟩ := x
 have ff := ff_of fl
 have hf : (envOfC qual scope s.heap.objs.size f cd).frame = some s.heap.objs.size := rfl
 show wpAny _ _ (leaving _ (.ref ea)) _ _ _
 have st1 : wpAny (model P w) (A.deeper (envOfC qual scope s.heap.objs.size f cd)) (leaving (envOfC qual scope s.heap.objs.size f cd) (.ref ea)) (fun _ s2 => ∃ h4, Heap.FlyingW B outer ea (.ref C) a0 h4 ∧ s'.heap.UpToSlots h4 ∧ s2 = { s' with heap := h4 }) (fun _ _ => False) s' := by
  rcases fl with fl | fl | fl
  ·exact wpAny_leaves_onW hfr hf fl fun h4 a b => ⟨h4, a, b, rfl⟩
  ·unfold leaving
   refine wpAny_bind (wpAny_noteFrame_againW hf fl.2.2.2 (wpAny_landsW fl fun h4 a b => ?_))
   obtain ⟨k1, k2, ⟨_, _, k3⟩, k4⟩ := a
   exact ⟨h4, ⟨k1, k2, k3, k4⟩, b, rfl⟩
  ·obtain ⟨f1, f2, f3, oe, vs, g1, g2, g3, g4, g5⟩ := fl
   refine wpAny_leaving_firstW hfr f3 hf g1 f1 f2 g3 g5 g4 fun h4 hL => ?_
   obtain ⟨k1, ⟨_, _, k2⟩, k3, k4⟩ := hL
   rw [g2] at k3
   exact ⟨h4, ⟨k1, f2, k2, k3⟩, k4, rfl⟩
 refine wpAny_mono (Mild.any mild_leaving hk st1) (fun _ s2 hz => ?_) fun _ _ z => z.1.elim
 obtain ⟨⟨h4, fl4, up4, rfl⟩, hk4⟩ := hz
 exact ⟨ea, C, H', B, a0, od, rfl, os, bare, fl4, hok, un_step un hB thB ff fl4.1 up4, hB, thB, hk4, hE⟩
noncomputable abbrev cxL (P : Program) (w : World) (K : FrK) (mg : Str → Option Value) (base : Heap) (N : List Str) (qual : Str) (scope : Scope) (f : Addr) (cd : Value) (A : Around) (outer : List Env) (s : Shared) (H : Hp) (E : XK) : Cx :=
 (cxOf (CX1 P w) P w K mg base N qual scope f cd A outer s H E).wish (XL P w (A.deeper (envOfC qual scope s.heap.objs.size f cd)) (envOfC qual scope s.heap.objs.size f cd) outer s H E)
theorem q_loopX {st : Stmt} {t : TS} (h : QS (cxL P w K mg base N qual scope f cd A outer s H E) st t) : QS (cxOf (CX1 P w) P w K mg base N qual scope f cd A outer s H E) st t :=
 ⟨fun pins s1 σ H1 D I hw => wpAny_mono (h.run pins s1 σ H1 D (I.wish _) hw) (fun _ _ q => SP.unwish q) fun _ _ z => xl_leaves z⟩
end
end L2
namespace PG
open PySem L2 PyProof.Rows
theorem closed_half {G : List Int} {g : Int} (h : ∀ a, 1 ≤ a → a ≤ g / 2 → a ∈ G ∨ g - a ∈ G) : ∀ a, 1 ≤ a → a < g → a ∈ G ∨ g - a ∈ G := fun a a1 a2 => by
 by_cases z : a ≤ g / 2
 ·exact h a a1 z
 ·have := h (g - a) (by omega) (by omega)
  rw [show g - (g - a) = a by omega] at this
  exact this.symm
end PG
namespace PG
open PySem L2 PyProof PyProof.Rows
theorem comp_some {J : It} {H1 : Hp} {n : Nat} {P : Nat → V → Hp → Prop} {bl : List (Option Nat)} {σ : L2.St} {g : TG} {tc : TT} {te : TE} {Q : VK} (p : Nat → Bool) (C : Nat → Addr → List (Addr × HO) → Prop) (jp : JP J H1 n P) (hn : n < sizeLine) (kg : KeepG g (blkSt bl σ))
  (step : ∀ i x H' (R : VK) (Z : Hp → Prop), i < n → Same H1 H' → P i x H' → (p i = true → ∀ (a : Addr) (fs : List (Addr × HO)) H6, Same H' H6 → (∀ z ∈ fs, H' z.1 = none ∧ H6 z.1 = some z.2) → C i a fs → R (.ref a) H6) → (p i = false → ∀ H6, Same H' H6 → Z H6) →
   g x (blkSt bl σ) H' fun σ2 H4 => tc σ2 H4 fun b H5 => if b = true then te σ2 H5 R else Z H5)
  (fin : ∀ (D : Addr) H' (ps : List Addr), H1 D = none → Same H1 H' → H' D = some (.lst (ps.map V.ref)) → ps.length = ((List.range n).filter p).length → (∀ (k : Nat) a, ps[k]? = some a → ∃ i fs, ((List.range n).filter p)[k]? = some i ∧ (∀ z ∈ fs, H1 z.1 = none ∧ H' z.1 = some z.2) ∧ C i a fs) → Q (.ref D) H') :
  CompB bl g tc te σ Q J H1 := by
 intro D hD
 refine ⟨fun i m H2 => m = n - i ∧ i ≤ n ∧ Same H1 H2 ∧ ∃ ps : List Addr, ps.length = ((List.range i).filter p).length ∧ H2 D = some (.lst (ps.map V.ref)) ∧ ∀ (k : Nat) a, ps[k]? = some a → ∃ i' fs, ((List.range i).filter p)[k]? = some i' ∧ (∀ z ∈ fs, z.1 ≠ D ∧ H1 z.1 = none ∧ H2 z.1 = some z.2) ∧ C i' a fs, ⟨n, rfl, Nat.zero_le _, Same.new hD, [], rfl, upd_same, fun k p h => by simp at h⟩, ?_⟩
 rintro i m H2 ⟨rfl, hi, sm, ps, pl, hx, hps⟩
 have plen : ps.length ≤ i := by
  rw [pl]
  have := List.length_filter_le p (List.range i)
  rw [List.length_range] at this
  exact this
 by_cases hlt : i < n
 ·refine .inr ⟨jp.go i H2 hlt sm, fun x H3 y => ⟨kg, ?_⟩⟩
  obtain ⟨s3, p3⟩ := jp.yld i H2 x H3 hlt sm y
  have hx3 := s3 D _ hx
  refine step i x H3 _ _ hlt (sm.trans s3) p3 (fun hp a fs H6 s6 hfs hC => ?_) (fun hp H6 s6 => ?_)
  ·have hfD : ∀ z ∈ fs, z.1 ≠ D := fun z hz e => by
    have := (hfs z hz).1
    rw [e, hx3] at this
    cases this
   have er : (List.range (i + 1)).filter p = (List.range i).filter p ++ [i] := by rw [List.range_succ, List.filter_append]; simp [hp]
   refine ⟨_, s6 D _ hx3, by rw [List.length_map]; omega, n - (i + 1), by omega, rfl, hlt, ((sm.trans s3).trans s6).put hD, ps ++ [a], by rw [er, List.length_append, List.length_append, pl]; rfl, by rw [upd_same, List.map_append]; rfl, fun k q hq => ?_⟩
   rw [er]
   by_cases hk : k < ps.length
   ·rw [List.getElem?_append_left hk] at hq
    obtain ⟨i', gs, ei, hg, hC'⟩ := hps k q hq
    exact ⟨i', gs, by rw [List.getElem?_append_left (by omega)]; exact ei, fun z hz => ⟨(hg z hz).1, (hg z hz).2.1, by rw [upd_ne (hg z hz).1]; exact s6 _ _ (s3 _ _ (hg z hz).2.2)⟩, hC'⟩
   ·rw [List.getElem?_append_right (by omega)] at hq
    by_cases hk0 : k - ps.length = 0
    ·rw [hk0] at hq
     cases hq
     exact ⟨i, fs, by rw [List.getElem?_append_right (by omega), show k - ((List.range i).filter p).length = 0 by omega]; rfl, fun z hz => ⟨hfD z hz, (sm.trans s3).free (hfs z hz).1, by rw [upd_ne (hfD z hz)]; exact (hfs z hz).2⟩, hC⟩
    ·rw [List.getElem?_eq_none (by simp; omega)] at hq
     cases hq
  ·have er : (List.range (i + 1)).filter p = (List.range i).filter p := by rw [List.range_succ, List.filter_append]; simp [hp]
   refine ⟨n - (i + 1), by omega, rfl, hlt, (sm.trans s3).trans s6, ps, by rw [er]; exact pl, s6 D _ hx3, fun k q hq => ?_⟩
   obtain ⟨i', gs, ei, hg, hC'⟩ := hps k q hq
   exact ⟨i', gs, by rw [er]; exact ei, fun z hz => ⟨(hg z hz).1, (hg z hz).2.1, s6 _ _ (s3 _ _ (hg z hz).2.2)⟩, hC'⟩
 ·have e : i = n := by omega
  subst e
  refine .inl ⟨jp.stop H2 sm, fin D H2 ps hD sm hx pl fun k p hp => ?_⟩
  obtain ⟨i', fs, ei, hf, hC⟩ := hps k p hp
  exact ⟨i', fs, ei, fun z hz => (hf z hz).2, hC⟩
theorem max_of {h : List Int} (hp : 0 < h.length) : ∃ M ∈ h, ∀ x ∈ h, x ≤ M := by
 induction h with
 | nil => cases hp
 | cons x r ih =>
  cases r with
  | nil => exact ⟨x, List.mem_cons_self, fun y hy => by rw [List.mem_singleton.mp hy]; exact Int.le_refl _⟩
  | cons y s =>
   obtain ⟨M, hM, mx⟩ := ih (by simp)
   by_cases z : x ≤ M
   ·exact ⟨M, List.mem_cons_of_mem _ hM, fun t ht => by
     rcases List.mem_cons.mp ht with e | e
     ·rw [e]; exact z
     ·exact mx t e⟩
   ·exact ⟨x, List.mem_cons_self, fun t ht => by
     rcases List.mem_cons.mp ht with e | e
     ·rw [e]; exact Int.le_refl _
     ·have := mx t e; omega⟩
end PG
namespace PG
open PySem L2 PyProof.Rows
theorem need_nodup {h : List Int} (a : House h) : (need h).Nodup := by
 have hn : h.Nodup := by
  rw [List.nodup_iff_pairwise_ne, List.pairwise_iff_getElem]
  intro i j hi hj hij e
  have h1 := a.rest i _ (List.getElem?_eq_getElem hi)
  have h2 := a.rest j _ (List.getElem?_eq_getElem hj)
  rw [e] at h1
  omega
 unfold need
 rw [List.nodup_cons]
 refine ⟨fun z => ?_, (hn.sublist (List.drop_sublist 1 h)).filter _⟩
 obtain ⟨j, hj, ej⟩ := List.mem_iff_getElem.mp (List.mem_filter.mp z).1
 have hjx : h[1 + j]? = some (h.length : Int) := by rw [← List.getElem?_drop, List.getElem?_eq_getElem hj, ej]
 have := a.above (1 + j) _ hjx (by omega)
 omega
end PG
namespace PG
open PySem L2 PyProof PyProof.Rows
theorem of_leastS {G g : List Int} (L : LeastS (fun s => 0 ≤ s ∧ s ∉ G) g) (N : LeastN (fun s => 0 ≤ s ∧ s ∉ G) (g.length : Int)) : HouseOf G g := by
 have hp := L.pos
 refine ⟨by omega, N.has.2, fun k k1 k2 => ?_, fun r x hx => ?_⟩
 ·by_cases z : k ∈ G
  ·exact z
  ·exact absurd ⟨by omega, z⟩ (N.low k k1 k2)
 ·obtain ⟨⟨x0, x1⟩, xr⟩ := L.mem r x hx
  have e := Int.emod_add_mul_ediv x (g.length : Int)
  have q0 := Int.ediv_nonneg (a := x) (b := (g.length : Int)) x0 (by omega)
  rw [xr] at e
  have hr : r < g.length := (List.getElem?_eq_some_iff.mp hx).1
  refine ⟨(x / (g.length : Int)).toNat, ?_, x1, fun j hj => ?_⟩
  ·rw [Int.toNat_of_nonneg q0, Int.mul_comm]; exact e.symm
  ·by_cases z : (r : Int) + (j : Int) * (g.length : Int) ∈ G
   ·exact z
   ·have jn : 0 ≤ (j : Int) * (g.length : Int) := Int.mul_nonneg (Int.natCast_nonneg j) (Int.natCast_nonneg _)
    have := L.least _ ⟨by omega, z⟩
    rw [Int.add_mul_emod_self_right, Int.emod_eq_of_lt (by omega) (by omega), Int.toNat_natCast, getD_at hx] at this
    have hq : (j : Int) * (g.length : Int) + 1 * (g.length : Int) ≤ (x / (g.length : Int)) * (g.length : Int) := by
     rw [← Int.add_mul]
     exact Int.mul_le_mul_of_nonneg_right (by omega) (by omega)
    rw [Int.mul_comm (x / (g.length : Int))] at hq
    omega
structure Next (G : List Int) (x : Int) : Prop where
 pos : 1 ≤ x
 top : ∀ y ∈ G, y < x
 cl : ∀ a, 1 ≤ a → a < x → a ∈ G ∨ x - a ∈ G
theorem Next.gaps {G : List Int} {x : Int} (g : Gaps G) (n : Next G x) (x2 : x ≤ 2000) (hl : G.length < 300) : Gaps (G ++ [x]) :=
 g.snoc n.top n.pos x2 hl fun a a1 a2 => n.cl a a1 (by have := n.pos; omega)
theorem Gaps.last {G : List Int} {x : Int} (g : Gaps (G ++ [x])) : Gaps G ∧ Next G x := by
 have up := List.pairwise_append.mp g.up
 have top : ∀ y ∈ G, y < x := fun y hy => up.2.2 y hy x (List.mem_singleton.mpr rfl)
 have inG : ∀ a, a ∈ G ++ [x] → a < x → a ∈ G := fun a ha lt => by
  rcases List.mem_append.mp ha with z | z
  ·exact z
  ·rw [List.mem_singleton.mp z] at lt; omega
 refine ⟨⟨fun y hy => g.pos y (List.mem_append_left _ hy), fun y hy => g.le y (List.mem_append_left _ hy), up.1, by have := g.few; simp at this; omega, fun y hy a a1 a2 => ?_⟩, g.pos x (List.mem_append_right _ (List.mem_singleton.mpr rfl)), top, fun a a1 a2 => ?_⟩
 ·have := top y hy
  rcases g.cl y (List.mem_append_left _ hy) a a1 a2 with z | z
  ·exact .inl (inG a z (by omega))
  ·exact .inr (inG _ z (by omega))
 ·rcases g.cl x (List.mem_append_right _ (List.mem_singleton.mpr rfl)) a a1 a2 with z | z
  ·exact .inl (inG a z a2)
  ·exact .inr (inG _ z (by omega))
theorem mem_needH {h : List Int} (a : House h) {x : Int} : x ∈ need h ↔ 1 ≤ x ∧ Can h x ∧ partsB h x = false := by
 have hp := a.pos
 rw [← a.need_eq, List.mem_filter, List.mem_cons]
 have mem1 : ∀ y, y ∈ h.drop 1 → 1 ≤ y ∧ Can h y := fun y hy => by
  obtain ⟨i, hi⟩ := List.mem_iff_getElem?.mp hy
  rw [List.getElem?_drop] at hi
  have := a.above _ _ hi (by omega)
  refine ⟨by omega, ?_⟩
  rw [can_iff, a.rest _ _ hi, Int.toNat_natCast, getD_at hi]
  exact Int.le_refl _
 constructor
 ·rintro ⟨hx, np⟩
  have np' : partsB h x = false := by simpa using np
  rcases hx with rfl | hx
  ·exact ⟨by omega, a.canLen, np'⟩
  ·exact ⟨(mem1 x hx).1, (mem1 x hx).2, np'⟩
 ·rintro ⟨x1, xc, np⟩
  refine ⟨?_, by rw [np]; rfl⟩
  by_cases e : x = (h.length : Int)
  ·exact .inl e
  ·right
   have m0 := Int.emod_nonneg x (show (h.length : Int) ≠ 0 by omega)
   have m1 := Int.emod_lt_of_pos x (show (0 : Int) < h.length by omega)
   have hr : (x % (h.length : Int)).toNat < h.length := by omega
   have hat := getD_some (ns := h) hr
   rw [can_iff] at xc
   by_cases z : h.getD (x % (h.length : Int)).toNat 0 = x
   ·rw [z] at hat
    have r0 : (x % (h.length : Int)).toNat ≠ 0 := fun z0 => by
     rw [z0, a.zero] at hat
     cases hat
     omega
    refine List.mem_iff_getElem?.mpr ⟨(x % (h.length : Int)).toNat - 1, ?_⟩
    rw [List.getElem?_drop, show 1 + ((x % (h.length : Int)).toNat - 1) = (x % (h.length : Int)).toNat by omega]
    exact hat
   ·exfalso
    have er : h.getD (x % (h.length : Int)).toNat 0 % (h.length : Int) = x % (h.length : Int) := by
     rw [a.rest _ _ hat]; omega
    have ge := rest_ge (m := (h.length : Int)) (by omega) er.symm (by omega)
    have nn := a.nonneg _ (List.mem_of_getElem? hat)
    have cx : Can h (x - (h.length : Int)) := by
     rw [can_iff, Int.sub_emod_right]
     omega
    have : partsB h x = true := by
     unfold partsB
     rw [List.any_eq_true]
     refine ⟨(h.length : Nat) - 1, List.mem_range.mpr (by omega), ?_⟩
     rw [show 1 + (((h.length : Nat) - 1 : Nat) : Int) = (h.length : Int) by omega, Bool.and_eq_true]
     exact ⟨a.canLen, cx⟩
    rw [np] at this
    cases this
theorem parts_gaps {G h : List Int} (g : Gaps G) (a : HouseOf G h) {x : Int} : partsB h x = false ↔ ∀ y, 1 ≤ y → y < x → y ∈ G ∨ x - y ∈ G := by
 constructor
 ·intro np y y1 y2
  by_cases z : y ∈ G
  ·exact .inl z
  ·right
   by_cases w : x - y ∈ G
   ·exact w
   ·exfalso
    have : partsB h x = true := by
     unfold partsB
     rw [List.any_eq_true]
     refine ⟨(y - 1).toNat, List.mem_range.mpr (by omega), ?_⟩
     rw [show 1 + (((y - 1).toNat : Nat) : Int) = y by omega, Bool.and_eq_true]
     exact ⟨(a.can g y).mpr ⟨by omega, z⟩, (a.can g (x - y)).mpr ⟨by omega, w⟩⟩
    rw [np] at this
    cases this
 ·intro cl
  cases hb : partsB h x
  ·rfl
  ·exfalso
   unfold partsB at hb
   rw [List.any_eq_true] at hb
   obtain ⟨i, hi, hc⟩ := hb
   have := List.mem_range.mp hi
   rw [Bool.and_eq_true] at hc
   have c1 := (a.can g _).mp hc.1
   have c2 := (a.can g _).mp hc.2
   rcases cl (1 + (i : Int)) (by omega) (by omega) with z | z
   ·exact c1.2 z
   ·exact c2.2 z
theorem need_next {G h : List Int} (g : Gaps G) (a : HouseOf G h) {x : Int} : (x ∈ need h ∧ ∀ y ∈ G, y < x) ↔ Next G x := by
 rw [mem_needH (a.house g)]
 constructor
 ·rintro ⟨⟨x1, xc, np⟩, top⟩
  exact ⟨x1, top, (parts_gaps g a).mp np⟩
 ·intro n
  refine ⟨⟨n.pos, (a.can g x).mpr ⟨by have := n.pos; omega, fun z => by have := n.top x z; omega⟩, (parts_gaps g a).mpr n.cl⟩, n.top⟩
noncomputable def lessH (h : List Int) (c : Int) : List Int := h.map fun x => if x = c then x + (h.length : Int) else x
theorem less_house {G h : List Int} {c : Int} (g : Gaps G) (a : HouseOf G h) (n : Next G c) (ne : c ≠ (h.length : Int)) : HouseOf (G ++ [c]) (lessH h c) := by
 have hp := a.pos
 have hh := a.house g
 have ll : (lessH h c).length = h.length := by unfold lessH; simp
 have cG : c ∉ G := fun z => by have := n.top c z; omega
 have cc := (a.can g c).mpr ⟨by have := n.pos; omega, cG⟩
 have m0 := Int.emod_nonneg c (show (h.length : Int) ≠ 0 by omega)
 have m1 := Int.emod_lt_of_pos c (show (0 : Int) < h.length by omega)
 have hr0 : (c % (h.length : Int)).toNat < h.length := by omega
 have hat := getD_some (ns := h) hr0
 have least : h[(c % (h.length : Int)).toNat]? = some c := by
  have hn := (mem_needH hh).mpr ⟨n.pos, cc, (parts_gaps g a).mpr n.cl⟩
  unfold need at hn
  rcases List.mem_cons.mp hn with z | z
  ·exact absurd z ne
  ·obtain ⟨i, hi⟩ := List.mem_iff_getElem?.mp (List.mem_filter.mp z).1
   rw [List.getElem?_drop] at hi
   have := hh.rest _ _ hi
   rw [this, Int.toNat_natCast]
   exact hi
 refine ⟨by omega, ?_, fun k k1 k2 => ?_, fun r x hx => ?_⟩
 ·rw [ll]
  intro z
  rcases List.mem_append.mp z with z | z
  ·exact a.out z
  ·exact ne (List.mem_singleton.mp z).symm
 ·rw [ll] at k2
  exact List.mem_append_left _ (a.low k k1 k2)
 ·rw [ll]
  unfold lessH at hx
  rw [List.getElem?_map] at hx
  cases hy : h[r]? with
  | none => rw [hy] at hx; cases hx
  | some y =>
   rw [hy] at hx
   have ex : (if y = c then y + (h.length : Int) else y) = x := Option.some.inj hx
   obtain ⟨k, k1, k2, k3⟩ := a.num r y hy
   by_cases e : y = c
   ·rw [if_pos e] at ex
    refine ⟨k + 1, by rw [← ex, k1, Int.natCast_add, Int.add_mul]; simp; omega, fun z => ?_, fun j hj => ?_⟩
    ·rcases List.mem_append.mp z with z | z
     ·have y0 := hh.nonneg y (List.mem_of_getElem? hy)
      have := g.closed (x := y) (y := (h.length : Int)) y0 (by omega) k2 a.out
      rw [ex] at this
      exact this z
     ·have := List.mem_singleton.mp z
      omega
    ·by_cases w : j = k
     ·rw [w, ← k1, e]
      exact List.mem_append_right _ (List.mem_singleton.mpr rfl)
     ·exact List.mem_append_left _ (k3 j (by omega))
   ·rw [if_neg e] at ex
    refine ⟨k, by rw [← ex]; exact k1, fun z => ?_, fun j hj => List.mem_append_left _ (k3 j hj)⟩
    rcases List.mem_append.mp z with z | z
    ·rw [← ex] at z; exact k2 z
    ·have := List.mem_singleton.mp z
     omega
theorem above_house {G h : List Int} (g : Gaps G) (a : HouseOf G h) (n : Next G (h.length : Int)) : HouseOf (G ++ [(h.length : Int)]) (fullL (h.length + 1)) := by
 have hp := a.pos
 have fl := fullL_len (m := h.length + 1) (by omega)
 refine ⟨by omega, ?_, fun k k1 k2 => ?_, fun r x hx => ?_⟩
 ·rw [fl]
  intro z
  rcases List.mem_append.mp z with z | z
  ·have := n.top _ z
   omega
  ·have := List.mem_singleton.mp z
   omega
 ·rw [fl] at k2
  by_cases e : k = (h.length : Int)
  ·rw [e]; exact List.mem_append_right _ (List.mem_singleton.mpr rfl)
  ·exact List.mem_append_left _ (a.low k k1 (by omega))
 ·rw [fl]
  rcases fullL_get hx with ⟨r0, x0⟩ | ⟨r1, r2, x0⟩
  ·refine ⟨0, by rw [r0, x0]; simp, fun z => ?_, fun j hj => by omega⟩
   rw [x0] at z
   rcases List.mem_append.mp z with z | z
   ·have := g.pos 0 z; omega
   ·have := List.mem_singleton.mp z
    omega
  ·refine ⟨1, by rw [x0]; omega, fun z => ?_, fun j hj => ?_⟩
   ·rcases List.mem_append.mp z with z | z
    ·have := n.top _ z
     omega
    ·have := List.mem_singleton.mp z
     omega
   ·rw [show j = 0 by omega]
    rw [show (r : Int) + ((0 : Nat) : Int) * ((h.length + 1 : Nat) : Int) = (r : Int) by simp]
    by_cases e : r = h.length
    ·rw [e]; exact List.mem_append_right _ (List.mem_singleton.mpr rfl)
    ·exact List.mem_append_left _ (a.low r (by omega) (by omega))
theorem next_le {G h : List Int} (a : HouseOf G h) {x B : Int} (n : Next G x) (hB : ∀ y ∈ G, y ≤ B) (B0 : 0 ≤ B) : x ≤ B + (h.length : Int) := by
 have hp := a.pos
 by_cases z : x ≤ B + (h.length : Int)
 ·exact z
 ·exfalso
  rcases n.cl (h.length : Int) (by omega) (by omega) with w | w
  ·exact a.out w
  ·have := hB _ w
   omega
theorem fill_parent {G h g' : List Int} {c : Int} (g : Gaps (G ++ [c])) (a : HouseOf (G ++ [c]) h) (L : LeastS (FillS h c) g') (N : LeastN (FillS h c) (g'.length : Int)) : HouseOf G g' := by
 obtain ⟨gG, n⟩ := g.last
 have c1 := n.pos
 have e : ∀ s, FillS h c s ↔ (0 ≤ s ∧ s ∉ G) := fun s => by
  unfold FillS
  rw [a.can g]
  constructor
  ·rintro ⟨s0, z⟩
   refine ⟨s0, fun w => ?_⟩
   rcases z with z | z
   ·have := n.top s w; omega
   ·exact z.2 (List.mem_append_left _ w)
  ·rintro ⟨s0, z⟩
   refine ⟨s0, ?_⟩
   by_cases w : c ≤ s
   ·exact .inl w
   ·refine .inr ⟨s0, fun y => ?_⟩
    rcases List.mem_append.mp y with y | y
    ·exact z y
    ·rw [List.mem_singleton.mp y] at w; omega
 exact of_leastS (L.congr e) ⟨N.one, (e _).mp N.has, fun k k1 k2 hk => N.low k k1 k2 ((e k).mpr hk)⟩
theorem HouseOf.len_le {G h : List Int} (g : Gaps G) (a : HouseOf G h) : h.length ≤ G.length + 1 := by
 have := sub_len (l := (List.range (h.length - 1)).map fun (i : Nat) => 1 + (i : Int)) (m := G) ?_ ?_
 ·rw [List.length_map, List.length_range] at this
  omega
 ·rw [List.Nodup, List.pairwise_map]
  exact List.pairwise_lt_range.imp fun hab => by omega
 ·intro x hx
  obtain ⟨i, hi, rfl⟩ := List.mem_map.mp hx
  have := List.mem_range.mp hi
  exact a.low _ (by omega) (by omega)
theorem cutV_last (xs : List V) : cutV xs none (some (-1)) = xs.dropLast := by
 unfold cutV
 have e : HT.sIx xs.length xs.length (some (-1)) = xs.length - 1 := by
  show (if (-1 : Int) < 0 then ((-1 : Int) + (xs.length : Int)).toNat else min (-1 : Int).toNat xs.length) = _
  rw [if_pos (by decide)]
  omega
 rw [e, HT.sIx_none, List.drop_zero, Nat.sub_zero, List.dropLast_eq_take]
noncomputable def sFill0 (K : FrK) : Sp := fun vs H Q _ => match vs with
 | [.ref a, .int nb] => ∃ h, LI K H a h ∧ House h ∧ h.length ≤ 1000 ∧ 1 ≤ nb ∧ ∀ (p : Addr) (g : List Int) (H' : Hp), Same H H' → H p = none → H' p = some (.lst (g.map V.int)) → LeastS (FillS h nb) g → LeastN (FillS h nb) (g.length : Int) → g.length ≤ h.length → Q (.ref p) H'
 | _ => False
end PG
namespace PG
open PySem L2 PyProof PyProof.Rows
theorem next_few {G h cs : List Int} (g : Gaps G) (a : HouseOf G h) (up : cs.Pairwise (· < ·)) (mem : ∀ x ∈ cs, Next G x) : cs.length ≤ h.length := by
 obtain ⟨B, B0, hB, hB2⟩ : ∃ B : Int, 0 ≤ B ∧ (∀ y ∈ G, y ≤ B) ∧ ∀ x, Next G x → B < x := by
  cases hG : G with
  | nil => exact ⟨0, Int.le_refl _, by simp, fun x n => by have := n.pos; omega⟩
  | cons y r =>
   obtain ⟨M, hM, mx⟩ := max_of (h := G) (by rw [hG]; simp)
   rw [← hG]
   exact ⟨M, by have := g.pos M hM; omega, mx, fun x n => n.top M hM⟩
 have := sub_len (l := cs) (m := (List.range h.length).map fun (i : Nat) => B + 1 + (i : Int)) (up.imp fun hab => by omega) fun x hx => by
  have n := mem x hx
  have h1 := next_le a n hB B0
  have h2 := hB2 x n
  exact List.mem_map.mpr ⟨(x - B - 1).toNat, List.mem_range.mpr (by omega), by omega⟩
 rw [List.length_map, List.length_range] at this
 exact this
end PG
namespace TS
open PySem PyProof.Rows
noncomputable def gallopP : Bool → Keyed → Array Keyed → Nat → Nat → Nat → StateT SortSt Sem (Option Nat) := sortPriv% PySem.Builtin.gallop
section
variable {prog : Program} {w : World} {A : Around} {E : Value → Shared → Prop} {s : Shared}
theorem lt_ok {st : SortSt} {x y : Keyed} {a b : Int} {t u : Tok} {Q : Option Bool → SortSt → Prop} (hk : kindOf st = oneType') (hx : x.1 = .int a t) (hy : y.1 = .int b u) (h : Q (some (decide (a < b))) st) :
  wpS (model prog w) A E s (lt' x y) Q st := by
 rw [lt'_eq]
 refine wpS_bind (wpS_get ?_)
 rw [hk, keyLt'_oneType, hx, hy]
 exact wpS_bind (wpS_lift (wpAny_attempt (oneLt_int ⟨rfl, wpS_pure h⟩)))
theorem elem_ok {st : SortSt} {arr : Array Keyed} {i : Nat} {x : Keyed} {Q : Keyed → SortSt → Prop} (hx : arr[i]? = some x) (h : Q x st) : wpS (model prog w) A E s (elem' arr i) Q st := by
 rw [elem'_eq, hx]
 exact wpS_pure h
noncomputable def IK (x : Keyed) : Prop := ∃ n t, x.1 = .int n t
noncomputable def ky (x : Keyed) : Int := numOf x.1
theorem IK.eq {x : Keyed} (h : IK x) : ∃ t, x.1 = .int (ky x) t := by
 obtain ⟨n, t, e⟩ := h
 exact ⟨t, by unfold ky; rw [e]; rfl⟩
theorem lt_ik {st : SortSt} {x y : Keyed} {Q : Option Bool → SortSt → Prop} (hk : kindOf st = oneType') (hx : IK x) (hy : IK y) (h : Q (some (decide (ky x < ky y))) st) :
  wpS (model prog w) A E s (lt' x y) Q st := by
 obtain ⟨t, e⟩ := hx.eq
 obtain ⟨u, f⟩ := hy.eq
 exact lt_ok hk e f h
noncomputable def bey (left : Bool) (key x : Keyed) : Bool := if left = true then decide (ky x < ky key) else !decide (ky key < ky x)
theorem beyond_ok {st : SortSt} {left : Bool} {key x : Keyed} {arr : Array Keyed} {j : Nat} {Q : Option Bool → SortSt → Prop} (hk : kindOf st = oneType') (hj : arr[j]? = some x) (hx : IK x) (hy : IK key) (h : Q (some (bey left key x)) st) :
  wpS (model prog w) A E s (do
   let x ← elem' arr j
   if left = true then lt' x key else return (← lt' key x).map (!·)) Q st := by
 refine wpS_bind (elem_ok hj ?_)
 unfold bey at h
 by_cases z : left = true
 ·rw [if_pos z] at h ⊢
  exact lt_ik hk hx hy h
 ·rw [if_neg z] at h ⊢
  exact wpS_bind (lt_ik hk hy hx (wpS_pure h))
theorem gallop_ok {st : SortSt} {left : Bool} {key : Keyed} {arr : Array Keyed} {base n hint : Nat} {Q : Option Nat → SortSt → Prop} (hk : kindOf st = oneType') (hy : IK key)
  (x : Nat → Keyed) (hx : ∀ i, i < n → arr[base + i]? = some (x i)) (ik : ∀ i, i < n → IK (x i)) (mono : ∀ i j, i ≤ j → j < n → ky (x i) ≤ ky (x j)) (hh : hint < n)
  (h : ∀ k, k ≤ n → (∀ i, i < k → bey left key (x i) = true) → (∀ i, k ≤ i → i < n → bey left key (x i) = false) → Q (some k) st) :
  wpS (model prog w) A E s (gallopP left key arr base n hint) Q st := by
 have anti : ∀ i j, i ≤ j → j < n → bey left key (x j) = true → bey left key (x i) = true := fun i j ij jn hb => by
  have := mono i j ij jn
  unfold bey at hb ⊢
  by_cases z : left = true
  ·rw [if_pos z] at hb ⊢
   have := of_decide_eq_true hb
   exact decide_eq_true (by omega)
  ·rw [if_neg z] at hb ⊢
   simp only [Bool.not_eq_true', decide_eq_false_iff_not] at hb ⊢
   omega
 have anti' : ∀ i j, i ≤ j → j < n → bey left key (x i) = false → bey left key (x j) = false := fun i j ij jn hb => by
  cases q : bey left key (x j)
  ·rfl
  ·rw [anti i j ij jn q] at hb; cases hb
 refine wpS_bind (beyond_ok hk (hx _ hh) (ik _ hh) hy ?_)
 dsimp only
 cases q0 : bey left key (x hint)
 ·rw [if_neg (by decide)]
  refine wpS_bind (wpS_mono (wpS_forRange (I := fun y c st' => st = st' ∧ ∃ la of, c = (none, la, of) ∧ la < of ∧ y + 1 ≤ of ∧ la ≤ hint ∧ bey left key (x (hint - la)) = false)
   (Q := fun c st' => st = st' ∧ ∃ la of, c = (none, la, of) ∧ la < of ∧ la ≤ hint ∧ bey left key (x (hint - la)) = false ∧ (hint + 1 ≤ of ∨ (of ≤ hint ∧ bey left key (x (hint - of)) = true))) ?step ?fin ⟨rfl, 0, 1, rfl, by omega, by omega, by omega, q0⟩) ?post)
  case fin =>
   rintro c st' ⟨rfl, la, of, rfl, a1, a2, a3, a4⟩
   exact ⟨rfl, la, of, rfl, a1, a3, a4, .inl (by omega)⟩
  case step =>
   rintro y c st' _ hy' ⟨rfl, la, of, rfl, a1, a2, a3, a4⟩
   dsimp only
   by_cases z : of ≥ hint + 1
   ·rw [if_pos z]
    exact wpS_pure ⟨rfl, la, of, rfl, a1, a3, a4, .inl z⟩
   ·rw [if_neg z]
    refine wpS_bind (beyond_ok hk (hx _ (by omega)) (ik _ (by omega)) hy ?_)
    dsimp only
    cases q : bey left key (x (hint - of))
    ·rw [if_neg (by decide)]
     exact wpS_pure ⟨rfl, _, _, rfl, by omega, by omega, by omega, q⟩
    ·rw [if_pos rfl]
     exact wpS_pure ⟨rfl, la, of, rfl, a1, a3, a4, .inr ⟨by omega, q⟩⟩
  case post =>
   rintro c st' ⟨rfl, la, of, rfl, a1, a2, a3, a4⟩
   dsimp only
   obtain ⟨lo, hi, elo, ehi, h1, h2, h3, h4⟩ : ∃ lo hi, lo = hint + 1 - min of (hint + 1) ∧ hi = hint - la ∧ lo ≤ hi ∧ hi ≤ n ∧ (∀ i, i < lo → bey left key (x i) = true) ∧ (∀ i, hi ≤ i → i < n → bey left key (x i) = false) := ⟨_, _, rfl, rfl, by omega, by omega, fun i i1 => (by rcases a4 with a4 | ⟨a4, a5⟩; (· exfalso; omega); (· exact anti _ _ (by omega) (by omega) a5)), fun i i1 i2 => anti' _ _ i1 i2 a3⟩
   rw [← elo, ← ehi]
   refine wpS_bind (wpS_mono (wpS_forRange (I := fun y c st' => st = st' ∧ ∃ lo hi, c = (none, lo, hi) ∧ lo ≤ hi ∧ hi ≤ n ∧ hi - lo ≤ n - y ∧ (∀ i, i < lo → bey left key (x i) = true) ∧ (∀ i, hi ≤ i → i < n → bey left key (x i) = false))
    (Q := fun c st' => st = st' ∧ ∃ k, c = (none, k, k) ∧ k ≤ n ∧ (∀ i, i < k → bey left key (x i) = true) ∧ (∀ i, k ≤ i → i < n → bey left key (x i) = false)) ?bstep ?bfin ⟨rfl, lo, hi, rfl, h1, h2, by omega, h3, h4⟩) ?bpost)
   case bfin =>
    rintro c st' ⟨rfl, lo, hi, rfl, a1, a2, a3, a4, a5⟩
    have e : lo = hi := by omega
    subst e
    exact ⟨rfl, lo, rfl, a2, a4, a5⟩
   case bpost =>
    rintro c st' ⟨rfl, k, rfl, b1, b2, b3⟩
    exact wpS_pure (h k b1 b2 b3)
   case bstep =>
    rintro y c st' _ hy' ⟨rfl, lo, hi, rfl, a1, a2, a3, a4, a5⟩
    dsimp only
    by_cases z : lo ≥ hi
    ·rw [if_pos z]
     have e : lo = hi := by omega
     subst e
     exact wpS_pure ⟨rfl, lo, rfl, a2, a4, a5⟩
    ·rw [if_neg z]
     have mlt : lo + (hi - lo) / 2 < n := by omega
     refine wpS_bind (beyond_ok hk (hx _ mlt) (ik _ mlt) hy ?_)
     dsimp only
     cases q : bey left key (x (lo + (hi - lo) / 2))
     ·rw [if_neg (by decide)]
      exact wpS_pure ⟨rfl, _, _, rfl, by omega, by omega, by omega, a4, fun i i1 i2 => anti' _ _ i1 i2 q⟩
     ·rw [if_pos rfl]
      exact wpS_pure ⟨rfl, _, _, rfl, by omega, by omega, by omega, fun i i1 => anti _ _ (Nat.le_of_lt_succ i1) mlt q, a5⟩
 ·rw [if_pos rfl]
  refine wpS_bind (wpS_mono (wpS_forRange (I := fun y c st' => st = st' ∧ ∃ la of, c = (none, la, of) ∧ la < of ∧ y + 1 ≤ of ∧ hint + la < n ∧ bey left key (x (hint + la)) = true)
   (Q := fun c st' => st = st' ∧ ∃ la of, c = (none, la, of) ∧ la < of ∧ hint + la < n ∧ bey left key (x (hint + la)) = true ∧ (n - hint ≤ of ∨ (hint + of < n ∧ bey left key (x (hint + of)) = false))) ?step ?fin ⟨rfl, 0, 1, rfl, by omega, by omega, by omega, q0⟩) ?post)
  case fin =>
   rintro c st' ⟨rfl, la, of, rfl, a1, a2, a3, a4⟩
   exact ⟨rfl, la, of, rfl, a1, a3, a4, .inl (by omega)⟩
  case step =>
   rintro y c st' _ hy' ⟨rfl, la, of, rfl, a1, a2, a3, a4⟩
   dsimp only
   by_cases z : of ≥ n - hint
   ·rw [if_pos z]
    exact wpS_pure ⟨rfl, la, of, rfl, a1, a3, a4, .inl z⟩
   ·rw [if_neg z]
    refine wpS_bind (beyond_ok hk (hx _ (by omega)) (ik _ (by omega)) hy ?_)
    dsimp only
    cases q : bey left key (x (hint + of))
    ·rw [if_pos (show (!false) = true from rfl)]
     exact wpS_pure ⟨rfl, la, of, rfl, a1, a3, a4, .inr ⟨by omega, q⟩⟩
    ·rw [if_neg (by decide)]
     exact wpS_pure ⟨rfl, _, _, rfl, by omega, by omega, by omega, q⟩
  case post =>
   rintro c st' ⟨rfl, la, of, rfl, a1, a2, a3, a4⟩
   dsimp only
   obtain ⟨lo, hi, elo, ehi, h1, h2, h3, h4⟩ : ∃ lo hi, lo = hint + la + 1 ∧ hi = hint + min of (n - hint) ∧ lo ≤ hi ∧ hi ≤ n ∧ (∀ i, i < lo → bey left key (x i) = true) ∧ (∀ i, hi ≤ i → i < n → bey left key (x i) = false) := ⟨_, _, rfl, rfl, by omega, by omega, fun i i1 => anti _ _ (Nat.le_of_lt_succ i1) a2 a3, fun i i1 i2 => (by rcases a4 with a4 | ⟨a4, a5⟩; (· exfalso; omega); (· exact anti' _ _ (by omega) i2 a5))⟩
   rw [← elo, ← ehi]
   refine wpS_bind (wpS_mono (wpS_forRange (I := fun y c st' => st = st' ∧ ∃ lo hi, c = (none, lo, hi) ∧ lo ≤ hi ∧ hi ≤ n ∧ hi - lo ≤ n - y ∧ (∀ i, i < lo → bey left key (x i) = true) ∧ (∀ i, hi ≤ i → i < n → bey left key (x i) = false))
    (Q := fun c st' => st = st' ∧ ∃ k, c = (none, k, k) ∧ k ≤ n ∧ (∀ i, i < k → bey left key (x i) = true) ∧ (∀ i, k ≤ i → i < n → bey left key (x i) = false)) ?bstep ?bfin ⟨rfl, lo, hi, rfl, h1, h2, by omega, h3, h4⟩) ?bpost)
   case bfin =>
    rintro c st' ⟨rfl, lo, hi, rfl, a1, a2, a3, a4, a5⟩
    have e : lo = hi := by omega
    subst e
    exact ⟨rfl, lo, rfl, a2, a4, a5⟩
   case bpost =>
    rintro c st' ⟨rfl, k, rfl, b1, b2, b3⟩
    exact wpS_pure (h k b1 b2 b3)
   case bstep =>
    rintro y c st' _ hy' ⟨rfl, lo, hi, rfl, a1, a2, a3, a4, a5⟩
    dsimp only
    by_cases z : lo ≥ hi
    ·rw [if_pos z]
     have e : lo = hi := by omega
     subst e
     exact wpS_pure ⟨rfl, lo, rfl, a2, a4, a5⟩
    ·rw [if_neg z]
     have mlt : lo + (hi - lo) / 2 < n := by omega
     refine wpS_bind (beyond_ok hk (hx _ mlt) (ik _ mlt) hy ?_)
     dsimp only
     cases q : bey left key (x (lo + (hi - lo) / 2))
     ·rw [if_neg (by decide)]
      exact wpS_pure ⟨rfl, _, _, rfl, by omega, by omega, by omega, a4, fun i i1 i2 => anti' _ _ i1 i2 q⟩
     ·rw [if_pos rfl]
      exact wpS_pure ⟨rfl, _, _, rfl, by omega, by omega, by omega, fun i i1 => anti _ _ (Nat.le_of_lt_succ i1) mlt q, a5⟩
end
end TS
namespace TS
open PySem PyProof.Rows
noncomputable abbrev Up (x y : Keyed) : Prop := ky x ≤ ky y
structure Mrg (R : Keyed → Keyed → Prop) (all out ra rb : List Keyed) : Prop where
 perm : (out ++ (ra ++ rb)).Perm all
 so : out.Pairwise R
 sa : ra.Pairwise R
 sb : rb.Pairwise R
 la : ∀ x ∈ out, ∀ y ∈ ra, R x y
 lb : ∀ x ∈ out, ∀ y ∈ rb, R x y
theorem Mrg.swap {R : Keyed → Keyed → Prop} {all out ra rb : List Keyed} (m : Mrg R all out ra rb) : Mrg R all out rb ra :=
 ⟨(List.Perm.append_left out List.perm_append_comm).trans m.perm, m.so, m.sb, m.sa, m.lb, m.la⟩
theorem Mrg.takeA {R : Keyed → Keyed → Prop} {all out p ra rb : List Keyed} (m : Mrg R all out (p ++ ra) rb) (h : ∀ x ∈ p, ∀ y ∈ rb, R x y) : Mrg R all (out ++ p) ra rb := by
 have sp := List.pairwise_append.mp m.sa
 refine ⟨?_, ?_, sp.2.1, m.sb, fun x hx y hy => ?_, fun x hx y hy => ?_⟩
 ·have := m.perm
  rw [List.append_assoc] at this
  rw [List.append_assoc]
  exact this
 ·exact List.pairwise_append.mpr ⟨m.so, sp.1, fun x hx y hy => m.la x hx y (List.mem_append_left _ hy)⟩
 ·rcases List.mem_append.mp hx with z | z
  ·exact m.la x z y (List.mem_append_right _ hy)
  ·exact sp.2.2 x z y hy
 ·rcases List.mem_append.mp hx with z | z
  ·exact m.lb x z y hy
  ·exact h x z y hy
theorem Mrg.takeB {R : Keyed → Keyed → Prop} {all out p ra rb : List Keyed} (m : Mrg R all out ra (p ++ rb)) (h : ∀ x ∈ p, ∀ y ∈ ra, R x y) : Mrg R all (out ++ p) ra rb := (m.swap.takeA h).swap
theorem Mrg.fin {R : Keyed → Keyed → Prop} {all out ra rb : List Keyed} (m : Mrg R all out ra rb) (h : ∀ x ∈ ra, ∀ y ∈ rb, R x y) : (out ++ ra ++ rb).Perm all ∧ (out ++ ra ++ rb).Pairwise R := by
 rw [List.append_assoc]
 refine ⟨m.perm, List.pairwise_append.mpr ⟨m.so, List.pairwise_append.mpr ⟨m.sa, m.sb, h⟩, fun x hx y hy => ?_⟩⟩
 rcases List.mem_append.mp hy with z | z
 ·exact m.la x hx y z
 ·exact m.lb x hx y z
theorem drop_at {a : Array Keyed} {i : Nat} (h : i < a.size) : ∃ x, a[i]? = some x ∧ a.toList.drop i = x :: a.toList.drop (i + 1) ∧ x ∈ a.toList := by
 refine ⟨a[i], getElem?_pos a i h, ?_, by simp⟩
 rw [List.drop_eq_getElem_cons (by simpa using h)]
 simp
theorem ext_drop (a : Array Keyed) (i : Nat) : (a.extract i a.size).toList = a.toList.drop i := by
 rw [Array.toList_extract, List.extract_eq_take_drop]
 rw [List.take_of_length_le]
 simp
theorem ext_seg (a : Array Keyed) (i k : Nat) : (a.extract i (i + k)).toList = (a.toList.drop i).take k := by
 rw [Array.toList_extract, List.extract_eq_take_drop, Nat.add_sub_cancel_left]
section
variable {prog : Program} {w : World} {A : Around} {E : Value → Shared → Prop} {s : Shared}
theorem gallop_seg {st : SortSt} {left : Bool} {key : Keyed} {arr : Array Keyed} {base n hint : Nat} {Q : Option Nat → SortSt → Prop} (hk : kindOf st = oneType') (hy : IK key) (hn : base + n ≤ arr.size) (hh : hint < n)
  (ik : ∀ x ∈ arr.toList, IK x) (srt : ((arr.toList.drop base).take n).Pairwise Up)
  (h : ∀ k, k ≤ n → (∀ z ∈ (arr.toList.drop base).take k, bey left key z = true) → (∀ z ∈ ((arr.toList.drop base).take n).drop k, bey left key z = false) → Q (some k) st) :
  wpS (model prog w) A E s (gallopP left key arr base n hint) Q st := by
 have hx : ∀ i, i < n → arr[base + i]? = some ((arr[base + i]?).getD (Value.none, Value.none)) := fun i hi => by
  rw [getElem?_pos arr (base + i) (by omega)]
  rfl
 have hm : ∀ i, i < n → ((arr.toList.drop base).take n)[i]? = some ((arr[base + i]?).getD (Value.none, Value.none)) := fun i hi => by
  rw [List.getElem?_take, if_pos hi, List.getElem?_drop, Array.getElem?_toList, hx i hi]
  rfl
 have hm' : ∀ (i : Nat) z, ((arr.toList.drop base).take n)[i]? = some z → i < n ∧ z = (arr[base + i]?).getD (Value.none, Value.none) := fun i z hz => by
  have hi : i < n := by
   have := (List.getElem?_eq_some_iff.mp hz).1
   rw [List.length_take] at this
   omega
  rw [hm i hi] at hz
  exact ⟨hi, (Option.some.inj hz).symm⟩
 refine gallop_ok hk hy (fun i => (arr[base + i]?).getD (Value.none, Value.none)) hx (fun i hi => ik _ ?_) (fun i j ij jn => ?_) hh fun k kn h1 h2 => h k kn (fun z hz => ?_) fun z hz => ?_
 ·have := List.mem_of_getElem? (hm i hi)
  exact List.mem_of_mem_drop (List.mem_of_mem_take this)
 ·by_cases e : i = j
  ·subst e; exact Int.le_refl _
  ·obtain ⟨i1, i2⟩ := List.getElem?_eq_some_iff.mp (hm i (by omega))
   obtain ⟨j1, j2⟩ := List.getElem?_eq_some_iff.mp (hm j jn)
   have := List.pairwise_iff_getElem.mp srt i j i1 j1 (by omega)
   rw [i2, j2] at this
   exact this
 ·obtain ⟨i, hi⟩ := List.mem_iff_getElem?.mp hz
  have ik' : i < k := by
   have := (List.getElem?_eq_some_iff.mp hi).1
   rw [List.length_take] at this
   omega
  have : ((arr.toList.drop base).take n)[i]? = some z := by
   rw [List.getElem?_take, if_pos ik'] at hi
   rw [List.getElem?_take, if_pos (by omega)]
   exact hi
  rw [(hm' i z this).2]
  exact h1 i ik'
 ·obtain ⟨i, hi⟩ := List.mem_iff_getElem?.mp hz
  rw [List.getElem?_drop] at hi
  obtain ⟨a1, a2⟩ := hm' _ z hi
  rw [a2]
  exact h2 _ (by omega) a1
end
structure Eqv (st st' : SortSt) : Prop where
 kind : kindOf st' = kindOf st
 arr : arrOf st' = arrOf st
 pend : pendingOf st' = pendingOf st
 fail : failedOf st' = failedOf st
theorem Eqv.refl (st : SortSt) : Eqv st st := ⟨rfl, rfl, rfl, rfl⟩
theorem bey_r {key z : Keyed} (h : bey false key z = true) : ky z ≤ ky key := by
 unfold bey at h
 simp at h
 exact h
theorem bey_r' {key z : Keyed} (h : bey false key z = false) : ky key ≤ ky z := by
 unfold bey at h
 simp at h
 omega
theorem bey_l {key z : Keyed} (h : bey true key z = true) : ky z ≤ ky key := by
 unfold bey at h
 simp at h
 omega
theorem bey_l' {key z : Keyed} (h : bey true key z = false) : ky key ≤ ky z := by
 unfold bey at h
 simp at h
 exact h
end TS
namespace TS
open PySem PyProof.Rows
noncomputable def mergeLoP : Array Keyed → Array Keyed → StateT SortSt Sem (Array Keyed) := sortPriv% PySem.Builtin.mergeLo
noncomputable def Good (a b r : Array Keyed) : Prop := r.toList.Perm (a.toList ++ b.toList) ∧ r.toList.Pairwise Up
section
variable {prog : Program} {w : World} {A : Around} {E : Value → Shared → Prop} {s : Shared}
theorem mergeLo_ok {st : SortSt} {a b : Array Keyed} {Q : Array Keyed → SortSt → Prop} (hk : kindOf st = oneType') (ika : ∀ x ∈ a.toList, IK x) (ikb : ∀ x ∈ b.toList, IK x)
  (sa : a.toList.Pairwise Up) (sb : b.toList.Pairwise Up) (ha : 1 ≤ a.size) (hb : 1 ≤ b.size) (first : ∀ x, b[0]? = some x → ∀ y ∈ a.toList, ky x ≤ ky y)
  (lastOk : ∀ u ∈ b.toList, ∀ i, i + 1 = a.size → ∀ v ∈ a.toList.drop i, ky u ≤ ky v)
  (h : ∀ r st', Eqv st st' → Good a b r → Q r st') : wpS (model prog w) A E s (mergeLoP a b) Q st := by
 refine wpS_bind (wpS_lift (wpAny_rule ⟨rfl, ?_⟩))
 obtain ⟨x0, hx0, ex0, mx0⟩ := drop_at (a := b) (i := 0) (by omega)
 refine wpS_bind (elem_ok hx0 ?_)
 have M0 : Mrg Up (a.toList ++ b.toList) [] (a.toList.drop 0) (b.toList.drop 0) := ⟨by simp, .nil, by simpa using sa, by simpa using sb, by simp, by simp⟩
 rw [ex0] at M0
 have M1 := M0.takeB (p := [x0]) (rb := b.toList.drop (0 + 1)) fun u hu v hv => by
  rw [List.mem_singleton.mp hu]
  exact first x0 hx0 v (List.mem_of_mem_drop hv)
 by_cases e1 : 1 = b.size
 ·try dsimp only
  rw [if_pos (by simpa using e1)]
  refine wpS_pure (h _ _ (Eqv.refl _) ?_)
  have := M1.fin fun u hu v hv => by
   rw [List.drop_of_length_le (by rw [Array.length_toList]; omega)] at hv
   cases hv
  unfold Good
  simp only [Array.toList_append, Array.toList_push, ext_drop, ext_seg]
  exact this
 by_cases e2 : 0 + 1 = a.size
 ·try dsimp only
  rw [if_neg (by simpa using e1), if_pos (by simpa using e2)]
  refine wpS_pure (h _ _ (Eqv.refl _) ?_)
  have := M1.swap.fin fun u hu v hv => lastOk u (List.mem_of_mem_drop hu) 0 e2 v hv
  unfold Good
  simp only [Array.toList_append, Array.toList_push, ext_drop, ext_seg]
  exact this
 try dsimp only
 rw [if_neg (by simpa using e1), if_neg (by simpa using e2)]
 refine wpS_bind (wpS_get ?_)
 let J : Array Keyed → Nat → Nat → Prop := fun out ia ib => Mrg Up (a.toList ++ b.toList) out.toList (a.toList.drop ia) (b.toList.drop ib) ∧ ia + 1 < a.size ∧ ib < b.size
 have Jsz : ∀ out ia ib, J out ia ib → out.size + 3 ≤ a.size + b.size := fun out ia ib ⟨M, h1, h2⟩ => by
  have := M.perm.length_eq
  simp at this
  omega
 refine wpS_bind (wpS_mono (wpS_forRange (I := fun x c st' => Eqv st st' ∧ ∃ out ia ib mg, c = (none, out, ia, ib, mg) ∧ J out ia ib ∧ x + 1 ≤ out.size)
  (Q := fun c st' => Eqv st st' ∧ ∃ r, c.1 = some r ∧ Good a b r) ?step ?fin ⟨Eqv.refl _, #[x0], 0, 1, _, rfl, ⟨M1, by omega, by omega⟩, by simp⟩) ?post)
 case post =>
  rintro ⟨_, c⟩ st' ⟨S, r, rfl, g⟩
  exact wpS_pure (h r st' S g)
 case fin =>
  rintro c st' ⟨S, out, ia, ib, mg, rfl, j, sz⟩
  have := Jsz _ _ _ j
  exfalso
  omega
 case step =>
  rintro x c st1 _ hx ⟨S1, out, ia, ib, mg, rfl, j, sz⟩
  try dsimp only
  refine wpS_bind (wpS_mono (wpS_forRange (I := fun y c st' => st1 = st' ∧ ∃ out ia ib ac bc, c = (none, out, ia, ib, ac, bc) ∧ J out ia ib ∧ x + 1 + y ≤ out.size)
   (Q := fun c st' => st1 = st' ∧ ((∃ r, c.1 = some r ∧ Good a b r) ∨ ∃ out ia ib ac bc, c = (none, out, ia, ib, ac, bc) ∧ J out ia ib ∧ x + 2 ≤ out.size)) ?step1 ?fin1 ⟨rfl, out, ia, ib, 0, 0, rfl, j, by omega⟩) ?post1)
  case fin1 =>
   rintro c st' ⟨rfl, out, ia, ib, ac, bc, rfl, j, sz⟩
   exact ⟨rfl, .inr ⟨_, _, _, _, _, rfl, j, by omega⟩⟩
  case step1 =>
   rintro y c st' _ hy ⟨rfl, out, ia, ib, ac, bc, rfl, ⟨M, i1, i2⟩, sz⟩
   try dsimp only
   obtain ⟨xb, hxb, exb, mxb⟩ := drop_at (a := b) i2
   obtain ⟨xa, hxa, exa, mxa⟩ := drop_at (a := a) (i := ia) (by omega)
   refine wpS_bind (elem_ok hxb (wpS_bind (elem_ok hxa (wpS_bind (lt_ik (S1.kind.trans hk) (ikb _ mxb) (ika _ mxa) ?_)))))
   try dsimp only
   have sA := M.sa
   have sB := M.sb
   rw [exa] at sA
   rw [exb] at sB
   have ale : ∀ v ∈ a.toList.drop ia, ky xa ≤ ky v := fun v hv => by
    rw [exa] at hv
    rcases List.mem_cons.mp hv with z | z
    ·rw [z]; exact Int.le_refl _
    ·exact (List.pairwise_cons.mp sA).1 v z
   have ble : ∀ v ∈ b.toList.drop ib, ky xb ≤ ky v := fun v hv => by
    rw [exb] at hv
    rcases List.mem_cons.mp hv with z | z
    ·rw [z]; exact Int.le_refl _
    ·exact (List.pairwise_cons.mp sB).1 v z
   by_cases lt : ky xb < ky xa
   ·rw [if_pos (by simpa using lt)]
    refine wpS_bind (elem_ok hxb ?_)
    rw [exb] at M
    have M2 := M.takeB (p := [xb]) (rb := b.toList.drop (ib + 1)) fun u hu v hv => by
     rw [List.mem_singleton.mp hu]
     have := ale v hv
     show ky xb ≤ ky v
     omega
    try dsimp only
    by_cases e3 : ib + 1 = b.size
    ·rw [if_pos (by simpa using e3)]
     refine wpS_pure ⟨rfl, .inl ⟨_, rfl, ?_⟩⟩
     have := M2.fin fun u hu v hv => by
      rw [List.drop_of_length_le (by rw [Array.length_toList]; omega)] at hv
      cases hv
     unfold Good
     simp only [Array.toList_append, Array.toList_push, ext_drop, ext_seg]
     exact this
    rw [if_neg (by simpa using e3)]
    have J2 : J (out.push xb) ia (ib + 1) := ⟨by simp only [Array.toList_append, Array.toList_push, ext_drop, ext_seg]; exact M2, by omega, by omega⟩
    split
    ·exact wpS_pure ⟨rfl, .inr ⟨_, _, _, _, _, rfl, J2, by simp only [Array.size_append, Array.size_push]; omega⟩⟩
    ·exact wpS_pure ⟨rfl, _, _, _, _, _, rfl, J2, by simp only [Array.size_append, Array.size_push]; omega⟩
   ·rw [if_neg (by simpa using lt)]
    refine wpS_bind (elem_ok hxa ?_)
    rw [exa] at M
    have M2 := M.takeA (p := [xa]) (ra := a.toList.drop (ia + 1)) fun u hu v hv => by
     rw [List.mem_singleton.mp hu]
     have := ble v hv
     show ky xa ≤ ky v
     omega
    try dsimp only
    by_cases e3 : ia + 1 + 1 = a.size
    ·rw [if_pos (by simpa using e3)]
     refine wpS_pure ⟨rfl, .inl ⟨_, rfl, ?_⟩⟩
     have := M2.swap.fin fun u hu v hv => lastOk u (List.mem_of_mem_drop hu) (ia + 1) e3 v hv
     unfold Good
     simp only [Array.toList_append, Array.toList_push, ext_drop, ext_seg]
     exact this
    rw [if_neg (by simpa using e3)]
    have J2 : J (out.push xa) (ia + 1) ib := ⟨by simp only [Array.toList_append, Array.toList_push, ext_drop, ext_seg]; exact M2, by omega, by omega⟩
    split
    ·exact wpS_pure ⟨rfl, .inr ⟨_, _, _, _, _, rfl, J2, by simp only [Array.size_append, Array.size_push]; omega⟩⟩
    ·exact wpS_pure ⟨rfl, _, _, _, _, _, rfl, J2, by simp only [Array.size_append, Array.size_push]; omega⟩
  case post1 =>
   rintro ⟨_, c⟩ st' ⟨rfl, ⟨r, rfl, g⟩ | ⟨out, ia, ib, ac, bc, e, j, sz⟩⟩
   ·exact wpS_pure ⟨S1, r, rfl, g⟩
   obtain ⟨rfl, rfl⟩ := Prod.mk.inj e
   try dsimp only
   refine wpS_bind (wpS_lift (wpAny_rule ⟨rfl, ?_⟩))
   refine wpS_bind (wpS_mono (wpS_forRange (I := fun y c st' => Eqv st st' ∧ ∃ out ia ib mg ac bc, c = (none, out, ia, ib, mg, ac, bc) ∧ J out ia ib ∧ x + 2 ≤ out.size)
    (Q := fun c st' => Eqv st st' ∧ ((∃ r, c.1 = some r ∧ Good a b r) ∨ ∃ out ia ib mg ac bc, c = (none, out, ia, ib, mg, ac, bc) ∧ J out ia ib ∧ x + 2 ≤ out.size)) ?step2 ?fin2 ⟨S1, out, ia, ib, _, _, _, rfl, j, by omega⟩) ?post2)
   case fin2 =>
    rintro c st' ⟨S, out, ia, ib, mg, ac, bc, rfl, j, sz⟩
    exact ⟨S, .inr ⟨_, _, _, _, _, _, rfl, j, by omega⟩⟩
   case post2 =>
    rintro ⟨_, c⟩ st' ⟨S, ⟨r, rfl, g⟩ | ⟨out, ia, ib, mg, ac, bc, e, j, sz⟩⟩
    ·exact wpS_pure ⟨S, r, rfl, g⟩
    obtain ⟨rfl, rfl⟩ := Prod.mk.inj e
    try dsimp only
    exact wpS_bind (wpS_modify (wpS_pure ⟨⟨S.kind, S.arr, S.pend, S.fail⟩, _, _, _, _, rfl, j, by omega⟩))
   rintro y c st2 _ hy ⟨S2, out, ia, ib, mg, ac, bc, rfl, ⟨M, i1, i2⟩, sz⟩
   try dsimp only
   by_cases mg1 : mg > 1
   ·rw [if_pos mg1]
    refine wpS_bind (wpS_modify ?_)
    obtain ⟨key, hkey, ekey, mkey⟩ := drop_at (a := b) i2
    refine wpS_bind (elem_ok hkey ?_)
    refine wpS_bind (gallop_seg (S2.kind.trans hk) (ikb _ mkey) (by omega) (by omega) ika (by rw [List.take_of_length_le (by rw [List.length_drop, Array.length_toList]; exact Nat.le_refl _)]; exact M.sa) fun k kn g1 g2 => ?_)
    rw [List.take_of_length_le (i := a.size - ia) (by rw [List.length_drop, Array.length_toList]; exact Nat.le_refl _)] at g2
    rw [List.drop_drop] at g2
    have sB := M.sb
    rw [ekey] at sB
    have kle : ∀ v ∈ b.toList.drop ib, ky key ≤ ky v := fun v hv => by
     rw [ekey] at hv
     rcases List.mem_cons.mp hv with z | z
     ·rw [z]; exact Int.le_refl _
     ·exact (List.pairwise_cons.mp sB).1 v z
    try dsimp only
    have gt : ∀ v ∈ a.toList.drop (ia + k), ky key ≤ ky v := fun v hv => bey_r' (g2 v hv)
    by_cases z1 : k > 0
    ·rw [if_pos z1]
     have M1 := (show Mrg Up _ _ ((a.toList.drop ia).take k ++ a.toList.drop (ia + k)) _ from by rw [show a.toList.drop (ia + k) = (a.toList.drop ia).drop k by rw [List.drop_drop], List.take_append_drop]; exact M).takeA fun u hu v hv => Int.le_trans (bey_r (g1 u hu)) (kle v hv)
     by_cases e1 : ia + k + 1 = a.size
     ·rw [if_pos (by simpa using e1)]
      refine wpS_pure ⟨⟨S2.kind, S2.arr, S2.pend, S2.fail⟩, .inl ⟨_, rfl, ?_⟩⟩
      have := M1.swap.fin fun u hu v hv => lastOk u (List.mem_of_mem_drop hu) (ia + k) e1 v hv
      unfold Good
      simp only [Array.toList_append, Array.toList_push, ext_drop, ext_seg]
      exact this
     rw [if_neg (by simpa using e1)]
     by_cases e2 : ia + k = a.size
     ·rw [if_pos (by simpa using e2)]
      refine wpS_pure ⟨⟨S2.kind, S2.arr, S2.pend, S2.fail⟩, .inl ⟨_, rfl, ?_⟩⟩
      have := M1.fin fun u hu v hv => by
       rw [List.drop_of_length_le (by rw [Array.length_toList]; omega)] at hu
       cases hu
      unfold Good
      simp only [Array.toList_append, Array.toList_push, ext_drop, ext_seg]
      exact this
     rw [if_neg (by simpa using e2)]
     have key1 : ∀ x, b[ib]? = some x → x = key := fun x hx => by rw [hkey] at hx; exact (Option.some.inj hx).symm
     obtain ⟨x, hx, ex, mx⟩ := drop_at (a := b) i2
     rw [ex] at M1
     have M2 := M1.takeB (p := [x]) (rb := b.toList.drop (ib + 1)) fun u hu v hv => by
      rw [List.mem_singleton.mp hu, key1 x hx]
      exact gt v hv
     refine wpS_bind (elem_ok hx ?_)
     try dsimp only
     by_cases e3 : ib + 1 = b.size
     ·rw [if_pos (by simpa using e3)]
      refine wpS_pure ⟨⟨S2.kind, S2.arr, S2.pend, S2.fail⟩, .inl ⟨_, rfl, ?_⟩⟩
      have := M2.fin fun u hu v hv => by
       rw [List.drop_of_length_le (by rw [Array.length_toList]; omega)] at hv
       cases hv
      unfold Good
      simp only [Array.toList_append, Array.toList_push, ext_drop, ext_seg]
      exact this
     rw [if_neg (by simpa using e3)]
     obtain ⟨y, hy, ey, my⟩ := drop_at (a := a) (i := (ia + k)) (by omega)
     refine wpS_bind (elem_ok hy ?_)
     refine wpS_bind (gallop_seg (S2.kind.trans hk) (ika _ my) (by omega) (by omega) ikb (by rw [List.take_of_length_le (by rw [List.length_drop, Array.length_toList]; exact Nat.le_refl _)]; exact M2.sb) fun k2 k2n l1 l2 => ?_)
     rw [List.take_of_length_le (i := b.size - (ib + 1)) (by rw [List.length_drop, Array.length_toList]; exact Nat.le_refl _)] at l2
     rw [List.drop_drop] at l2
     try dsimp only
     have sA := M2.sa
     rw [ey] at sA
     have yle : ∀ v ∈ a.toList.drop (ia + k), ky y ≤ ky v := fun v hv => by
      rw [ey] at hv
      rcases List.mem_cons.mp hv with z | z
      ·rw [z]; exact Int.le_refl _
      ·exact (List.pairwise_cons.mp sA).1 v z
     have M3 := (show Mrg Up _ _ _ ((b.toList.drop (ib + 1)).take k2 ++ b.toList.drop (ib + 1 + k2)) from by rw [show b.toList.drop (ib + 1 + k2) = (b.toList.drop (ib + 1)).drop k2 by rw [List.drop_drop], List.take_append_drop]; exact M2).takeB fun u hu v hv => Int.le_trans (bey_l (l1 u hu)) (yle v hv)
     by_cases z2 : k2 > 0
     ·rw [if_pos z2]
      by_cases e4 : ib + 1 + k2 = b.size
      ·rw [if_pos (by simpa using e4)]
       refine wpS_pure ⟨⟨S2.kind, S2.arr, S2.pend, S2.fail⟩, .inl ⟨_, rfl, ?_⟩⟩
       have := M3.fin fun u hu v hv => by
        rw [List.drop_of_length_le (by rw [Array.length_toList]; omega)] at hv
        cases hv
       unfold Good
       simp only [Array.toList_append, Array.toList_push, ext_drop, ext_seg]
       exact this
      rw [if_neg (by simpa using e4)]
      refine wpS_bind (elem_ok hy ?_)
      rw [ey] at M3
      have M4 := M3.takeA (p := [y]) (ra := a.toList.drop ((ia + k) + 1)) fun u hu v hv => by
       rw [List.mem_singleton.mp hu]
       exact bey_l' (l2 v hv)
      try dsimp only
      by_cases e5 : (ia + k) + 1 + 1 = a.size
      ·rw [if_pos (by simpa using e5)]
       refine wpS_pure ⟨⟨S2.kind, S2.arr, S2.pend, S2.fail⟩, .inl ⟨_, rfl, ?_⟩⟩
       have := M4.swap.fin fun u hu v hv => lastOk u (List.mem_of_mem_drop hu) ((ia + k) + 1) e5 v hv
       unfold Good
       simp only [Array.toList_append, Array.toList_push, ext_drop, ext_seg]
       exact this
      rw [if_neg (by simpa using e5)]
      have J2 : J ((((out ++ a.extract ia (ia + k)).push x) ++ b.extract (ib + 1) (ib + 1 + k2)).push y) ((ia + k) + 1) (ib + 1 + k2) := ⟨by simp only [Array.toList_append, Array.toList_push, ext_drop, ext_seg]; exact M4, by omega, by omega⟩
      by_cases e6 : ((decide (k < 7) && decide (k2 < 7)) = true)
      ·rw [if_pos e6]
       exact wpS_pure ⟨⟨S2.kind, S2.arr, S2.pend, S2.fail⟩, .inr ⟨_, _, _, _, _, _, rfl, J2, by simp only [Array.size_append, Array.size_push]; omega⟩⟩
      ·rw [if_neg e6]
       exact wpS_pure ⟨⟨S2.kind, S2.arr, S2.pend, S2.fail⟩, _, _, _, _, _, _, rfl, J2, by simp only [Array.size_append, Array.size_push]; omega⟩
     ·rw [if_neg z2]
      have k0 : k2 = 0 := by omega
      subst k0
      refine wpS_bind (elem_ok hy ?_)
      rw [ey] at M2
      have M4 := M2.takeA (p := [y]) (ra := a.toList.drop ((ia + k) + 1)) fun u hu v hv => by
       rw [List.mem_singleton.mp hu]
       exact bey_l' (l2 v hv)
      try dsimp only
      by_cases e5 : (ia + k) + 1 + 1 = a.size
      ·rw [if_pos (by simpa using e5)]
       refine wpS_pure ⟨⟨S2.kind, S2.arr, S2.pend, S2.fail⟩, .inl ⟨_, rfl, ?_⟩⟩
       have := M4.swap.fin fun u hu v hv => lastOk u (List.mem_of_mem_drop hu) ((ia + k) + 1) e5 v hv
       unfold Good
       simp only [Array.toList_append, Array.toList_push, ext_drop, ext_seg]
       exact this
      rw [if_neg (by simpa using e5)]
      have J2 : J (((out ++ a.extract ia (ia + k)).push x).push y) ((ia + k) + 1) (ib + 1) := ⟨by simp only [Array.toList_append, Array.toList_push, ext_drop, ext_seg]; exact M4, by omega, by omega⟩
      by_cases e6 : ((decide (k < 7) && decide (0 < 7)) = true)
      ·rw [if_pos e6]
       exact wpS_pure ⟨⟨S2.kind, S2.arr, S2.pend, S2.fail⟩, .inr ⟨_, _, _, _, _, _, rfl, J2, by simp only [Array.size_append, Array.size_push]; omega⟩⟩
      ·rw [if_neg e6]
       exact wpS_pure ⟨⟨S2.kind, S2.arr, S2.pend, S2.fail⟩, _, _, _, _, _, _, rfl, J2, by simp only [Array.size_append, Array.size_push]; omega⟩
    ·rw [if_neg z1]
     have k00 : k = 0 := by omega
     subst k00
     have M1 := M
     have key1 : ∀ x, b[ib]? = some x → x = key := fun x hx => by rw [hkey] at hx; exact (Option.some.inj hx).symm
     obtain ⟨x, hx, ex, mx⟩ := drop_at (a := b) i2
     rw [ex] at M1
     have M2 := M1.takeB (p := [x]) (rb := b.toList.drop (ib + 1)) fun u hu v hv => by
      rw [List.mem_singleton.mp hu, key1 x hx]
      exact gt v hv
     refine wpS_bind (elem_ok hx ?_)
     try dsimp only
     by_cases e3 : ib + 1 = b.size
     ·rw [if_pos (by simpa using e3)]
      refine wpS_pure ⟨⟨S2.kind, S2.arr, S2.pend, S2.fail⟩, .inl ⟨_, rfl, ?_⟩⟩
      have := M2.fin fun u hu v hv => by
       rw [List.drop_of_length_le (by rw [Array.length_toList]; omega)] at hv
       cases hv
      unfold Good
      simp only [Array.toList_append, Array.toList_push, ext_drop, ext_seg]
      exact this
     rw [if_neg (by simpa using e3)]
     obtain ⟨y, hy, ey, my⟩ := drop_at (a := a) (i := ia) (by omega)
     refine wpS_bind (elem_ok hy ?_)
     refine wpS_bind (gallop_seg (S2.kind.trans hk) (ika _ my) (by omega) (by omega) ikb (by rw [List.take_of_length_le (by rw [List.length_drop, Array.length_toList]; exact Nat.le_refl _)]; exact M2.sb) fun k2 k2n l1 l2 => ?_)
     rw [List.take_of_length_le (i := b.size - (ib + 1)) (by rw [List.length_drop, Array.length_toList]; exact Nat.le_refl _)] at l2
     rw [List.drop_drop] at l2
     try dsimp only
     have sA := M2.sa
     rw [ey] at sA
     have yle : ∀ v ∈ a.toList.drop ia, ky y ≤ ky v := fun v hv => by
      rw [ey] at hv
      rcases List.mem_cons.mp hv with z | z
      ·rw [z]; exact Int.le_refl _
      ·exact (List.pairwise_cons.mp sA).1 v z
     have M3 := (show Mrg Up _ _ _ ((b.toList.drop (ib + 1)).take k2 ++ b.toList.drop (ib + 1 + k2)) from by rw [show b.toList.drop (ib + 1 + k2) = (b.toList.drop (ib + 1)).drop k2 by rw [List.drop_drop], List.take_append_drop]; exact M2).takeB fun u hu v hv => Int.le_trans (bey_l (l1 u hu)) (yle v hv)
     by_cases z2 : k2 > 0
     ·rw [if_pos z2]
      by_cases e4 : ib + 1 + k2 = b.size
      ·rw [if_pos (by simpa using e4)]
       refine wpS_pure ⟨⟨S2.kind, S2.arr, S2.pend, S2.fail⟩, .inl ⟨_, rfl, ?_⟩⟩
       have := M3.fin fun u hu v hv => by
        rw [List.drop_of_length_le (by rw [Array.length_toList]; omega)] at hv
        cases hv
       unfold Good
       simp only [Array.toList_append, Array.toList_push, ext_drop, ext_seg]
       exact this
      rw [if_neg (by simpa using e4)]
      refine wpS_bind (elem_ok hy ?_)
      rw [ey] at M3
      have M4 := M3.takeA (p := [y]) (ra := a.toList.drop (ia + 1)) fun u hu v hv => by
       rw [List.mem_singleton.mp hu]
       exact bey_l' (l2 v hv)
      try dsimp only
      by_cases e5 : ia + 1 + 1 = a.size
      ·rw [if_pos (by simpa using e5)]
       refine wpS_pure ⟨⟨S2.kind, S2.arr, S2.pend, S2.fail⟩, .inl ⟨_, rfl, ?_⟩⟩
       have := M4.swap.fin fun u hu v hv => lastOk u (List.mem_of_mem_drop hu) (ia + 1) e5 v hv
       unfold Good
       simp only [Array.toList_append, Array.toList_push, ext_drop, ext_seg]
       exact this
      rw [if_neg (by simpa using e5)]
      have J2 : J (((out.push x) ++ b.extract (ib + 1) (ib + 1 + k2)).push y) (ia + 1) (ib + 1 + k2) := ⟨by simp only [Array.toList_append, Array.toList_push, ext_drop, ext_seg]; exact M4, by omega, by omega⟩
      by_cases e6 : ((decide (0 < 7) && decide (k2 < 7)) = true)
      ·rw [if_pos e6]
       exact wpS_pure ⟨⟨S2.kind, S2.arr, S2.pend, S2.fail⟩, .inr ⟨_, _, _, _, _, _, rfl, J2, by simp only [Array.size_append, Array.size_push]; omega⟩⟩
      ·rw [if_neg e6]
       exact wpS_pure ⟨⟨S2.kind, S2.arr, S2.pend, S2.fail⟩, _, _, _, _, _, _, rfl, J2, by simp only [Array.size_append, Array.size_push]; omega⟩
     ·rw [if_neg z2]
      have k0 : k2 = 0 := by omega
      subst k0
      refine wpS_bind (elem_ok hy ?_)
      rw [ey] at M2
      have M4 := M2.takeA (p := [y]) (ra := a.toList.drop (ia + 1)) fun u hu v hv => by
       rw [List.mem_singleton.mp hu]
       exact bey_l' (l2 v hv)
      try dsimp only
      by_cases e5 : ia + 1 + 1 = a.size
      ·rw [if_pos (by simpa using e5)]
       refine wpS_pure ⟨⟨S2.kind, S2.arr, S2.pend, S2.fail⟩, .inl ⟨_, rfl, ?_⟩⟩
       have := M4.swap.fin fun u hu v hv => lastOk u (List.mem_of_mem_drop hu) (ia + 1) e5 v hv
       unfold Good
       simp only [Array.toList_append, Array.toList_push, ext_drop, ext_seg]
       exact this
      rw [if_neg (by simpa using e5)]
      have J2 : J ((out.push x).push y) (ia + 1) (ib + 1) := ⟨by simp only [Array.toList_append, Array.toList_push, ext_drop, ext_seg]; exact M4, by omega, by omega⟩
      by_cases e6 : ((decide (0 < 7) && decide (0 < 7)) = true)
      ·rw [if_pos e6]
       exact wpS_pure ⟨⟨S2.kind, S2.arr, S2.pend, S2.fail⟩, .inr ⟨_, _, _, _, _, _, rfl, J2, by simp only [Array.size_append, Array.size_push]; omega⟩⟩
      ·rw [if_neg e6]
       exact wpS_pure ⟨⟨S2.kind, S2.arr, S2.pend, S2.fail⟩, _, _, _, _, _, _, rfl, J2, by simp only [Array.size_append, Array.size_push]; omega⟩
   ·rw [if_neg mg1]
    refine wpS_bind (wpS_modify ?_)
    obtain ⟨key, hkey, ekey, mkey⟩ := drop_at (a := b) i2
    refine wpS_bind (elem_ok hkey ?_)
    refine wpS_bind (gallop_seg (S2.kind.trans hk) (ikb _ mkey) (by omega) (by omega) ika (by rw [List.take_of_length_le (by rw [List.length_drop, Array.length_toList]; exact Nat.le_refl _)]; exact M.sa) fun k kn g1 g2 => ?_)
    rw [List.take_of_length_le (i := a.size - ia) (by rw [List.length_drop, Array.length_toList]; exact Nat.le_refl _)] at g2
    rw [List.drop_drop] at g2
    have sB := M.sb
    rw [ekey] at sB
    have kle : ∀ v ∈ b.toList.drop ib, ky key ≤ ky v := fun v hv => by
     rw [ekey] at hv
     rcases List.mem_cons.mp hv with z | z
     ·rw [z]; exact Int.le_refl _
     ·exact (List.pairwise_cons.mp sB).1 v z
    try dsimp only
    have gt : ∀ v ∈ a.toList.drop (ia + k), ky key ≤ ky v := fun v hv => bey_r' (g2 v hv)
    by_cases z1 : k > 0
    ·rw [if_pos z1]
     have M1 := (show Mrg Up _ _ ((a.toList.drop ia).take k ++ a.toList.drop (ia + k)) _ from by rw [show a.toList.drop (ia + k) = (a.toList.drop ia).drop k by rw [List.drop_drop], List.take_append_drop]; exact M).takeA fun u hu v hv => Int.le_trans (bey_r (g1 u hu)) (kle v hv)
     by_cases e1 : ia + k + 1 = a.size
     ·rw [if_pos (by simpa using e1)]
      refine wpS_pure ⟨⟨S2.kind, S2.arr, S2.pend, S2.fail⟩, .inl ⟨_, rfl, ?_⟩⟩
      have := M1.swap.fin fun u hu v hv => lastOk u (List.mem_of_mem_drop hu) (ia + k) e1 v hv
      unfold Good
      simp only [Array.toList_append, Array.toList_push, ext_drop, ext_seg]
      exact this
     rw [if_neg (by simpa using e1)]
     by_cases e2 : ia + k = a.size
     ·rw [if_pos (by simpa using e2)]
      refine wpS_pure ⟨⟨S2.kind, S2.arr, S2.pend, S2.fail⟩, .inl ⟨_, rfl, ?_⟩⟩
      have := M1.fin fun u hu v hv => by
       rw [List.drop_of_length_le (by rw [Array.length_toList]; omega)] at hu
       cases hu
      unfold Good
      simp only [Array.toList_append, Array.toList_push, ext_drop, ext_seg]
      exact this
     rw [if_neg (by simpa using e2)]
     have key1 : ∀ x, b[ib]? = some x → x = key := fun x hx => by rw [hkey] at hx; exact (Option.some.inj hx).symm
     obtain ⟨x, hx, ex, mx⟩ := drop_at (a := b) i2
     rw [ex] at M1
     have M2 := M1.takeB (p := [x]) (rb := b.toList.drop (ib + 1)) fun u hu v hv => by
      rw [List.mem_singleton.mp hu, key1 x hx]
      exact gt v hv
     refine wpS_bind (elem_ok hx ?_)
     try dsimp only
     by_cases e3 : ib + 1 = b.size
     ·rw [if_pos (by simpa using e3)]
      refine wpS_pure ⟨⟨S2.kind, S2.arr, S2.pend, S2.fail⟩, .inl ⟨_, rfl, ?_⟩⟩
      have := M2.fin fun u hu v hv => by
       rw [List.drop_of_length_le (by rw [Array.length_toList]; omega)] at hv
       cases hv
      unfold Good
      simp only [Array.toList_append, Array.toList_push, ext_drop, ext_seg]
      exact this
     rw [if_neg (by simpa using e3)]
     obtain ⟨y, hy, ey, my⟩ := drop_at (a := a) (i := (ia + k)) (by omega)
     refine wpS_bind (elem_ok hy ?_)
     refine wpS_bind (gallop_seg (S2.kind.trans hk) (ika _ my) (by omega) (by omega) ikb (by rw [List.take_of_length_le (by rw [List.length_drop, Array.length_toList]; exact Nat.le_refl _)]; exact M2.sb) fun k2 k2n l1 l2 => ?_)
     rw [List.take_of_length_le (i := b.size - (ib + 1)) (by rw [List.length_drop, Array.length_toList]; exact Nat.le_refl _)] at l2
     rw [List.drop_drop] at l2
     try dsimp only
     have sA := M2.sa
     rw [ey] at sA
     have yle : ∀ v ∈ a.toList.drop (ia + k), ky y ≤ ky v := fun v hv => by
      rw [ey] at hv
      rcases List.mem_cons.mp hv with z | z
      ·rw [z]; exact Int.le_refl _
      ·exact (List.pairwise_cons.mp sA).1 v z
     have M3 := (show Mrg Up _ _ _ ((b.toList.drop (ib + 1)).take k2 ++ b.toList.drop (ib + 1 + k2)) from by rw [show b.toList.drop (ib + 1 + k2) = (b.toList.drop (ib + 1)).drop k2 by rw [List.drop_drop], List.take_append_drop]; exact M2).takeB fun u hu v hv => Int.le_trans (bey_l (l1 u hu)) (yle v hv)
     by_cases z2 : k2 > 0
     ·rw [if_pos z2]
      by_cases e4 : ib + 1 + k2 = b.size
      ·rw [if_pos (by simpa using e4)]
       refine wpS_pure ⟨⟨S2.kind, S2.arr, S2.pend, S2.fail⟩, .inl ⟨_, rfl, ?_⟩⟩
       have := M3.fin fun u hu v hv => by
        rw [List.drop_of_length_le (by rw [Array.length_toList]; omega)] at hv
        cases hv
       unfold Good
       simp only [Array.toList_append, Array.toList_push, ext_drop, ext_seg]
       exact this
      rw [if_neg (by simpa using e4)]
      refine wpS_bind (elem_ok hy ?_)
      rw [ey] at M3
      have M4 := M3.takeA (p := [y]) (ra := a.toList.drop ((ia + k) + 1)) fun u hu v hv => by
       rw [List.mem_singleton.mp hu]
       exact bey_l' (l2 v hv)
      try dsimp only
      by_cases e5 : (ia + k) + 1 + 1 = a.size
      ·rw [if_pos (by simpa using e5)]
       refine wpS_pure ⟨⟨S2.kind, S2.arr, S2.pend, S2.fail⟩, .inl ⟨_, rfl, ?_⟩⟩
       have := M4.swap.fin fun u hu v hv => lastOk u (List.mem_of_mem_drop hu) ((ia + k) + 1) e5 v hv
       unfold Good
       simp only [Array.toList_append, Array.toList_push, ext_drop, ext_seg]
       exact this
      rw [if_neg (by simpa using e5)]
      have J2 : J ((((out ++ a.extract ia (ia + k)).push x) ++ b.extract (ib + 1) (ib + 1 + k2)).push y) ((ia + k) + 1) (ib + 1 + k2) := ⟨by simp only [Array.toList_append, Array.toList_push, ext_drop, ext_seg]; exact M4, by omega, by omega⟩
      by_cases e6 : ((decide (k < 7) && decide (k2 < 7)) = true)
      ·rw [if_pos e6]
       exact wpS_pure ⟨⟨S2.kind, S2.arr, S2.pend, S2.fail⟩, .inr ⟨_, _, _, _, _, _, rfl, J2, by simp only [Array.size_append, Array.size_push]; omega⟩⟩
      ·rw [if_neg e6]
       exact wpS_pure ⟨⟨S2.kind, S2.arr, S2.pend, S2.fail⟩, _, _, _, _, _, _, rfl, J2, by simp only [Array.size_append, Array.size_push]; omega⟩
     ·rw [if_neg z2]
      have k0 : k2 = 0 := by omega
      subst k0
      refine wpS_bind (elem_ok hy ?_)
      rw [ey] at M2
      have M4 := M2.takeA (p := [y]) (ra := a.toList.drop ((ia + k) + 1)) fun u hu v hv => by
       rw [List.mem_singleton.mp hu]
       exact bey_l' (l2 v hv)
      try dsimp only
      by_cases e5 : (ia + k) + 1 + 1 = a.size
      ·rw [if_pos (by simpa using e5)]
       refine wpS_pure ⟨⟨S2.kind, S2.arr, S2.pend, S2.fail⟩, .inl ⟨_, rfl, ?_⟩⟩
       have := M4.swap.fin fun u hu v hv => lastOk u (List.mem_of_mem_drop hu) ((ia + k) + 1) e5 v hv
       unfold Good
       simp only [Array.toList_append, Array.toList_push, ext_drop, ext_seg]
       exact this
      rw [if_neg (by simpa using e5)]
      have J2 : J (((out ++ a.extract ia (ia + k)).push x).push y) ((ia + k) + 1) (ib + 1) := ⟨by simp only [Array.toList_append, Array.toList_push, ext_drop, ext_seg]; exact M4, by omega, by omega⟩
      by_cases e6 : ((decide (k < 7) && decide (0 < 7)) = true)
      ·rw [if_pos e6]
       exact wpS_pure ⟨⟨S2.kind, S2.arr, S2.pend, S2.fail⟩, .inr ⟨_, _, _, _, _, _, rfl, J2, by simp only [Array.size_append, Array.size_push]; omega⟩⟩
      ·rw [if_neg e6]
       exact wpS_pure ⟨⟨S2.kind, S2.arr, S2.pend, S2.fail⟩, _, _, _, _, _, _, rfl, J2, by simp only [Array.size_append, Array.size_push]; omega⟩
    ·rw [if_neg z1]
     have k00 : k = 0 := by omega
     subst k00
     have M1 := M
     have key1 : ∀ x, b[ib]? = some x → x = key := fun x hx => by rw [hkey] at hx; exact (Option.some.inj hx).symm
     obtain ⟨x, hx, ex, mx⟩ := drop_at (a := b) i2
     rw [ex] at M1
     have M2 := M1.takeB (p := [x]) (rb := b.toList.drop (ib + 1)) fun u hu v hv => by
      rw [List.mem_singleton.mp hu, key1 x hx]
      exact gt v hv
     refine wpS_bind (elem_ok hx ?_)
     try dsimp only
     by_cases e3 : ib + 1 = b.size
     ·rw [if_pos (by simpa using e3)]
      refine wpS_pure ⟨⟨S2.kind, S2.arr, S2.pend, S2.fail⟩, .inl ⟨_, rfl, ?_⟩⟩
      have := M2.fin fun u hu v hv => by
       rw [List.drop_of_length_le (by rw [Array.length_toList]; omega)] at hv
       cases hv
      unfold Good
      simp only [Array.toList_append, Array.toList_push, ext_drop, ext_seg]
      exact this
     rw [if_neg (by simpa using e3)]
     obtain ⟨y, hy, ey, my⟩ := drop_at (a := a) (i := ia) (by omega)
     refine wpS_bind (elem_ok hy ?_)
     refine wpS_bind (gallop_seg (S2.kind.trans hk) (ika _ my) (by omega) (by omega) ikb (by rw [List.take_of_length_le (by rw [List.length_drop, Array.length_toList]; exact Nat.le_refl _)]; exact M2.sb) fun k2 k2n l1 l2 => ?_)
     rw [List.take_of_length_le (i := b.size - (ib + 1)) (by rw [List.length_drop, Array.length_toList]; exact Nat.le_refl _)] at l2
     rw [List.drop_drop] at l2
     try dsimp only
     have sA := M2.sa
     rw [ey] at sA
     have yle : ∀ v ∈ a.toList.drop ia, ky y ≤ ky v := fun v hv => by
      rw [ey] at hv
      rcases List.mem_cons.mp hv with z | z
      ·rw [z]; exact Int.le_refl _
      ·exact (List.pairwise_cons.mp sA).1 v z
     have M3 := (show Mrg Up _ _ _ ((b.toList.drop (ib + 1)).take k2 ++ b.toList.drop (ib + 1 + k2)) from by rw [show b.toList.drop (ib + 1 + k2) = (b.toList.drop (ib + 1)).drop k2 by rw [List.drop_drop], List.take_append_drop]; exact M2).takeB fun u hu v hv => Int.le_trans (bey_l (l1 u hu)) (yle v hv)
     by_cases z2 : k2 > 0
     ·rw [if_pos z2]
      by_cases e4 : ib + 1 + k2 = b.size
      ·rw [if_pos (by simpa using e4)]
       refine wpS_pure ⟨⟨S2.kind, S2.arr, S2.pend, S2.fail⟩, .inl ⟨_, rfl, ?_⟩⟩
       have := M3.fin fun u hu v hv => by
        rw [List.drop_of_length_le (by rw [Array.length_toList]; omega)] at hv
        cases hv
       unfold Good
       simp only [Array.toList_append, Array.toList_push, ext_drop, ext_seg]
       exact this
      rw [if_neg (by simpa using e4)]
      refine wpS_bind (elem_ok hy ?_)
      rw [ey] at M3
      have M4 := M3.takeA (p := [y]) (ra := a.toList.drop (ia + 1)) fun u hu v hv => by
       rw [List.mem_singleton.mp hu]
       exact bey_l' (l2 v hv)
      try dsimp only
      by_cases e5 : ia + 1 + 1 = a.size
      ·rw [if_pos (by simpa using e5)]
       refine wpS_pure ⟨⟨S2.kind, S2.arr, S2.pend, S2.fail⟩, .inl ⟨_, rfl, ?_⟩⟩
       have := M4.swap.fin fun u hu v hv => lastOk u (List.mem_of_mem_drop hu) (ia + 1) e5 v hv
       unfold Good
       simp only [Array.toList_append, Array.toList_push, ext_drop, ext_seg]
       exact this
      rw [if_neg (by simpa using e5)]
      have J2 : J (((out.push x) ++ b.extract (ib + 1) (ib + 1 + k2)).push y) (ia + 1) (ib + 1 + k2) := ⟨by simp only [Array.toList_append, Array.toList_push, ext_drop, ext_seg]; exact M4, by omega, by omega⟩
      by_cases e6 : ((decide (0 < 7) && decide (k2 < 7)) = true)
      ·rw [if_pos e6]
       exact wpS_pure ⟨⟨S2.kind, S2.arr, S2.pend, S2.fail⟩, .inr ⟨_, _, _, _, _, _, rfl, J2, by simp only [Array.size_append, Array.size_push]; omega⟩⟩
      ·rw [if_neg e6]
       exact wpS_pure ⟨⟨S2.kind, S2.arr, S2.pend, S2.fail⟩, _, _, _, _, _, _, rfl, J2, by simp only [Array.size_append, Array.size_push]; omega⟩
     ·rw [if_neg z2]
      have k0 : k2 = 0 := by omega
      subst k0
      refine wpS_bind (elem_ok hy ?_)
      rw [ey] at M2
      have M4 := M2.takeA (p := [y]) (ra := a.toList.drop (ia + 1)) fun u hu v hv => by
       rw [List.mem_singleton.mp hu]
       exact bey_l' (l2 v hv)
      try dsimp only
      by_cases e5 : ia + 1 + 1 = a.size
      ·rw [if_pos (by simpa using e5)]
       refine wpS_pure ⟨⟨S2.kind, S2.arr, S2.pend, S2.fail⟩, .inl ⟨_, rfl, ?_⟩⟩
       have := M4.swap.fin fun u hu v hv => lastOk u (List.mem_of_mem_drop hu) (ia + 1) e5 v hv
       unfold Good
       simp only [Array.toList_append, Array.toList_push, ext_drop, ext_seg]
       exact this
      rw [if_neg (by simpa using e5)]
      have J2 : J ((out.push x).push y) (ia + 1) (ib + 1) := ⟨by simp only [Array.toList_append, Array.toList_push, ext_drop, ext_seg]; exact M4, by omega, by omega⟩
      by_cases e6 : ((decide (0 < 7) && decide (0 < 7)) = true)
      ·rw [if_pos e6]
       exact wpS_pure ⟨⟨S2.kind, S2.arr, S2.pend, S2.fail⟩, .inr ⟨_, _, _, _, _, _, rfl, J2, by simp only [Array.size_append, Array.size_push]; omega⟩⟩
      ·rw [if_neg e6]
       exact wpS_pure ⟨⟨S2.kind, S2.arr, S2.pend, S2.fail⟩, _, _, _, _, _, _, rfl, J2, by simp only [Array.size_append, Array.size_push]; omega⟩
end
end TS
namespace TS
open PySem PyProof.Rows
noncomputable def mergeHiP : Array Keyed → Array Keyed → StateT SortSt Sem (Array Keyed) := sortPriv% PySem.Builtin.mergeHi
noncomputable abbrev Dn (x y : Keyed) : Prop := ky y ≤ ky x
theorem take_at {a : Array Keyed} {n : Nat} (h : n < a.size) : ∃ x, a[n]? = some x ∧ (a.toList.take (n + 1)).reverse = x :: (a.toList.take n).reverse ∧ x ∈ a.toList := by
 refine ⟨a[n], getElem?_pos a n h, ?_, by simp⟩
 rw [List.take_add_one, Array.getElem?_toList, getElem?_pos a n h]
 simp
theorem ext_take (a : Array Keyed) (n : Nat) : (a.extract 0 n).toList = a.toList.take n := by
 rw [Array.toList_extract, List.extract_eq_take_drop]
 simp
theorem ext_rev (a : Array Keyed) (i n : Nat) : (a.extract i n).reverse.toList = ((a.toList.take n).drop i).reverse := by
 rw [Array.toList_reverse, Array.toList_extract, List.extract_eq_take_drop, List.drop_take]
theorem seg_rev {l : List Keyed} {k n : Nat} (h : k ≤ n) : ((l.take n).drop k).reverse ++ (l.take k).reverse = (l.take n).reverse := by
 rw [← List.reverse_append]
 congr 1
 have : l.take k = (l.take n).take k := by rw [List.take_take]; congr 1; omega
 rw [this, List.take_append_drop]
theorem up_of {l : List Keyed} (h : l.reverse.Pairwise Dn) : l.Pairwise Up := List.pairwise_reverse.mp h
theorem good_of {a b r : Array Keyed} {l : List Keyed} (e : r.toList = l.reverse) (h : l.Perm (a.toList ++ b.toList) ∧ l.Pairwise Dn) : Good a b r := by
 unfold Good
 rw [e]
 exact ⟨(List.reverse_perm _).trans h.1, List.pairwise_reverse.mpr h.2⟩
theorem good_done {a b out : Array Keyed} {na nb : Nat} (h : (out.toList ++ (b.toList.take nb).reverse ++ (a.toList.take na).reverse).Perm (a.toList ++ b.toList) ∧ (out.toList ++ (b.toList.take nb).reverse ++ (a.toList.take na).reverse).Pairwise Dn) : Good a b (a.extract 0 na ++ b.extract 0 nb ++ out.reverse) :=
 good_of (by simp only [Array.toList_append, ext_take, Array.toList_reverse, List.reverse_append, List.reverse_reverse, List.append_assoc]) h
theorem good_first {a b out : Array Keyed} {na nb : Nat} (h : (out.toList ++ (a.toList.take na).reverse ++ (b.toList.take nb).reverse).Perm (a.toList ++ b.toList) ∧ (out.toList ++ (a.toList.take na).reverse ++ (b.toList.take nb).reverse).Pairwise Dn) : Good a b (b.extract 0 nb ++ a.extract 0 na ++ out.reverse) :=
 good_of (by simp only [Array.toList_append, ext_take, Array.toList_reverse, List.reverse_append, List.reverse_reverse, List.append_assoc]) h
section
variable {prog : Program} {w : World} {A : Around} {E : Value → Shared → Prop} {s : Shared}
theorem mergeHi_ok {st : SortSt} {a b : Array Keyed} {Q : Array Keyed → SortSt → Prop} (hk : kindOf st = oneType') (ika : ∀ x ∈ a.toList, IK x) (ikb : ∀ x ∈ b.toList, IK x)
  (sa : a.toList.Pairwise Up) (sb : b.toList.Pairwise Up) (ha : 1 ≤ a.size) (hb : 1 ≤ b.size) (firstOk : ∀ u ∈ a.toList, ∀ v ∈ b.toList.take 1, ky v ≤ ky u)
  (last : ∀ x, a[a.size - 1]? = some x → ∀ y ∈ b.toList, ky y ≤ ky x)
  (h : ∀ r st', Eqv st st' → Good a b r → Q r st') : wpS (model prog w) A E s (mergeHiP a b) Q st := by
 refine wpS_bind (wpS_lift (wpAny_rule ⟨rfl, ?_⟩))
 obtain ⟨m0, hm0⟩ : ∃ m, a.size = m + 1 := ⟨a.size - 1, by omega⟩
 obtain ⟨x0, hx0, ex0, mx0⟩ := take_at (a := a) (n := m0) (by omega)
 have hm1 : a.size - 1 = m0 := by omega
 simp only [hm1]
 rw [hm1] at last
 refine wpS_bind (elem_ok hx0 ?_)
 have M0 : Mrg Dn (a.toList ++ b.toList) [] (a.toList.take (m0 + 1)).reverse (b.toList.take b.size).reverse := by
  rw [List.take_of_length_le (by rw [Array.length_toList]; omega), List.take_of_length_le (by rw [Array.length_toList]; omega)]
  refine ⟨?_, .nil, List.pairwise_reverse.mpr sa, List.pairwise_reverse.mpr sb, by simp, by simp⟩
  rw [List.nil_append]
  exact (List.Perm.append (List.reverse_perm _) (List.reverse_perm _))
 rw [ex0] at M0
 have M1 := M0.takeA (p := [x0]) (ra := (a.toList.take m0).reverse) fun u hu v hv => by
  rw [List.mem_singleton.mp hu]
  exact last x0 hx0 v (List.mem_of_mem_take (List.mem_reverse.mp hv))
 by_cases e1 : m0 = 0
 ·try dsimp only
  rw [if_pos (by simpa using e1)]
  refine wpS_pure (h _ _ (Eqv.refl _) ?_)
  subst e1
  exact good_done (M1.swap.fin fun u hu v hv => by simp at hv)
 by_cases e2 : b.size = 1
 ·try dsimp only
  rw [if_neg (by simpa using e1), if_pos (by simpa using e2)]
  refine wpS_pure (h _ _ (Eqv.refl _) ?_)
  rw [e2] at M1 ⊢
  exact good_first (M1.fin fun u hu v hv => firstOk u (List.mem_of_mem_take (List.mem_reverse.mp hu)) v (List.mem_reverse.mp hv))
 try dsimp only
 rw [if_neg (by simpa using e1), if_neg (by simpa using e2)]
 refine wpS_bind (wpS_get ?_)
 let J : Array Keyed → Nat → Nat → Prop := fun out na nb => Mrg Dn (a.toList ++ b.toList) out.toList (a.toList.take na).reverse (b.toList.take nb).reverse ∧ 1 ≤ na ∧ 2 ≤ nb ∧ na ≤ a.size ∧ nb ≤ b.size
 have Jsz : ∀ out na nb, J out na nb → out.size + 3 ≤ a.size + b.size := fun out na nb ⟨M, h1, h2, h3, h4⟩ => by
  have := M.perm.length_eq
  simp at this
  omega
 refine wpS_bind (wpS_mono (wpS_forRange (I := fun x c st' => Eqv st st' ∧ ∃ na nb out mg, c = (none, na, nb, out, mg) ∧ J out na nb ∧ x + 1 ≤ out.size)
  (Q := fun c st' => Eqv st st' ∧ ∃ r, c.1 = some r ∧ Good a b r) ?step ?fin ⟨Eqv.refl _, m0, b.size, #[x0], _, rfl, ⟨M1, by omega, by omega, by omega, by omega⟩, by simp⟩) ?post)
 case post =>
  rintro ⟨_, c⟩ st' ⟨S, r, rfl, g⟩
  exact wpS_pure (h r st' S g)
 case fin =>
  rintro c st' ⟨S, na, nb, out, mg, rfl, j, sz⟩
  have := Jsz _ _ _ j
  exfalso
  omega
 case step =>
  rintro x1 c st1 _ hx ⟨S1, na, nb, out, mg, rfl, j, sz⟩
  dsimp only
  refine wpS_bind (wpS_mono (wpS_forRange (I := fun y c st' => st1 = st' ∧ ∃ na nb out ac bc, c = (none, na, nb, out, ac, bc) ∧ J out na nb ∧ x1 + 1 + y ≤ out.size)
   (Q := fun c st' => st1 = st' ∧ ((∃ r, c.1 = some r ∧ Good a b r) ∨ ∃ na nb out ac bc, c = (none, na, nb, out, ac, bc) ∧ J out na nb ∧ x1 + 2 ≤ out.size)) ?step1 ?fin1 ⟨rfl, na, nb, out, 0, 0, rfl, j, by omega⟩) ?post1)
  case fin1 =>
   rintro c st' ⟨rfl, na, nb, out, ac, bc, rfl, j, sz⟩
   exact ⟨rfl, .inr ⟨_, _, _, _, _, rfl, j, by omega⟩⟩
  case step1 =>
   rintro y c st' _ hy ⟨rfl, na0, nb0, out, ac, bc, rfl, ⟨M, i1, i2, i3, i4⟩, sz⟩
   try dsimp only
   obtain ⟨na, rfl⟩ : ∃ m, na0 = m + 1 := ⟨na0 - 1, by omega⟩
   obtain ⟨nb, rfl⟩ : ∃ m, nb0 = m + 1 := ⟨nb0 - 1, by omega⟩
   obtain ⟨xb, hxb, exb, mxb⟩ := take_at (a := b) (n := nb) (by omega)
   obtain ⟨xa, hxa, exa, mxa⟩ := take_at (a := a) (n := na) (by omega)
   refine wpS_bind (elem_ok hxb (wpS_bind (elem_ok hxa (wpS_bind (lt_ik (S1.kind.trans hk) (ikb _ mxb) (ika _ mxa) ?_)))))
   try dsimp only
   have sA := M.sa
   have sB := M.sb
   rw [exa] at sA
   rw [exb] at sB
   have ale : ∀ v ∈ (a.toList.take (na + 1)).reverse, ky v ≤ ky xa := fun v hv => by
    rw [exa] at hv
    rcases List.mem_cons.mp hv with z | z
    ·rw [z]; exact Int.le_refl _
    ·exact (List.pairwise_cons.mp sA).1 v z
   have ble : ∀ v ∈ (b.toList.take (nb + 1)).reverse, ky v ≤ ky xb := fun v hv => by
    rw [exb] at hv
    rcases List.mem_cons.mp hv with z | z
    ·rw [z]; exact Int.le_refl _
    ·exact (List.pairwise_cons.mp sB).1 v z
   by_cases lt : ky xb < ky xa
   ·rw [if_pos (by simpa using lt)]
    refine wpS_bind (elem_ok hxa ?_)
    rw [exa] at M
    have M2 := M.takeA (p := [xa]) (ra := (a.toList.take na).reverse) fun u hu v hv => by
     rw [List.mem_singleton.mp hu]
     have := ble v hv
     show ky v ≤ ky xa
     omega
    try dsimp only
    by_cases e3 : na = 0
    ·rw [if_pos (by simpa using e3)]
     refine wpS_pure ⟨rfl, .inl ⟨_, rfl, ?_⟩⟩
     subst e3
     exact good_done (by simp only [Array.toList_append, Array.toList_push]; exact M2.swap.fin fun u hu v hv => by simp at hv)
    rw [if_neg (by simpa using e3)]
    have J2 : J (out.push xa) na (nb + 1) := ⟨by simp only [Array.toList_push]; exact M2, by omega, by omega, by omega, by omega⟩
    split
    ·exact wpS_pure ⟨rfl, .inr ⟨_, _, _, _, _, rfl, J2, by simp only [Array.size_push]; omega⟩⟩
    ·exact wpS_pure ⟨rfl, _, _, _, _, _, rfl, J2, by simp only [Array.size_push]; omega⟩
   ·rw [if_neg (by simpa using lt)]
    refine wpS_bind (elem_ok hxb ?_)
    rw [exb] at M
    have M2 := M.takeB (p := [xb]) (rb := (b.toList.take nb).reverse) fun u hu v hv => by
     rw [List.mem_singleton.mp hu]
     have := ale v hv
     show ky v ≤ ky xb
     omega
    try dsimp only
    by_cases e3 : nb = 1
    ·rw [if_pos (by simpa using e3)]
     refine wpS_pure ⟨rfl, .inl ⟨_, rfl, ?_⟩⟩
     subst e3
     exact good_first (by simp only [Array.toList_append, Array.toList_push, ext_rev]; exact M2.fin fun u hu v hv => firstOk u (List.mem_of_mem_take (List.mem_reverse.mp hu)) v (List.mem_reverse.mp hv))
    rw [if_neg (by simpa using e3)]
    have J2 : J (out.push xb) (na + 1) nb := ⟨by simp only [Array.toList_push]; exact M2, by omega, by omega, by omega, by omega⟩
    split
    ·exact wpS_pure ⟨rfl, .inr ⟨_, _, _, _, _, rfl, J2, by simp only [Array.size_push]; omega⟩⟩
    ·exact wpS_pure ⟨rfl, _, _, _, _, _, rfl, J2, by simp only [Array.size_push]; omega⟩
  case post1 =>
   rintro ⟨_, c⟩ st' ⟨rfl, ⟨r, rfl, g⟩ | ⟨na, nb, out, ac, bc, e, j, sz⟩⟩
   ·exact wpS_pure ⟨S1, r, rfl, g⟩
   obtain ⟨rfl, rfl⟩ := Prod.mk.inj e
   try dsimp only
   refine wpS_bind (wpS_lift (wpAny_rule ⟨rfl, ?_⟩))
   refine wpS_bind (wpS_mono (wpS_forRange (I := fun y c st' => Eqv st st' ∧ ∃ na nb out mg ac bc, c = (none, na, nb, out, mg, ac, bc) ∧ J out na nb ∧ x1 + 2 ≤ out.size)
    (Q := fun c st' => Eqv st st' ∧ ((∃ r, c.1 = some r ∧ Good a b r) ∨ ∃ na nb out mg ac bc, c = (none, na, nb, out, mg, ac, bc) ∧ J out na nb ∧ x1 + 2 ≤ out.size)) ?step2 ?fin2 ⟨S1, na, nb, out, _, _, _, rfl, j, by omega⟩) ?post2)
   case fin2 =>
    rintro c st' ⟨S, na, nb, out, mg, ac, bc, rfl, j, sz⟩
    exact ⟨S, .inr ⟨_, _, _, _, _, _, rfl, j, by omega⟩⟩
   case post2 =>
    rintro ⟨_, c⟩ st' ⟨S, ⟨r, rfl, g⟩ | ⟨na, nb, out, mg, ac, bc, e, j, sz⟩⟩
    ·exact wpS_pure ⟨S, r, rfl, g⟩
    obtain ⟨rfl, rfl⟩ := Prod.mk.inj e
    try dsimp only
    exact wpS_bind (wpS_modify (wpS_pure ⟨⟨S.kind, S.arr, S.pend, S.fail⟩, _, _, _, _, rfl, j, by omega⟩))
   rintro y c st2 _ hy ⟨S2, na, nb0, out, mg, ac, bc, rfl, ⟨M, i1, i2, i3, i4⟩, sz⟩
   dsimp only
   by_cases mg1 : mg > 1
   ·rw [if_pos mg1]
    refine wpS_bind (wpS_modify ?_)
    obtain ⟨nb, rfl⟩ : ∃ m, nb0 = m + 1 := ⟨nb0 - 1, by omega⟩
    obtain ⟨key, hkey, ekey, mkey⟩ := take_at (a := b) (n := nb) (by omega)
    refine wpS_bind (elem_ok hkey ?_)
    refine wpS_bind (gallop_seg (S2.kind.trans hk) (ikb _ mkey) (by omega) (by omega) ika (by rw [List.drop_zero]; exact (up_of M.sa)) fun k kn g1 g2 => ?_)
    rw [List.drop_zero] at g1 g2
    have sB := M.sb
    rw [ekey] at sB
    have kle : ∀ v ∈ (b.toList.take (nb + 1)).reverse, ky v ≤ ky key := fun v hv => by
     rw [ekey] at hv
     rcases List.mem_cons.mp hv with z | z
     ·rw [z]; exact Int.le_refl _
     ·exact (List.pairwise_cons.mp sB).1 v z
    try dsimp only
    have gt : ∀ v ∈ (a.toList.take k).reverse, ky v ≤ ky key := fun v hv => bey_r (g1 v (List.mem_reverse.mp hv))
    have key1 : ∀ x, b[nb]? = some x → x = key := fun x hx => by rw [hkey] at hx; exact (Option.some.inj hx).symm
    by_cases z1 : na - k > 0
    ·rw [if_pos z1]
     rw [← seg_rev kn] at M
     have M1 := M.takeA (p := ((a.toList.take na).drop k).reverse) fun u hu v hv => Int.le_trans (kle v hv) (bey_r' (g2 u (List.mem_reverse.mp hu)))
     by_cases e1 : k = 0
     ·rw [if_pos (by simpa using e1)]
      refine wpS_pure ⟨⟨S2.kind, S2.arr, S2.pend, S2.fail⟩, .inl ⟨_, rfl, ?_⟩⟩
      subst e1
      exact good_done (by simp only [Array.toList_append, Array.toList_push, ext_rev]; exact M1.swap.fin fun u hu v hv => by simp at hv)
     rw [if_neg (by simpa using e1)]
     obtain ⟨x, hx, ex, mx⟩ := take_at (a := b) (n := nb) (by omega)
     rw [ex] at M1
     have M2 := M1.takeB (p := [x]) (rb := (b.toList.take nb).reverse) fun u hu v hv => by
      rw [List.mem_singleton.mp hu, key1 x hx]
      exact gt v hv
     refine wpS_bind (elem_ok hx ?_)
     try dsimp only
     by_cases e3 : nb = 1
     ·rw [if_pos (by simpa using e3)]
      refine wpS_pure ⟨⟨S2.kind, S2.arr, S2.pend, S2.fail⟩, .inl ⟨_, rfl, ?_⟩⟩
      subst e3
      exact good_first (by simp only [Array.toList_append, Array.toList_push, ext_rev]; exact M2.fin fun u hu v hv => firstOk u (List.mem_of_mem_take (List.mem_reverse.mp hu)) v (List.mem_reverse.mp hv))
     rw [if_neg (by simpa using e3)]
     obtain ⟨m2, rfl⟩ : ∃ m2, k = m2 + 1 := ⟨k - 1, by omega⟩
     obtain ⟨y, hy, ey, my⟩ := take_at (a := a) (n := m2) (by omega)
     refine wpS_bind (elem_ok hy ?_)
     refine wpS_bind (gallop_seg (S2.kind.trans hk) (ika _ my) (by omega) (by omega) ikb (by rw [List.drop_zero]; exact (up_of M2.sb)) fun k2 k2n l1 l2 => ?_)
     rw [List.drop_zero] at l1 l2
     replace k2n : k2 ≤ nb := k2n
     try dsimp only
     simp only [Nat.add_sub_cancel]
     have sA := M2.sa
     rw [ey] at sA
     have yle : ∀ v ∈ (a.toList.take (m2 + 1)).reverse, ky v ≤ ky y := fun v hv => by
      rw [ey] at hv
      rcases List.mem_cons.mp hv with z | z
      ·rw [z]; exact Int.le_refl _
      ·exact (List.pairwise_cons.mp sA).1 v z
     rw [← seg_rev k2n] at M2
     have M3 := M2.takeB (p := ((b.toList.take nb).drop k2).reverse) fun u hu v hv => Int.le_trans (yle v hv) (bey_l' (l2 u (List.mem_reverse.mp hu)))
     by_cases z2 : nb - k2 > 0
     ·rw [if_pos z2]
      by_cases e4 : k2 = 1
      ·rw [if_pos (by simpa using e4)]
       refine wpS_pure ⟨⟨S2.kind, S2.arr, S2.pend, S2.fail⟩, .inl ⟨_, rfl, ?_⟩⟩
       subst e4
       exact good_first (by simp only [Array.toList_append, Array.toList_push, ext_rev]; exact M3.fin fun u hu v hv => firstOk u (List.mem_of_mem_take (List.mem_reverse.mp hu)) v (List.mem_reverse.mp hv))
      rw [if_neg (by simpa using e4)]
      by_cases e4' : k2 = 0
      ·rw [if_pos (by simpa using e4')]
       refine wpS_pure ⟨⟨S2.kind, S2.arr, S2.pend, S2.fail⟩, .inl ⟨_, rfl, ?_⟩⟩
       subst e4'
       exact good_done (by simp only [Array.toList_append, Array.toList_push, ext_rev]; exact M3.swap.fin fun u hu v hv => by simp at hu)
      rw [if_neg (by simpa using e4')]
      refine wpS_bind (elem_ok hy ?_)
      rw [ey] at M3
      have M4 := M3.takeA (p := [y]) (ra := (a.toList.take m2).reverse) fun u hu v hv => by
       rw [List.mem_singleton.mp hu]
       exact bey_l (l1 v (List.mem_reverse.mp hv))
      try dsimp only
      by_cases e5 : m2 = 0
      ·rw [if_pos (by simpa using e5)]
       refine wpS_pure ⟨⟨S2.kind, S2.arr, S2.pend, S2.fail⟩, .inl ⟨_, rfl, ?_⟩⟩
       subst e5
       exact good_done (by simp only [Array.toList_append, Array.toList_push, ext_rev]; exact M4.swap.fin fun u hu v hv => by simp at hv)
      rw [if_neg (by simpa using e5)]
      have J2 : J ((((out ++ (a.extract (m2 + 1) na).reverse).push x) ++ (b.extract k2 nb).reverse).push y) m2 k2 := ⟨by simp only [Array.toList_append, Array.toList_push, ext_rev]; exact M4, by omega, by omega, by omega, by omega⟩
      have sz2 : (out ++ (a.extract (m2 + 1) na).reverse).size + 2 ≤ ((((out ++ (a.extract (m2 + 1) na).reverse).push x) ++ (b.extract k2 nb).reverse).push y).size := by simp only [Array.size_append, Array.size_push]; omega
      have sz3 : x1 + 2 ≤ (out ++ (a.extract (m2 + 1) na).reverse).size := by first | exact sz | (simp only [Array.size_append]; omega)
      by_cases e6 : ((decide (na - (m2 + 1) < 7) && decide (nb - k2 < 7)) = true)
      ·rw [if_pos e6]
       exact wpS_pure ⟨⟨S2.kind, S2.arr, S2.pend, S2.fail⟩, .inr ⟨_, _, _, _, _, _, rfl, J2, by omega⟩⟩
      ·rw [if_neg e6]
       exact wpS_pure ⟨⟨S2.kind, S2.arr, S2.pend, S2.fail⟩, _, _, _, _, _, _, rfl, J2, by omega⟩
     ·rw [if_neg z2]
      have k0 : k2 = nb := by omega
      subst k0
      refine wpS_bind (elem_ok hy ?_)
      rw [seg_rev k2n, ey] at M2
      have M4 := M2.takeA (p := [y]) (ra := (a.toList.take m2).reverse) fun u hu v hv => by
       rw [List.mem_singleton.mp hu]
       exact bey_l (l1 v (List.mem_reverse.mp hv))
      try dsimp only
      by_cases e5 : m2 = 0
      ·rw [if_pos (by simpa using e5)]
       refine wpS_pure ⟨⟨S2.kind, S2.arr, S2.pend, S2.fail⟩, .inl ⟨_, rfl, ?_⟩⟩
       subst e5
       exact good_done (by simp only [Array.toList_append, Array.toList_push, ext_rev]; exact M4.swap.fin fun u hu v hv => by simp at hv)
      rw [if_neg (by simpa using e5)]
      have J2 : J (((out ++ (a.extract (m2 + 1) na).reverse).push x).push y) m2 k2 := ⟨by simp only [Array.toList_append, Array.toList_push, ext_rev]; exact M4, by omega, by omega, by omega, by omega⟩
      have sz2 : (out ++ (a.extract (m2 + 1) na).reverse).size + 2 ≤ (((out ++ (a.extract (m2 + 1) na).reverse).push x).push y).size := by simp only [Array.size_append, Array.size_push]; omega
      have sz3 : x1 + 2 ≤ (out ++ (a.extract (m2 + 1) na).reverse).size := by first | exact sz | (simp only [Array.size_append]; omega)
      by_cases e6 : ((decide (na - (m2 + 1) < 7) && decide (k2 - k2 < 7)) = true)
      ·rw [if_pos e6]
       exact wpS_pure ⟨⟨S2.kind, S2.arr, S2.pend, S2.fail⟩, .inr ⟨_, _, _, _, _, _, rfl, J2, by omega⟩⟩
      ·rw [if_neg e6]
       exact wpS_pure ⟨⟨S2.kind, S2.arr, S2.pend, S2.fail⟩, _, _, _, _, _, _, rfl, J2, by omega⟩
    ·rw [if_neg z1]
     have k00 : k = na := by omega
     subst k00
     have M1 := M
     obtain ⟨x, hx, ex, mx⟩ := take_at (a := b) (n := nb) (by omega)
     rw [ex] at M1
     have M2 := M1.takeB (p := [x]) (rb := (b.toList.take nb).reverse) fun u hu v hv => by
      rw [List.mem_singleton.mp hu, key1 x hx]
      exact gt v hv
     refine wpS_bind (elem_ok hx ?_)
     try dsimp only
     by_cases e3 : nb = 1
     ·rw [if_pos (by simpa using e3)]
      refine wpS_pure ⟨⟨S2.kind, S2.arr, S2.pend, S2.fail⟩, .inl ⟨_, rfl, ?_⟩⟩
      subst e3
      exact good_first (by simp only [Array.toList_append, Array.toList_push, ext_rev]; exact M2.fin fun u hu v hv => firstOk u (List.mem_of_mem_take (List.mem_reverse.mp hu)) v (List.mem_reverse.mp hv))
     rw [if_neg (by simpa using e3)]
     obtain ⟨m2, rfl⟩ : ∃ m2, k = m2 + 1 := ⟨k - 1, by omega⟩
     obtain ⟨y, hy, ey, my⟩ := take_at (a := a) (n := m2) (by omega)
     refine wpS_bind (elem_ok hy ?_)
     refine wpS_bind (gallop_seg (S2.kind.trans hk) (ika _ my) (by omega) (by omega) ikb (by rw [List.drop_zero]; exact (up_of M2.sb)) fun k2 k2n l1 l2 => ?_)
     rw [List.drop_zero] at l1 l2
     replace k2n : k2 ≤ nb := k2n
     try dsimp only
     simp only [Nat.add_sub_cancel]
     have sA := M2.sa
     rw [ey] at sA
     have yle : ∀ v ∈ (a.toList.take (m2 + 1)).reverse, ky v ≤ ky y := fun v hv => by
      rw [ey] at hv
      rcases List.mem_cons.mp hv with z | z
      ·rw [z]; exact Int.le_refl _
      ·exact (List.pairwise_cons.mp sA).1 v z
     rw [← seg_rev k2n] at M2
     have M3 := M2.takeB (p := ((b.toList.take nb).drop k2).reverse) fun u hu v hv => Int.le_trans (yle v hv) (bey_l' (l2 u (List.mem_reverse.mp hu)))
     by_cases z2 : nb - k2 > 0
     ·rw [if_pos z2]
      by_cases e4 : k2 = 1
      ·rw [if_pos (by simpa using e4)]
       refine wpS_pure ⟨⟨S2.kind, S2.arr, S2.pend, S2.fail⟩, .inl ⟨_, rfl, ?_⟩⟩
       subst e4
       exact good_first (by simp only [Array.toList_append, Array.toList_push, ext_rev]; exact M3.fin fun u hu v hv => firstOk u (List.mem_of_mem_take (List.mem_reverse.mp hu)) v (List.mem_reverse.mp hv))
      rw [if_neg (by simpa using e4)]
      by_cases e4' : k2 = 0
      ·rw [if_pos (by simpa using e4')]
       refine wpS_pure ⟨⟨S2.kind, S2.arr, S2.pend, S2.fail⟩, .inl ⟨_, rfl, ?_⟩⟩
       subst e4'
       exact good_done (by simp only [Array.toList_append, Array.toList_push, ext_rev]; exact M3.swap.fin fun u hu v hv => by simp at hu)
      rw [if_neg (by simpa using e4')]
      refine wpS_bind (elem_ok hy ?_)
      rw [ey] at M3
      have M4 := M3.takeA (p := [y]) (ra := (a.toList.take m2).reverse) fun u hu v hv => by
       rw [List.mem_singleton.mp hu]
       exact bey_l (l1 v (List.mem_reverse.mp hv))
      try dsimp only
      by_cases e5 : m2 = 0
      ·rw [if_pos (by simpa using e5)]
       refine wpS_pure ⟨⟨S2.kind, S2.arr, S2.pend, S2.fail⟩, .inl ⟨_, rfl, ?_⟩⟩
       subst e5
       exact good_done (by simp only [Array.toList_append, Array.toList_push, ext_rev]; exact M4.swap.fin fun u hu v hv => by simp at hv)
      rw [if_neg (by simpa using e5)]
      have J2 : J (((out.push x) ++ (b.extract k2 nb).reverse).push y) m2 k2 := ⟨by simp only [Array.toList_append, Array.toList_push, ext_rev]; exact M4, by omega, by omega, by omega, by omega⟩
      have sz2 : out.size + 2 ≤ (((out.push x) ++ (b.extract k2 nb).reverse).push y).size := by simp only [Array.size_append, Array.size_push]; omega
      have sz3 : x1 + 2 ≤ out.size := by first | exact sz | (simp only [Array.size_append]; omega)
      by_cases e6 : ((decide (m2 + 1 - (m2 + 1) < 7) && decide (nb - k2 < 7)) = true)
      ·rw [if_pos e6]
       exact wpS_pure ⟨⟨S2.kind, S2.arr, S2.pend, S2.fail⟩, .inr ⟨_, _, _, _, _, _, rfl, J2, by omega⟩⟩
      ·rw [if_neg e6]
       exact wpS_pure ⟨⟨S2.kind, S2.arr, S2.pend, S2.fail⟩, _, _, _, _, _, _, rfl, J2, by omega⟩
     ·rw [if_neg z2]
      have k0 : k2 = nb := by omega
      subst k0
      refine wpS_bind (elem_ok hy ?_)
      rw [seg_rev k2n, ey] at M2
      have M4 := M2.takeA (p := [y]) (ra := (a.toList.take m2).reverse) fun u hu v hv => by
       rw [List.mem_singleton.mp hu]
       exact bey_l (l1 v (List.mem_reverse.mp hv))
      try dsimp only
      by_cases e5 : m2 = 0
      ·rw [if_pos (by simpa using e5)]
       refine wpS_pure ⟨⟨S2.kind, S2.arr, S2.pend, S2.fail⟩, .inl ⟨_, rfl, ?_⟩⟩
       subst e5
       exact good_done (by simp only [Array.toList_append, Array.toList_push, ext_rev]; exact M4.swap.fin fun u hu v hv => by simp at hv)
      rw [if_neg (by simpa using e5)]
      have J2 : J ((out.push x).push y) m2 k2 := ⟨by simp only [Array.toList_append, Array.toList_push, ext_rev]; exact M4, by omega, by omega, by omega, by omega⟩
      have sz2 : out.size + 2 ≤ ((out.push x).push y).size := by simp only [Array.size_append, Array.size_push]; omega
      have sz3 : x1 + 2 ≤ out.size := by first | exact sz | (simp only [Array.size_append]; omega)
      by_cases e6 : ((decide (m2 + 1 - (m2 + 1) < 7) && decide (k2 - k2 < 7)) = true)
      ·rw [if_pos e6]
       exact wpS_pure ⟨⟨S2.kind, S2.arr, S2.pend, S2.fail⟩, .inr ⟨_, _, _, _, _, _, rfl, J2, by omega⟩⟩
      ·rw [if_neg e6]
       exact wpS_pure ⟨⟨S2.kind, S2.arr, S2.pend, S2.fail⟩, _, _, _, _, _, _, rfl, J2, by omega⟩
   ·rw [if_neg mg1]
    refine wpS_bind (wpS_modify ?_)
    obtain ⟨nb, rfl⟩ : ∃ m, nb0 = m + 1 := ⟨nb0 - 1, by omega⟩
    obtain ⟨key, hkey, ekey, mkey⟩ := take_at (a := b) (n := nb) (by omega)
    refine wpS_bind (elem_ok hkey ?_)
    refine wpS_bind (gallop_seg (S2.kind.trans hk) (ikb _ mkey) (by omega) (by omega) ika (by rw [List.drop_zero]; exact (up_of M.sa)) fun k kn g1 g2 => ?_)
    rw [List.drop_zero] at g1 g2
    have sB := M.sb
    rw [ekey] at sB
    have kle : ∀ v ∈ (b.toList.take (nb + 1)).reverse, ky v ≤ ky key := fun v hv => by
     rw [ekey] at hv
     rcases List.mem_cons.mp hv with z | z
     ·rw [z]; exact Int.le_refl _
     ·exact (List.pairwise_cons.mp sB).1 v z
    try dsimp only
    have gt : ∀ v ∈ (a.toList.take k).reverse, ky v ≤ ky key := fun v hv => bey_r (g1 v (List.mem_reverse.mp hv))
    have key1 : ∀ x, b[nb]? = some x → x = key := fun x hx => by rw [hkey] at hx; exact (Option.some.inj hx).symm
    by_cases z1 : na - k > 0
    ·rw [if_pos z1]
     rw [← seg_rev kn] at M
     have M1 := M.takeA (p := ((a.toList.take na).drop k).reverse) fun u hu v hv => Int.le_trans (kle v hv) (bey_r' (g2 u (List.mem_reverse.mp hu)))
     by_cases e1 : k = 0
     ·rw [if_pos (by simpa using e1)]
      refine wpS_pure ⟨⟨S2.kind, S2.arr, S2.pend, S2.fail⟩, .inl ⟨_, rfl, ?_⟩⟩
      subst e1
      exact good_done (by simp only [Array.toList_append, Array.toList_push, ext_rev]; exact M1.swap.fin fun u hu v hv => by simp at hv)
     rw [if_neg (by simpa using e1)]
     obtain ⟨x, hx, ex, mx⟩ := take_at (a := b) (n := nb) (by omega)
     rw [ex] at M1
     have M2 := M1.takeB (p := [x]) (rb := (b.toList.take nb).reverse) fun u hu v hv => by
      rw [List.mem_singleton.mp hu, key1 x hx]
      exact gt v hv
     refine wpS_bind (elem_ok hx ?_)
     try dsimp only
     by_cases e3 : nb = 1
     ·rw [if_pos (by simpa using e3)]
      refine wpS_pure ⟨⟨S2.kind, S2.arr, S2.pend, S2.fail⟩, .inl ⟨_, rfl, ?_⟩⟩
      subst e3
      exact good_first (by simp only [Array.toList_append, Array.toList_push, ext_rev]; exact M2.fin fun u hu v hv => firstOk u (List.mem_of_mem_take (List.mem_reverse.mp hu)) v (List.mem_reverse.mp hv))
     rw [if_neg (by simpa using e3)]
     obtain ⟨m2, rfl⟩ : ∃ m2, k = m2 + 1 := ⟨k - 1, by omega⟩
     obtain ⟨y, hy, ey, my⟩ := take_at (a := a) (n := m2) (by omega)
     refine wpS_bind (elem_ok hy ?_)
     refine wpS_bind (gallop_seg (S2.kind.trans hk) (ika _ my) (by omega) (by omega) ikb (by rw [List.drop_zero]; exact (up_of M2.sb)) fun k2 k2n l1 l2 => ?_)
     rw [List.drop_zero] at l1 l2
     replace k2n : k2 ≤ nb := k2n
     try dsimp only
     simp only [Nat.add_sub_cancel]
     have sA := M2.sa
     rw [ey] at sA
     have yle : ∀ v ∈ (a.toList.take (m2 + 1)).reverse, ky v ≤ ky y := fun v hv => by
      rw [ey] at hv
      rcases List.mem_cons.mp hv with z | z
      ·rw [z]; exact Int.le_refl _
      ·exact (List.pairwise_cons.mp sA).1 v z
     rw [← seg_rev k2n] at M2
     have M3 := M2.takeB (p := ((b.toList.take nb).drop k2).reverse) fun u hu v hv => Int.le_trans (yle v hv) (bey_l' (l2 u (List.mem_reverse.mp hu)))
     by_cases z2 : nb - k2 > 0
     ·rw [if_pos z2]
      by_cases e4 : k2 = 1
      ·rw [if_pos (by simpa using e4)]
       refine wpS_pure ⟨⟨S2.kind, S2.arr, S2.pend, S2.fail⟩, .inl ⟨_, rfl, ?_⟩⟩
       subst e4
       exact good_first (by simp only [Array.toList_append, Array.toList_push, ext_rev]; exact M3.fin fun u hu v hv => firstOk u (List.mem_of_mem_take (List.mem_reverse.mp hu)) v (List.mem_reverse.mp hv))
      rw [if_neg (by simpa using e4)]
      by_cases e4' : k2 = 0
      ·rw [if_pos (by simpa using e4')]
       refine wpS_pure ⟨⟨S2.kind, S2.arr, S2.pend, S2.fail⟩, .inl ⟨_, rfl, ?_⟩⟩
       subst e4'
       exact good_done (by simp only [Array.toList_append, Array.toList_push, ext_rev]; exact M3.swap.fin fun u hu v hv => by simp at hu)
      rw [if_neg (by simpa using e4')]
      refine wpS_bind (elem_ok hy ?_)
      rw [ey] at M3
      have M4 := M3.takeA (p := [y]) (ra := (a.toList.take m2).reverse) fun u hu v hv => by
       rw [List.mem_singleton.mp hu]
       exact bey_l (l1 v (List.mem_reverse.mp hv))
      try dsimp only
      by_cases e5 : m2 = 0
      ·rw [if_pos (by simpa using e5)]
       refine wpS_pure ⟨⟨S2.kind, S2.arr, S2.pend, S2.fail⟩, .inl ⟨_, rfl, ?_⟩⟩
       subst e5
       exact good_done (by simp only [Array.toList_append, Array.toList_push, ext_rev]; exact M4.swap.fin fun u hu v hv => by simp at hv)
      rw [if_neg (by simpa using e5)]
      have J2 : J ((((out ++ (a.extract (m2 + 1) na).reverse).push x) ++ (b.extract k2 nb).reverse).push y) m2 k2 := ⟨by simp only [Array.toList_append, Array.toList_push, ext_rev]; exact M4, by omega, by omega, by omega, by omega⟩
      have sz2 : (out ++ (a.extract (m2 + 1) na).reverse).size + 2 ≤ ((((out ++ (a.extract (m2 + 1) na).reverse).push x) ++ (b.extract k2 nb).reverse).push y).size := by simp only [Array.size_append, Array.size_push]; omega
      have sz3 : x1 + 2 ≤ (out ++ (a.extract (m2 + 1) na).reverse).size := by first | exact sz | (simp only [Array.size_append]; omega)
      by_cases e6 : ((decide (na - (m2 + 1) < 7) && decide (nb - k2 < 7)) = true)
      ·rw [if_pos e6]
       exact wpS_pure ⟨⟨S2.kind, S2.arr, S2.pend, S2.fail⟩, .inr ⟨_, _, _, _, _, _, rfl, J2, by omega⟩⟩
      ·rw [if_neg e6]
       exact wpS_pure ⟨⟨S2.kind, S2.arr, S2.pend, S2.fail⟩, _, _, _, _, _, _, rfl, J2, by omega⟩
     ·rw [if_neg z2]
      have k0 : k2 = nb := by omega
      subst k0
      refine wpS_bind (elem_ok hy ?_)
      rw [seg_rev k2n, ey] at M2
      have M4 := M2.takeA (p := [y]) (ra := (a.toList.take m2).reverse) fun u hu v hv => by
       rw [List.mem_singleton.mp hu]
       exact bey_l (l1 v (List.mem_reverse.mp hv))
      try dsimp only
      by_cases e5 : m2 = 0
      ·rw [if_pos (by simpa using e5)]
       refine wpS_pure ⟨⟨S2.kind, S2.arr, S2.pend, S2.fail⟩, .inl ⟨_, rfl, ?_⟩⟩
       subst e5
       exact good_done (by simp only [Array.toList_append, Array.toList_push, ext_rev]; exact M4.swap.fin fun u hu v hv => by simp at hv)
      rw [if_neg (by simpa using e5)]
      have J2 : J (((out ++ (a.extract (m2 + 1) na).reverse).push x).push y) m2 k2 := ⟨by simp only [Array.toList_append, Array.toList_push, ext_rev]; exact M4, by omega, by omega, by omega, by omega⟩
      have sz2 : (out ++ (a.extract (m2 + 1) na).reverse).size + 2 ≤ (((out ++ (a.extract (m2 + 1) na).reverse).push x).push y).size := by simp only [Array.size_append, Array.size_push]; omega
      have sz3 : x1 + 2 ≤ (out ++ (a.extract (m2 + 1) na).reverse).size := by first | exact sz | (simp only [Array.size_append]; omega)
      by_cases e6 : ((decide (na - (m2 + 1) < 7) && decide (k2 - k2 < 7)) = true)
      ·rw [if_pos e6]
       exact wpS_pure ⟨⟨S2.kind, S2.arr, S2.pend, S2.fail⟩, .inr ⟨_, _, _, _, _, _, rfl, J2, by omega⟩⟩
      ·rw [if_neg e6]
       exact wpS_pure ⟨⟨S2.kind, S2.arr, S2.pend, S2.fail⟩, _, _, _, _, _, _, rfl, J2, by omega⟩
    ·rw [if_neg z1]
     have k00 : k = na := by omega
     subst k00
     have M1 := M
     obtain ⟨x, hx, ex, mx⟩ := take_at (a := b) (n := nb) (by omega)
     rw [ex] at M1
     have M2 := M1.takeB (p := [x]) (rb := (b.toList.take nb).reverse) fun u hu v hv => by
      rw [List.mem_singleton.mp hu, key1 x hx]
      exact gt v hv
     refine wpS_bind (elem_ok hx ?_)
     try dsimp only
     by_cases e3 : nb = 1
     ·rw [if_pos (by simpa using e3)]
      refine wpS_pure ⟨⟨S2.kind, S2.arr, S2.pend, S2.fail⟩, .inl ⟨_, rfl, ?_⟩⟩
      subst e3
      exact good_first (by simp only [Array.toList_append, Array.toList_push, ext_rev]; exact M2.fin fun u hu v hv => firstOk u (List.mem_of_mem_take (List.mem_reverse.mp hu)) v (List.mem_reverse.mp hv))
     rw [if_neg (by simpa using e3)]
     obtain ⟨m2, rfl⟩ : ∃ m2, k = m2 + 1 := ⟨k - 1, by omega⟩
     obtain ⟨y, hy, ey, my⟩ := take_at (a := a) (n := m2) (by omega)
     refine wpS_bind (elem_ok hy ?_)
     refine wpS_bind (gallop_seg (S2.kind.trans hk) (ika _ my) (by omega) (by omega) ikb (by rw [List.drop_zero]; exact (up_of M2.sb)) fun k2 k2n l1 l2 => ?_)
     rw [List.drop_zero] at l1 l2
     replace k2n : k2 ≤ nb := k2n
     try dsimp only
     simp only [Nat.add_sub_cancel]
     have sA := M2.sa
     rw [ey] at sA
     have yle : ∀ v ∈ (a.toList.take (m2 + 1)).reverse, ky v ≤ ky y := fun v hv => by
      rw [ey] at hv
      rcases List.mem_cons.mp hv with z | z
      ·rw [z]; exact Int.le_refl _
      ·exact (List.pairwise_cons.mp sA).1 v z
     rw [← seg_rev k2n] at M2
     have M3 := M2.takeB (p := ((b.toList.take nb).drop k2).reverse) fun u hu v hv => Int.le_trans (yle v hv) (bey_l' (l2 u (List.mem_reverse.mp hu)))
     by_cases z2 : nb - k2 > 0
     ·rw [if_pos z2]
      by_cases e4 : k2 = 1
      ·rw [if_pos (by simpa using e4)]
       refine wpS_pure ⟨⟨S2.kind, S2.arr, S2.pend, S2.fail⟩, .inl ⟨_, rfl, ?_⟩⟩
       subst e4
       exact good_first (by simp only [Array.toList_append, Array.toList_push, ext_rev]; exact M3.fin fun u hu v hv => firstOk u (List.mem_of_mem_take (List.mem_reverse.mp hu)) v (List.mem_reverse.mp hv))
      rw [if_neg (by simpa using e4)]
      by_cases e4' : k2 = 0
      ·rw [if_pos (by simpa using e4')]
       refine wpS_pure ⟨⟨S2.kind, S2.arr, S2.pend, S2.fail⟩, .inl ⟨_, rfl, ?_⟩⟩
       subst e4'
       exact good_done (by simp only [Array.toList_append, Array.toList_push, ext_rev]; exact M3.swap.fin fun u hu v hv => by simp at hu)
      rw [if_neg (by simpa using e4')]
      refine wpS_bind (elem_ok hy ?_)
      rw [ey] at M3
      have M4 := M3.takeA (p := [y]) (ra := (a.toList.take m2).reverse) fun u hu v hv => by
       rw [List.mem_singleton.mp hu]
       exact bey_l (l1 v (List.mem_reverse.mp hv))
      try dsimp only
      by_cases e5 : m2 = 0
      ·rw [if_pos (by simpa using e5)]
       refine wpS_pure ⟨⟨S2.kind, S2.arr, S2.pend, S2.fail⟩, .inl ⟨_, rfl, ?_⟩⟩
       subst e5
       exact good_done (by simp only [Array.toList_append, Array.toList_push, ext_rev]; exact M4.swap.fin fun u hu v hv => by simp at hv)
      rw [if_neg (by simpa using e5)]
      have J2 : J (((out.push x) ++ (b.extract k2 nb).reverse).push y) m2 k2 := ⟨by simp only [Array.toList_append, Array.toList_push, ext_rev]; exact M4, by omega, by omega, by omega, by omega⟩
      have sz2 : out.size + 2 ≤ (((out.push x) ++ (b.extract k2 nb).reverse).push y).size := by simp only [Array.size_append, Array.size_push]; omega
      have sz3 : x1 + 2 ≤ out.size := by first | exact sz | (simp only [Array.size_append]; omega)
      by_cases e6 : ((decide (m2 + 1 - (m2 + 1) < 7) && decide (nb - k2 < 7)) = true)
      ·rw [if_pos e6]
       exact wpS_pure ⟨⟨S2.kind, S2.arr, S2.pend, S2.fail⟩, .inr ⟨_, _, _, _, _, _, rfl, J2, by omega⟩⟩
      ·rw [if_neg e6]
       exact wpS_pure ⟨⟨S2.kind, S2.arr, S2.pend, S2.fail⟩, _, _, _, _, _, _, rfl, J2, by omega⟩
     ·rw [if_neg z2]
      have k0 : k2 = nb := by omega
      subst k0
      refine wpS_bind (elem_ok hy ?_)
      rw [seg_rev k2n, ey] at M2
      have M4 := M2.takeA (p := [y]) (ra := (a.toList.take m2).reverse) fun u hu v hv => by
       rw [List.mem_singleton.mp hu]
       exact bey_l (l1 v (List.mem_reverse.mp hv))
      try dsimp only
      by_cases e5 : m2 = 0
      ·rw [if_pos (by simpa using e5)]
       refine wpS_pure ⟨⟨S2.kind, S2.arr, S2.pend, S2.fail⟩, .inl ⟨_, rfl, ?_⟩⟩
       subst e5
       exact good_done (by simp only [Array.toList_append, Array.toList_push, ext_rev]; exact M4.swap.fin fun u hu v hv => by simp at hv)
      rw [if_neg (by simpa using e5)]
      have J2 : J ((out.push x).push y) m2 k2 := ⟨by simp only [Array.toList_append, Array.toList_push, ext_rev]; exact M4, by omega, by omega, by omega, by omega⟩
      have sz2 : out.size + 2 ≤ ((out.push x).push y).size := by simp only [Array.size_append, Array.size_push]; omega
      have sz3 : x1 + 2 ≤ out.size := by first | exact sz | (simp only [Array.size_append]; omega)
      by_cases e6 : ((decide (m2 + 1 - (m2 + 1) < 7) && decide (k2 - k2 < 7)) = true)
      ·rw [if_pos e6]
       exact wpS_pure ⟨⟨S2.kind, S2.arr, S2.pend, S2.fail⟩, .inr ⟨_, _, _, _, _, _, rfl, J2, by omega⟩⟩
      ·rw [if_neg e6]
       exact wpS_pure ⟨⟨S2.kind, S2.arr, S2.pend, S2.fail⟩, _, _, _, _, _, _, rfl, J2, by omega⟩
end
end TS
namespace TS
open PySem PyProof.Rows
noncomputable def SS (xs : Array Keyed) (i n : Nat) : Prop := ∀ a b, i ≤ a → a ≤ b → b < i + n → K xs a ≤ K xs b
noncomputable def NI (xs : Array Keyed) (i n : Nat) : Prop := ∀ a b, i ≤ a → a ≤ b → b < i + n → K xs b ≤ K xs a
theorem SS.snoc {xs : Array Keyed} {lo x : Nat} (h : SS xs lo x) (h1 : 1 ≤ x) (nl : ¬ K xs (lo + x) < K xs (lo + x - 1)) : SS xs lo (x + 1) := fun a b h2 h3 h4 => by
 by_cases z : b < lo + x
 ·exact h a b h2 h3 z
 ·have e : b = lo + x := by omega
  subst e
  by_cases z2 : a = lo + x
  ·subst z2; exact Int.le_refl _
  ·have := h a (lo + x - 1) h2 (by omega) (by omega)
   omega
theorem SS.one (xs : Array Keyed) (lo : Nat) : SS xs lo 1 := fun a b h1 h2 h3 => by
 have : a = b := by omega
 subst this; exact Int.le_refl _
structure Fine (st st' : SortSt) (lo hi : Nat) : Prop where
 kind : kindOf st' = kindOf st
 fail : failedOf st' = failedOf st
 pend : pendingOf st' = pendingOf st
 perm : (arrOf st').Perm (arrOf st)
 out : ∀ k, k < lo ∨ hi ≤ k → (arrOf st')[k]? = (arrOf st)[k]?
theorem Fine.refl (st : SortSt) (lo hi : Nat) : Fine st st lo hi := ⟨rfl, rfl, rfl, Array.Perm.refl _, fun _ _ => rfl⟩
theorem Fine.size {st st' : SortSt} {lo hi : Nat} (x : Fine st st' lo hi) : (arrOf st').size = (arrOf st).size := x.perm.size_eq
noncomputable def Iks (xs : Array Keyed) : Prop := ∀ x ∈ xs.toList, IK x
theorem Iks.perm {xs ys : Array Keyed} (h : Iks xs) (p : ys.Perm xs) : Iks ys := fun x hx => h x ((Array.perm_iff_toList_perm.mp p).mem_iff.mp hx)
theorem K_of {xs : Array Keyed} {i : Nat} {x : Keyed} (h : xs[i]? = some x) : K xs i = ky x := by unfold K; rw [h]; rfl
theorem Fine.mir {st st' : SortSt} {lo hi i j : Nat} (x : Fine st st' lo hi) (h1 : lo ≤ i) (h2 : j ≤ hi) (h3 : hi ≤ (arrOf st).size) : Fine st (setArr st' (mirror (arrOf st') i j ((j - i) / 2))) lo hi :=
 ⟨x.kind, x.fail, x.pend, (mirror_perm _ _ _ _).trans x.perm, fun k hk => by
  show (mirror (arrOf st') i j ((j - i) / 2))[k]? = _
  rw [getElem?_mirror_all (by rw [x.size]; omega), if_neg (by omega)]
  exact x.out k hk⟩
section
variable {prog : Program} {w : World} {A : Around} {E : Value → Shared → Prop} {s : Shared}
theorem ltAt_ok {st : SortSt} {i j : Nat} {Q : Option Bool → SortSt → Prop} (hk : kindOf st = oneType') (ik : Iks (arrOf st)) (hi : i < (arrOf st).size) (hj : j < (arrOf st).size) (h : Q (some (decide (K (arrOf st) i < K (arrOf st) j))) st) :
  wpS (model prog w) A E s (ltAt' i j) Q st := by
 have e1 := getElem?_pos (arrOf st) i hi
 have e2 := getElem?_pos (arrOf st) j hj
 obtain ⟨t, f1⟩ := (ik _ (show (arrOf st)[i] ∈ (arrOf st).toList by simp)).eq
 obtain ⟨u, f2⟩ := (ik _ (show (arrOf st)[j] ∈ (arrOf st).toList by simp)).eq
 rw [K_of e1, K_of e2] at h
 refine wpS_ltAt hk (t := t) (u := u) (p := (arrOf st)[i].2) (q := (arrOf st)[j].2) ?_ ?_ h
 ·rw [e1]; exact congrArg some (Prod.ext f1 rfl)
 ·rw [e2]; exact congrArg some (Prod.ext f2 rfl)
theorem countRun_ok {st : SortSt} {lo nrem : Nat} {Q : Option Nat → SortSt → Prop} (hk : kindOf st = oneType') (ik : Iks (arrOf st)) (hn : lo + nrem ≤ (arrOf st).size) (h1 : 1 ≤ nrem)
  (h : ∀ m st', Fine st st' lo (lo + nrem) → 1 ≤ m → m ≤ nrem → SS (arrOf st') lo m → Q (some m) st') : wpS (model prog w) A E s (countRun' lo nrem) Q st := by
 refine wpS_bind (wpS_mono (wpS_forRange (I := fun x c st'' => st = st'' ∧ c = (none, x) ∧ SS (arrOf st) lo x)
    (Q := fun c st'' => st = st'' ∧ ∃ n, c = (none, n) ∧ 1 ≤ n ∧ n ≤ nrem ∧ SS (arrOf st) lo n ∧ (n = nrem ∨ K (arrOf st) (lo + n) < K (arrOf st) (lo + n - 1))) ?astep ?afin ⟨rfl, rfl, (SS.one _ _)⟩) ?apost)
 case afin =>
  rintro c st'' ⟨rfl, rfl, hs⟩
  exact ⟨rfl, _, rfl, by omega, by omega, hs, .inl (by omega)⟩
 case astep =>
  rintro x c st'' hx1 hx2 ⟨rfl, rfl, hs⟩
  dsimp only
  refine wpS_bind (ltAt_ok hk ik (by omega) (by omega) ?_)
  by_cases less : K (arrOf st) (lo + x) < K (arrOf st) (lo + x - 1)
  ·simp only [less, decide_true, if_true]
   exact wpS_pure ⟨rfl, x, rfl, by omega, by omega, hs, .inr less⟩
  ·simp only [less, decide_false, Bool.false_eq_true, if_false]
   exact wpS_pure ⟨rfl, rfl, hs.snoc (by omega) less⟩
 case apost =>
  rintro c st'' ⟨rfl, n, rfl, n1, n2, hsn, or⟩
  dsimp only
  by_cases nn : n = nrem
  ·rw [if_pos (by simpa using nn)]
   exact wpS_pure (h n st (Fine.refl _ _ _) n1 n2 hsn)
  rw [if_neg (by simpa using nn)]
  have hlt := or.resolve_left nn
  by_cases gt : n > 1
  ·rw [if_pos gt]
   refine wpS_bind (ltAt_ok hk ik (by omega) (by omega) ?_)
   by_cases rose : K (arrOf st) lo < K (arrOf st) (lo + n - 1)
   ·simp only [rose, decide_true, if_true]
    exact wpS_pure (h n st (Fine.refl _ _ _) n1 n2 hsn)
   ·simp only [rose, decide_false, Bool.false_eq_true, if_false]
    have all : ∀ k, lo ≤ k → k < lo + n → K (arrOf st) k = K (arrOf st) (lo + n - 1) := fun k k1 k2 => by
     have a1 := hsn lo k (by omega) k1 k2
     have a2 := hsn k (lo + n - 1) k1 (by omega) (by omega)
     omega
    refine wpS_bind (wpS_reverse ?_)
    have f1 := (Fine.refl st lo (lo + nrem)).mir (i := lo) (j := lo + n) (by omega) (by omega) hn
    obtain ⟨st1, est1⟩ : ∃ z, z = setArr st (mirror (arrOf st) lo (lo + n) ((lo + n - lo) / 2)) := ⟨_, rfl⟩
    have ni1 : NI (arrOf st1) lo (n + 1) := fun a b h1 h2 h3 => by
     rw [est1]
     show K (mirror (arrOf st) lo (lo + n) ((lo + n - lo) / 2)) b ≤ K (mirror (arrOf st) lo (lo + n) ((lo + n - lo) / 2)) a
     rw [K_mirror_equal (by omega) (fun k h1 h2 => all k h1 h2), K_mirror_equal (by omega) (fun k h1 h2 => all k h1 h2)]
     by_cases z : b < lo + n
     ·rw [all a h1 (by omega), all b (by omega) z]; exact Int.le_refl _
     ·have e : b = lo + n := by omega
      subst e
      by_cases z2 : a = lo + n
      ·subst z2; exact Int.le_refl _
      ·rw [all a h1 (by omega)]; omega
    rw [← est1] at f1 ⊢
    refine wpS_bind (wpS_lift (wpAny_rule ⟨rfl, ?_⟩))
    refine wpS_bind (wpS_mono (wpS_forRange (I := fun x c st' => ∃ neq, c = (none, x, neq) ∧ Fine st st' lo (lo + nrem) ∧ NI (arrOf st') lo x ∧ neq + 1 ≤ x ∧ ∀ i, lo + x - (neq + 1) ≤ i → i < lo + x → K (arrOf st') i = K (arrOf st') (lo + x - 1))
     (Q := fun c st' => ∃ m neq, c = (none, m, neq) ∧ n + 1 ≤ m ∧ m ≤ nrem ∧ Fine st st' lo (lo + nrem) ∧ NI (arrOf st') lo m ∧ neq + 1 ≤ m ∧ ∀ i, lo + m - (neq + 1) ≤ i → i < lo + m → K (arrOf st') i = K (arrOf st') (lo + m - 1)) ?dstep ?dfin ⟨0, rfl, f1, ni1, by omega, fun i h1 h2 => by congr 1; omega⟩) ?dpost)
    case dfin =>
     rintro c st' ⟨neq, rfl, d1, d2, d3, d4⟩
     rw [show max (n + 1) nrem = nrem by omega] at d2 d3 d4 ⊢
     exact ⟨_, neq, rfl, by omega, by omega, d1, d2, d3, d4⟩
    case dstep =>
     rintro x c st' hx1 hx2 ⟨neq, rfl, d1, d2, d3, d4⟩
     dsimp only
     have sz' := d1.size
     refine wpS_bind (ltAt_ok (d1.kind.trans hk) (ik.perm d1.perm) (by omega) (by omega) ?_)
     by_cases less : K (arrOf st') (lo + x) < K (arrOf st') (lo + x - 1)
     ·simp only [less, decide_true, if_true]
      have step1 : ∀ xs : Array Keyed, (∀ k, K xs k = K (arrOf st') k) → NI xs lo (x + 1) := fun xs hxs a b h1 h2 h3 => by
       rw [hxs, hxs]
       by_cases z : b < lo + x
       ·exact d2 a b h1 h2 z
       ·have e : b = lo + x := by omega
        subst e
        by_cases z2 : a = lo + x
        ·subst z2; exact Int.le_refl _
        ·have := d2 a (lo + x - 1) h1 (by omega) (by omega)
         omega
      by_cases q : neq > 0
      ·rw [if_pos q]
       refine wpS_bind (wpS_reverse (wpS_pure ⟨0, rfl, d1.mir (by omega) (by omega) hn, step1 _ (fun k => ?_), by omega, fun i h1 h2 => by congr 1; omega⟩))
       show K (mirror (arrOf st') (lo + x - (neq + 1)) (lo + x) ((lo + x - (lo + x - (neq + 1))) / 2)) k = _
       exact K_mirror_equal (by omega) (fun k h1 h2 => d4 k h1 h2) k
      ·rw [if_neg q]
       exact wpS_pure ⟨0, rfl, d1, step1 _ (fun _ => rfl), by omega, fun i h1 h2 => by congr 1; omega⟩
     ·simp only [less, decide_false, Bool.false_eq_true, if_false]
      refine wpS_bind (ltAt_ok (d1.kind.trans hk) (ik.perm d1.perm) (by omega) (by omega) ?_)
      by_cases larger : K (arrOf st') (lo + x - 1) < K (arrOf st') (lo + x)
      ·simp only [larger, decide_true, if_true]
       exact wpS_pure ⟨x, neq, rfl, by omega, by omega, d1, d2, d3, d4⟩
      ·simp only [larger, decide_false, Bool.false_eq_true, if_false]
       have eqx : K (arrOf st') (lo + x) = K (arrOf st') (lo + x - 1) := by omega
       refine wpS_pure ⟨neq + 1, rfl, d1, fun a b h1 h2 h3 => ?_, by omega, fun i h1 h2 => ?_⟩
       ·by_cases z : b < lo + x
        ·exact d2 a b h1 h2 z
        ·have e : b = lo + x := by omega
         subst e
         by_cases z2 : a = lo + x
         ·subst z2; exact Int.le_refl _
         ·rw [eqx]; exact d2 a (lo + x - 1) h1 (by omega) (by omega)
       ·rw [show lo + (x + 1) - 1 = lo + x by omega]
        by_cases z : i = lo + x
        ·subst z; rfl
        ·rw [eqx]; exact d4 i (by omega) (by omega)
    case dpost =>
     rintro c st' ⟨m, neq, rfl, m1, m2, d1, d2, d3, d4⟩
     dsimp only
     by_cases q : neq > 0
     ·rw [if_pos q]
      refine wpS_bind (wpS_reverse ?_)
      have d1' := d1.mir (i := lo + m - (neq + 1)) (j := lo + m) (by omega) (by omega) hn
      have sz' := d1.size
      obtain ⟨st4, est4⟩ : ∃ z, z = setArr st' (mirror (arrOf st') (lo + m - (neq + 1)) (lo + m) ((lo + m - (lo + m - (neq + 1))) / 2)) := ⟨_, rfl⟩
      have ni4 : NI (arrOf st4) lo m := fun a b h1 h2 h3 => by
       rw [est4]
       show K (mirror (arrOf st') (lo + m - (neq + 1)) (lo + m) ((lo + m - (lo + m - (neq + 1))) / 2)) b ≤ K (mirror (arrOf st') (lo + m - (neq + 1)) (lo + m) ((lo + m - (lo + m - (neq + 1))) / 2)) a
       rw [K_mirror_equal (by omega) (fun k h1 h2 => d4 k h1 h2), K_mirror_equal (by omega) (fun k h1 h2 => d4 k h1 h2)]
       exact d2 a b h1 h2 h3
      rw [← est4] at d1' ⊢
      refine wpS_bind (wpS_reverse ?_)
      have f5 := (d1').mir (i := lo) (j := lo + m) (Nat.le_refl _) (by omega) hn
      obtain ⟨st5, est5⟩ : ∃ z, z = setArr st4 (mirror (arrOf st4) lo (lo + m) ((lo + m - lo) / 2)) := ⟨_, rfl⟩
      rw [← est5] at f5 ⊢
      have hs5 : SS (arrOf st5) lo m := fun a b h1 h2 h3 => by
       rw [est5]
       show K (mirror (arrOf st4) lo (lo + m) ((lo + m - lo) / 2)) a ≤ K (mirror (arrOf st4) lo (lo + m) ((lo + m - lo) / 2)) b
       have sz4 : lo + m ≤ (arrOf st4).size := by rw [(d1').size]; omega
       rw [K_mirror sz4, K_mirror sz4, if_pos (by omega), if_pos (by omega)]
       exact ni4 _ _ (by omega) (by omega) (by omega)
      have k5 : kindOf st5 = oneType' := f5.kind.trans hk
      have ik5 := ik.perm f5.perm
      have sz5 := f5.size
      refine wpS_bind (wpS_mono (wpS_forRange (I := fun x c st'' => st5 = st'' ∧ c = (none, x) ∧ SS (arrOf st5) lo x)
    (Q := fun c st'' => st5 = st'' ∧ ∃ n, c = (none, n) ∧ m ≤ n ∧ n ≤ nrem ∧ SS (arrOf st5) lo n ∧ (n = nrem ∨ K (arrOf st5) (lo + n) < K (arrOf st5) (lo + n - 1))) ?astep ?afin ⟨rfl, rfl, hs5⟩) ?apost)
      case afin =>
       rintro c st'' ⟨rfl, rfl, hs⟩
       exact ⟨rfl, _, rfl, by omega, by omega, hs, .inl (by omega)⟩
      case astep =>
       rintro x c st'' hx1 hx2 ⟨rfl, rfl, hs⟩
       dsimp only
       refine wpS_bind (ltAt_ok k5 ik5 (by omega) (by omega) ?_)
       by_cases less : K (arrOf st5) (lo + x) < K (arrOf st5) (lo + x - 1)
       ·simp only [less, decide_true, if_true]
        exact wpS_pure ⟨rfl, x, rfl, by omega, by omega, hs, .inr less⟩
       ·simp only [less, decide_false, Bool.false_eq_true, if_false]
        exact wpS_pure ⟨rfl, rfl, hs.snoc (by omega) less⟩
      case apost =>
       rintro c st'' ⟨rfl, n2, rfl, a1, a2, a3, a4⟩
       exact wpS_pure (h n2 _ f5 (by omega) a2 a3)
     ·rw [if_neg q]
      have ni4 := d2
      refine wpS_bind (wpS_reverse ?_)
      have f5 := (d1).mir (i := lo) (j := lo + m) (Nat.le_refl _) (by omega) hn
      obtain ⟨st5, est5⟩ : ∃ z, z = setArr st' (mirror (arrOf st') lo (lo + m) ((lo + m - lo) / 2)) := ⟨_, rfl⟩
      rw [← est5] at f5 ⊢
      have hs5 : SS (arrOf st5) lo m := fun a b h1 h2 h3 => by
       rw [est5]
       show K (mirror (arrOf st') lo (lo + m) ((lo + m - lo) / 2)) a ≤ K (mirror (arrOf st') lo (lo + m) ((lo + m - lo) / 2)) b
       have sz4 : lo + m ≤ (arrOf st').size := by rw [(d1).size]; omega
       rw [K_mirror sz4, K_mirror sz4, if_pos (by omega), if_pos (by omega)]
       exact ni4 _ _ (by omega) (by omega) (by omega)
      have k5 : kindOf st5 = oneType' := f5.kind.trans hk
      have ik5 := ik.perm f5.perm
      have sz5 := f5.size
      refine wpS_bind (wpS_mono (wpS_forRange (I := fun x c st'' => st5 = st'' ∧ c = (none, x) ∧ SS (arrOf st5) lo x)
    (Q := fun c st'' => st5 = st'' ∧ ∃ n, c = (none, n) ∧ m ≤ n ∧ n ≤ nrem ∧ SS (arrOf st5) lo n ∧ (n = nrem ∨ K (arrOf st5) (lo + n) < K (arrOf st5) (lo + n - 1))) ?astep ?afin ⟨rfl, rfl, hs5⟩) ?apost)
      case afin =>
       rintro c st'' ⟨rfl, rfl, hs⟩
       exact ⟨rfl, _, rfl, by omega, by omega, hs, .inl (by omega)⟩
      case astep =>
       rintro x c st'' hx1 hx2 ⟨rfl, rfl, hs⟩
       dsimp only
       refine wpS_bind (ltAt_ok k5 ik5 (by omega) (by omega) ?_)
       by_cases less : K (arrOf st5) (lo + x) < K (arrOf st5) (lo + x - 1)
       ·simp only [less, decide_true, if_true]
        exact wpS_pure ⟨rfl, x, rfl, by omega, by omega, hs, .inr less⟩
       ·simp only [less, decide_false, Bool.false_eq_true, if_false]
        exact wpS_pure ⟨rfl, rfl, hs.snoc (by omega) less⟩
      case apost =>
       rintro c st'' ⟨rfl, n2, rfl, a1, a2, a3, a4⟩
       exact wpS_pure (h n2 _ f5 (by omega) a2 a3)
  ·rw [if_neg gt]
   have e1 : n = 1 := by omega
   subst e1
   have ni1 : NI (arrOf st) lo (1 + 1) := fun a b h1 h2 h3 => by
    by_cases z : a = b
    ·subst z; exact Int.le_refl _
    ·have : a = lo := by omega
     have : b = lo + 1 := by omega
     subst a b
     rw [show lo + 1 - 1 = lo by omega] at hlt
     omega
   have f1 := Fine.refl st lo (lo + nrem)
   refine wpS_bind (wpS_lift (wpAny_rule ⟨rfl, ?_⟩))
   refine wpS_bind (wpS_mono (wpS_forRange (I := fun x c st' => ∃ neq, c = (none, x, neq) ∧ Fine st st' lo (lo + nrem) ∧ NI (arrOf st') lo x ∧ neq + 1 ≤ x ∧ ∀ i, lo + x - (neq + 1) ≤ i → i < lo + x → K (arrOf st') i = K (arrOf st') (lo + x - 1))
    (Q := fun c st' => ∃ m neq, c = (none, m, neq) ∧ 1 + 1 ≤ m ∧ m ≤ nrem ∧ Fine st st' lo (lo + nrem) ∧ NI (arrOf st') lo m ∧ neq + 1 ≤ m ∧ ∀ i, lo + m - (neq + 1) ≤ i → i < lo + m → K (arrOf st') i = K (arrOf st') (lo + m - 1)) ?dstep ?dfin ⟨0, rfl, f1, ni1, by omega, fun i h1 h2 => by congr 1; omega⟩) ?dpost)
   case dfin =>
    rintro c st' ⟨neq, rfl, d1, d2, d3, d4⟩
    rw [show max (1 + 1) nrem = nrem by omega] at d2 d3 d4 ⊢
    exact ⟨_, neq, rfl, by omega, by omega, d1, d2, d3, d4⟩
   case dstep =>
    rintro x c st' hx1 hx2 ⟨neq, rfl, d1, d2, d3, d4⟩
    dsimp only
    have sz' := d1.size
    refine wpS_bind (ltAt_ok (d1.kind.trans hk) (ik.perm d1.perm) (by omega) (by omega) ?_)
    by_cases less : K (arrOf st') (lo + x) < K (arrOf st') (lo + x - 1)
    ·simp only [less, decide_true, if_true]
     have step1 : ∀ xs : Array Keyed, (∀ k, K xs k = K (arrOf st') k) → NI xs lo (x + 1) := fun xs hxs a b h1 h2 h3 => by
      rw [hxs, hxs]
      by_cases z : b < lo + x
      ·exact d2 a b h1 h2 z
      ·have e : b = lo + x := by omega
       subst e
       by_cases z2 : a = lo + x
       ·subst z2; exact Int.le_refl _
       ·have := d2 a (lo + x - 1) h1 (by omega) (by omega)
        omega
     by_cases q : neq > 0
     ·rw [if_pos q]
      refine wpS_bind (wpS_reverse (wpS_pure ⟨0, rfl, d1.mir (by omega) (by omega) hn, step1 _ (fun k => ?_), by omega, fun i h1 h2 => by congr 1; omega⟩))
      show K (mirror (arrOf st') (lo + x - (neq + 1)) (lo + x) ((lo + x - (lo + x - (neq + 1))) / 2)) k = _
      exact K_mirror_equal (by omega) (fun k h1 h2 => d4 k h1 h2) k
     ·rw [if_neg q]
      exact wpS_pure ⟨0, rfl, d1, step1 _ (fun _ => rfl), by omega, fun i h1 h2 => by congr 1; omega⟩
    ·simp only [less, decide_false, Bool.false_eq_true, if_false]
     refine wpS_bind (ltAt_ok (d1.kind.trans hk) (ik.perm d1.perm) (by omega) (by omega) ?_)
     by_cases larger : K (arrOf st') (lo + x - 1) < K (arrOf st') (lo + x)
     ·simp only [larger, decide_true, if_true]
      exact wpS_pure ⟨x, neq, rfl, by omega, by omega, d1, d2, d3, d4⟩
     ·simp only [larger, decide_false, Bool.false_eq_true, if_false]
      have eqx : K (arrOf st') (lo + x) = K (arrOf st') (lo + x - 1) := by omega
      refine wpS_pure ⟨neq + 1, rfl, d1, fun a b h1 h2 h3 => ?_, by omega, fun i h1 h2 => ?_⟩
      ·by_cases z : b < lo + x
       ·exact d2 a b h1 h2 z
       ·have e : b = lo + x := by omega
        subst e
        by_cases z2 : a = lo + x
        ·subst z2; exact Int.le_refl _
        ·rw [eqx]; exact d2 a (lo + x - 1) h1 (by omega) (by omega)
      ·rw [show lo + (x + 1) - 1 = lo + x by omega]
       by_cases z : i = lo + x
       ·subst z; rfl
       ·rw [eqx]; exact d4 i (by omega) (by omega)
   case dpost =>
    rintro c st' ⟨m, neq, rfl, m1, m2, d1, d2, d3, d4⟩
    dsimp only
    by_cases q : neq > 0
    ·rw [if_pos q]
     refine wpS_bind (wpS_reverse ?_)
     have d1' := d1.mir (i := lo + m - (neq + 1)) (j := lo + m) (by omega) (by omega) hn
     have sz' := d1.size
     obtain ⟨st4, est4⟩ : ∃ z, z = setArr st' (mirror (arrOf st') (lo + m - (neq + 1)) (lo + m) ((lo + m - (lo + m - (neq + 1))) / 2)) := ⟨_, rfl⟩
     have ni4 : NI (arrOf st4) lo m := fun a b h1 h2 h3 => by
      rw [est4]
      show K (mirror (arrOf st') (lo + m - (neq + 1)) (lo + m) ((lo + m - (lo + m - (neq + 1))) / 2)) b ≤ K (mirror (arrOf st') (lo + m - (neq + 1)) (lo + m) ((lo + m - (lo + m - (neq + 1))) / 2)) a
      rw [K_mirror_equal (by omega) (fun k h1 h2 => d4 k h1 h2), K_mirror_equal (by omega) (fun k h1 h2 => d4 k h1 h2)]
      exact d2 a b h1 h2 h3
     rw [← est4] at d1' ⊢
     refine wpS_bind (wpS_reverse ?_)
     have f5 := (d1').mir (i := lo) (j := lo + m) (Nat.le_refl _) (by omega) hn
     obtain ⟨st5, est5⟩ : ∃ z, z = setArr st4 (mirror (arrOf st4) lo (lo + m) ((lo + m - lo) / 2)) := ⟨_, rfl⟩
     rw [← est5] at f5 ⊢
     have hs5 : SS (arrOf st5) lo m := fun a b h1 h2 h3 => by
      rw [est5]
      show K (mirror (arrOf st4) lo (lo + m) ((lo + m - lo) / 2)) a ≤ K (mirror (arrOf st4) lo (lo + m) ((lo + m - lo) / 2)) b
      have sz4 : lo + m ≤ (arrOf st4).size := by rw [(d1').size]; omega
      rw [K_mirror sz4, K_mirror sz4, if_pos (by omega), if_pos (by omega)]
      exact ni4 _ _ (by omega) (by omega) (by omega)
     have k5 : kindOf st5 = oneType' := f5.kind.trans hk
     have ik5 := ik.perm f5.perm
     have sz5 := f5.size
     refine wpS_bind (wpS_mono (wpS_forRange (I := fun x c st'' => st5 = st'' ∧ c = (none, x) ∧ SS (arrOf st5) lo x)
    (Q := fun c st'' => st5 = st'' ∧ ∃ n, c = (none, n) ∧ m ≤ n ∧ n ≤ nrem ∧ SS (arrOf st5) lo n ∧ (n = nrem ∨ K (arrOf st5) (lo + n) < K (arrOf st5) (lo + n - 1))) ?astep ?afin ⟨rfl, rfl, hs5⟩) ?apost)
     case afin =>
      rintro c st'' ⟨rfl, rfl, hs⟩
      exact ⟨rfl, _, rfl, by omega, by omega, hs, .inl (by omega)⟩
     case astep =>
      rintro x c st'' hx1 hx2 ⟨rfl, rfl, hs⟩
      dsimp only
      refine wpS_bind (ltAt_ok k5 ik5 (by omega) (by omega) ?_)
      by_cases less : K (arrOf st5) (lo + x) < K (arrOf st5) (lo + x - 1)
      ·simp only [less, decide_true, if_true]
       exact wpS_pure ⟨rfl, x, rfl, by omega, by omega, hs, .inr less⟩
      ·simp only [less, decide_false, Bool.false_eq_true, if_false]
       exact wpS_pure ⟨rfl, rfl, hs.snoc (by omega) less⟩
     case apost =>
      rintro c st'' ⟨rfl, n2, rfl, a1, a2, a3, a4⟩
      exact wpS_pure (h n2 _ f5 (by omega) a2 a3)
    ·rw [if_neg q]
     have ni4 := d2
     refine wpS_bind (wpS_reverse ?_)
     have f5 := (d1).mir (i := lo) (j := lo + m) (Nat.le_refl _) (by omega) hn
     obtain ⟨st5, est5⟩ : ∃ z, z = setArr st' (mirror (arrOf st') lo (lo + m) ((lo + m - lo) / 2)) := ⟨_, rfl⟩
     rw [← est5] at f5 ⊢
     have hs5 : SS (arrOf st5) lo m := fun a b h1 h2 h3 => by
      rw [est5]
      show K (mirror (arrOf st') lo (lo + m) ((lo + m - lo) / 2)) a ≤ K (mirror (arrOf st') lo (lo + m) ((lo + m - lo) / 2)) b
      have sz4 : lo + m ≤ (arrOf st').size := by rw [(d1).size]; omega
      rw [K_mirror sz4, K_mirror sz4, if_pos (by omega), if_pos (by omega)]
      exact ni4 _ _ (by omega) (by omega) (by omega)
     have k5 : kindOf st5 = oneType' := f5.kind.trans hk
     have ik5 := ik.perm f5.perm
     have sz5 := f5.size
     refine wpS_bind (wpS_mono (wpS_forRange (I := fun x c st'' => st5 = st'' ∧ c = (none, x) ∧ SS (arrOf st5) lo x)
    (Q := fun c st'' => st5 = st'' ∧ ∃ n, c = (none, n) ∧ m ≤ n ∧ n ≤ nrem ∧ SS (arrOf st5) lo n ∧ (n = nrem ∨ K (arrOf st5) (lo + n) < K (arrOf st5) (lo + n - 1))) ?astep ?afin ⟨rfl, rfl, hs5⟩) ?apost)
     case afin =>
      rintro c st'' ⟨rfl, rfl, hs⟩
      exact ⟨rfl, _, rfl, by omega, by omega, hs, .inl (by omega)⟩
     case astep =>
      rintro x c st'' hx1 hx2 ⟨rfl, rfl, hs⟩
      dsimp only
      refine wpS_bind (ltAt_ok k5 ik5 (by omega) (by omega) ?_)
      by_cases less : K (arrOf st5) (lo + x) < K (arrOf st5) (lo + x - 1)
      ·simp only [less, decide_true, if_true]
       exact wpS_pure ⟨rfl, x, rfl, by omega, by omega, hs, .inr less⟩
      ·simp only [less, decide_false, Bool.false_eq_true, if_false]
       exact wpS_pure ⟨rfl, rfl, hs.snoc (by omega) less⟩
     case apost =>
      rintro c st'' ⟨rfl, n2, rfl, a1, a2, a3, a4⟩
      exact wpS_pure (h n2 _ f5 (by omega) a2 a3)
end
end TS
namespace TS
open PySem PyProof.Rows
theorem ss_pair {xs : Array Keyed} {i n : Nat} (h : SS xs i n) (hn : i + n ≤ xs.size) : ((xs.toList.drop i).take n).Pairwise Up := by
 rw [List.pairwise_iff_getElem]
 intro a b ha hb lt
 rw [List.length_take, List.length_drop, Array.length_toList] at ha hb
 have := h (i + a) (i + b) (by omega) (by omega) (by omega)
 rw [K_of (getElem?_pos xs (i + a) (by omega)), K_of (getElem?_pos xs (i + b) (by omega))] at this
 show ky _ ≤ ky _
 simp only [List.getElem_take, List.getElem_drop, Array.getElem_toList]
 exact this
theorem pair_ss {xs : Array Keyed} {i n : Nat} (h : ((xs.toList.drop i).take n).Pairwise Up) (hn : i + n ≤ xs.size) : SS xs i n := fun a b h1 h2 h3 => by
 by_cases z : a = b
 ·subst z; exact Int.le_refl _
 rw [List.pairwise_iff_getElem] at h
 have l : ((xs.toList.drop i).take n).length = n := by rw [List.length_take, List.length_drop, Array.length_toList]; omega
 have := h (a - i) (b - i) (by omega) (by omega) (by omega)
 simp only [List.getElem_take, List.getElem_drop, Array.getElem_toList] at this
 have e1 : i + (a - i) = a := by omega
 have e2 : i + (b - i) = b := by omega
 simp only [e1, e2] at this
 rw [K_of (getElem?_pos xs a (by omega)), K_of (getElem?_pos xs b (by omega))]
 exact this
theorem set_all (base : Nat) : ∀ (m : List Keyed) (arr : Array Keyed) (j : Nat), base + j + m.length ≤ arr.size →
  ((m.zipIdx j).foldl (fun a (x : Keyed × Nat) => a.setIfInBounds (base + x.2) x.1) arr).toList = arr.toList.take (base + j) ++ m ++ arr.toList.drop (base + j + m.length)
 | [], arr, j, h => by simp
 | x :: m, arr, j, h => by
  rw [List.length_cons] at h
  rw [List.zipIdx_cons, List.foldl_cons, set_all base m _ (j + 1) (by rw [Array.size_setIfInBounds]; omega)]
  rw [Array.toList_setIfInBounds, List.length_cons]
  have e1 : (arr.toList.set (base + j) x).take (base + (j + 1)) = arr.toList.take (base + j) ++ [x] := by
   rw [show base + (j + 1) = base + j + 1 by omega, List.take_add_one, List.getElem?_set_self (by rw [Array.length_toList]; omega), List.take_set_of_le (Nat.le_refl _)]
   rfl
  have e2 : (arr.toList.set (base + j) x).drop (base + (j + 1) + m.length) = arr.toList.drop (base + j + (m.length + 1)) := by
   rw [List.drop_set_of_lt (by omega)]
   congr 1
   omega
  rw [e1, e2]
  simp
section
variable {prog : Program} {w : World} {A : Around} {E : Value → Shared → Prop} {s : Shared}
theorem wpS_set {σ : Type} {M : Model} {x st : σ} {Q : PUnit → σ → Prop} (h : Q ⟨⟩ x) : wpS M A E s (set x : StateT σ Sem PUnit) Q st := by
 unfold wpS; rw [StateT.run_set]; exact wpAny_pure ⟨rfl, h⟩
theorem binarySort_ok {st : SortSt} {lo n ok : Nat} {Q : Bool → SortSt → Prop} (hk : kindOf st = oneType') (ik : Iks (arrOf st)) (hn : lo + n ≤ (arrOf st).size) (hok : ok ≤ n) (hs : SS (arrOf st) lo ok)
  (h : ∀ st', Fine st st' lo (lo + n) → SS (arrOf st') lo n → Q true st') : wpS (model prog w) A E s (binarySort' lo n ok) Q st := by
 refine wpS_bind (wpS_mono (wpS_forRange (I := fun k c st' => c = (none, ()) ∧ Fine st st' lo (lo + n) ∧ SS (arrOf st') lo (min k n))
  (Q := fun c st' => c = (none, ()) ∧ Fine st st' lo (lo + n) ∧ SS (arrOf st') lo n) ?step ?fin ⟨rfl, Fine.refl _ _ _, ?init⟩) ?post)
 case post =>
  rintro c st' ⟨rfl, f, hs'⟩
  exact wpS_pure (h st' f hs')
 case init =>
  by_cases z : ok = 0
  ·intro a b h1 h2 h3
   have : a = b := by omega
   subst this; exact Int.le_refl _
  ·intro a b h1 h2 h3
   exact hs a b h1 h2 (by omega)
 case fin =>
  rintro c st' ⟨hc, f, hs'⟩
  refine ⟨hc, f, ?_⟩
  rwa [show min (max (max ok 1) n) n = n by omega] at hs'
 case step =>
  rintro k c st' k1 k2 ⟨rfl, f, hs'⟩
  rw [show min k n = k by omega] at hs'
  have sz := f.size
  dsimp only
  refine wpS_bind (wpS_mono (wpS_forRange (I := fun x c st'' => st' = st'' ∧ ∃ l r, c = (none, l, r) ∧ l ≤ r ∧ r ≤ k ∧ r - l ≤ k - x ∧ (∀ i, i < l → K (arrOf st') (lo + i) ≤ K (arrOf st') (lo + k)) ∧ (∀ i, r ≤ i → i < k → K (arrOf st') (lo + k) < K (arrOf st') (lo + i)))
   (Q := fun c st'' => st' = st'' ∧ ∃ l r, c = (none, l, r) ∧ l ≤ k ∧ (∀ i, i < l → K (arrOf st') (lo + i) ≤ K (arrOf st') (lo + k)) ∧ (∀ i, l ≤ i → i < k → K (arrOf st') (lo + k) < K (arrOf st') (lo + i))) ?istep ?ifin ⟨rfl, 0, k, rfl, by omega, by omega, by omega, fun i hi => by omega, fun i h1 h2 => by omega⟩) ?ipost)
  case ifin =>
   rintro c st'' ⟨rfl, l, r, rfl, a1, a2, a3, a4, a5⟩
   have : l = r := by omega
   subst this
   exact ⟨rfl, l, l, rfl, a2, a4, a5⟩
  case istep =>
   rintro x c st'' _ hx ⟨rfl, l, r, rfl, a1, a2, a3, a4, a5⟩
   dsimp only
   by_cases ge : l ≥ r
   ·rw [if_pos ge]
    have : l = r := by omega
    subst this
    exact wpS_pure ⟨rfl, l, l, rfl, a2, a4, a5⟩
   ·rw [if_neg ge]
    refine wpS_bind (ltAt_ok (f.kind.trans hk) (ik.perm f.perm) (by omega) (by omega) ?_)
    by_cases less : K (arrOf st') (lo + k) < K (arrOf st') (lo + (l + r) / 2)
    ·simp only [less, decide_true, if_true]
     refine wpS_pure ⟨rfl, l, (l + r) / 2, rfl, by omega, by omega, by omega, a4, fun i h1 h2 => ?_⟩
     have := hs' (lo + (l + r) / 2) (lo + i) (by omega) (by omega) (by omega)
     omega
    ·simp only [less, decide_false, Bool.false_eq_true, if_false]
     refine wpS_pure ⟨rfl, (l + r) / 2 + 1, r, rfl, by omega, by omega, by omega, fun i h1 => ?_, a5⟩
     have := hs' (lo + i) (lo + (l + r) / 2) (by omega) (by omega) (by omega)
     omega
  case ipost =>
   rintro c st'' ⟨rfl, l, r, rfl, lk, a4, a5⟩
   dsimp only
   refine wpS_bind (wpS_modify (wpS_pure ⟨rfl, ?_, ?_⟩))
   ·refine ⟨f.kind, f.fail, f.pend, (bubble_perm _ _ _).trans f.perm, fun q hq => ?_⟩
    show (bubble (arrOf st') (lo + k) (lo + k - (lo + l)))[q]? = _
    rw [getElem?_bubble (by omega) _ (by omega), if_neg (by omega), if_neg (by omega)]
    exact f.out q hq
   ·rw [show min (k + 1) n = k + 1 by omega]
    have hks : lo + k < (arrOf st').size := by omega
    intro a b h1 h2 h3
    show K (bubble (arrOf st') (lo + k) (lo + k - (lo + l))) a ≤ K (bubble (arrOf st') (lo + k) (lo + k - (lo + l))) b
    rw [K_bubble hks (by omega), K_bubble hks (by omega), show lo + k - (lo + k - (lo + l)) = lo + l by omega]
    have a4' : ∀ q, lo ≤ q → q < lo + l → K (arrOf st') q ≤ K (arrOf st') (lo + k) := fun q q1 q2 => by
     have := a4 (q - lo) (by omega)
     rwa [show lo + (q - lo) = q by omega] at this
    have a5' : ∀ q, lo + l ≤ q → q < lo + k → K (arrOf st') (lo + k) < K (arrOf st') q := fun q q1 q2 => by
     have := a5 (q - lo) (by omega) (by omega)
     rwa [show lo + (q - lo) = q by omega] at this
    repeat' split
    all_goals first
     | (exfalso; omega)
     | exact Int.le_refl _
     | exact a4' _ (by omega) (by omega)
     | exact Int.le_of_lt (a5' _ (by omega) (by omega))
     | exact hs' _ _ (by omega) (by omega) (by omega)
end
end TS
namespace TS
open PySem PyProof.Rows
structure Joined (st st' : SortSt) (i sa n pw : Nat) : Prop where
 kind : kindOf st' = kindOf st
 fail : failedOf st' = failedOf st
 pend : pendingOf st' = ((pendingOf st).setIfInBounds i (sa, n, pw)).eraseIdxIfInBounds (i + 1)
 perm : (arrOf st').Perm (arrOf st)
 out : ∀ k, k < sa ∨ sa + n ≤ k → (arrOf st')[k]? = (arrOf st)[k]?
 srt : SS (arrOf st') sa n
section
variable {prog : Program} {w : World} {A : Around} {E : Value → Shared → Prop} {s : Shared}
theorem mergeAt_ok {st : SortSt} {i sa na pw sb nb pw2 : Nat} {Q : Bool → SortSt → Prop} (hk : kindOf st = oneType') (ik : Iks (arrOf st)) (hf : failedOf st = none) (h1 : (pendingOf st)[i]? = some (sa, na, pw)) (h2 : (pendingOf st)[i + 1]? = some (sb, nb, pw2))
  (e : sb = sa + na) (hn : sb + nb ≤ (arrOf st).size) (na1 : 1 ≤ na) (nb1 : 1 ≤ nb) (s1 : SS (arrOf st) sa na) (s2 : SS (arrOf st) sb nb)
  (h : ∀ st', Joined st st' i sa (na + nb) pw → Q true st') : wpS (model prog w) A E s (mergeAt' i) Q st := by
 refine wpS_bind (wpS_get ?_)
 simp only [h1, h2]
 refine wpS_bind (wpS_set ?_)
 have pa := ss_pair s1 (by omega)
 have pb := ss_pair s2 hn
 have key := getElem?_pos (arrOf st) sb (by omega)
 have ikey := ik _ (show (arrOf st)[sb] ∈ (arrOf st).toList by simp)
 refine wpS_bind (elem_ok key ?_)
 have bfirst : ∀ v ∈ ((arrOf st).toList.drop sb).take nb, ky (arrOf st)[sb] ≤ ky v := fun v hv => by
  obtain ⟨j, hj⟩ := List.mem_iff_getElem?.mp hv
  have jl := (List.getElem?_eq_some_iff.mp hj).1
  rw [List.length_take] at jl
  rw [List.getElem?_take, if_pos (by omega), List.getElem?_drop, Array.getElem?_toList] at hj
  have := s2 sb (sb + j) (Nat.le_refl _) (by omega) (by omega)
  rw [K_of key, K_of hj] at this
  exact this
 refine wpS_bind (gallop_seg hk ikey (by show sa + na ≤ (arrOf st).size; omega) (by omega) ik pa fun k kn g1 g2 => ?_)
 dsimp only
 obtain ⟨L, hL⟩ : ∃ L, L = (arrOf st).toList := ⟨_, rfl⟩
 have Ll : L.length = (arrOf st).size := by rw [hL]; simp
 rw [← hL] at pa pb g1 g2 bfirst
 have eA : (L.drop sa).take na = (L.drop sa).take k ++ ((L.drop sa).take na).drop k := by
  have : (L.drop sa).take k = ((L.drop sa).take na).take k := by rw [List.take_take]; congr 1; omega
  rw [this, List.take_append_drop]
 have eL : L = L.take sa ++ ((L.drop sa).take na ++ ((L.drop sb).take nb ++ L.drop (sb + nb))) := by
  have x1 : L.drop sb = (L.drop sb).take nb ++ L.drop (sb + nb) := by rw [← List.drop_drop, List.take_append_drop]
  have x2 : L.drop sa = (L.drop sa).take na ++ L.drop sb := by rw [e, ← List.drop_drop, List.take_append_drop]
  rw [← x1, ← x2, List.take_append_drop]
 have lA1 : ((L.drop sa).take k).length = k := by rw [List.length_take, List.length_drop]; omega
 have lA2 : (((L.drop sa).take na).drop k).length = na - k := by rw [List.length_drop, List.length_take, List.length_drop]; omega
 have lP : (L.take sa).length = sa := by rw [List.length_take]; omega
 have lA : ((L.drop sa).take na).length = na := by rw [List.length_take, List.length_drop]; omega
 have lB : ((L.drop sb).take nb).length = nb := by rw [List.length_take, List.length_drop]; omega
 have stay : (∀ x ∈ (L.drop sa).take na, ∀ y ∈ (L.drop sb).take nb, ky x ≤ ky y) → SS (arrOf st) sa (na + nb) := fun hle => by
  refine pair_ss ?_ (by omega)
  rw [← hL]
  have : (L.drop sa).take (na + nb) = (L.drop sa).take na ++ (L.drop sb).take nb := by rw [List.take_add, List.drop_drop, e]
  rw [this]
  exact List.pairwise_append.mpr ⟨pa, pb, hle⟩
 by_cases z1 : na - k = 0
 ·rw [if_pos (by simpa using z1)]
  have ek : k = na := by omega
  subst ek
  exact wpS_pure (h _ ⟨rfl, rfl, rfl, Array.Perm.refl _, fun _ _ => rfl, stay fun x hx y hy => Int.le_trans (bey_r (g1 x hx)) (bfirst y hy)⟩)
 rw [if_neg (by simpa using z1)]
 have lkey := getElem?_pos (arrOf st) (sa + k + (na - k) - 1) (by omega)
 have ilkey := ik _ (show (arrOf st)[sa + k + (na - k) - 1] ∈ (arrOf st).toList by simp)
 refine wpS_bind (elem_ok lkey ?_)
 have alast : ∀ v ∈ (L.drop sa).take na, ky v ≤ ky (arrOf st)[sa + k + (na - k) - 1] := fun v hv => by
  obtain ⟨j, hj⟩ := List.mem_iff_getElem?.mp hv
  have jl := (List.getElem?_eq_some_iff.mp hj).1
  rw [lA] at jl
  rw [List.getElem?_take, if_pos jl, List.getElem?_drop, hL, Array.getElem?_toList] at hj
  have := s1 (sa + j) (sa + k + (na - k) - 1) (by omega) (by omega) (by omega)
  rw [K_of lkey, K_of hj] at this
  exact this
 refine wpS_bind (gallop_seg hk ilkey (by omega) (by omega) ik (by rw [← hL]; exact pb) fun m mn l1 l2 => ?_)
 rw [← hL] at l1 l2
 dsimp only
 by_cases z2 : m = 0
 ·rw [if_pos (by simpa using z2)]
  subst z2
  rw [List.drop_zero] at l2
  exact wpS_pure (h _ ⟨rfl, rfl, rfl, Array.Perm.refl _, fun _ _ => rfl, stay fun x hx y hy => Int.le_trans (alast x hx) (bey_l' (l2 y hy))⟩)
 rw [if_neg (by simpa using z2)]
 have eB : (L.drop sb).take nb = (L.drop sb).take m ++ ((L.drop sb).take nb).drop m := by
  have : (L.drop sb).take m = ((L.drop sb).take nb).take m := by rw [List.take_take]; congr 1; omega
  rw [this, List.take_append_drop]
 have lB1 : ((L.drop sb).take m).length = m := by rw [List.length_take, List.length_drop]; omega
 obtain ⟨A1, hA1⟩ : ∃ z, z = (L.drop sa).take k := ⟨_, rfl⟩
 obtain ⟨A2, hA2⟩ : ∃ z, z = ((L.drop sa).take na).drop k := ⟨_, rfl⟩
 obtain ⟨B1, hB1⟩ : ∃ z, z = (L.drop sb).take m := ⟨_, rfl⟩
 obtain ⟨B2, hB2⟩ : ∃ z, z = ((L.drop sb).take nb).drop m := ⟨_, rfl⟩
 have ex : ((arrOf st).extract (sa + k) sb).toList = A2 := by
  rw [Array.toList_extract, List.extract_eq_take_drop, ← hL, hA2, List.drop_take, List.drop_drop]
  congr 1
  omega
 have ey : ((arrOf st).extract sb (sb + m)).toList = B1 := by rw [ext_seg, ← hL, hB1]
 rw [← hA1] at g1 lA1
 rw [← hA2] at g2 lA2
 rw [← hB1] at l1 lB1
 rw [← hB2] at l2
 rw [eA, ← hA1, ← hA2] at pa alast eL
 rw [eB, ← hB1, ← hB2] at pb bfirst eL
 have pA := List.pairwise_append.mp pa
 have pB := List.pairwise_append.mp pb
 have ikx : ∀ x ∈ ((arrOf st).extract (sa + k) sb).toList, IK x := fun x hx => ik x (by rw [← hL, eL]; rw [ex] at hx; simp [hx])
 have iky : ∀ x ∈ ((arrOf st).extract sb (sb + m)).toList, IK x := fun x hx => ik x (by rw [← hL, eL]; rw [ey] at hx; simp [hx])
 have szx : ((arrOf st).extract (sa + k) sb).size = na - k := by rw [← Array.length_toList, ex]; exact lA2
 have szy : ((arrOf st).extract sb (sb + m)).size = m := by rw [← Array.length_toList, ey]; exact lB1
 have bfa : ∀ y ∈ A2, ky (arrOf st)[sb] ≤ ky y := fun y hy => bey_r' (g2 y hy)
 have fin : ∀ (r : Array Keyed) (st2 : SortSt), Eqv (SortSt.mk' (kindOf st) (arrOf st) (((pendingOf st).setIfInBounds i (sa, na + nb, pw)).eraseIdxIfInBounds (i + 1)) (gallopOf st) (failedOf st)) st2 → Good ((arrOf st).extract (sa + k) sb) ((arrOf st).extract sb (sb + m)) r →
   ∀ st3 : SortSt, kindOf st3 = kindOf st2 → failedOf st3 = failedOf st2 → pendingOf st3 = pendingOf st2 → (arrOf st3).toList = (arrOf st2).toList.take (sa + k + 0) ++ r.toList ++ (arrOf st2).toList.drop (sa + k + 0 + r.toList.length) → Joined st st3 i sa (na + nb) pw := fun r st2 q g st3 k3 f3 p3 a3 => by
  obtain ⟨g1', g2'⟩ := g
  rw [ex, ey] at g1'
  have rl : r.toList.length = na - k + m := by rw [g1'.length_eq, List.length_append, lA2, lB1]
  have arr2 : arrOf st2 = arrOf st := q.arr
  rw [arr2, ← hL, rl, Nat.add_zero] at a3
  have t1 : L.take (sa + k) = L.take sa ++ A1 := by rw [List.take_add, ← hA1]
  have t2 : L.drop (sa + k + (na - k + m)) = B2 ++ L.drop (sb + nb) := by
   rw [show sa + k + (na - k + m) = sb + m by omega, ← List.drop_drop]
   have : L.drop sb = (B1 ++ B2) ++ L.drop (sb + nb) := by
    rw [hB1, hB2, ← eB, ← List.drop_drop, List.take_append_drop]
   rw [this, List.append_assoc, List.drop_left' lB1]
  rw [t1, t2] at a3
  have pmL : (arrOf st3).toList.Perm L := by
   rw [a3]
   conv => rhs; rw [eL]
   have := (g1'.append_left A1).append_right (B2 ++ L.drop (sb + nb))
   have := this.append_left (L.take sa)
   simpa [List.append_assoc] using this
  have sz3 : (arrOf st3).size = (arrOf st).size := by
   have := pmL.length_eq
   rw [Array.length_toList] at this
   omega
  refine ⟨k3.trans q.kind, f3.trans q.fail, p3.trans q.pend, Array.perm_iff_toList_perm.mpr (by rw [← hL]; exact pmL), fun j hj => ?_, ?_⟩
  ·rw [← Array.getElem?_toList, ← Array.getElem?_toList, ← hL, a3]
   rcases hj with hj | hj
   ·rw [List.append_assoc, List.append_assoc, List.getElem?_append_left (by omega)]
    conv => rhs; rw [eL]
    rw [List.getElem?_append_left (by omega)]
   ·conv => rhs; rw [eL]
    have lB2 : B2.length = nb - m := by rw [hB2, List.length_drop, lB]
    rw [← List.append_assoc (L.take sa ++ A1 ++ r.toList), List.getElem?_append_right (by simp only [List.length_append]; omega)]
    rw [show L.take sa ++ (A1 ++ A2 ++ (B1 ++ B2 ++ L.drop (sb + nb))) = (L.take sa ++ A1 ++ A2 ++ B1 ++ B2) ++ L.drop (sb + nb) by simp only [List.append_assoc], List.getElem?_append_right (by simp only [List.length_append]; omega)]
    congr 1
    simp only [List.length_append]
    omega
  ·refine pair_ss ?_ (by omega)
   have lB2 : B2.length = nb - m := by rw [hB2, List.length_drop, lB]
   have : ((arrOf st3).toList.drop sa).take (na + nb) = A1 ++ r.toList ++ B2 := by
    rw [a3, show L.take sa ++ A1 ++ r.toList ++ (B2 ++ L.drop (sb + nb)) = L.take sa ++ ((A1 ++ r.toList ++ B2) ++ L.drop (sb + nb)) by simp only [List.append_assoc], List.drop_left' lP, List.take_left' (by simp only [List.length_append]; omega)]
   rw [this]
   refine List.pairwise_append.mpr ⟨List.pairwise_append.mpr ⟨pA.1, g2', fun x hx y hy => ?_⟩, pB.2.1, fun x hx y hy => ?_⟩
   ·rcases List.mem_append.mp (g1'.mem_iff.mp hy) with z | z
    ·exact pA.2.2 x hx y z
    ·exact Int.le_trans (bey_r (g1 x hx)) (bfirst y (List.mem_append_left _ z))
   ·have ylast : ky (arrOf st)[sa + k + (na - k) - 1] ≤ ky y := bey_l' (l2 y hy)
    rcases List.mem_append.mp hx with z | z
    ·exact Int.le_trans (alast x (List.mem_append_left _ z)) ylast
    ·rcases List.mem_append.mp (g1'.mem_iff.mp z) with z | z
     ·exact Int.le_trans (alast x (List.mem_append_right _ z)) ylast
     ·exact pB.2.2 x z y hy
 have after : ∀ (r : Array Keyed) (st2 : SortSt), Eqv (SortSt.mk' (kindOf st) (arrOf st) (((pendingOf st).setIfInBounds i (sa, na + nb, pw)).eraseIdxIfInBounds (i + 1)) (gallopOf st) (failedOf st)) st2 → Good ((arrOf st).extract (sa + k) sb) ((arrOf st).extract sb (sb + m)) r →
   Joined st (setArr st2 (r.toList.zipIdx.foldl (fun a (x : Keyed × Nat) => a.setIfInBounds (sa + k + x.2) x.1) (arrOf st2))) i sa (na + nb) pw := fun r st2 q g => by
  refine fin r st2 q g _ rfl rfl rfl ?_
  show (r.toList.zipIdx.foldl (fun a (x : Keyed × Nat) => a.setIfInBounds (sa + k + x.2) x.1) (arrOf st2)).toList = _
  refine set_all (sa + k) r.toList (arrOf st2) 0 ?_
  have := g.1.length_eq
  rw [ex, ey, List.length_append, lA2, lB1] at this
  rw [q.arr]
  show _ ≤ (arrOf st).size
  omega
 have firstx : ∀ x, ((arrOf st).extract sb (sb + m))[0]? = some x → x = (arrOf st)[sb] := fun x hx => by
  rw [← Array.getElem?_toList, ext_seg, List.getElem?_take, if_pos (by omega), List.getElem?_drop, Array.getElem?_toList, Nat.add_zero, key] at hx
  exact (Option.some.inj hx).symm
 have lastx : ∀ i x, i + 1 = na - k → ((arrOf st).extract (sa + k) sb)[i]? = some x → x = (arrOf st)[sa + k + (na - k) - 1] := fun i x hi hx => by
  rw [← Array.getElem?_toList, Array.toList_extract, List.extract_eq_take_drop, List.getElem?_take, if_pos (by omega), List.getElem?_drop, Array.getElem?_toList, show sa + k + i = sa + k + (na - k) - 1 by omega, lkey] at hx
  exact (Option.some.inj hx).symm
 have fn : failedOf st = none := hf
 by_cases le : na - k ≤ m
 ·rw [if_pos le]
  refine wpS_bind (mergeLo_ok hk ikx iky (by rw [ex]; exact pA.2.1) (by rw [ey]; exact pB.1) (by show 1 ≤ ((arrOf st).extract (sa + k) sb).size; omega) (by show 1 ≤ ((arrOf st).extract sb (sb + m)).size; omega) (fun x hx y hy => ?_) (fun u hu j hj v hv => ?_) fun r st2 q g => ?_)
  ·rw [firstx x hx]
   rw [ex] at hy
   exact bfa y hy
  ·rw [ey] at hu
   rw [szx] at hj
   obtain ⟨x, hx, exx, _⟩ := drop_at (a := (arrOf st).extract (sa + k) sb) (i := j) (by omega)
   rw [exx, List.drop_of_length_le (by rw [Array.length_toList]; omega), List.mem_singleton] at hv
   rw [hv, lastx j x hj hx]
   exact bey_l (l1 u hu)
  ·refine wpS_bind (wpS_modify (wpS_bind (wpS_get (wpS_pure ?_))))
   have j := after r st2 q g
   have : (failedOf (setArr st2 (r.toList.zipIdx.foldl (fun a (x : Keyed × Nat) => a.setIfInBounds (sa + k + x.2) x.1) (arrOf st2)))).isNone = true := by rw [j.fail, fn]; rfl
   have q2 := h _ j
   rw [← this] at q2
   exact q2
 ·rw [if_neg le]
  refine wpS_bind (mergeHi_ok hk ikx iky (by rw [ex]; exact pA.2.1) (by rw [ey]; exact pB.1) (by show 1 ≤ ((arrOf st).extract (sa + k) sb).size; omega) (by show 1 ≤ ((arrOf st).extract sb (sb + m)).size; omega) (fun u hu v hv => ?_) (fun x hx y hy => ?_) fun r st2 q g => ?_)
  ·obtain ⟨x, hx, exx, _⟩ := drop_at (a := (arrOf st).extract sb (sb + m)) (i := 0) (by omega)
   rw [List.drop_zero] at exx
   rw [exx, List.take_succ_cons, List.take_zero, List.mem_singleton] at hv
   rw [hv, firstx x hx]
   rw [ex] at hu
   exact bfa u hu
  ·rw [szx] at hx
   rw [lastx _ x (by omega) hx]
   rw [ey] at hy
   exact bey_l (l1 y hy)
  ·refine wpS_bind (wpS_modify (wpS_bind (wpS_get (wpS_pure ?_))))
   have j := after r st2 q g
   have : (failedOf (setArr st2 (r.toList.zipIdx.foldl (fun a (x : Keyed × Nat) => a.setIfInBounds (sa + k + x.2) x.1) (arrOf st2)))).isNone = true := by rw [j.fail, fn]; rfl
   have q2 := h _ j
   rw [← this] at q2
   exact q2
end
end TS
namespace TS
open PySem PyProof.Rows
theorem ite_small {c : Prop} [Decidable c] {p : Nat} (h : 2 ≤ p) : (if c then p - 2 - 1 else p - 2) + 1 < p := by split <;> omega
noncomputable def Cont : Nat → List (Nat × Nat) → Nat → Prop
 | lo, [], hi => lo = hi
 | lo, x :: r, hi => x.1 = lo ∧ 1 ≤ x.2 ∧ Cont (lo + x.2) r hi
theorem Cont.app : ∀ {l1 l2 : List (Nat × Nat)} {lo hi : Nat}, Cont lo (l1 ++ l2) hi ↔ ∃ m, Cont lo l1 m ∧ Cont m l2 hi
 | [], l2, lo, hi => ⟨fun h => ⟨lo, rfl, h⟩, fun ⟨m, h1, h2⟩ => by cases h1; exact h2⟩
 | x :: l1, l2, lo, hi => by
  constructor
  ·rintro ⟨h1, h2, h3⟩
   obtain ⟨m, a, b⟩ := Cont.app.mp h3
   exact ⟨m, ⟨h1, h2, a⟩, b⟩
  ·rintro ⟨m, ⟨h1, h2, h3⟩, h4⟩
   exact ⟨h1, h2, Cont.app.mpr ⟨m, h3, h4⟩⟩
theorem Cont.mem : ∀ {l : List (Nat × Nat)} {lo hi : Nat}, Cont lo l hi → lo ≤ hi ∧ ∀ x ∈ l, lo ≤ x.1 ∧ x.1 + x.2 ≤ hi
 | [], lo, hi, h => ⟨Nat.le_of_eq h, by simp⟩
 | x :: l, lo, hi, ⟨h1, h2, h3⟩ => by
  obtain ⟨a, b⟩ := Cont.mem h3
  refine ⟨by omega, fun y hy => ?_⟩
  rcases List.mem_cons.mp hy with rfl | z
  ·omega
  ·have := b y z
   omega
theorem Cont.len : ∀ {l : List (Nat × Nat)} {lo hi : Nat}, Cont lo l hi → lo + l.length ≤ hi
 | [], lo, hi, h => Nat.le_of_eq h
 | x :: l, lo, hi, ⟨h1, h2, h3⟩ => by
  have := Cont.len h3
  rw [List.length_cons]
  omega
theorem SS.congr {xs ys : Array Keyed} {i n : Nat} (h : SS xs i n) (e : ∀ k, i ≤ k → k < i + n → ys[k]? = xs[k]?) : SS ys i n := fun a b h1 h2 h3 => by
 rw [K_congr (e a h1 (by omega)), K_congr (e b (by omega) h3)]
 exact h a b h1 h2 h3
noncomputable abbrev two (x : Nat × Nat × Nat) : Nat × Nat := (x.1, x.2.1)
noncomputable abbrev prs (st : SortSt) : List (Nat × Nat) := (pendingOf st).toList.map two
structure Stk (a₀ : Array Keyed) (st : SortSt) (hi : Nat) : Prop where
 perm : (arrOf st).Perm a₀
 kind : kindOf st = oneType'
 fail : failedOf st = none
 cont : Cont 0 (prs st) hi
 srt : ∀ x ∈ prs st, SS (arrOf st) x.1 x.2
 le : hi ≤ a₀.size
theorem Stk.size {a₀ : Array Keyed} {st : SortSt} {hi : Nat} (h : Stk a₀ st hi) : (arrOf st).size = a₀.size := h.perm.size_eq
theorem Stk.psize {a₀ : Array Keyed} {st : SortSt} {hi : Nat} (h : Stk a₀ st hi) : (pendingOf st).size ≤ hi := by
 have := h.cont.len
 rw [List.length_map, Array.length_toList] at this
 omega
theorem Stk.fine {a₀ : Array Keyed} {st st' : SortSt} {hi top : Nat} (h : Stk a₀ st hi) (f : Fine st st' hi top) : Stk a₀ st' hi := by
 have ep : prs st' = prs st := by unfold prs; rw [f.pend]
 refine ⟨f.perm.trans h.perm, f.kind.trans h.kind, f.fail.trans h.fail, by rw [ep]; exact h.cont, fun x hx => ?_, h.le⟩
 rw [ep] at hx
 have := (h.cont.mem.2 x hx).2
 exact (h.srt x hx).congr fun k k1 k2 => f.out k (.inl (by omega))
section
variable {prog : Program} {w : World} {A : Around} {E : Value → Shared → Prop} {s : Shared} {a₀ : Array Keyed}
theorem merge_stk {st : SortSt} {hi i : Nat} {Q : Bool → SortSt → Prop} (ik : Iks a₀) (h : Stk a₀ st hi) (hi1 : i + 1 < (pendingOf st).size)
  (q : ∀ st', Stk a₀ st' hi → (pendingOf st').size + 1 = (pendingOf st).size → (∀ k, hi ≤ k → (arrOf st')[k]? = (arrOf st)[k]?) → Q true st') : wpS (model prog w) A E s (mergeAt' i) Q st := by
 have p1 := getElem?_pos (pendingOf st) i (by omega)
 have p2 := getElem?_pos (pendingOf st) (i + 1) hi1
 obtain ⟨⟨sa, na, pw⟩, ex⟩ : ∃ x, (pendingOf st)[i] = x := ⟨_, rfl⟩
 obtain ⟨⟨sb, nb, pw2⟩, ey⟩ : ∃ x, (pendingOf st)[i + 1] = x := ⟨_, rfl⟩
 rw [ex] at p1
 rw [ey] at p2
 have eP : (pendingOf st).toList = (pendingOf st).toList.take i ++ (sa, na, pw) :: (sb, nb, pw2) :: (pendingOf st).toList.drop (i + 2) := by
  have d1 : (pendingOf st).toList.drop i = (sa, na, pw) :: (pendingOf st).toList.drop (i + 1) := by
   rw [List.drop_eq_getElem_cons (by rw [Array.length_toList]; omega), Array.getElem_toList, ex]
  have d2 : (pendingOf st).toList.drop (i + 1) = (sb, nb, pw2) :: (pendingOf st).toList.drop (i + 2) := by
   rw [List.drop_eq_getElem_cons (by rw [Array.length_toList]; omega), Array.getElem_toList, ey]
  rw [← d2, ← d1, List.take_append_drop]
 have c := h.cont
 unfold prs at c
 rw [eP, List.map_append, List.map_cons, List.map_cons] at c
 obtain ⟨m, c1, c2, c3, c4, c5, c6⟩ := Cont.app.mp c
 have c2' : sa = m := c2
 have c3' : 1 ≤ na := c3
 have c4' : sb = m + na := c4
 have c5' : 1 ≤ nb := c5
 have c6' : Cont (m + na + nb) (((pendingOf st).toList.drop (i + 2)).map two) hi := c6
 have top := c6'.mem.1
 have le := h.le
 have sz := h.size
 have mm : ∀ x, x ∈ (pendingOf st).toList.take i ∨ x = (sa, na, pw) ∨ x = (sb, nb, pw2) ∨ x ∈ (pendingOf st).toList.drop (i + 2) → SS (arrOf st) x.1 x.2.1 := fun x hx => by
  refine h.srt (two x) (List.mem_map.mpr ⟨x, ?_, rfl⟩)
  rw [eP]
  rcases hx with z | z | z | z
  ·exact List.mem_append_left _ z
  ·rw [z]; simp
  ·rw [z]; simp
  ·exact List.mem_append_right _ (List.mem_cons_of_mem _ (List.mem_cons_of_mem _ z))
 refine mergeAt_ok h.kind (ik.perm h.perm) h.fail p1 p2 (by omega) (by omega) c3' c5' (mm _ (.inr (.inl rfl))) (mm _ (.inr (.inr (.inl rfl)))) fun st' j => ?_
 have eP' : (pendingOf st').toList = (pendingOf st).toList.take i ++ (sa, na + nb, pw) :: (pendingOf st).toList.drop (i + 2) := by
  rw [j.pend, Array.toList_eraseIdxIfInBounds, Array.toList_setIfInBounds]
  have l1 : ((pendingOf st).toList.take i).length = i := by rw [List.length_take, Array.length_toList]; omega
  conv => lhs; rw [eP]
  rw [List.set_append_right _ _ (by omega), l1, Nat.sub_self, List.set_cons_zero, List.eraseIdx_append_of_length_le (by omega), l1, show i + 1 - i = 1 by omega]
  rfl
 have sz' : (pendingOf st').size + 1 = (pendingOf st).size := by
  have a1 := congrArg List.length eP'
  have a2 := congrArg List.length eP
  rw [Array.length_toList, List.length_append, List.length_cons] at a1 a2
  rw [List.length_cons] at a2
  omega
 refine q st' ⟨j.perm.trans h.perm, j.kind.trans h.kind, j.fail.trans h.fail, ?_, fun x hx => ?_, h.le⟩ sz' fun k hk => j.out k (.inr (by omega))
 ·unfold prs
  rw [eP', List.map_append, List.map_cons]
  refine Cont.app.mpr ⟨m, c1, c2', ?_, ?_⟩
  ·show 1 ≤ na + nb
   omega
  ·show Cont (m + (na + nb)) _ _
   rw [← Nat.add_assoc]
   exact c6'
 ·unfold prs at hx
  rw [eP', List.map_append, List.map_cons] at hx
  rcases List.mem_append.mp hx with z | z
  ·obtain ⟨y, hy, rfl⟩ := List.mem_map.mp z
   have := (c1.mem.2 (two y) (List.mem_map.mpr ⟨y, hy, rfl⟩)).2
   exact (mm y (.inl hy)).congr fun k k1 k2 => j.out k (.inl (by show k < sa; have : y.1 + y.2.1 ≤ m := this; omega))
  ·rcases List.mem_cons.mp z with z | z
   ·rw [z]; exact j.srt
   ·obtain ⟨y, hy, rfl⟩ := List.mem_map.mp z
    have := (c6'.mem.2 (two y) (List.mem_map.mpr ⟨y, hy, rfl⟩)).1
    exact (mm y (.inr (.inr (.inr hy)))).congr fun k k1 k2 => j.out k (.inr (by have : m + na + nb ≤ y.1 := this; omega))
theorem Stk.power {st : SortSt} {hi i : Nat} {f : Nat × Nat × Nat → Nat × Nat × Nat} (h : Stk a₀ st hi) (hf : ∀ x, two (f x) = two x) : Stk a₀ (setPending st ((pendingOf st).modify i f)) hi := by
 have ep : prs (setPending st ((pendingOf st).modify i f)) = prs st := by
  show ((pendingOf st).modify i f).toList.map two = (pendingOf st).toList.map two
  rw [Array.toList_modify]
  apply List.ext_getElem?
  intro k
  rw [List.getElem?_map, List.getElem?_map, List.getElem?_modify]
  cases q : (pendingOf st).toList[k]? with
  | none => simp
  | some x =>
   by_cases z : i = k
   ·simp [z, hf]
   ·simp [z]
 exact ⟨h.perm, h.kind, h.fail, by rw [ep]; exact h.cont, fun x hx => by rw [ep] at hx; exact h.srt x hx, h.le⟩
theorem Stk.push {st : SortSt} {lo n : Nat} (h : Stk a₀ st lo) (n1 : 1 ≤ n) (hn : lo + n ≤ a₀.size) (hs : SS (arrOf st) lo n) : Stk a₀ (setPending st ((pendingOf st).push (lo, n, 0))) (lo + n) := by
 have ep : prs (setPending st ((pendingOf st).push (lo, n, 0))) = prs st ++ [(lo, n)] := by
  show ((pendingOf st).push (lo, n, 0)).toList.map two = _
  rw [Array.toList_push, List.map_append]
  rfl
 refine ⟨h.perm, h.kind, h.fail, ?_, fun x hx => ?_, hn⟩
 ·rw [ep]
  exact Cont.app.mpr ⟨lo, h.cont, rfl, n1, rfl⟩
 ·rw [ep] at hx
  rcases List.mem_append.mp hx with z | z
  ·exact h.srt x z
  ·rw [List.mem_singleton.mp z]; exact hs
theorem sortRuns_ok {st : SortSt} {Q : Unit → SortSt → Prop} (ik : Iks a₀) (hB : SBase a₀ st) (h2 : 2 ≤ a₀.size)
  (h : ∀ st', (arrOf st').Perm a₀ → failedOf st' = none → SortedTo (arrOf st') a₀.size → Q () st') : wpS (model prog w) A E s sortRuns' Q st := by
 refine wpS_bind (wpS_get ?_)
 have S0 : Stk a₀ st 0 := ⟨hB.perm, hB.kind, hB.failed, by unfold prs; rw [hB.pend]; rfl, fun x hx => (by unfold prs at hx; rw [hB.pend] at hx; cases hx), by omega⟩
 have hsz : (arrOf st).size = a₀.size := hB.size
 simp only [hsz]
 generalize (sortPriv% PySem.Builtin.minRun) a₀.size a₀.size 0 = mr
 refine wpS_bind (wpS_mono (wpS_forRange (I := fun x c st' => ∃ lo, c = (none, lo) ∧ Stk a₀ st' lo ∧ x ≤ lo)
  (Q := fun c st' => c = (none, a₀.size) ∧ Stk a₀ st' a₀.size) ?step ?fin ⟨0, rfl, S0, Nat.le_refl _⟩) ?post)
 case fin =>
  rintro c st' ⟨lo, rfl, S, x⟩
  have := S.le
  have e : lo = a₀.size := by omega
  subst e
  exact ⟨rfl, S⟩
 case step =>
  rintro x c st1 _ hx ⟨lo, rfl, S1, xl⟩
  dsimp only
  have le := S1.le
  by_cases ge : lo ≥ a₀.size
  ·rw [if_pos ge]
   have e : lo = a₀.size := by omega
   subst e
   exact wpS_pure ⟨rfl, S1⟩
  rw [if_neg ge]
  refine wpS_bind (countRun_ok S1.kind (ik.perm S1.perm) (by rw [S1.size]; omega) (by omega) fun m st2 f2 m1 m2 hs2 => ?_)
  have S2 := S1.fine f2
  dsimp only
  have rest : ∀ (n : Nat) (st3 : SortSt), Stk a₀ st3 lo → 1 ≤ n → lo + n ≤ a₀.size → SS (arrOf st3) lo n → ∀ st4, Stk a₀ st4 lo → SS (arrOf st4) lo n → Stk a₀ (setPending st4 ((pendingOf st4).push (lo, n, 0))) (lo + n) := fun n st3 _ n1 hn _ st4 S4 hs4 => S4.push n1 hn hs4
  by_cases lt : m < mr
  ·rw [if_pos lt]
   refine wpS_bind (wpS_lift (wpAny_rule ⟨rfl, ?_⟩))
   refine wpS_bind (binarySort_ok S2.kind (ik.perm S2.perm) (by rw [S2.size]; omega) (by omega) hs2 fun st3 f3 hs3 => ?_)
   have S3 := S2.fine f3
   simp only [Bool.not_true, Bool.false_eq_true, if_false]
   refine wpS_bind (wpS_get ?_)
   cases hb : (pendingOf st3).back? with
   | none =>
    simp only [hb]
    exact wpS_bind (wpS_modify (wpS_pure ⟨_, rfl, S3.push (by omega) (by omega) hs3, by omega⟩))
   | some t =>
    obtain ⟨s1, n1, p1⟩ := t
    simp only [hb]
    refine wpS_bind (wpS_mono (wpS_forRange (I := fun y c st' => c.1 = none ∧ Stk a₀ st' lo ∧ SS (arrOf st') lo (min (a₀.size - lo) mr)) (Q := fun c st' => c.1 = none ∧ Stk a₀ st' lo ∧ SS (arrOf st') lo (min (a₀.size - lo) mr)) ?_ (fun c st' hh => hh) ⟨rfl, S3, hs3⟩) ?_)
    ·rintro y ⟨_, c⟩ st5 _ _ ⟨e, S5, hs5⟩
     cases e
     refine wpS_bind (wpS_get ?_)
     by_cases g1 : (pendingOf st5).size > 1
     ·rw [if_pos g1, getElem?_pos (pendingOf st5) ((pendingOf st5).size - 2) (by omega)]
      dsimp only
      split
      ·exact wpS_pure ⟨rfl, S5, hs5⟩
      ·refine wpS_bind (merge_stk ik S5 (by show (pendingOf st5).size - 2 + 1 < (pendingOf st5).size; omega) fun st6 S6 _ out6 => ?_)
       simp only [Bool.not_true, Bool.false_eq_true, if_false]
       exact wpS_pure ⟨rfl, S6, hs5.congr fun k k1 k2 => out6 k k1⟩
     ·rw [if_neg g1]
      exact wpS_pure ⟨rfl, S5, hs5⟩
    ·rintro ⟨_, c⟩ st5 ⟨e, S5, hs5⟩
     cases e
     dsimp only
     refine wpS_bind (wpS_modify ?_)
     exact wpS_bind (wpS_modify (wpS_pure ⟨_, rfl, (S5.power (f := fun x => match x with | (st, len, _) => (st, len, power' a₀.size (2 * s1 + n1) (2 * s1 + n1 + n1 + min (a₀.size - lo) mr) a₀.size)) fun x => rfl).push (by omega) (by omega) hs5, by omega⟩))
  ·rw [if_neg lt]
   have hs3 := hs2
   have S3 := S2
   refine wpS_bind (wpS_get ?_)
   cases hb : (pendingOf st2).back? with
   | none =>
    simp only [hb]
    exact wpS_bind (wpS_modify (wpS_pure ⟨_, rfl, S3.push (by omega) (by omega) hs3, by omega⟩))
   | some t =>
    obtain ⟨s1, n1, p1⟩ := t
    simp only [hb]
    refine wpS_bind (wpS_mono (wpS_forRange (I := fun y c st' => c.1 = none ∧ Stk a₀ st' lo ∧ SS (arrOf st') lo m) (Q := fun c st' => c.1 = none ∧ Stk a₀ st' lo ∧ SS (arrOf st') lo m) ?_ (fun c st' hh => hh) ⟨rfl, S3, hs3⟩) ?_)
    ·rintro y ⟨_, c⟩ st5 _ _ ⟨e, S5, hs5⟩
     cases e
     refine wpS_bind (wpS_get ?_)
     by_cases g1 : (pendingOf st5).size > 1
     ·rw [if_pos g1, getElem?_pos (pendingOf st5) ((pendingOf st5).size - 2) (by omega)]
      dsimp only
      split
      ·exact wpS_pure ⟨rfl, S5, hs5⟩
      ·refine wpS_bind (merge_stk ik S5 (by show (pendingOf st5).size - 2 + 1 < (pendingOf st5).size; omega) fun st6 S6 _ out6 => ?_)
       simp only [Bool.not_true, Bool.false_eq_true, if_false]
       exact wpS_pure ⟨rfl, S6, hs5.congr fun k k1 k2 => out6 k k1⟩
     ·rw [if_neg g1]
      exact wpS_pure ⟨rfl, S5, hs5⟩
    ·rintro ⟨_, c⟩ st5 ⟨e, S5, hs5⟩
     cases e
     dsimp only
     refine wpS_bind (wpS_modify ?_)
     exact wpS_bind (wpS_modify (wpS_pure ⟨_, rfl, (S5.power (f := fun x => match x with | (st, len, _) => (st, len, power' a₀.size (2 * s1 + n1) (2 * s1 + n1 + n1 + m) a₀.size)) fun x => rfl).push (by omega) (by omega) hs5, by omega⟩))
 case post =>
  rintro c st1 ⟨rfl, S1⟩
  dsimp only
  refine wpS_bind (wpS_mono (wpS_forRange (I := fun x c st' => c.1 = none ∧ Stk a₀ st' a₀.size ∧ ((pendingOf st').size ≤ 1 ∨ (pendingOf st').size + x ≤ a₀.size)) (Q := fun c st' => c.1 = none ∧ Stk a₀ st' a₀.size ∧ (pendingOf st').size ≤ 1) ?_ ?_ ⟨rfl, S1, .inr S1.psize⟩) ?_)
  ·rintro x ⟨_, c⟩ st5 _ hx ⟨e, S5, or⟩
   cases e
   refine wpS_bind (wpS_get ?_)
   by_cases g1 : (pendingOf st5).size ≤ 1
   ·rw [if_pos g1]
    exact wpS_pure ⟨rfl, S5, g1⟩
   ·rw [if_neg g1]
    have or' : (pendingOf st5).size + x ≤ a₀.size := or.resolve_left g1
    have key : ∀ i, i + 1 < (pendingOf st5).size → ∀ (Q : Bool → SortSt → Prop), (∀ st', Stk a₀ st' a₀.size → (pendingOf st').size + 1 = (pendingOf st5).size → Q true st') → wpS (model prog w) A E s (mergeAt' i) Q st5 := fun i hi Q hq => merge_stk ik S5 hi fun st' a b _ => hq st' a b
    refine wpS_bind (key _ ?_ _ fun st6 S6 sz6 => ?_)
    ·exact ite_small (show 2 ≤ (pendingOf st5).size by omega)
    ·simp only [Bool.not_true, Bool.false_eq_true, if_false]
     exact wpS_pure ⟨rfl, S6, .inr (by omega)⟩
  ·rintro c st5 ⟨e, S5, or⟩
   exact ⟨e, S5, by omega⟩
  ·rintro ⟨_, c⟩ st5 ⟨e, S5, le1⟩
   cases e
   dsimp only
   refine wpS_pure (h st5 S5.perm S5.fail ?_)
   have c := S5.cont
   have srt := S5.srt
   have len : (prs st5).length ≤ 1 := by unfold prs; rw [List.length_map, Array.length_toList]; exact le1
   match hp : prs st5, c, srt, len with
   | [], c, _, _ =>
    have : 0 = a₀.size := c
    omega
   | [x], c, srt, _ =>
    obtain ⟨c1, c2, c3⟩ := c
    have c3' : 0 + x.2 = a₀.size := c3
    have := srt x (by simp)
    intro a b h1 h2
    exact this a b (by omega) h1 (by omega)
   | _ :: _ :: _, _, _, len => simp at len
end
end TS
namespace TS
open PySem PyProof.Rows
section
variable {prog : Program} {w : World} {A : Around} {E : Value → Shared → Prop} {s : Shared}
theorem iks_pairs {vs : List Value} {ns : List Int} (hI : IntsAre vs ns) : Iks (pairsOf vs) := fun x hx => hI.intKeys x hx
theorem sort_all {a : Addr} {vs : List Value} {ns : List Int} {n : Nat} {P : Fin → Shared → Prop} (ho : s.heap.get? a = some (seqObj "list" vs.toArray n)) (hI : IntsAre vs ns) (hz : vs.length ≤ sizeLine)
  (h : ∀ (out : Array Value) (ns' : List Int), IntsAre out.toList ns' → ns'.Perm ns → ns'.Pairwise (· ≤ ·) → P (.done (.ret .none)) { s with heap := sortedHeap s.heap a vs out }) :
  wpAny (model prog w) A (Builtin.«list.sort» ⟨[.ref a], []⟩) P E s := by
 by_cases few : vs.length < 2
 ·exact list_sort_tree ho hI (by omega) h
 rw [list_sort_plain]
 refine wpAny_bind (listItems_at ho rfl (wpAny_bind (listUpdate_at ho rfl ?_ (by simpa using hz))))
 obtain ⟨e1, he1⟩ : ∃ e1, (s.heap.update a (Obj.mapSeq fun _ => #[])).get? a = some (seqObj "list" #[] e1) := ⟨_, get?_update_seq ho (fun _ => #[])⟩
 refine wpAny_bind (seqEpoch_at he1 rfl (wpAny_bind (wpAny_newTuple (wpAny_bind (wpAny_newList (wpAny_holding ?_))))))
 have la : a < s.heap.objs.size := Heap.lt_size ho
 have he2 : (((s.heap.update a (Obj.mapSeq fun _ => #[])).push (seqObj "tuple" vs.toArray 0)).push (seqObj "list" #[] 0)).get? a = some (seqObj "list" #[] e1) := by
  rw [Heap.get?_push_ne _ _ _ (by rw [size_push', Heap.size_update]; exact Nat.ne_of_lt (Nat.lt_succ_of_lt la)), Heap.get?_push_ne _ _ _ (by rw [Heap.size_update]; exact Nat.ne_of_lt la)]
  exact he1
 show wpAny (model prog w) A _ P E { s with heap := ((s.heap.update a (Obj.mapSeq fun _ => #[])).push (seqObj "tuple" vs.toArray 0)).push (seqObj "list" #[] 0) }
 dsimp only
 have two : ¬ vs.toArray.size < 2 := by simpa using few
 rw [if_neg two, if_neg two]
 match hv : vs, few with
 | [], few => simp at few
 | [_], few => simp at few
 | v₁ :: v₂ :: rest, _ =>
  rw [keyKind_ints hI]
  refine wpAny_bind (wpAny_pure (wpAny_bind (wpAny_mono (sortRuns_ok (a₀ := pairsOf (v₁ :: v₂ :: rest)) (st := SortSt.mk' oneType' (pairsOf (v₁ :: v₂ :: rest)) #[] 7 none)
   (Q := fun _ st' => (arrOf st').Perm (pairsOf (v₁ :: v₂ :: rest)) ∧ failedOf st' = none ∧ SortedTo (arrOf st') (pairsOf (v₁ :: v₂ :: rest)).size)
   (iks_pairs hI) ⟨Array.Perm.refl _, rfl, rfl, rfl⟩ (by rw [pairsOf_size]; simp) fun st' a1 a2 a3 => ⟨a1, a2, a3⟩) ?_ fun _ _ e => e)))
  rintro ⟨⟨⟩, st'⟩ s' ⟨rfl, hp, hf, hs⟩
  dsimp only
  refine wpAny_bind (seqEpoch_at he2 rfl (wpAny_bind (listUpdate_at he2 rfl ?_ (hsz2 := ?_))))
  ·rw [hf]
   simp only [bne_self_eq_false, Bool.false_eq_true, if_false]
   obtain ⟨ns', h1, h2, h3⟩ := sorted_out hI hp hs
   exact wpAny_pure (h _ ns' h1 h2 h3)
  ·refine Nat.le_trans (Nat.le_of_eq ((Array.size_map ..).trans (hp.size_eq.trans (pairsOf_size _)))) ?_
   omega
theorem sorted_all {l : Addr} {vs : List Value} {ns : List Int} {Q : Value → Shared → Prop} (hl : s.heap.IsList l vs.toArray) (hI : IntsAre vs ns) (hz : vs.length ≤ sizeLine)
  (h : ∀ (out : Array Value) (ns' : List Int), IntsAre out.toList ns' → ns'.Perm ns → ns'.Pairwise (· ≤ ·) → Q (.ref (s.heap.objs.size + 1)) { s with heap := sortedAll s.heap vs out }) :
  wpAny (model prog w) A (call (.builtin "sorted") [.ref l]) Q E s := by
 refine Calls.call_function_entry kind_sorted plain_sorted entry_sorted (args_sorted1 _) ?_
 unfold Builtin.«sorted»
 refine wpAny_bind (m := checkCount "sorted" 1 1 _) (wpAny_pure (wpAny_bind (collect_list hl (wpAny_bind (wpAny_newList ?_)) hz)))
 have hsz : ((s.heap.push (seqObj "list" #[] 0)).update s.heap.objs.size (Obj.mapSeq (· ++ vs.toArray))).objs.size = s.heap.objs.size + 1 := by rw [Heap.size_update, size_push']
 have hoL : (((s.heap.push (seqObj "list" #[] 0)).update s.heap.objs.size (Obj.mapSeq (· ++ vs.toArray))).push (seqObj "list" vs.toArray 0)).get? (s.heap.objs.size + 1) = some (seqObj "list" vs.toArray 0) := by
  rw [← hsz]
  exact Heap.get?_push_size _ rfl
 show wpAny _ _ _ _ _ { s with heap := ((s.heap.push (seqObj "list" #[] 0)).update s.heap.objs.size (Obj.mapSeq (· ++ vs.toArray))).push (seqObj "list" vs.toArray 0) }
 rw [hsz]
 refine wpAny_bind (wpAny_holding (wpAny_call_entry slot_list_sort ⟨_, hoL, rfl⟩ entry_list_sort (sort_all hoL hI hz fun out ns' a1 a2 a3 => ⟨_, rfl, wpAny_pure ⟨_, rfl, h out ns' a1 a2 a3⟩⟩) (args_list_sort _)))
end
end TS
namespace L2
open PySem PySem.Spec PyProof.Rows
section
variable {X : Cx}
noncomputable def uSortedL (K : FrK) : List V → Hp → VK → Prop := u1 fun x H Q => match x with
 | .ref p => ∃ ns : List Int, SqL K H p (ns.map V.int) ∧ ∀ (l : Addr) (ms : List Int), H l = none → ms.Perm ns → ms.Pairwise (· ≤ ·) → Q (.ref l) (upd H l (.lst (ms.map V.int)))
 | _ => False
theorem uc_sortedL_0 : CallR X (.builtin "sorted") (uSortedL X.K) := by
 intro pins s σ H xs us Q I r h
 obtain ⟨x, rfl, h⟩ := u1_of h
 cases x with
 | ref p =>
  obtain ⟨ns, hq, q⟩ := h
  obtain ⟨u, rfl, rx⟩ := vals1 r
  cases rx
  obtain ⟨its, r', pl, hz⟩ := I.list hq
  have hlen := r'.length
  rw [List.length_map] at hlen hz
  refine TS.sorted_all pl.isList (intsAre_of r') (by omega) fun out ns' a1 a2 a3 => ?_
  obtain ⟨e, he⟩ := PyProof.Rows.sortedAll_at s.heap its out
  refine ⟨.ref (s.heap.objs.size + 1), _, I.laid (t' := s.toks) (fun _ _ => PyProof.Rows.sortedAll_old) (Nat.le_succ _) (show ObjOk X.prog X.w _ _ _ (.lst (ns'.map V.int)) from ⟨by rw [List.length_map, a2.length_eq]; exact hz, out.toList, e, vals_ints a1, by rw [Array.toArray_toList]; exact he⟩), rfl, q _ _ (I.hok.fresh (Nat.le_succ _)) a2 a3⟩
 | _ => exact False.elim h
theorem uc_sortedL {K : FrK} (hc : X.calm = true) (hK : X.K = K := by rfl) : CallR X (.builtin "sorted") (uSortedL K) := by subst hK; exact uc_sortedL_0
end
end L2
namespace PG
open PySem L2 PyProof PyProof.Rows
theorem next_le2 {G : List Int} {x : Int} (n : Next G x) : x ≤ 2 * (G.length : Int) + 1 := by
 have h := sub_len (l := (List.range (x - 1).toNat).map fun (i : Nat) => 1 + (i : Int)) (m := G ++ G.map fun y => x - y) (by
  rw [List.Nodup, List.pairwise_map]
  exact List.pairwise_lt_range.imp fun hab => by omega) (fun a ha => by
  obtain ⟨i, hi, rfl⟩ := List.mem_map.mp ha
  have hi' := List.mem_range.mp hi
  rcases n.cl (1 + (i : Int)) (by omega) (by omega) with z | z
  ·exact List.mem_append_left _ z
  ·exact List.mem_append_right _ (List.mem_map.mpr ⟨_, z, by omega⟩))
 rw [List.length_map, List.length_range, List.length_append, List.length_map] at h
 omega
theorem closedB_iff {G : List Int} {n : Int} : closedB G n = true ↔ ∀ x, 1 ≤ x → x ≤ n / 2 → x ∈ G ∨ n - x ∈ G := by
 refine ⟨closedB_of, fun h => ?_⟩
 unfold closedB
 rw [List.all_eq_true]
 intro i hi
 have hi' := List.mem_range.mp hi
 rw [Bool.or_eq_true, decide_eq_true_iff, decide_eq_true_iff]
 exact h _ (by omega) (by omega)
noncomputable def nexts (G : List Int) : List Int := ((List.range (2 * G.length + 1)).map fun (i : Nat) => 1 + (i : Int)).filter fun x => G.all (fun y => decide (y < x)) && closedB G x
theorem mem_nexts {G : List Int} {x : Int} : x ∈ nexts G ↔ Next G x := by
 unfold nexts
 rw [List.mem_filter, Bool.and_eq_true, List.all_eq_true, closedB_iff, List.mem_map]
 constructor
 ·rintro ⟨⟨i, hi, rfl⟩, h1, h2⟩
  exact ⟨by omega, fun y hy => of_decide_eq_true (h1 y hy), closed_half h2⟩
 ·intro n
  have := next_le2 n
  have := n.pos
  exact ⟨⟨(x - 1).toNat, List.mem_range.mpr (by omega), by omega⟩, fun y hy => decide_eq_true (n.top y hy), fun a a1 a2 => n.cl a a1 (by omega)⟩
theorem nexts_up (G : List Int) : (nexts G).Pairwise (· < ·) := by
 unfold nexts
 refine List.Pairwise.filter _ ?_
 rw [List.pairwise_map]
 exact List.pairwise_lt_range.imp fun hab => by omega
theorem nexts_of {G cs : List Int} (up : cs.Pairwise (· < ·)) (mem : ∀ x, x ∈ cs ↔ Next G x) : cs = nexts G := rising_eq up (nexts_up G) fun x => (mem x).trans mem_nexts.symm
theorem house_ex {G : List Int} (g : Gaps G) : ∃ h, HouseOf G h := by
 obtain ⟨k, h1, h2⟩ := first_ex (G := G) g.le (st := 1) (step := 1) (by omega) (by omega)
 refine ⟨_, hOf_house (m := k + 1) g.le (by omega) (by rw [show (((k + 1 : Nat)) : Int) = 1 + (k : Int) * 1 by push_cast; omega]; exact h1) fun a a1 a2 => ?_⟩
 have := h2 (a - 1).toNat (by omega)
 rw [show 1 + (((a - 1).toNat : Nat) : Int) * 1 = a by omega] at this
 exact this
theorem nexts_few {G : List Int} (g : Gaps G) : (nexts G).length ≤ G.length + 1 := by
 obtain ⟨h, hh⟩ := house_ex g
 exact Nat.le_trans (next_few g hh (nexts_up G) fun x hx => mem_nexts.mp hx) (hh.len_le g)
end PG
namespace PySem
theorem noteFrame_same {e : Value} {env env' : Env} (h : env.frame = env'.frame) : noteFrame e env = noteFrame e env' := by
 unfold noteFrame frameOf
 rw [h]
section
variable {M : Model} {A : Around} {E : Value → Shared → Prop} {s : Shared} {env : Env}
noncomputable def compPostX (M : Model) (A : Around) (E : Value → Shared → Prop) (Q : Value → Shared → Prop) (acc : Value) (C : Addr) (fr : Option Addr) (r : Result) (s' : Shared) : Prop :=
 match r with
 | .ok _ => ∃ m, s'.heap.Ns C m ∧ ∀ h', Heap.SameBut C s'.heap h' → Q acc { s' with heap := h' }
 | .error x => ∃ m, s'.heap.Ns C m ∧ ∀ h', Heap.SameBut C s'.heap h' → ∀ cenv : Env, cenv.frame = fr → wpAny M A (passOn "comprehension.variables-let-go" x cenv : Sem Value) (fun _ _ => False) E { s' with heap := h' }
theorem wpAny_comprehension_freeX {e : Expr} {scope : Scope} {pos : Pos} {newAcc first : Sem Value} {g : Comprehension} {gs : List Comprehension} {cl : List (Str × Addr)} {fr : Option Addr}
  {Q : Value → Shared → Prop}
  (hcl : clausesOf e = g :: gs) (hs : ∀ x, foldedSetIterable g.iter env x = pure x) (hclos : closureFor scope env = pure cl)
  (hkind : scope.kind = .function) (hnames : ∀ x ∈ scope.names, x.2 = .local → scope.names.lookup x.1 = some .local)
  (h : wpAny M A first (fun x s₁ => wpAny M A (pyIter x) (fun it s₂ => wpAny M A newAcc (fun acc s₃ =>
   wpAny M A (newFunctionEnv scope env.globals cl [] env.qual none .none (some env)) (fun cenv s₄ =>
    cenv.frame = fr ∧ codeAny M A (.compStart e 0 it acc { cenv with scope := relabel scope env }) (compPostX M A E Q acc cenv.locals fr) s₄) E s₃) E s₂) E s₁) E s) :
  wpAny M A (comprehension e scope env pos newAcc false first none) Q E s := by
 unfold comprehension
 rw [hclos, hcl]
 refine wpAny_bind (wpAny_mono h (fun x s₁ h₁ => wpAny_bind (wpAny_standAt (wpAny_bind (wpAny_of_eq (hs x) (wpAny_bind (wpAny_holding (wpAny_mono h₁ (fun it s₂ h₂ =>
  wpAny_standIf (wpAny_bind (wpAny_mono h₂ (fun acc s₃ h₃ => wpAny_bind (wpAny_pure (wpAny_bind (wpAny_mono h₃ (fun cenv s₄ h₄ => ?_) fun _ _ h' => h')))) fun _ _ h' => h')))
   fun _ _ h' => h'))))))) fun _ _ h' => h')
 dsimp only
 obtain ⟨hfr, h₄⟩ := h₄
 have hv : ∀ x ∈ (scope.names.filter fun x => (x.2 == .local || x.2 == .cell) && x.1 != (".0" : Str)).reverse, x.2 = .local →
   Env.kindOf { cenv with scope := relabel scope env } x.1 = some .local := fun x hx hl => lookup_relabel_local (hnames x (List.mem_filter.mp (List.mem_reverse.mp hx)).1 hl)
 refine wpAny_holding (wpAny_bind (wpAny_attempt (wpAny_holding (wpAny_run (codeAny_mono h₄ fun r s' hr => ?_)))))
 cases r with
 | ok f =>
  obtain ⟨m, hn, hr⟩ := hr
  exact wpAny_bind (wpAny_holding (wpAny_comp_letGo (cenv := { cenv with scope := relabel scope env }) hkind _ s' m hv hn fun h' m' _ hs' => wpAny_pure (hr h' hs')))
 | error x =>
  obtain ⟨m, hn, hr⟩ := hr
  exact wpAny_bind (wpAny_holding (wpAny_comp_letGo (cenv := { cenv with scope := relabel scope env }) hkind _ s' m hv hn fun h' m' _ hs' => wpAny_mono (hr h' hs' { cenv with scope := relabel scope env } hfr) (fun _ _ f => f.elim) fun _ _ y => y))
theorem ff_same {h h' base : Heap} : ∀ {l : List Env}, h.FunFrames base l → (∀ b ∈ l.filterMap (·.frame), h'.get? b = h.get? b) → h'.FunFrames base l
 | [], _, _ => trivial
 | env :: rest, ⟨hk, ⟨L, o, hf, hn, ho, hd⟩, hr⟩, hs => by
  have hL : L ∈ (env :: rest).filterMap (·.frame) := by rw [List.filterMap_cons, hf]; exact List.mem_cons_self
  refine ⟨hk, ⟨L, o, hf, hn, (hs L hL).trans ho, hd⟩, ff_same hr fun b hb => hs b ?_⟩
  rw [List.filterMap_cons, hf]
  exact List.mem_cons_of_mem _ hb
theorem ff_base {h base base' : Heap} (hb : ∀ b, base.get? b = none → base'.get? b = none) : ∀ {l : List Env}, h.FunFrames base l → h.FunFrames base' l
 | [], _ => trivial
 | env :: rest, ⟨hk, ⟨L, o, hf, hn, ho, hd⟩, hr⟩ => ⟨hk, ⟨L, o, hf, hb L hn, ho, hd⟩, ff_base hb hr⟩
theorem ns_slots {h h' : Heap} {a : Addr} {m : Str → Option Value} (n : h.Ns a m) (u : h.UpToSlots h') : h'.Ns a m := by
 obtain ⟨o, es, ep, ho, hd, r⟩ := n
 obtain ⟨sl, e⟩ := u a o ho (fun vs q => by rw [hd] at q; cases q)
 exact ⟨_, es, ep, e, hd, r⟩
theorem held_same {base h h' : Heap} {l : List Env} {e L C : Addr} {cls a0 : Value} {m : Str → Option Value} (x : Heap.HeldW base l e cls a0 L h) (hC : base.get? C = none) (hf : C ∉ l.filterMap (·.frame)) (hn : h.Ns C m) (sb : Heap.SameBut C h h') : Heap.HeldW base l e cls a0 L h' ∧ h'.get? e = h.get? e := by
 obtain ⟨f1, f2, f3, oe, vs, T, oT, ts, g1, g2, g3, g4, g5, g6, g7, g8, g9⟩ := x
 obtain ⟨o, es, ep, ho, hd, _⟩ := hn
 have ne : e ≠ C := fun z => by
  rw [z, ho] at g1
  cases g1
  rw [hd] at g3
  cases g3
 have nT : T ≠ C := fun z => by
  rw [z, ho] at g7
  cases g7
  rw [hd] at g8
  cases g8
 have hs : ∀ b, b ≠ C → h'.get? b = h.get? b := sb.2
 refine ⟨⟨fun b o hb => ?_, f2, ff_same f3 fun b hb => hs b (fun z => hf (z ▸ hb)), oe, vs, T, oT, ts, (hs e ne).trans g1, g2, g3, g4, g5, g6, (hs T nT).trans g7, g8, g9⟩, hs e ne⟩
 have nb : b ≠ C := fun z => by rw [z, hC] at hb; cases hb
 exact (hs b nb).trans (f1 b o hb)
end
end PySem
namespace L2
open PySem PySem.Spec PyProof.Rows
noncomputable def blkW (X : Cx) (scope : Scope) (N' : List Str) (C : Addr) (s : Shared) (H : Hp) (fp : List Addr) (pins : List (Addr × Obj)) (E : XK) : Value → Shared → Prop := fun e s' =>
 ∃ (pins' : List (Addr × Obj)) (σ : St) (H1 : Hp) (s1 : Shared), Inv (blkCx X scope N' C s H fp pins) pins' σ H1 s1 ∧ CX1 X.prog X.w X.stack H1 s1 E e s'
theorem passC {X : Cx} {scope : Scope} {N' : List Str} {C : Addr} {s : Shared} {H : Hp} {fp : List Addr} {pins : List (Addr × Obj)} {E : XK} : Passes (CX1 X.prog X.w) ((blkCx X scope N' C s H fp pins).wish (blkW X scope N' C s H fp pins E)) E :=
 fun pins' σ H1 s1 e s' I cx => ⟨pins', σ, H1, s1, I.unwish, cx⟩
section
variable {X : Cx} {pins : List (Addr × Obj)} {σ : St} {H : Hp} {s : Shared} {scope : Scope} {N' : List Str} {bl : List (Option Nat)} {elt tg iter : Expr} {ifs : List Expr} {pos pos' : Pos} {wi : TI} {g : TG} {tc : TT} {te : TE}
theorem comp_coreX {E : XK} {Qr : VK} {Qv : Value → Shared → Prop} (hc : X.calm = true) (k : CompOk X.env.scope scope X.N N' bl) (hi : PI X tg iter wi)
  (hg : ∀ C s H fp pins, PG (blkCx X scope N' C s H fp pins) tg g) (hf : ∀ C s H fp pins, PIfs (blkCx X scope N' C s H fp pins) ifs tc) (he : ∀ C s H fp pins, PE ((blkCx X scope N' C s H fp pins).wish (blkW X scope N' C s H fp pins E)) elt te)
  (hs : ∀ x, foldedSetIterable iter X.env x = pure x) (I : Inv X pins σ H s) (h : tComp bl wi g tc te σ H Qr)
  (fin : ∀ (D C : Addr) (H6 : Hp) (s6 : Shared) (m : Str → Option Value), Inv X pins σ H6 s6 → s6.heap.Ns C m → FpOk X pins H6 C → Qr (.ref D) H6 → compPostX (model X.prog X.w) X.A X.xe Qv (.ref D) C X.env.frame (.ok .next) s6)
  (err : ∀ (C : Addr) (acc : Value) (s1 : Shared) (H1 : Hp) (e : Value) (s' : Shared), Inv X pins σ H1 s1 → (∃ m, s1.heap.Ns C m) → H1 C = none → C ∉ frs X.stack → X.s₀.heap.get? C = none → CX1 X.prog X.w X.stack H1 s1 E e s' → notedBy (model X.prog X.w) X.A (compEnvC scope (clOf scope X.env) C X.env) (fun e s' => compPostX (model X.prog X.w) X.A X.xe Qv acc C X.env.frame (.error e) s') e s') :
  wpAny (model X.prog X.w) X.A (comprehension (.ListComp elt [⟨tg, iter, ifs, 0⟩] scope pos) scope X.env pos' (newList []) false (eval iter X.env) none) Qv X.xe s := by
 refine wpAny_comprehension_freeX (fr := X.env.frame) rfl hs (closureFor_cl (I.cellsOf k)) k.kind k.names (thn (hi pins s σ H _ I h) fun v s1 h1 => thn h1 fun itv s2 h2 => ?_)
 obtain ⟨it, fp, tn, J, H2, e, I2, T, st2, f2, rd⟩ := h2
 subst e
 have nocell := k.nocell
 refine wpAny_newObj_type (wpAny_newFunctionEnv nocell (by intro y hy; simp at hy) (fun h₁ hns₁ hsb₁ => ?_) k.kind)
 dsimp only at hns₁ hsb₁ ⊢
 have I3 := I2.lnew (ys := []) (its := []) (t' := s2.toks) .nil (Nat.zero_le _)
 obtain ⟨W, ⟨m0, w0⟩, turn⟩ := rd s2.heap.objs.size I2.fresh
 have hD : H2 s2.heap.objs.size = none := I2.fresh
 have hlt : ∀ b ∈ fp, b < s2.heap.objs.size := fun b hb => by
  obtain ⟨o, e, _⟩ := T.obj _ _ st2 b hb
  exact Heap.lt_size e
 have f3 : ∀ b ∈ fp, FpOk X pins (upd H2 s2.heap.objs.size (.lst [])) b := fun b hb => by
  refine ⟨?_, (f2 b hb).2⟩
  rw [upd_ne (Nat.ne_of_lt (hlt b hb))]
  exact (f2 b hb).1
 generalize hs3 : ({ s2 with heap := s2.heap.push { cls := .type "list", data := .seq ([] : List Value).toArray }, toks := s2.toks } : Shared) = s3 at I3
 have hh3 : s3.heap = s2.heap.push { cls := .type "list", data := .seq ([] : List Value).toArray } := by rw [← hs3]
 have k23 : ∀ b o, s2.heap.get? b = some o → s3.heap.get? b = some o := fun b o e => by rw [hh3]; exact Heap.get?_push_of_some _ e
 have keep : ∀ b o, s3.heap.get? b = some o → h₁.get? b = some o := fun b o e => by
  refine hsb₁.extBut b o ?_ ?_
  ·have := Heap.lt_size e
   rw [hh3] at this
   exact Nat.ne_of_lt this
  ·rw [hh3] at e
   exact Heap.get?_push_of_some _ e
 have hns : ∃ mm, h₁.Ns s3.heap.objs.size mm := ⟨_, by rw [hh3]; exact hns₁⟩
 obtain ⟨mm, hns⟩ := hns
 have hex : ∀ b ∈ fp, ∃ o, s3.heap.get? b = some o := fun b hb => by
  obtain ⟨o, e, _⟩ := T.obj _ _ st2 b hb
  exact ⟨o, k23 b o e⟩
 have st4 : tn 0 h₁ := T.keep _ _ _ st2 fun b hb o e => keep b o (k23 b o e)
 have loop : ∀ s4 : Shared, (∃ tk, s4 = { s3 with heap := h₁, toks := tk }) →
   codeAny (model X.prog X.w) X.A (.compLoop (.ListComp elt [⟨tg, iter, ifs, 0⟩] scope pos) 0 (.ref it) (.ref s2.heap.objs.size) (compEnvC scope (clOf scope X.env) s3.heap.objs.size X.env))
    (compPostX (model X.prog X.w) X.A X.xe Qv (.ref s2.heap.objs.size) s3.heap.objs.size X.env.frame) s4 := by
  rintro s4 ⟨tk, rfl⟩
  have I4 := I3.block (tk := tk) k f3 hex hns keep
  refine compLoop_gen (fun n s' => ∃ i σ' H', Inv (blkCx X scope N' s3.heap.objs.size s3 (upd H2 s2.heap.objs.size (.lst [])) fp pins) [] σ' H' s' ∧ (∀ (j : Nat) v, (blkSt bl σ)[j]? = some (some v) → σ'[j]? = some (some v)) ∧ tn i s'.heap ∧ (∀ b ∈ fp, H' b = none) ∧ W i n H')
   ?_ m0 ⟨0, blkSt bl σ, _, I4, fun _ _ e => e, st4, fun b hb => (f3 b hb).1, w0⟩
  rintro n s5 ⟨i, σ5, H5, I5, wk5, st5, fr5, w5⟩
  have ln : ∀ {σ' : St} {H' : Hp} {s' : Shared} {pins' : List (Addr × Obj)}, Inv (blkCx X scope N' s3.heap.objs.size s3 (upd H2 s2.heap.objs.size (.lst [])) fp pins) pins' σ' H' s' → (blkSt bl σ).length = σ'.length := fun {σ' H' s' pins'} J => by
   rw [J.len]
   show (bl.map _).length = N'.length
   rw [List.length_map]
   exact k.len
  have I5w := I5.weak (σ' := blkSt bl σ) (ln I5) wk5
  have stat : ∀ {H' : Hp}, (∀ b ∈ fp, H' b = none) → ∀ b ∈ fp, FpOk (blkCx X scope N' s3.heap.objs.size s3 (upd H2 s2.heap.objs.size (.lst [])) fp pins) [] H' b := fun {H'} hn b hb => by
   have F := I4.ok
   refine ⟨hn b hb, (F.exf b hb).1, F.exfs b hb, .inl hb, (fun x c e => (F.exf b hb).2 x c e), fun p hp => ?_⟩
   have hp' : p ∈ (X.pn ++ pins) ++ [] := hp
   rw [List.append_nil] at hp'
   exact (f2 b hb).2.2.2.2.2 p hp'
  rcases turn i n H5 w5 with ⟨stop, q⟩ | ⟨go, step⟩
  ·refine thn (T.done (blkCx X scope N' s3.heap.objs.size s3 (upd H2 s2.heap.objs.size (.lst [])) fp pins) rfl rfl rfl hc i [] s5 _ H5 _ I5w (stat fr5) st5 stop) fun r s6 ⟨hr, I6⟩ => ?_
   subst hr
   obtain ⟨m6, n6, _⟩ := I6.loc
   exact fin _ s3.heap.objs.size H5 s6 m6 (Inv.unblock I3 f3 I6) n6 (I3.fpOk (Nat.le_refl _) I6.free) q
  ·refine thn (T.item (blkCx X scope N' s3.heap.objs.size s3 (upd H2 s2.heap.objs.size (.lst [])) fp pins) rfl rfl rfl hc i [] s5 _ H5 _ I5w (stat fr5) st5 go) fun r s6 ⟨u, hr, h6⟩ => ?_
   subst hr
   refine thn h6 fun _ s7 ⟨x, H7, I7, r7, y7, st7, fr7⟩ => ?_
   have I7' := I7.pinned (stat fr7) (T.obj _ _ st7)
   obtain ⟨kg, sx⟩ := step x H7 y7
   have again : ∀ {σ' : St} {H' : Hp} {s' : Shared} {m' : Nat}, Inv (blkCx X scope N' s3.heap.objs.size s3 (upd H2 s2.heap.objs.size (.lst [])) fp pins) ([] ++ pinsAt fp s7.heap) σ' H' s' → (∀ (j : Nat) v, (blkSt bl σ)[j]? = some (some v) → σ'[j]? = some (some v)) → m' < n → W (i + 1) m' H' →
     ∃ m, m < n ∧ ∃ i σ' H', Inv (blkCx X scope N' s3.heap.objs.size s3 (upd H2 s2.heap.objs.size (.lst [])) fp pins) [] σ' H' s' ∧ (∀ (j : Nat) v, (blkSt bl σ)[j]? = some (some v) → σ'[j]? = some (some v)) ∧ tn i s'.heap ∧ (∀ b ∈ fp, H' b = none) ∧ W i m H' := fun {σ' H' s' m'} J wk hm w => by
    refine ⟨m', hm, i + 1, σ', H', J.unpinned, wk, T.keep _ _ _ st7 fun b hb o e => (J.pin (b, o) (List.mem_append_right _ (List.mem_append_right _ (mem_pinsAt hb e)))).1, fun b hb => ?_, w⟩
    obtain ⟨o, e, d⟩ := T.obj _ _ st7 b hb
    exact (J.pin (b, o) (List.mem_append_right _ (List.mem_append_right _ (mem_pinsAt hb e)))).2.1
   refine wpAny_mono (hg _ _ _ _ _ _ s7 _ H7 x u _ I7' r7 (kg x H7 _ sx)) (fun _ s8 ⟨σ8, H8, I8, q8, wk8, ln8⟩ => ?_) fun _ _ f => f.elim
   refine wpAny_mono (hf _ _ _ _ _ _ s8 σ8 H8 _ I8 q8) (fun b s9 ⟨H9, I9, q9⟩ => ?_) fun _ _ f => f.elim
   cases b with
   | true =>
    rw [if_pos rfl] at q9
    rw [if_pos rfl]
    refine wpAny_mono (he _ _ _ _ _ _ s9 σ8 H9 _ (I9.wish _) q9) (fun y s10 ⟨v, H10, I10w, r10, xs, hx, hz, m', hm, w10⟩ => ?_) (fun ev sv ⟨pinsV, σV, HV, sV, IV, cxV⟩ => ?_)
    rotate_left
    ·obtain ⟨mV, nV, _⟩ := IV.loc
     have IX := Inv.unblock I3 f3 IV
     refine err _ _ sV HV ev sv IX ⟨mV, nV⟩ IV.free (fun z => ?_) (Heap.get?_none_of_le I3.sz) cxV
     obtain ⟨_, o, e, _⟩ := I3.stack.mem z
     exact absurd (Heap.lt_size e) (Nat.lt_irrefl _)
    have I10 := I10w.unwish
    refine wpAny_mono (mt_append (X := blkCx X scope N' s3.heap.objs.size s3 (upd H2 s2.heap.objs.size (.lst [])) fp pins) _ s10 σ8 H10 (.ref s2.heap.objs.size) [v] (.ref s2.heap.objs.size) [y] (fun _ H11 => H11 = upd H10 s2.heap.objs.size (.lst (xs ++ [v]))) I10 rfl (.cons r10 .nil)
     ⟨s2.heap.objs.size, xs, v, rfl, rfl, hx, hz, rfl⟩) (fun _ s11 ⟨_, H11, I11, _, e11⟩ => ?_) fun _ _ f => f.elim
    subst e11
    exact again I11 wk8 hm w10
   | false =>
    rw [if_neg Bool.false_ne_true] at q9
    rw [if_neg Bool.false_ne_true]
    obtain ⟨m', hm, w9⟩ := q9
    exact again I9 wk8 hm w9
 have hC : (s2.heap.push { cls := .type "list", data := .seq ([] : List Value).toArray }).objs.size = s3.heap.objs.size := by rw [hh3]
 have L := loop { s3 with heap := h₁, toks := s2.toks + ([] : List (Str × Value)).length } ⟨_, rfl⟩
 subst hs3
 exact ⟨rfl, codeAny_compStart_list L (T.self _ 0 _ _ _ st4 L)⟩
end
section
variable {P : Program} {w : World} {K : FrK} {mg : Str → Option Value} {base : Heap} {N : List Str} {qual : Str} {scope : Scope} {f : Addr} {cd : Value} {A : Around} {outer : List Env} {s : Shared} {H : Hp} {E : XK}
theorem blk_err {X : Cx} (hX : X = cxL P w K mg base N qual scope f cd A outer s H E) {cl : List (Str × Addr)} {sc : Scope} {Qv : Value → Shared → Prop} {pins : List (Addr × Obj)} {σ : St} (C : Addr) (acc : Value) (s1 : Shared) (H1 : Hp) (e : Value) (s' : Shared) (I0 : Inv X pins σ H1 s1) (hn : ∃ m, s1.heap.Ns C m) (hC : H1 C = none)
  (hfr : C ∉ frs X.stack) (h0 : X.s₀.heap.get? C = none) (cx : CX1 X.prog X.w X.stack H1 s1 E e s') :
  notedBy (model X.prog X.w) X.A (compEnvC sc cl C X.env) (fun e s' => compPostX (model X.prog X.w) X.A X.xe Qv acc C X.env.frame (.error e) s') e s' := by
 subst hX
 have I := I0.unwish
 obtain ⟨ea, Cc, H', B, a0, od, rfl, os, bare, fl, hok, un, hB, thB, hk, hE⟩ := cx
 have b0 : Un (frs outer) [] H H1 s.heap s1.heap := I.base
 have nx : ∀ {b : Addr}, b ∉ ([] : List Addr) := fun {b} z => by cases z
 have h0' : s.heap.get? C = none := h0
 have hf : (envOfC qual scope s.heap.objs.size f cd).frame = some s.heap.objs.size := rfl
 have hfr' : C ∉ frs (envOfC qual scope s.heap.objs.size f cd :: outer) := hfr
 generalize hB1 : PySem.W.hideAll B [C] = B1
 have st1 : ∀ b o, B1.get? b = some o → B.get? b = some o := fun b o q => by rw [← hB1] at q; exact PySem.W.of_hideAll _ q
 have none1 : ∀ b, B.get? b = none → B1.get? b = none := fun b q => by
  cases z : B1.get? b with
  | none => rfl
  | some o => rw [st1 b o z] at q; cases q
 have get1 : ∀ b o, b ≠ C → B.get? b = some o → B1.get? b = some o := fun b o nb q => by rw [← hB1]; exact PySem.W.hideAll_get _ q (by simpa using nb)
 have hC1 : B1.get? C = none := by rw [← hB1]; exact PySem.W.hideAll_none _ (by simp)
 obtain ⟨m, hn⟩ := hn
 have hnC := hn
 obtain ⟨oC, es, ep, hoC, hdC, rC⟩ := hn
 have hnS : s'.heap.Ns C m := ⟨oC, es, ep, un.keep C oC hoC hC hfr' nx, hdC, rC⟩
 have H'C : H' C = none := un.free C oC hoC hC nx
 have hok1 : HOk P w H' B1 := by
  rw [← hB1]
  exact hok_hide hok fun b hb => by rw [List.mem_singleton.mp hb]; exact H'C
 have fl1 : Heap.FlyingW B1 (envOfC qual scope s.heap.objs.size f cd :: outer) ea (.ref Cc) a0 s'.heap := by
  obtain ⟨f1, f2, f3, f4⟩ := fl
  refine ⟨fun b o q => f1 b o (st1 b o q), none1 _ f2, ff_base none1 f3, ?_⟩
  obtain ⟨oe, vs, T, oT, ts, g1, g2, g3, g4, g5, g6⟩ := f4
  exact ⟨oe, vs, T, oT, ts, g1, g2, g3, g4, none1 _ g5, g6⟩
 have out : ∀ b o, s.heap.get? b = some o → b ∉ frs outer → b ∉ frs (envOfC qual scope s.heap.objs.size f cd :: outer) := fun b o e hb z => by
  rcases frs_cons z with q | q
  ·exact absurd (Heap.lt_size e) (by rw [q]; exact Nat.lt_irrefl _)
  ·exact hb q
 have inn : ∀ b, b ∈ frs outer → b ∈ frs (envOfC qual scope s.heap.objs.size f cd :: outer) := fun b hb => List.mem_cons_of_mem _ hb
 have nC : ∀ b o, s.heap.get? b = some o → b ≠ C := fun b o e z => by rw [z, h0'] at e; cases e
 have hB' : ∀ b o, s.heap.get? b = some o → H b = none → b ∉ frs outer → B1.get? b = some o := fun b o e n hb => get1 b o (nC b o e) (hB b o (b0.keep b o e n hb nx) (b0.free b o e n nx) (out b o e hb))
 have thB' : ∀ b o, s.heap.get? b = some o → b ∉ frs outer → ∃ o', B1.get? b = some o' := fun b o e hb => by
  obtain ⟨o1, e1⟩ := b0.there b o e nx
  obtain ⟨o2, e2⟩ := thB b o1 e1 (out b o e hb)
  exact ⟨o2, get1 b o2 (nC b o e) e2⟩
 have un' : Un (frs outer) [] H H' s.heap s'.heap := by
  refine ⟨fun b o e n hb _ => fl1.1 b o (hB' b o e n hb), fun b o e n hb _ => ?_, fun b o e n _ => ?_, fun b o e _ => ?_, fun b xs e => un.tups b xs (b0.tups b xs e), fun b o u e => un.frzs b o u (b0.frzs b o u e), fun b ps e => ?_⟩
  ·obtain ⟨sl, e1⟩ := b0.slot b o e n hb nx
   obtain ⟨sl2, e2⟩ := un.slot b _ e1 (b0.free b o e n nx) (inn b hb) nx
   exact ⟨sl2, e2⟩
  ·by_cases hb : b ∈ frs outer
   ·obtain ⟨sl, e1⟩ := b0.slot b o e n hb nx
    exact un.free b _ e1 (b0.free b o e n nx) nx
   ·exact un.free b o (b0.keep b o e n hb nx) (b0.free b o e n nx) nx
  ·obtain ⟨o1, e1⟩ := b0.there b o e nx
   exact un.there b o1 e1 nx
  ·obtain ⟨m1, e1⟩ := b0.tbls b ps e
   obtain ⟨m2, e2⟩ := un.tbls b _ e1
   exact ⟨m1 ++ m2, by rw [e2]; simp⟩
 have ff := fl1.2.2.1
 show wpAny _ _ (noteFrame (.ref ea) (compEnvC sc cl C (envOfC qual scope s.heap.objs.size f cd))) _ _ s'
 rw [noteFrame_same (env := compEnvC sc cl C (envOfC qual scope s.heap.objs.size f cd)) (env' := envOfC qual scope s.heap.objs.size f cd) rfl]
 refine wpAny_mono (Mild.any mild_noteFrame hk (wpAny_looks_onW (Q := fun _ s2 => ∃ h4, Heap.HeldW B1 (envOfC qual scope s.heap.objs.size f cd :: outer) ea (.ref Cc) a0 s.heap.objs.size h4 ∧ s'.heap.UpToSlots h4 ∧ s2 = { s' with heap := h4 }) (E := fun _ _ => False) I.ok.frames hf fl1 fun h4 a b => ⟨h4, a, b, rfl⟩)) (fun _ s2 hz => ?_) fun _ _ z => z.1.elim
 obtain ⟨⟨h4, held, up4, rfl⟩, hk4⟩ := hz
 have un4 := un_step un' hB' thB' ff held.1 up4
 have hn4 := ns_slots hnS up4
 refine ⟨m, hn4, fun h' sb cenv hcf => ?_⟩
 obtain ⟨held', heq⟩ := held_same held hC1 hfr' hn4 sb
 have hs : ∀ b, b ≠ C → h'.get? b = h4.get? b := sb.2
 have hk' : KeepE ea od .none h' := by
  obtain ⟨o, vs, q1, q2⟩ := hk4
  exact ⟨o, vs, heq.trans q1, q2⟩
 have un5 : Un (frs outer) [] H H' s.heap h' := by
  refine ⟨fun b o e n hb hx => (hs b (nC b o e)).trans (un4.keep b o e n hb hx), fun b o e n hb hx => ?_, un4.free, fun b o e hx => ?_, un4.tups, un4.frzs, un4.tbls⟩
  ·obtain ⟨sl, q⟩ := un4.slot b o e n hb hx
   exact ⟨sl, (hs b (nC b o e)).trans q⟩
  ·obtain ⟨o1, q⟩ := un4.there b o e hx
   exact ⟨o1, (hs b (nC b o e)).trans q⟩
 obtain ⟨oe, vs, T, oT, ts, g1, g2, g3, g4, _⟩ := id held'.2.2.2
 show wpAny _ _ (do
  if (← field (.ref ea) 1) == .none then unsupported _
  setFlight (.ref ea) cenv.frame
  throw (Value.ref ea)) _ _ _
 refine wpAny_bind (wpAny_field g1 g3 g4 ?_)
 rw [if_neg (by simp), hcf]
 refine wpAny_bind (wpAny_mono (Mild.any (s := { s' with heap := h' }) mild_setFlight hk' (back_held (s := { s' with heap := h' }) (Q := fun _ s2 => ∃ h5, Heap.HeldW B1 (envOfC qual scope s.heap.objs.size f cd :: outer) ea (.ref Cc) a0 s.heap.objs.size h5 ∧ h'.UpToSlots h5 ∧ s2 = { s' with heap := h5 }) (E := fun _ _ => False) held' fun h5 a b => ⟨h5, a, b, rfl⟩)) (fun _ s2 hz => ?_) fun _ _ z => z.1.elim)
 obtain ⟨⟨h5, held5, up5, rfl⟩, hk5⟩ := hz
 refine wpAny_throw ?_
 exact ⟨I.ok.frames, ea, Cc, H', B1, a0, od, rfl, os.trans I.os, bare, .inr (.inl held5), hok1, un_step un5 hB' thB' held'.2.2.1 held5.1 up5, hB', thB', hk5, hE⟩
theorem q_compX {elt tg iter : Expr} {ifs : List Expr} {pos : Pos} {sc : Scope} {wi : TI} {g : TG} {tc : TT} {te : TE} (bl : List (Option Nat)) (N' : List Str) (hc : (cxL P w K mg base N qual scope f cd A outer s H E).calm = true) (k : compOk (cxL P w K mg base N qual scope f cd A outer s H E).env.scope sc (cxL P w K mg base N qual scope f cd A outer s H E).N N' bl = true)
  (hi : QI (cxL P w K mg base N qual scope f cd A outer s H E) tg iter wi) (hg : ∀ C s' H' fp pins, QG (blkCx (cxL P w K mg base N qual scope f cd A outer s H E) sc N' C s' H' fp pins) tg g)
  (hf : ∀ C s' H' fp pins, QF (blkCx (cxL P w K mg base N qual scope f cd A outer s H E) sc N' C s' H' fp pins) ifs tc) (he : ∀ C s' H' fp pins, QE ((blkCx (cxL P w K mg base N qual scope f cd A outer s H E) sc N' C s' H' fp pins).wish (blkW (cxL P w K mg base N qual scope f cd A outer s H E) sc N' C s' H' fp pins E)) elt te)
  (hs : ∀ x, foldedSetIterable iter (cxL P w K mg base N qual scope f cd A outer s H E).env x = pure x := by intro _; rfl) : QE (cxL P w K mg base N qual scope f cd A outer s H E) (.ListComp elt [⟨tg, iter, ifs, 0⟩] sc pos) (tComp bl wi g tc te) := ⟨by
 intro pins s1 σ H1 Q I h
 rw [eval_ListComp]
 refine comp_coreX hc (CompOk.of k) hi.run (fun C s' H' fp pins => (hg C s' H' fp pins).run) (fun C s' H' fp pins => (hf C s' H' fp pins).run) (fun C s' H' fp pins => (he C s' H' fp pins).run) hs I h (fun D C H6 s6 m I6 n6 f6 q6 => ?_) fun C acc s1 H1 e s' I' n0 n1 n2 n3 cx => blk_err rfl C acc s1 H1 e s' I' n0 n1 n2 n3 cx
 exact ⟨m, n6, fun h' hs' => ⟨.ref D, H6, I6.turned (t' := s6.toks) (fun b o hb e => (hs'.2 b hb).trans e) f6.1 f6.2.1 f6.2.2.2.1 f6.2.2.2.2.1 f6.2.2.2.2.2, rfl, q6⟩⟩⟩
end
end L2
namespace PG
open PySem L2 PyProof PyProof.Rows
theorem leastN_uniq {S : Int → Prop} {n m : Int} (a : LeastN S n) (b : LeastN S m) : n = m := by
 rcases Int.lt_trichotomy n m with z | z | z
 ·exact absurd a.has (b.low n a.one z)
 ·exact z
 ·exact absurd b.has (a.low m b.one z)
theorem least_uniq {S : Int → Prop} {g g' : List Int} (a : LeastS S g) (n : LeastN S (g.length : Int)) (a' : LeastS S g') (n' : LeastN S (g'.length : Int)) : g' = g :=
 a'.uniq a (by have := leastN_uniq n n'; omega)
noncomputable def woH (h : List Int) (c : Int) : List Int := if c = (h.length : Int) then fullL (h.length + 1) else lessH h c
structure TwoH (n m : Nat) (h : List Int) : Prop where
 n3 : 3 ≤ n
 lt : n < m
 len : h.length = n
 at' : ∀ k, k < n → h[(m * k) % n]? = some ((m * k : Nat) : Int)
 sur : ∀ r, r < n → ∃ k, k < n ∧ (m * k) % n = r
theorem two_idx {n m : Nat} (n1 : 1 ≤ n) (hm : m = n + 1 ∨ (m = n + 2 ∧ n % 2 = 1)) : (∀ k k', k < n → k' < n → (m * k) % n = (m * k') % n → k = k') ∧ ∀ r, r < n → ∃ k, k < n ∧ (m * k) % n = r := by
 rcases hm with rfl | ⟨rfl, od⟩
 ·have e : ∀ k, k < n → ((n + 1) * k) % n = k := fun k hk => by
   rw [Nat.add_mul, Nat.mul_add_mod, Nat.one_mul, Nat.mod_eq_of_lt hk]
  exact ⟨fun k k' h1 h2 h => by rw [e k h1, e k' h2] at h; exact h, fun r hr => ⟨r, hr, e r hr⟩⟩
 ·have e : ∀ k, k < n → ((n + 2) * k) % n = if 2 * k < n then 2 * k else 2 * k - n := fun k hk => by
   rw [Nat.add_mul, Nat.mul_add_mod]
   split
   ·next h => exact Nat.mod_eq_of_lt h
   ·next h => rw [Nat.mod_eq_sub_mod (by omega), Nat.mod_eq_of_lt (by omega)]
  refine ⟨fun k k' h1 h2 h => ?_, fun r hr => ?_⟩
  ·rw [e k h1, e k' h2] at h
   split at h <;> split at h <;> omega
  ·by_cases z : r % 2 = 0
   ·refine ⟨r / 2, by omega, ?_⟩
    rw [e _ (by omega), if_pos (by omega)]
    omega
   ·refine ⟨(r + n) / 2, by omega, ?_⟩
    rw [e _ (by omega), if_neg (by omega)]
    omega
section
variable {n m : Nat} {h : List Int}
theorem TwoH.val (a : TwoH n m h) {r : Nat} {x : Int} (hx : h[r]? = some x) : ∃ k, k < n ∧ (m * k) % n = r ∧ x = ((m * k : Nat) : Int) := by
 have hr : r < n := by rw [← a.len]; exact (List.getElem?_eq_some_iff.mp hx).1
 obtain ⟨k, hk, e⟩ := a.sur r hr
 have := a.at' k hk
 rw [e, hx] at this
 exact ⟨k, hk, e, Option.some.inj this⟩
theorem TwoH.house (a : TwoH n m h) : House h := by
 have n3 := a.n3
 have lt := a.lt
 have len := a.len
 refine ⟨by omega, ?_, fun r x hx r0 => ?_, fun r x hx => ?_, fun i j k x y z hx hy hz hk => ?_⟩
 ·have := a.at' 0 (by omega)
  simpa using this
 ·obtain ⟨k, hk, e, rfl⟩ := a.val hx
  have k1 : 1 ≤ k := by
   rcases Nat.eq_zero_or_pos k with z | z
   ·subst z; simp at e; omega
   ·exact z
  have : m * 1 ≤ m * k := Nat.mul_le_mul_left m k1
  rw [len]
  omega
 ·obtain ⟨k, hk, e, rfl⟩ := a.val hx
  rw [len, ← e]
  rfl
 ·obtain ⟨a1, h1, e1, rfl⟩ := a.val hx
  obtain ⟨b1, h2, e2, rfl⟩ := a.val hy
  have ek : k = (m * (a1 + b1)) % n := by
   have : k = (i + j) % n := by
    have h1 : (k : Int) = (((i + j) % n : Nat) : Int) := by
     rw [Int.natCast_emod, hk, len]
     push_cast
     rfl
    omega
   rw [this, ← e1, ← e2, Nat.mul_add, ← Nat.add_mod]
  by_cases c : a1 + b1 < n
  ·have := a.at' (a1 + b1) c
   rw [← ek, hz] at this
   rw [Option.some.inj this, Nat.mul_add]
   omega
  ·have e3 : (m * (a1 + b1 - n)) % n = k := by
    rw [ek]
    conv => rhs; rw [show a1 + b1 = (a1 + b1 - n) + n by omega, Nat.mul_add, Nat.add_mul_mod_self_right]
   have := a.at' (a1 + b1 - n) (by omega)
   rw [e3, hz] at this
   rw [Option.some.inj this]
   have : m * (a1 + b1 - n) ≤ m * (a1 + b1) := Nat.mul_le_mul_left m (by omega)
   rw [Nat.mul_add] at this
   omega
theorem TwoH.top (a : TwoH n m h) : ((m * (n - 1) : Nat) : Int) ∈ h ∧ ∀ x ∈ h, x ≤ ((m * (n - 1) : Nat) : Int) := by
 have n3 := a.n3
 refine ⟨List.mem_of_getElem? (a.at' (n - 1) (by omega)), fun x hx => ?_⟩
 obtain ⟨r, hr⟩ := List.mem_iff_getElem?.mp hx
 obtain ⟨k, hk, _, rfl⟩ := a.val hr
 have : m * k ≤ m * (n - 1) := Nat.mul_le_mul_left m (by omega)
 omega
theorem TwoH.split (a : TwoH n m h) : m * (n - 1) = m * (n - 2) + m ∧ m * 1 ≤ m * (n - 2) := by
 have n3 := a.n3
 refine ⟨?_, Nat.mul_le_mul_left m (by omega)⟩
 conv => lhs; rw [show n - 1 = (n - 2) + 1 by omega, Nat.mul_add, Nat.mul_one]
theorem TwoH.can (a : TwoH n m h) {k : Nat} (hk : k < n) : Can h ((m * k : Nat) : Int) := by
 rw [can_iff, a.len]
 have e : (((m * k : Nat) : Int) % (n : Int)).toNat = (m * k) % n := by
  rw [← Int.natCast_emod]; rfl
 rw [e, getD_at (a.at' k hk)]
 exact Int.le_refl _
theorem TwoH.kids (a : TwoH n m h) : ∀ c ∈ need h, ¬ (((m * (n - 1) : Nat) : Int) - (h.length : Int) < c) := by
 have n3 := a.n3
 have lt := a.lt
 have len := a.len
 obtain ⟨s1, s2⟩ := a.split
 intro c hc lc
 unfold need at hc
 rcases List.mem_cons.mp hc with rfl | hc
 ·rw [len] at lc
  omega
 obtain ⟨c1, c2⟩ := List.mem_filter.mp hc
 obtain ⟨r, hr⟩ := List.mem_iff_getElem?.mp (List.mem_of_mem_drop c1)
 obtain ⟨k, hk, _, rfl⟩ := a.val hr
 have ek : k = n - 1 := by
  rcases Nat.lt_or_ge k (n - 1) with z | z
  ·exfalso
   have : m * k ≤ m * (n - 2) := Nat.mul_le_mul_left m (by omega)
   rw [len] at lc
   omega
  ·omega
 subst ek
 have hm1 := a.at' 1 (by omega)
 rw [Nat.mul_one] at hm1
 have m0 : m % n ≠ 0 := fun z => by
  have h0 := a.at' 0 (by omega)
  rw [Nat.mul_zero, Nat.zero_mod] at h0
  rw [z, h0] at hm1
  have := Option.some.inj hm1
  omega
 have md : ((m : Nat) : Int) ∈ h.drop 1 := by
  refine List.mem_iff_getElem?.mpr ⟨m % n - 1, ?_⟩
  rw [List.getElem?_drop, show 1 + (m % n - 1) = m % n by omega]
  exact hm1
 have pt : partedB h ((m * (n - 1) : Nat) : Int) = true := by
  unfold partedB
  rw [List.any_eq_true]
  refine ⟨_, md, ?_⟩
  have e : ((m * (n - 1) : Nat) : Int) - ((m : Nat) : Int) = ((m * (n - 2) : Nat) : Int) := by omega
  rw [e, Bool.and_eq_true]
  exact ⟨decide_eq_true (by omega), a.can (by omega)⟩
 rw [pt] at c2
 cases c2
theorem TwoH.par (a : TwoH n m h) : LeastS (FillS h (((m * (n - 1) : Nat) : Int) - (h.length : Int))) (h.set ((m * (n - 1)) % n) (((m * (n - 1) : Nat) : Int) - (n : Int))) ∧
  LeastN (FillS h (((m * (n - 1) : Nat) : Int) - (h.length : Int))) ((h.set ((m * (n - 1)) % n) (((m * (n - 1) : Nat) : Int) - (n : Int))).length : Int) := by
 have n3 := a.n3
 have lt := a.lt
 have len := a.len
 have house := a.house
 obtain ⟨s1, s2⟩ := a.split
 have rl : (m * (n - 1)) % n < n := Nat.mod_lt _ (by omega)
 rw [List.length_set, len]
 constructor
 ·refine ⟨by rw [List.length_set]; omega, fun r x hx => ?_, fun s hs => ?_⟩
  ·rw [List.length_set, len]
   by_cases z : r = (m * (n - 1)) % n
   ·subst z
    rw [List.getElem?_set_self (by omega)] at hx
    cases hx
    refine ⟨⟨by omega, .inl (by omega)⟩, ?_⟩
    rw [Int.sub_emod_right, ← Int.natCast_emod]
   ·rw [List.getElem?_set_ne (Ne.symm z)] at hx
    obtain ⟨k, hk, e, rfl⟩ := a.val hx
    exact ⟨⟨by omega, .inr (a.can hk)⟩, by rw [← Int.natCast_emod, e]⟩
  ·rw [List.length_set, len]
   have m0 := Int.emod_nonneg s (show (n : Int) ≠ 0 by omega)
   have m1 := Int.emod_lt_of_pos s (show (0 : Int) < n by omega)
   obtain ⟨y, hy⟩ : ∃ y, h[(s % (n : Int)).toNat]? = some y := ⟨_, List.getElem?_eq_getElem (by omega)⟩
   have can : Can h s → y ≤ s := fun c => by
    rw [can_iff, len, getD_at hy] at c
    exact c
   by_cases z : (s % (n : Int)).toNat = (m * (n - 1)) % n
   ·have : (h.set ((m * (n - 1)) % n) (((m * (n - 1) : Nat) : Int) - (n : Int)))[(s % (n : Int)).toNat]? = some (((m * (n - 1) : Nat) : Int) - (n : Int)) := by rw [z, List.getElem?_set_self (by omega)]
    rw [getD_at this]
    rcases hs.2 with c | c
    ·exact c
    ·have := can c
     have e := a.at' (n - 1) (by omega)
     rw [← z, hy] at e
     have := Option.some.inj e
     omega
   ·have : (h.set ((m * (n - 1)) % n) (((m * (n - 1) : Nat) : Int) - (n : Int)))[(s % (n : Int)).toNat]? = some y := by rw [List.getElem?_set_ne (Ne.symm z)]; exact hy
    rw [getD_at this]
    rcases hs.2 with c | c
    ·obtain ⟨k, hk, e, rfl⟩ := a.val hy
     have k2 : k ≤ n - 2 := by
      rcases Nat.lt_or_ge k (n - 1) with u | u
      ·omega
      ·exact absurd (by rw [← e, show k = n - 1 by omega]) z
     have : m * k ≤ m * (n - 2) := Nat.mul_le_mul_left m k2
     omega
    ·exact can c
 ·refine ⟨by omega, ⟨by omega, .inr ?_⟩, fun k k1 k2 hs => ?_⟩
  ·rw [can_iff, len, Int.emod_self, show (0 : Int).toNat = 0 from rfl, getD_at house.zero]
   omega
  ·rcases hs.2 with c | c
   ·omega
   ·rw [can_iff, len, Int.emod_eq_of_lt (by omega) k2] at c
    obtain ⟨y, hy⟩ : ∃ y, h[k.toNat]? = some y := ⟨_, List.getElem?_eq_getElem (by omega)⟩
    rw [getD_at hy] at c
    have := house.above k.toNat y hy (by omega)
    omega
end
theorem full_least {m : Nat} (m1 : 1 ≤ m) : LeastS (fun s => s = 0 ∨ (m : Int) ≤ s) (fullL m) := by
 refine ⟨by rw [fullL_len m1]; omega, fun r x hx => ?_, fun s hs => ?_⟩
 ·rw [fullL_len m1]
  rcases fullL_get hx with ⟨rfl, rfl⟩ | ⟨r1, r2, rfl⟩
  ·exact ⟨.inl rfl, by simp⟩
  ·exact ⟨.inr (by omega), by rw [Int.add_emod_left, Int.emod_eq_of_lt (by omega) (by omega)]⟩
 ·rw [fullL_len m1]
  have m0 := Int.emod_nonneg s (show (m : Int) ≠ 0 by omega)
  have m2 := Int.emod_lt_of_pos s (show (0 : Int) < m by omega)
  obtain ⟨y, hy⟩ : ∃ y, (fullL m)[(s % (m : Int)).toNat]? = some y := ⟨_, List.getElem?_eq_getElem (by rw [fullL_len m1]; omega)⟩
  rw [getD_at hy]
  rcases fullL_get hy with ⟨e, rfl⟩ | ⟨r1, r2, rfl⟩
  ·omega
  ·rcases hs with rfl | hs
   ·simp at r1
   ·have e := Int.emod_add_mul_ediv s (m : Int)
    have d1 : 1 ≤ s / (m : Int) := Int.le_ediv_of_mul_le (by omega) (by omega)
    have := Int.mul_le_mul_of_nonneg_left d1 (show (0 : Int) ≤ m by omega)
    omega
theorem full_leastN {m : Nat} (m1 : 1 ≤ m) : LeastN (fun s => s = 0 ∨ (m : Int) ≤ s) ((fullL m).length : Int) := by
 rw [fullL_len m1]
 exact ⟨by omega, .inr (Int.le_refl _), fun k k1 k2 h => by omega⟩
theorem fill_full {m : Nat} (m1 : 2 ≤ m) : ∀ s, FillS (fullL m) ((m : Int) - 1) s ↔ s = 0 ∨ (((m - 1 : Nat) : Int) ≤ s) := fun s => by
 have h := full_house (m := m) (by omega)
 constructor
 ·rintro ⟨s0, c | c⟩
  ·exact .inr (by omega)
  ·by_cases z : s = 0
   ·exact .inl z
   ·rw [can_iff, fullL_len (by omega)] at c
    have m0 := Int.emod_nonneg s (show (m : Int) ≠ 0 by omega)
    have m2 := Int.emod_lt_of_pos s (show (0 : Int) < m by omega)
    obtain ⟨y, hy⟩ : ∃ y, (fullL m)[(s % (m : Int)).toNat]? = some y := ⟨_, List.getElem?_eq_getElem (by rw [fullL_len (by omega)]; omega)⟩
    rw [getD_at hy] at c
    rcases fullL_get hy with ⟨e, rfl⟩ | ⟨r1, r2, rfl⟩
    ·by_cases u : s < (m : Int)
     ·rw [Int.emod_eq_of_lt s0 u] at e
      omega
     ·exact .inr (by omega)
    ·exact .inr (by omega)
 ·rintro (rfl | c)
  ·exact ⟨by omega, .inr h.can0⟩
  ·exact ⟨by omega, .inl (by omega)⟩
theorem LeastS.congr2 {S T : Int → Prop} {g : List Int} (h : ∀ s, S s ↔ T s) (a : LeastS T g) : LeastS S g := ⟨a.pos, fun r x hx => ⟨(h x).mpr (a.mem r x hx).1, (a.mem r x hx).2⟩, fun s hs => a.least s ((h s).mp hs)⟩
theorem LeastN.congr2 {S T : Int → Prop} {n : Int} (h : ∀ s, S s ↔ T s) (a : LeastN T n) : LeastN S n := ⟨a.one, (h n).mpr a.has, fun k k1 k2 hs => a.low k k1 k2 ((h k).mp hs)⟩
theorem full_top {m : Nat} (m2 : 2 ≤ m) : (2 * (m : Int) - 1) ∈ fullL m ∧ ∀ x ∈ fullL m, x ≤ 2 * (m : Int) - 1 := by
 constructor
 ·unfold fullL
  refine List.mem_cons_of_mem _ (List.mem_map.mpr ⟨m - 2, List.mem_range.mpr (by omega), by omega⟩)
 ·intro x hx
  obtain ⟨r, hr⟩ := List.mem_iff_getElem?.mp hx
  rcases fullL_get hr with ⟨_, rfl⟩ | ⟨_, _, rfl⟩
  ·omega
  ·omega
theorem full_par {m : Nat} (m2 : 2 ≤ m) {g : List Int} (L : LeastS (FillS (fullL m) ((m : Int) - 1)) g) (N : LeastN (FillS (fullL m) ((m : Int) - 1)) (g.length : Int)) : g = fullL (m - 1) :=
 least_uniq (LeastS.congr2 (fill_full m2) (full_least (m := m - 1) (by omega))) (LeastN.congr2 (fill_full m2) (full_leastN (m := m - 1) (by omega))) L N
section
variable {l : Int}
theorem pair_house (l3 : 3 ≤ l) (od : l % 2 = 1) : House [0, l] := by
 refine ⟨by simp, rfl, fun r x hx r0 => ?_, fun r x hx => ?_, fun i j k x y z hx hy hz hk => ?_⟩
 ·match r, hx with
  | 0, _ => exact absurd rfl r0
  | 1, hx => cases hx; show (2 : Int) < l; omega
  | r + 2, hx => simp at hx
 ·match r, hx with
  | 0, hx => cases hx; rfl
  | 1, hx => cases hx; exact od
  | r + 2, hx => simp at hx
 ·have hk' : (k : Int) = ((i : Int) + j) % 2 := hk
  match i, j, k, hx, hy, hz with
  | 0, 0, 0, hx, hy, hz => cases hx; cases hy; cases hz; omega
  | 0, 0, 1, hx, hy, hz => simp at hk'
  | 0, 1, 0, hx, hy, hz => simp at hk'
  | 0, 1, 1, hx, hy, hz => cases hx; cases hy; cases hz; omega
  | 1, 0, 0, hx, hy, hz => simp at hk'
  | 1, 0, 1, hx, hy, hz => cases hx; cases hy; cases hz; omega
  | 1, 1, 0, hx, hy, hz => cases hx; cases hy; cases hz; omega
  | 1, 1, 1, hx, hy, hz => simp at hk'
  | i + 2, _, _, hx, _, _ => simp at hx
  | 0, j + 2, _, _, hy, _ => simp at hy
  | 1, j + 2, _, _, hy, _ => simp at hy
  | 0, 0, k + 2, _, _, hz => simp at hz
  | 0, 1, k + 2, _, _, hz => simp at hz
  | 1, 0, k + 2, _, _, hz => simp at hz
  | 1, 1, k + 2, _, _, hz => simp at hz
theorem pair_can (l3 : 3 ≤ l) (s : Int) (s0 : 0 ≤ s) : Can [0, l] s ↔ s % 2 = 0 ∨ l ≤ s := by
 rw [can_iff]
 show [0, l].getD (s % 2).toNat 0 ≤ s ↔ _
 rcases (show s % 2 = 0 ∨ s % 2 = 1 by omega) with e | e
 ·rw [e]
  exact ⟨fun _ => .inl rfl, fun _ => s0⟩
 ·rw [e]
  exact ⟨fun h => .inr h, fun h => h.elim (fun z => by omega) id⟩
theorem pair_need (l3 : 3 ≤ l) : need [0, l] = [2, l] := by
 have : partedB [0, l] l = false := by
  unfold partedB
  show ([l].any fun part => decide (0 < l - part) && canB [0, l] (l - part)) = false
  simp
 unfold need
 show (2 : Int) :: ([l].filter fun x => !partedB [0, l] x) = _
 rw [List.filter_cons, this]
 rfl
theorem pair_sorted {ms : List Int} (l3 : 3 ≤ l) (pm : ms.Perm (need [0, l])) (srt : ms.Pairwise (· ≤ ·)) : ms = [2, l] := by
 rw [pair_need l3] at pm
 have nd : ms.Nodup := pm.nodup_iff.mpr (by simp; omega)
 refine rising_eq ?_ (by simp; omega) fun x => pm.mem_iff
 have h1 : ms.Pairwise (fun x y => x ≤ y ∧ x ≠ y) := srt.and nd
 exact h1.imp fun hab => by omega
theorem pair_par3 {g : List Int} (L : LeastS (FillS [0, 3] 1) g) (N : LeastN (FillS [0, 3] 1) (g.length : Int)) : g = [0] := by
 have hS : ∀ s, FillS [0, 3] 1 s ↔ 0 ≤ s := fun s => by
  refine ⟨fun h => h.1, fun h => ⟨h, ?_⟩⟩
  by_cases z : s = 0
  ·subst z; exact .inr ((pair_can (by omega) 0 (by omega)).mpr (.inl rfl))
  ·exact .inl (by omega)
 refine least_uniq (LeastS.congr2 hS ⟨by simp, fun r x hx => ?_, fun s hs => ?_⟩) (LeastN.congr2 hS ⟨by simp, by simp, fun k k1 k2 => by simp at k2; omega⟩) L N
 ·match r, hx with
  | 0, hx => cases hx; exact ⟨Int.le_refl _, rfl⟩
  | r + 1, hx => simp at hx
 ·show [(0 : Int)].getD (s % 1).toNat 0 ≤ s
  rw [Int.emod_one]
  exact hs
theorem pair_par (l5 : 5 ≤ l) (od : l % 2 = 1) {g : List Int} (L : LeastS (FillS [0, l] (l - 2)) g) (N : LeastN (FillS [0, l] (l - 2)) (g.length : Int)) : g = [0, l - 2] := by
 have hS : ∀ s, FillS [0, l] (l - 2) s ↔ 0 ≤ s ∧ (s % 2 = 0 ∨ l - 2 ≤ s) := fun s => by
  constructor
  ·rintro ⟨s0, c | c⟩
   ·exact ⟨s0, .inr c⟩
   ·rcases (pair_can (by omega) s s0).mp c with z | z
    ·exact ⟨s0, .inl z⟩
    ·exact ⟨s0, .inr (by omega)⟩
  ·rintro ⟨s0, c | c⟩
   ·exact ⟨s0, .inr ((pair_can (by omega) s s0).mpr (.inl c))⟩
   ·exact ⟨s0, .inl c⟩
 refine least_uniq (LeastS.congr2 hS ⟨by simp, fun r x hx => ?_, fun s hs => ?_⟩) (LeastN.congr2 hS ⟨by simp, by simp, fun k k1 k2 => by simp at k2; omega⟩) L N
 ·match r, hx with
  | 0, hx => cases hx; exact ⟨⟨by omega, .inl rfl⟩, rfl⟩
  | 1, hx => cases hx; exact ⟨⟨by omega, .inr (Int.le_refl _)⟩, by show (l - 2) % 2 = 1; omega⟩
  | r + 2, hx => simp at hx
 ·show [0, l - 2].getD (s % 2).toNat 0 ≤ s
  rcases (show s % 2 = 0 ∨ s % 2 = 1 by omega) with e | e
  ·rw [e]; exact hs.1
  ·rw [e]
   show l - 2 ≤ s
   rcases hs.2 with c | c
   ·omega
   ·exact c
end
noncomputable def sAboveX (c : Addr) : Sp := fun vs H Q E => match vs with
 | [.int m] => (1 ≤ m ∧ m ≤ 1000) ∧ (m < 1000 → ∀ (p : Addr) (H' : Hp), Same H H' → H p = none → H' p = some (.lst ((fullL (m.toNat + 1)).map V.int)) → Q (.ref p) H') ∧ (m = 1000 → E (.ref c) none H)
 | _ => False
noncomputable def sWOX (K : FrK) (c : Addr) : Sp := fun vs H Q E => match vs with
 | [.ref a, .int x] => ∃ h, LI K H a h ∧ House h ∧ h.length ≤ 1000 ∧ (¬ (x = (h.length : Int) ∧ h.length = 1000) → ∀ (p : Addr) (H' : Hp), Same H H' → H p = none → H' p = some (.lst ((woH h x).map V.int)) → Q (.ref p) H') ∧ (x = (h.length : Int) → h.length = 1000 → E (.ref c) none H)
 | _ => False
noncomputable def sNeedX (K : FrK) : Sp := fun vs H Q _ => match vs with
 | [.ref a] => ∃ h, LI K H a h ∧ House h ∧ h.length ≤ 1000 ∧ ∀ (p : Addr) (ms : List Int) (H' : Hp), Same H H' → H p = none → H' p = some (.lst (ms.map V.int)) → ms.Perm (need h) → ms.Pairwise (· ≤ ·) → Q (.ref p) H'
 | _ => False
structure KidsAt (H : Hp) (p : Addr) (ps : List Addr) (h cs : List Int) : Prop where
 lst : H p = some (.lst (ps.map V.ref))
 len : ps.length = cs.length
 kid : ∀ (i : Nat) (q : Addr) (c : Int), ps[i]? = some q → cs[i]? = some c → H q = some (.lst ((woH h c).map V.int))
noncomputable def sKidsX (K : FrK) (c : Addr) : Sp := fun vs H Q E => match vs with
 | [.ref a] => ∃ h, LI K H a h ∧ House h ∧ h.length ≤ 1000 ∧ ∃ M, M ∈ h ∧ (∀ x ∈ h, x ≤ M) ∧ (((h.length < 1000 ∨ 2000 ≤ M) ∧ ∀ (p : Addr) (ps : List Addr) (ms : List Int) (H' : Hp), Same H H' → H p = none → (∀ q ∈ ps, H q = none) → ms.Perm (need h) → ms.Pairwise (· ≤ ·) → KidsAt H' p ps h (ms.filter fun x => decide (M - (h.length : Int) < x)) → Q (.ref p) H') ∨ (h = fullL 1000 ∧ ∀ H', Same H H' → E (.ref c) none H'))
 | _ => False
noncomputable def sParX (K : FrK) : Sp := fun vs H Q _ => match vs with
 | [.ref a] => ∃ h, LI K H a h ∧ House h ∧ h.length ≤ 1000 ∧ ∃ M, M ∈ h ∧ (∀ x ∈ h, x ≤ M) ∧ (M - (h.length : Int) < 1 → Q .non H) ∧ (1 ≤ M - (h.length : Int) → ∀ (p : Addr) (g : List Int) (H' : Hp), Same H H' → H p = none → H' p = some (.lst (g.map V.int)) → LeastS (FillS h (M - (h.length : Int))) g → LeastN (FillS h (M - (h.length : Int))) (g.length : Int) → Q (.ref p) H')
 | _ => False
noncomputable def ParV (H : Hp) (h : List Int) (F : Int) (v : V) : Prop := (F < 1 ∧ v = .non) ∨ (1 ≤ F ∧ ∃ r g, v = .ref r ∧ H r = some (.lst (List.map V.int g)) ∧ ∀ g', LeastS (FillS h F) g' → LeastN (FillS h F) (g'.length : Int) → g' = g)
theorem ParV.mono {H H' : Hp} {h : List Int} {F : Int} {v : V} (a : ParV H h F v) (s : Same H H') : ParV H' h F v := by
 rcases a with z | ⟨f, r, g, e, hr, u⟩
 ·exact .inl z
 ·exact .inr ⟨f, r, g, e, s _ _ hr, u⟩
noncomputable def sLPar (K : FrK) : Sp := fun vs H Q _ => match vs with
 | [.ref a, v] => ∃ h, H a = some (.lst (h.map V.int)) ∧ House h ∧ h.length ≤ 1000 ∧ ∃ M, M ∈ h ∧ (∀ x ∈ h, x ≤ M) ∧ ParV H h (M - (h.length : Int)) v ∧ ∀ H', Same H H' → Q (.bl true) H'
 | _ => False
noncomputable def sHouses (K : FrK) : Sp := fun vs H Q _ => match vs with
 | [.ref p, .ref r] => ∃ (ps rs : List Addr) (gs : List (List Int)), H p = some (.lst (ps.map V.ref)) ∧ H r = some (.lst (rs.map V.ref)) ∧ ps.length = gs.length ∧ rs.length = gs.length ∧ (∀ (i : Nat) (q : Addr) (g : List Int), ps[i]? = some q → gs[i]? = some g → H q = some (.lst (g.map V.int))) ∧ (∀ (i : Nat) (q : Addr) (g : List Int), rs[i]? = some q → gs[i]? = some g → H q = some (.lst (g.map V.int))) ∧ ∀ H', Same H H' → Q (.bl true) H'
 | _ => False
noncomputable def sGaps61 (K : FrK) : Sp := fun vs H Q _ => match vs with
 | [.ref a] => ∃ ns, LI K H a ns ∧ ns.length ≤ 63 ∧ ∀ (p : Addr) (G : List Int) (H' : Hp), Same H H' → H p = none → H' p = some (.lst (G.map V.int)) → Gaps G → (∀ g ∈ G, g ≤ 620) → G.length ≤ 299 → Q (.ref p) H'
 | _ => False
noncomputable def sMore (K : FrK) : Sp := fun vs H Q _ => match vs with
 | [.ref a] => ∃ G, LI K H a G ∧ Gaps G ∧ (∀ g ∈ G, g ≤ 620) ∧ G.length ≤ 299 ∧ ∀ (p : Addr) (H' : Hp), Same H H' → H p = none → H' p = some (.lst ((nexts G).map V.int)) → Q (.ref p) H'
 | _ => False
noncomputable def sTwo61 : Sp := fun vs H Q _ => match vs with
 | [.int l] => (3 ≤ l ∧ l ≤ 2000000) ∧ l % 2 = 1 ∧ ∀ H', Same H H' → Q (.bl true) H'
 | _ => False
noncomputable def sLong61 (K : FrK) : Sp := fun vs H Q _ => match vs with
 | [.ref a] => ∃ ns, LI K H a ns ∧ ns.length ≤ 63 ∧ ∀ H', Same H H' → Q (.bl true) H'
 | _ => False
noncomputable def sToo61 : Sp := fun vs H Q _ => match vs with
 | [] => ∀ H', Same H H' → Q (.bl true) H'
 | _ => False
theorem gaps_len {G : List Int} {N : Nat} (g : Gaps G) (hb : ∀ x ∈ G, x ≤ (N : Int)) : G.length ≤ N := by
 have := sub_len (l := G) (m := (List.range N).map fun (i : Nat) => 1 + (i : Int)) g.nodup fun x hx => by
  have h1 := g.pos x hx
  have h2 := hb x hx
  exact List.mem_map.mpr ⟨(x - 1).toNat, List.mem_range.mpr (by omega), by omega⟩
 simpa using this
theorem kids_next {G h ms : List Int} {M : Int} (g : Gaps G) (hh : HouseOf G h) (hM : M ∈ h) (mx : ∀ x ∈ h, x ≤ M) (pm : ms.Perm (need h)) (srt : ms.Pairwise (· ≤ ·)) : ms.filter (fun x => decide (M - (h.length : Int) < x)) = nexts G := by
 have house := hh.house g
 have top : ∀ x, 1 ≤ x → ((M - (h.length : Int) < x) ↔ ∀ y ∈ G, y < x) := fun x x1 => by
  rcases hh.top g hM mx with ⟨e, f⟩ | ⟨f1, f2⟩
  ·rw [e]
   exact ⟨(fun _ y hy => by cases hy), fun _ => by omega⟩
  ·exact ⟨fun z y hy => by have := f2 y hy; omega, fun z => z _ f1⟩
 have nd : ms.Nodup := pm.nodup_iff.mpr (need_nodup house)
 refine nexts_of ?_ fun x => ?_
 ·have h1 : ms.Pairwise (fun x y => x ≤ y ∧ x ≠ y) := srt.and nd
  exact List.Pairwise.filter _ (h1.imp fun hab => by omega)
 ·rw [List.mem_filter, pm.mem_iff, decide_eq_true_iff, ← need_next g hh]
  constructor
  ·rintro ⟨h1, h2⟩
   exact ⟨h1, (top x ((mem_needH house).mp h1).1).mp h2⟩
  ·rintro ⟨h1, h2⟩
   exact ⟨h1, (top x ((mem_needH house).mp h1).1).mpr h2⟩
theorem kid_house {G h : List Int} {c : Int} (g : Gaps G) (hh : HouseOf G h) (n : Next G c) : HouseOf (G ++ [c]) (woH h c) := by
 unfold woH
 by_cases z : c = (h.length : Int)
 ·rw [if_pos z]
  subst z
  exact above_house g hh n
 ·rw [if_neg z]
  exact less_house g hh n z
theorem par_nil {h : List Int} {M : Int} {H : Hp} (hh : HouseOf [] h) (hM : M ∈ h) (mx : ∀ x ∈ h, x ≤ M) : ParV H h (M - (h.length : Int)) .non := by
 rcases hh.top Gaps.nil hM mx with ⟨_, f⟩ | ⟨f, _⟩
 ·exact .inl ⟨by omega, rfl⟩
 ·cases f
theorem par_last {G h p : List Int} {c M : Int} {H : Hp} {r : Addr} (g : Gaps (G ++ [c])) (hh : HouseOf (G ++ [c]) h) (hp : HouseOf G p) (hM : M ∈ h) (mx : ∀ x ∈ h, x ≤ M) (hr : H r = some (.lst (p.map V.int))) : ParV H h (M - (h.length : Int)) (.ref r) := by
 have n := g.last.2
 have ec : M - (h.length : Int) = c := by
  rcases hh.top g hM mx with ⟨f, _⟩ | ⟨f1, f2⟩
  ·simp at f
  ·have h1 := f2 c (List.mem_append_right _ (List.mem_singleton.mpr rfl))
   rcases List.mem_append.mp f1 with z | z
   ·have := n.top _ z; omega
   ·exact List.mem_singleton.mp z
 rw [ec]
 exact .inr ⟨n.pos, r, p, rfl, hr, fun g' L N => (fill_parent g hh L N).uniq hp⟩
end PG
namespace PG
open PySem L2 PyProof.Rows
noncomputable def top (i : Nat) : Stmt := PySem.Challenge.pw_paygaps_k61_parents_and_children.main.body.getD i (.Pass ⟨0, 0, 0, 0⟩)
noncomputable abbrev s_is_number : Stmt := top 13
noncomputable abbrev s_check_sum_from : Stmt := top 14
noncomputable abbrev s_share_of_two : Stmt := top 15
noncomputable abbrev s_with_coin : Stmt := top 18
noncomputable abbrev s_lower_next : Stmt := top 19
noncomputable abbrev s_lower_rest : Stmt := top 20
noncomputable abbrev s_greatest_gap : Stmt := top 21
noncomputable abbrev s_needed_coins : Stmt := top 23
noncomputable abbrev s_is_parted : Stmt := top 24
noncomputable abbrev s_sums_by_rests : Stmt := top 26
noncomputable abbrev s_first_from : Stmt := top 27
noncomputable abbrev s_filled : Stmt := top 28
noncomputable abbrev s_house_by_sums : Stmt := top 29
noncomputable abbrev s_parent_of : Stmt := top 31
noncomputable abbrev s_children_of : Stmt := top 32
noncomputable abbrev s_without_coin : Stmt := top 33
noncomputable abbrev s_house_above : Stmt := top 34
noncomputable abbrev s__law_whole : Stmt := top 36
noncomputable abbrev s__law_cell : Stmt := top 37
noncomputable abbrev s__law_mixed : Stmt := top 38
noncomputable abbrev s__law_divisor : Stmt := top 39
noncomputable abbrev s__law_of_coins : Stmt := top 40
noncomputable abbrev s__law_stays_closed : Stmt := top 41
noncomputable abbrev s__law_one_by_one : Stmt := top 42
noncomputable abbrev s__law_gaps : Stmt := top 43
noncomputable abbrev s__law_house : Stmt := top 44
noncomputable abbrev s__law_more : Stmt := top 45
noncomputable abbrev s__law_numbers : Stmt := top 46
noncomputable abbrev s__law_houses : Stmt := top 47
noncomputable abbrev s__law_parent : Stmt := top 48
noncomputable abbrev s__law_of_two : Stmt := top 49
noncomputable abbrev s__law_too_long : Stmt := top 50
noncomputable abbrev s__law_long : Stmt := top 51
noncomputable abbrev s_law : Stmt := top 52
noncomputable abbrev s_Unclosed___init__ : Stmt := inClass (top 9) 0
structure Errs (K : FrK) (mg : Str → Option Value) where
 a_PayError : Addr
 m_PayError : mg "PayError" = some (.ref a_PayError)
 a_NoCoins : Addr
 m_NoCoins : mg "NoCoins" = some (.ref a_NoCoins)
 a_NoPaying : Addr
 m_NoPaying : mg "NoPaying" = some (.ref a_NoPaying)
 a_NoSum : Addr
 m_NoSum : mg "NoSum" = some (.ref a_NoSum)
 a_Shared : Addr
 m_Shared : mg "Shared" = some (.ref a_Shared)
 a_TooMany : Addr
 m_TooMany : mg "TooMany" = some (.ref a_TooMany)
 a_NoOne : Addr
 m_NoOne : mg "NoOne" = some (.ref a_NoOne)
 a_NoGaps : Addr
 m_NoGaps : mg "NoGaps" = some (.ref a_NoGaps)
 a_Unclosed : Addr
 m_Unclosed : mg "Unclosed" = some (.ref a_Unclosed)
 a_NoChange : Addr
 m_NoChange : mg "NoChange" = some (.ref a_NoChange)
 a_TooLittle : Addr
 m_TooLittle : mg "TooLittle" = some (.ref a_TooLittle)
 x_TooMany : ExcC K a_TooMany
 c_TooMany : PySem.W.ErrC K a_TooMany
 t_TooMany : PySem.W.exmOne K (.ref a_TooMany) (.ref a_PayError) = some true
 v_TooMany : PySem.W.kitOne K (.ref a_TooMany) (.type "ValueError") = some true
 k_TooMany_PayError : PySem.W.kitOne K (.ref a_TooMany) (.ref a_PayError) = some true
 k_TooMany_NoCoins : PySem.W.kitOne K (.ref a_TooMany) (.ref a_NoCoins) = some false
 k_TooMany_NoPaying : PySem.W.kitOne K (.ref a_TooMany) (.ref a_NoPaying) = some false
 k_TooMany_NoSum : PySem.W.kitOne K (.ref a_TooMany) (.ref a_NoSum) = some false
 k_TooMany_Shared : PySem.W.kitOne K (.ref a_TooMany) (.ref a_Shared) = some false
 k_TooMany_TooMany : PySem.W.kitOne K (.ref a_TooMany) (.ref a_TooMany) = some true
 k_TooMany_NoOne : PySem.W.kitOne K (.ref a_TooMany) (.ref a_NoOne) = some false
 k_TooMany_NoGaps : PySem.W.kitOne K (.ref a_TooMany) (.ref a_NoGaps) = some false
 k_TooMany_Unclosed : PySem.W.kitOne K (.ref a_TooMany) (.ref a_Unclosed) = some false
 k_TooMany_NoChange : PySem.W.kitOne K (.ref a_TooMany) (.ref a_NoChange) = some false
 k_TooMany_TooLittle : PySem.W.kitOne K (.ref a_TooMany) (.ref a_TooLittle) = some false
 xc_Unclosed : PySem.W.XC K a_Unclosed a_PayError
 hd_Unclosed : PySem.W.hasDictIn K a_Unclosed = true
 nf_Unclosed_one : PySem.W.findIn K (.ref a_Unclosed) "one" = some none
 tk_Unclosed_one : PySem.W.takerIn K a_Unclosed "one" = some none
 nf_Unclosed_other : PySem.W.findIn K (.ref a_Unclosed) "other" = some none
 tk_Unclosed_other : PySem.W.takerIn K a_Unclosed "other" = some none
 c_Unclosed : PySem.W.ErrC K a_Unclosed
 t_Unclosed : PySem.W.exmOne K (.ref a_Unclosed) (.ref a_PayError) = some true
 v_Unclosed : PySem.W.kitOne K (.ref a_Unclosed) (.type "ValueError") = some true
 k_Unclosed_PayError : PySem.W.kitOne K (.ref a_Unclosed) (.ref a_PayError) = some true
 k_Unclosed_NoCoins : PySem.W.kitOne K (.ref a_Unclosed) (.ref a_NoCoins) = some false
 k_Unclosed_NoPaying : PySem.W.kitOne K (.ref a_Unclosed) (.ref a_NoPaying) = some false
 k_Unclosed_NoSum : PySem.W.kitOne K (.ref a_Unclosed) (.ref a_NoSum) = some false
 k_Unclosed_Shared : PySem.W.kitOne K (.ref a_Unclosed) (.ref a_Shared) = some false
 k_Unclosed_TooMany : PySem.W.kitOne K (.ref a_Unclosed) (.ref a_TooMany) = some false
 k_Unclosed_NoOne : PySem.W.kitOne K (.ref a_Unclosed) (.ref a_NoOne) = some false
 k_Unclosed_NoGaps : PySem.W.kitOne K (.ref a_Unclosed) (.ref a_NoGaps) = some false
 k_Unclosed_Unclosed : PySem.W.kitOne K (.ref a_Unclosed) (.ref a_Unclosed) = some true
 k_Unclosed_NoChange : PySem.W.kitOne K (.ref a_Unclosed) (.ref a_NoChange) = some false
 k_Unclosed_TooLittle : PySem.W.kitOne K (.ref a_Unclosed) (.ref a_TooLittle) = some false
end PG
namespace PG
open PySem L2 PyProof.Rows
section
variable {P : Program} {w : World} {K : FrK} {mg : Str → Option Value} {base : Heap}
theorem sc_is_number : FnScope ["thing"] ["thing"] (defScope s_is_number) := ⟨rfl, rfl, rfl, by decide +kernel, rfl, by decide +kernel, by decide +kernel⟩
theorem ok_is_number {f : Addr} {fd : FuncData} (F : Fun K "is_number" "is_number" s_is_number f fd) (B : Blt mg) (ER : Errs K mg) : FnOk P w K mg base (CX1 P w) 1 f fd ["thing"] sNum := by
 refine F.okN sc_is_number (fun vs H Q E h => ?_) (fun cdv A outer s H vs Q E hr h => ?_)
 ·unfold sNum at h; split at h
  ·rfl
  ·exact h.elim
 ·unfold sNum at h; split at h
  rotate_left
  ·exact h.elim
  rename_i x
  refine ⟨_, (q_sone (q_ret (q_and (q_callB (uc_isi (K := K)) (by rfl) B.isi boot_isinstance (q_cons (q_v 0) (q_cons (q_bltn (v := .ty "int") (by rfl) B.int boot_int rfl) q_nil))) (q_one (q_not (q_callB (uc_isi (K := K)) (by rfl) B.isi boot_isinstance (q_cons (q_v 0) (q_cons (q_bltn (v := .ty "bool") (by rfl) B.bool boot_bool rfl) q_nil)))))))), ?_⟩
  obtain ⟨kn, q⟩ := h
  cases x with
  | non => exact ⟨_, false, TyOf.non, by kernel_rfl, iteF q⟩
  | bl b => exact ⟨_, true, TyOf.bl b, by kernel_rfl, iteT ⟨_, true, TyOf.bl b, by kernel_rfl, q⟩⟩
  | int i => exact ⟨_, true, TyOf.int i, by kernel_rfl, iteT ⟨_, false, TyOf.int i, by kernel_rfl, q⟩⟩
  | str x => exact ⟨_, false, TyOf.str x, by kernel_rfl, iteF q⟩
  | ref a =>
   rcases kn with ⟨xs, e⟩ | ⟨xs, e⟩ | ⟨kvs, e⟩
   ·exact ⟨_, false, TyOf.lst e, by kernel_rfl, iteF q⟩
   ·exact ⟨_, false, TyOf.tup e, by kernel_rfl, iteF q⟩
   ·exact ⟨_, false, TyOf.dK e, by kernel_rfl, iteF q⟩
  | _ => exact kn.elim
theorem sc_share_of_two : FnScope ["one", "other", "greater", "less", "rest"] ["one", "other"] (defScope s_share_of_two) := ⟨rfl, rfl, rfl, by decide +kernel, rfl, by decide +kernel, by decide +kernel⟩
theorem ok_share_of_two {f : Addr} {fd : FuncData} (F : Fun K "share_of_two" "share_of_two" s_share_of_two f fd) (ER : Errs K mg) : FnOk P w K mg base (CX1 P w) 1 f fd ["one", "other"] sGcd := by
 refine F.okN sc_share_of_two (fun vs H Q E h => ?_) (fun cdv A outer s H vs Q E hr h => ?_)
 ·unfold sGcd at h; split at h
  ·rfl
  ·exact h.elim
 ·unfold sGcd at h; split at h
  rotate_left
  ·exact h.elim
  rename_i a b
  refine ⟨_, (q_scons (q_set (i := 2) sc_share_of_two.nd rfl (Or.inl rfl) (q_v 0)) (q_scons (q_set (i := 3) sc_share_of_two.nd rfl (Or.inl rfl) (q_v 1)) (q_scons (q_while PassesOwn.never (q_tcmp uo_gt (q_v 3) q_int (nomark _)) (q_scons (q_set (i := 4) sc_share_of_two.nd rfl (Or.inl rfl) (q_op uo_mod (q_v 2) (q_v 3))) (q_scons (q_set (i := 2) sc_share_of_two.nd rfl (Or.inl rfl) (q_v 3)) (q_sone (q_set (i := 3) sc_share_of_two.nd rfl (Or.inl rfl) (q_v 4)))))) (q_sone (q_ret (q_v 2)))))), ?_⟩
  obtain ⟨ha, hb, q⟩ := h
  refine while_of (fun σ H' => ∃ (g l : Int) (r : Option V), σ = [some (.int a), some (.int b), some (.int g), some (.int l), r] ∧ H' = H ∧ 0 ≤ g ∧ 0 ≤ l ∧ Nat.gcd g.toNat l.toNat = Nat.gcd a.toNat b.toNat) (fun σ _ => match σ with | [_, _, _, some (.int l), _] => l.toNat | _ => 0) ⟨a, b, none, rfl, rfl, ha, hb, rfl⟩ ?_
  rintro σ H' ⟨g, l, r, rfl, rfl, hg, hl, e⟩
  refine ifB (fun h1 => while_go ?_) fun h1 => ?_
  ·have h2 : 0 < l := of_decide_eq_true h1
   refine ⟨h2, ⟨l, g % l, _, rfl, rfl, hl, Int.emod_nonneg _ (by omega), ?_⟩, ?_⟩
   ·rw [gcd_step hg h2, e]
   ·show (g % l).toNat < l.toNat
    have := Int.emod_lt_of_pos g h2
    have := Int.emod_nonneg g (show l ≠ 0 by omega)
    omega
  ·have h1' : ¬ 0 < l := of_decide_eq_false h1
   have z : l = 0 := by omega
   subst z
   have e' : g = ((Nat.gcd a.toNat b.toNat : Nat) : Int) := by
    rw [← e]
    simp
    omega
   rw [← e'] at q
   exact q
theorem sc_check_sum_from : FnScope ["least", "amount"] ["least", "amount"] (defScope s_check_sum_from) := ⟨rfl, rfl, rfl, by decide +kernel, rfl, by decide +kernel, by decide +kernel⟩
theorem ok_check_sum_from {f : Addr} {fd : FuncData} (F : Fun K "check_sum_from" "check_sum_from" s_check_sum_from f fd) (ER : Errs K mg) (g_is_number : G P w K mg base (CX1 P w) "is_number" ["thing"] 1 sNum) : FnOk P w K mg base (CX1 P w) 2 f fd ["least", "amount"] sFrom0 := by
 refine F.okN sc_check_sum_from (fun vs H Q E h => ?_) (fun cdv A outer s H vs Q E hr h => ?_)
 ·unfold sFrom0 at h; split at h
  ·rfl
  ·exact h.elim
 ·unfold sFrom0 at h; split at h
  rotate_left
  ·exact h.elim
  rename_i l n
  refine ⟨_, (q_sone (q_sif (q_tw (q_tor (q_tnot (q_tval (K := K) (q_g g_is_number (hr.mono (by decide)) pass1E (q_cons (q_v 1) q_nil)))) (q_tor1 (q_tcmp uo_lt (q_v 1) (q_v 0) (nomark _))))) (q_sone q_never) q_snil)), ?_⟩
  obtain ⟨hl, q⟩ := h
  refine ⟨trivial, ifB (fun g => by exfalso; have := of_decide_eq_true g; omega) fun _ => q⟩
theorem sc_greatest_gap : FnScope ["house"] ["house"] (defScope s_greatest_gap) := ⟨rfl, rfl, rfl, by decide +kernel, rfl, by decide +kernel, by decide +kernel⟩
theorem ok_greatest_gap {f : Addr} {fd : FuncData} (F : Fun K "greatest_gap" "greatest_gap" s_greatest_gap f fd) (B : Blt mg) (ER : Errs K mg) : FnOk P w K mg base (CX1 P w) 1 f fd ["house"] (sGreat K) := by
 refine F.okN sc_greatest_gap (fun vs H Q E h => ?_) (fun cdv A outer s H vs Q E hr h => ?_)
 ·unfold sGreat at h; split at h
  ·rfl
  ·exact h.elim
 ·unfold sGreat at h; split at h
  rotate_left
  ·exact h.elim
  rename_i a
  refine ⟨_, (q_sone (q_ret (q_op uo_sub (q_callB (uc_max (K := K) rfl) (by rfl) B.max boot_max (q_cons (q_v 0) q_nil)) (q_callB (uc_len (K := K)) (by rfl) B.len PySem.boot_len (q_cons (q_v 0) q_nil))))), ?_⟩
  obtain ⟨h, hS, h0, q⟩ := h
  refine ⟨h, hS, h0, fun M hM hMax => ⟨_, .inl hS, ?_⟩⟩
  rw [List.length_map]
  exact q M hM hMax
theorem sc_lower_rest : FnScope ["sums", "amount", "rest"] ["sums", "amount"] (defScope s_lower_rest) := ⟨rfl, rfl, rfl, by decide +kernel, rfl, by decide +kernel, by decide +kernel⟩
theorem ok_lower_rest {f : Addr} {fd : FuncData} (F : Fun K "lower_rest" "lower_rest" s_lower_rest f fd) (B : Blt mg) (ER : Errs K mg) : FnOk P w K mg base (CX1 P w) 1 f fd ["sums", "amount"] (sLowRest K) := by
 refine F.okN sc_lower_rest (fun vs H Q E h => ?_) (fun cdv A outer s H vs Q E hr h => ?_)
 ·unfold sLowRest at h; split at h
  ·rfl
  ·exact h.elim
 ·unfold sLowRest at h; split at h
  rotate_left
  ·exact h.elim
  rename_i a t
  refine ⟨_, (q_scons (q_set (i := 2) sc_lower_rest.nd rfl (Or.inl rfl) (q_op uo_mod (q_v 1) (q_callB (uc_len (K := K)) (by rfl) B.len PySem.boot_len (q_cons (q_v 0) q_nil)))) (q_sone (q_sif (q_tw (q_tor (q_tcmp uo_is (q_ix (ux (K := K)) (q_v 0) (q_v 2) (fun _ _ => rfl)) q_non (nomark _)) (q_tor1 (q_tcmp uo_lt (q_v 1) (q_ix (ux (K := K)) (q_v 0) (q_v 2) (fun _ _ => rfl)) (nomark _))))) (q_sone (q_asg (q_v 1) (q_gsub (q_v 0) (q_v 2) us_set))) q_snil))), ?_⟩
  obtain ⟨v, hv, h0, q⟩ := h
  have hlt := rest_lt h0 t
  have m0 := Int.emod_nonneg t (show (v.length : Int) ≠ 0 by omega)
  have m1 := Int.emod_lt_of_pos t (show (0 : Int) < v.length by omega)
  have hat := optV_get (fs := v) (k := t % (v.length : Int)) m0 m1
  have hget : v[(t % (v.length : Int)).toNat]? = some (v.getD (t % (v.length : Int)).toNat none) := by rw [List.getD_eq_getElem?_getD, List.getElem?_eq_getElem hlt]; rfl
  refine ⟨_, .inl (SqL.of hv), by rw [List.length_map]; omega, ?_⟩
  rw [List.length_map]
  refine ⟨_, _, .inl (SqL.of hv), hat, ?_⟩
  cases e : v.getD (t % (v.length : Int)).toNat none with
  | none =>
   rw [e] at hget
   have el : lowR v t = v.set (t % (v.length : Int)).toNat (some t) := by unfold lowR; rw [hget]
   refine ⟨_, _, hv, ixN_pos m0 (by rw [List.length_map]; exact m1), ?_⟩
   rw [setV, ← el]
   exact q
  | some y =>
   rw [e] at hget hat
   refine ⟨_, _, .inl (SqL.of hv), hat, ifB (fun g => ?_) fun g => ?_⟩
   ·have g' : t < y := of_decide_eq_true g
    have el : lowR v t = v.set (t % (v.length : Int)).toNat (some t) := by unfold lowR; rw [hget]; exact if_pos g'
    refine ⟨_, _, hv, ixN_pos m0 (by rw [List.length_map]; exact m1), ?_⟩
    rw [setV, ← el]
    exact q
   ·have g' : ¬ t < y := of_decide_eq_false g
    have el : lowR v t = v := by unfold lowR; rw [hget]; exact if_neg g'
    rw [el, upd_id hv] at q
    exact q
theorem sc_lower_next : FnScope ["sums", "place", "coin"] ["sums", "place", "coin"] (defScope s_lower_next) := ⟨rfl, rfl, rfl, by decide +kernel, rfl, by decide +kernel, by decide +kernel⟩
theorem ok_lower_next {f : Addr} {fd : FuncData} (F : Fun K "lower_next" "lower_next" s_lower_next f fd) (ER : Errs K mg) (g_lower_rest : G P w K mg base (CX1 P w) "lower_rest" ["sums", "amount"] 1 (sLowRest K)) : FnOk P w K mg base (CX1 P w) 2 f fd ["sums", "place", "coin"] (sLowNext K) := by
 refine F.okN sc_lower_next (fun vs H Q E h => ?_) (fun cdv A outer s H vs Q E hr h => ?_)
 ·unfold sLowNext at h; split at h
  ·rfl
  ·exact h.elim
 ·unfold sLowNext at h; split at h
  rotate_left
  ·exact h.elim
  rename_i a p c
  refine ⟨_, (q_scons (q_sif (q_tcmp uo_is (q_ix (ux (K := K)) (q_v 0) (q_v 1) (fun _ _ => rfl)) q_non (nomark _)) (q_sone q_retN) q_snil) (q_sone (q_expr (q_g g_lower_rest (hr.mono (by decide)) pass1E (q_cons (q_v 0) (q_cons (q_op uo_add (q_ix (ux (K := K)) (q_v 0) (q_v 1) (fun _ _ => rfl)) (q_v 2)) q_nil)))))), ?_⟩
  obtain ⟨v, hv, ⟨p0, p1⟩, q⟩ := h
  have hat := optV_get (fs := v) (k := p) p0 p1
  have hget : v[p.toNat]? = some (v.getD p.toNat none) := by rw [List.getD_eq_getElem?_getD, List.getElem?_eq_getElem (show p.toNat < v.length by omega)]; rfl
  refine ⟨_, _, .inl (SqL.of hv), hat, ?_⟩
  cases e : v.getD p.toNat none with
  | none =>
   rw [e] at hget
   rw [relax_no hget, upd_id hv] at q
   exact q
  | some x =>
   rw [e] at hget hat
   rw [relax_low' hget] at q
   exact ⟨_, _, .inl (SqL.of hv), hat, v, hv, by omega, q⟩
theorem sc_with_coin : FnScope ["sums", "coin", "size", "lower", "rings", "start", "step", "place"] ["sums", "coin"] (defScope s_with_coin) := ⟨rfl, rfl, rfl, by decide +kernel, rfl, by decide +kernel, by decide +kernel⟩
theorem ok_with_coin {f : Addr} {fd : FuncData} (F : Fun K "with_coin" "with_coin" s_with_coin f fd) (B : Blt mg) (ER : Errs K mg) (g_share_of_two : G P w K mg base (CX1 P w) "share_of_two" ["one", "other"] 1 sGcd) (g_lower_next : G P w K mg base (CX1 P w) "lower_next" ["sums", "place", "coin"] 2 (sLowNext K)) : FnOk P w K mg base (CX1 P w) 3 f fd ["sums", "coin"] (sWithCoin K) := by
 refine F.okN sc_with_coin (fun vs H Q E h => ?_) (fun cdv A outer s H vs Q E hr h => ?_)
 ·unfold sWithCoin at h; split at h
  ·rfl
  ·exact h.elim
 ·unfold sWithCoin at h; split at h
  rotate_left
  ·exact h.elim
  rename_i a c
  refine ⟨_, (q_scons (q_set (i := 2) sc_with_coin.nd rfl (Or.inl rfl) (q_callB (uc_len (K := K)) (by rfl) B.len PySem.boot_len (q_cons (q_v 0) q_nil))) (q_scons (q_set (i := 3) sc_with_coin.nd rfl (Or.inl rfl) (q_callTy (uc_list (K := K)) (by rfl) B.list boot_list (q_cons (q_v 0) q_nil))) (q_scons (q_set (i := 4) sc_with_coin.nd rfl (Or.inl rfl) (q_g g_share_of_two (hr.mono (by decide)) pass1E (q_cons (q_v 2) (q_cons (q_v 1) q_nil)))) (q_scons (q_for PassesOwn.never rfl (q_range1 B.range (q_cons (q_v 4) q_nil)) (q_name (i := 5) sc_with_coin.nd rfl (Or.inl rfl)) (q_sone (q_for PassesOwn.never rfl (q_range1 B.range (q_cons (q_op uo_mul q_int (q_op uo_fdiv (q_v 2) (q_v 4))) q_nil)) (q_name (i := 6) sc_with_coin.nd rfl (Or.inl rfl)) (q_scons (q_set (i := 7) sc_with_coin.nd rfl (Or.inl rfl) (q_op uo_mod (q_op uo_add (q_v 5) (q_op uo_mul (q_v 6) (q_v 1))) (q_v 2))) (q_sone (q_expr (q_g g_lower_next (hr.mono (by decide)) pass1E (q_cons (q_v 3) (q_cons (q_v 7) (q_cons (q_v 1) q_nil)))))))))) (q_sone (q_ret (q_v 3))))))), ?_⟩
  obtain ⟨v, hS, ⟨h0, h1⟩, hc, q⟩ := h
  refine ⟨_, .inl hS, _, .inl hS, fun p hp => ?_⟩
  rw [List.length_map]
  have s0 : Same H (upd H p (.lst (v.map toV))) := Same.new hp
  refine ⟨by omega, by omega, ?_⟩
  have eg : Nat.gcd ((v.length : Int)).toNat c.toNat = Nat.gcd v.length c.toNat := by rw [Int.toNat_natCast]
  rw [eg]
  have g0 : 0 < Nat.gcd v.length c.toNat := Nat.gcd_pos_of_pos_left _ h0
  have g1 : Nat.gcd v.length c.toNat ≤ v.length := Nat.gcd_le_left _ h0
  have dv : v.length / Nat.gcd v.length c.toNat ≤ v.length := Nat.div_le_self _ _
  refine ⟨⟨by omega, by omega⟩, ?_⟩
  rw [Int.toNat_natCast]
  refine for_range (fun i σ H' => ∃ x y z : Option V, σ = [some (.ref a), some (.int c), some (.int v.length), some (.ref p), some (.int (Nat.gcd v.length c.toNat)), x, y, z] ∧ Same H H' ∧ H' p = some (.lst ((run v ((List.range i).flatMap fun st => ringRow v.length c.toNat st (2 * (v.length / Nat.gcd v.length c.toNat)))).map toV))) ⟨none, none, none, rfl, s0, upd_same⟩ ?_ ?_
  ·rintro i σ H1 hi ⟨x, y, z, rfl, s1, hp1⟩
   generalize hu : run v ((List.range i).flatMap fun st => ringRow v.length c.toNat st (2 * (v.length / Nat.gcd v.length c.toNat))) = u at hp1
   have ul : u.length = v.length := by rw [← hu, run_length]
   have e2 : (2 * ((v.length : Int) / (Nat.gcd v.length c.toNat : Int))).toNat = 2 * (v.length / Nat.gcd v.length c.toNat) := by
    rw [← Int.natCast_ediv]
    omega
   refine ⟨⟨by omega, by omega⟩, .inl ⟨by decide, by decide⟩, ⟨?_, ?_⟩, ?_⟩
   ·rw [← Int.natCast_ediv]; omega
   ·rw [← Int.natCast_ediv]; omega
   rw [e2]
   refine for_range (fun j σ H' => ∃ y z : Option V, σ = [some (.ref a), some (.int c), some (.int v.length), some (.ref p), some (.int (Nat.gcd v.length c.toNat)), some (.int (0 + (i : Int))), y, z] ∧ Same H H' ∧ H' p = some (HO.lst ((run u (ringRow v.length c.toNat i j)).map toV))) ⟨y, z, rfl, s1, hp1⟩ ?_ ?_
   ·rintro j σ H2 hj ⟨y2, z2, rfl, s2, hp2⟩
    generalize hw : run u (ringRow v.length c.toNat i j) = w2 at hp2
    have wl : w2.length = v.length := by rw [← hw, run_length, ul]
    have pe : (0 + (i : Int) + (0 + (j : Int)) * c) % (v.length : Int) = (((i + j * c.toNat) % v.length : Nat) : Int) := by
     have : 0 + (i : Int) + (0 + (j : Int)) * c = ((i + j * c.toNat : Nat) : Int) := by
      rw [Int.natCast_add, Int.natCast_mul, Int.toNat_of_nonneg (by omega)]
      simp only [Int.zero_add]
     rw [this, Int.natCast_emod]
    have plt : (i + j * c.toNat) % v.length < v.length := Nat.mod_lt _ h0
    refine ⟨.inl ⟨by omega, by omega⟩, by omega, ?_⟩
    rw [pe]
    refine ⟨w2, hp2, ⟨by omega, by omega⟩, ?_⟩
    rw [Int.toNat_natCast]
    refine ⟨_, _, rfl, s2.put hp, ?_⟩
    rw [upd_same, ringRow_succ, run_append, hw]
    show _ = some (HO.lst ((relax w2 ((i + j * c.toNat) % v.length) ((c.toNat : Nat) : Int)).map toV))
    rw [show ((c.toNat : Nat) : Int) = c by omega]
   ·rintro σ H2 ⟨y2, z2, rfl, s2, hp2⟩
    refine ⟨_, _, _, rfl, s2, ?_⟩
    rw [List.range_succ, List.flatMap_append, run_append, hu]
    show _ = some (HO.lst ((run u (ringRow v.length c.toNat i (2 * (v.length / Nat.gcd v.length c.toNat)) ++ [])).map toV))
    rw [List.append_nil]
    exact hp2
  ·rintro σ H1 ⟨x, y, z, rfl, s1, hp1⟩
   exact q p H1 s1 hp hp1
theorem sc_sums_by_rests : FnScope ["given", "step", "size", "sums", "amount"] ["given", "step", "size"] (defScope s_sums_by_rests) := ⟨rfl, rfl, rfl, by decide +kernel, rfl, by decide +kernel, by decide +kernel⟩
theorem ok_sums_by_rests {f : Addr} {fd : FuncData} (F : Fun K "sums_by_rests" "sums_by_rests" s_sums_by_rests f fd) (ER : Errs K mg) (g_with_coin : G P w K mg base (CX1 P w) "with_coin" ["sums", "coin"] 3 (sWithCoin K)) (g_lower_rest : G P w K mg base (CX1 P w) "lower_rest" ["sums", "amount"] 1 (sLowRest K)) : FnOk P w K mg base (CX1 P w) 4 f fd ["given", "step", "size"] (sByRests K) := by
 refine F.okN sc_sums_by_rests (fun vs H Q E h => ?_) (fun cdv A outer s H vs Q E hr h => ?_)
 ·unfold sByRests at h; split at h
  ·rfl
  ·exact h.elim
 ·unfold sByRests at h; split at h
  rotate_left
  ·exact h.elim
  rename_i a st n
  refine ⟨_, (q_scons (q_set (i := 3) sc_sums_by_rests.nd rfl (Or.inl rfl) (q_op uo_mul (q_lst (q_cons q_non q_nil)) (q_v 2))) (q_scons (q_for PassesOwn.never rfl (q_seq (K := K) (q_v 0)) (q_name (i := 4) sc_sums_by_rests.nd rfl (Or.inl rfl)) (q_sone (q_expr (q_g g_lower_rest (hr.mono (by decide)) pass1E (q_cons (q_v 3) (q_cons (q_v 4) q_nil)))))) (q_sone (q_ret (q_g g_with_coin (hr.mono (by decide)) pass1E (q_cons (q_v 3) (q_cons (q_v 1) q_nil))))))), ?_⟩
  obtain ⟨gs, hS, h1, ⟨n0, n1⟩, q⟩ := h
  refine ⟨by show 1 ≤ sizeLine; decide, fun r hr0 => ⟨_, upd_same, ⟨by omega, by omega⟩, ?_, fun p hp => ?_⟩⟩
  ·rw [sizeLine_eq]; show 1 * n.toNat ≤ _; omega
  have hrp : r ≠ p := by intro z; subst z; rw [upd_same] at hp; cases hp
  have hHp : H p = none := by rw [upd_ne (Ne.symm hrp)] at hp; exact hp
  rw [reps_none]
  have s0 : Same H (upd (upd H r (.lst [.non])) p (.lst ((nones n.toNat).map toV))) := (Same.new hr0).put hHp
  have nl : (nones n.toNat).length = n.toNat := by simp [nones]
  refine .inl ⟨_, s0.seq hS, for_list (K := K) (a := a) (xs := gs.map V.int) (fun i σ H' => ∃ v : Option V, σ = [some (.ref a), some (.int st), some (.int n), some (.ref p), v] ∧ Same H H' ∧ H' p = some (.lst ((lows (nones n.toNat) (gs.take i)).map toV))) ⟨none, rfl, s0, upd_same⟩ (fun i σ H' _ ⟨_, _, s, _⟩ => s.seq hS) ?_ ?_⟩
  ·rintro i x σ H' hx ⟨v, rfl, s1, hp1⟩
   obtain ⟨g, hg, rfl⟩ := int_at hx
   refine ⟨_, hp1, by rw [lows_length, nl]; omega, some (.int g), rfl, s1.put hHp, ?_⟩
   rw [upd_same, List.take_add_one, hg, ← lows_snoc]
   rfl
  ·rintro σ H' ⟨v, rfl, s1, hp1⟩
   rw [List.length_map, List.take_length] at hp1
   refine ⟨_, SqL.of hp1, ⟨by rw [lows_length, nl]; omega, by rw [lows_length, nl]; omega⟩, h1, fun P H2 s2 hP hv => ?_⟩
   exact q P H2 (s1.trans s2) (s1.free hP) hv
theorem sc_is_parted : FnScope ["house", "least", "size", "part", "left"] ["house", "least"] (defScope s_is_parted) := ⟨rfl, rfl, rfl, by decide +kernel, rfl, by decide +kernel, by decide +kernel⟩
theorem ok_is_parted {f : Addr} {fd : FuncData} (F : Fun K "is_parted" "is_parted" s_is_parted f fd) (B : Blt mg) (ER : Errs K mg) : FnOk P w K mg base (CX1 P w) 1 f fd ["house", "least"] (sParted K) := by
 refine F.okN sc_is_parted (fun vs H Q E h => ?_) (fun cdv A outer s H vs Q E hr h => ?_)
 ·unfold sParted at h; split at h
  ·rfl
  ·exact h.elim
 ·unfold sParted at h; split at h
  rotate_left
  ·exact h.elim
  rename_i a x
  refine ⟨_, (q_scons (q_set (i := 2) sc_is_parted.nd rfl (Or.inl rfl) (q_callB (uc_len (K := K)) (by rfl) B.len PySem.boot_len (q_cons (q_v 0) q_nil))) (q_scons (q_for PassesOwn.never rfl (q_seq (K := K) (q_slice (usl (K := K)) (q_v 0) (q_some q_int) q_none)) (q_name (i := 3) sc_is_parted.nd rfl (Or.inl rfl)) (q_scons (q_set (i := 4) sc_is_parted.nd rfl (Or.inl rfl) (q_op uo_sub (q_v 1) (q_v 3))) (q_sone (q_sif (q_tw (q_tand (q_tcmp uo_gt (q_v 4) q_int (nomark _)) (q_tand1 (q_tcmp uo_ge (q_v 4) (q_ix (ux (K := K)) (q_v 0) (q_op uo_mod (q_v 4) (q_v 2)) (fun _ _ => rfl)) (nomark _))))) (q_sone (q_ret q_bl)) q_snil)))) (q_sone (q_ret q_bl)))), ?_⟩
  obtain ⟨h, hS, hh, q⟩ := h
  have hpos := hh.pos
  refine ⟨_, .inl hS, _, hS, fun u hu => ?_⟩
  rw [List.length_map]
  have eu : cutV (h.map V.int) (some 1) none = (h.drop 1).map V.int := by
   rw [show (some (1 : Int)) = some ((1 : Nat) : Int) from rfl, cutV_drop, List.map_drop]
  rw [eu]
  have s1 : Same H (upd H u (.lst ((h.drop 1).map V.int))) := Same.new hu
  refine .inl ⟨_, SqL.of upd_same, for_list (K := K) (a := u) (xs := (h.drop 1).map V.int) (fun i σ H' => ∃ v w : Option V, σ = [some (.ref a), some (.int x), some (.int h.length), v, w] ∧ upd H u (.lst ((h.drop 1).map V.int)) = H' ∧ ((h.drop 1).take i).any (fun part => decide (0 < x - part) && canB h (x - part)) = false) ⟨none, none, rfl, rfl, by simp⟩ (fun i σ H' _ ⟨_, _, _, z, _⟩ => by rw [← z]; exact SqL.of upd_same) ?_ ?_⟩
  ·rintro i y σ H' hy ⟨v, w', rfl, rfl, hno⟩
   obtain ⟨p, hp, rfl⟩ := int_at hy
   have et : (h.drop 1).take (i + 1) = (h.drop 1).take i ++ [p] := by rw [List.take_add_one, hp]; rfl
   have m1 := Int.emod_lt_of_pos (x - p) (show (0 : Int) < h.length by omega)
   have m0 := Int.emod_nonneg (x - p) (show (h.length : Int) ≠ 0 by omega)
   refine ifB (fun g => ?_) fun g => ?_
   ·have g' : 0 < x - p := of_decide_eq_true g
    refine ⟨by omega, _, _, .inl (s1.seq hS), atInt m0 m1, ifB (fun g2 => ?_) fun g2 => ?_⟩
    ·have e : partedB h x = true := by
      unfold partedB
      rw [List.any_eq_true]
      exact ⟨p, List.mem_of_getElem? hp, by rw [Bool.and_eq_true]; exact ⟨decide_eq_true g', g2⟩⟩
     have := q _ s1
     rw [e] at this
     exact this
    ·refine ⟨_, _, rfl, rfl, ?_⟩
     rw [et, List.any_append, hno, Bool.false_or]
     have g2' : canB h (x - p) = false := g2
     simp
     exact fun _ => g2'
   ·have g' : ¬ 0 < x - p := of_decide_eq_false g
    refine ⟨_, _, rfl, rfl, ?_⟩
    rw [et, List.any_append, hno, Bool.false_or]
    simp
    intro z
    exfalso
    omega
  ·rintro σ H' ⟨v, w', rfl, rfl, hno⟩
   rw [List.length_map, List.take_length] at hno
   have := q _ s1
   unfold partedB at this
   rw [hno] at this
   exact this
theorem sc_first_from : FnScope ["start", "rest", "size"] ["start", "rest", "size"] (defScope s_first_from) := ⟨rfl, rfl, rfl, by decide +kernel, rfl, by decide +kernel, by decide +kernel⟩
theorem ok_first_from {f : Addr} {fd : FuncData} (F : Fun K "first_from" "first_from" s_first_from f fd) (ER : Errs K mg) : FnOk P w K mg base (CX1 P w) 1 f fd ["start", "rest", "size"] sFirst := by
 refine F.okN sc_first_from (fun vs H Q E h => ?_) (fun cdv A outer s H vs Q E hr h => ?_)
 ·unfold sFirst at h; split at h
  ·rfl
  ·exact h.elim
 ·unfold sFirst at h; split at h
  rotate_left
  ·exact h.elim
  rename_i s r n
  refine ⟨_, (q_sone (q_ret (q_op uo_add (q_v 0) (q_op uo_mod (q_op uo_sub (q_v 1) (q_v 0)) (q_v 2))))), ?_⟩
  obtain ⟨hn, q⟩ := h
  exact ⟨hn, q⟩
theorem sc_house_by_sums : FnScope ["sums", "size"] ["sums"] (defScope s_house_by_sums) := ⟨rfl, rfl, rfl, by decide +kernel, rfl, by decide +kernel, by decide +kernel⟩
theorem ok_house_by_sums {f : Addr} {fd : FuncData} (F : Fun K "house_by_sums" "house_by_sums" s_house_by_sums f fd) (B : Blt mg) (ER : Errs K mg) (g_sums_by_rests : G P w K mg base (CX1 P w) "sums_by_rests" ["given", "step", "size"] 4 (sByRests K)) : FnOk P w K mg base (CX1 P w) 5 f fd ["sums"] (sHBS K) := by
 refine F.okN sc_house_by_sums (fun vs H Q E h => ?_) (fun cdv A outer s H vs Q E hr h => ?_)
 ·unfold sHBS at h; split at h
  ·rfl
  ·exact h.elim
 ·unfold sHBS at h; split at h
  rotate_left
  ·exact h.elim
  rename_i a
  refine ⟨_, (q_scons (q_set (i := 1) sc_house_by_sums.nd rfl (Or.inl rfl) (q_callB (uc_min (K := K) rfl) (by rfl) B.min boot_min (q_cons (q_op uo_add (q_lst (q_cons (q_callB (uc_len (K := K)) (by rfl) B.len PySem.boot_len (q_cons (q_v 0) q_nil)) q_nil)) (q_slice (usl (K := K)) (q_v 0) (q_some q_int) q_none)) q_nil))) (q_sone (q_ret (q_g g_sums_by_rests (hr.mono (by decide)) pass1E (q_cons (q_v 0) (q_cons (q_callB (uc_len (K := K)) (by rfl) B.len PySem.boot_len (q_cons (q_v 0) q_nil)) (q_cons (q_v 1) q_nil))))))), ?_⟩
  obtain ⟨w, S, hS, hl, L, s0, q⟩ := h
  have hpos := L.pos
  refine ⟨_, .inl hS, by show 1 ≤ sizeLine; decide, fun r hr0 => ⟨_, (Same.new hr0).seq hS, fun u hu => ?_⟩⟩
  rw [List.length_map] at hu ⊢
  have eu : cutV (w.map V.int) (some 1) none = (w.drop 1).map V.int := by
   rw [show (some (1 : Int)) = some ((1 : Nat) : Int) from rfl, cutV_drop, List.map_drop]
  rw [eu]
  have nru : r ≠ u := by intro z; subst z; rw [upd_same] at hu; cases hu
  refine ⟨_, _, by rw [upd_ne nru, upd_same], upd_same, by rw [List.length_map, List.length_drop, sizeLine_eq]; show 1 + _ ≤ _; omega, fun e he => ?_⟩
  have s1 := (Same.new (o := .lst [.int (w.length : Int)]) hr0).trans ((Same.new (o := .lst ((w.drop 1).map V.int)) hu).trans (Same.new (o := .lst ([V.int (w.length : Int)] ++ (w.drop 1).map V.int)) he))
  refine ⟨(w.length : Int) :: w.drop 1, SqL.of upd_same, by simp, fun n hn hmin => ?_⟩
  have N := least_of_min L s0 hn hmin
  have n1 := N.one
  have n2 := hmin _ List.mem_cons_self
  refine ⟨_, .inl (s1.seq hS), ?_⟩
  rw [List.length_map]
  refine ⟨w, s1.seq hS, by omega, ⟨by omega, by omega⟩, fun p H' s' hp hv => ?_⟩
  obtain ⟨g, eg, L', gl⟩ := relaid L s0 (n := n.toNat) (by omega)
  rw [eg, mapV_some] at hv
  exact q p g H' (s1.trans s') (s1.free hp) hv L' (by rw [gl, show ((n.toNat : Nat) : Int) = n by omega]; exact N) (by omega)
theorem sc_needed_coins : FnScope ["house", "unparted"] ["house"] (defScope s_needed_coins) := ⟨rfl, rfl, rfl, by decide +kernel, rfl, by decide +kernel, by decide +kernel⟩
theorem ok_needed_coins {f : Addr} {fd : FuncData} (F : Fun K "needed_coins" "needed_coins" s_needed_coins f fd) (B : Blt mg) (ER : Errs K mg) (g_is_parted : G P w K mg base (CX1 P w) "is_parted" ["house", "least"] 1 (sParted K)) : FnOk P w K mg base (CX1 P w) 2 f fd ["house"] (sNeedX K) := by
 refine F.okN sc_needed_coins (fun vs H Q E h => ?_) (fun cdv A outer s H vs Q E hr h => ?_)
 ·unfold sNeedX at h; split at h
  ·rfl
  ·exact h.elim
 ·unfold sNeedX at h; split at h
  rotate_left
  ·exact h.elim
  rename_i a
  refine ⟨_, (q_scons (q_setC (i := 1) [none, some 0] ["least", "house"] sc_needed_coins.nd rfl rfl rfl (by kernel_rfl) (q_seq (K := K) (q_slice (usl (K := K)) (q_v 0) (q_some q_int) q_none)) (fun _ _ _ _ _ => (q_name (i := 0) (show List.Nodup (["least", "house"] : List Str) from by decide +kernel) rfl (Or.inl rfl))) (fun _ _ _ _ _ => q_fone (q_tnot (q_tval (K := K) (q_g g_is_parted (hr.mono (by decide)) pass1E (q_cons (q_v 1) (q_cons (q_v 0) q_nil)))))) (fun _ _ _ _ _ => (q_v 0))) (q_sone (q_ret (q_callB (uc_sortedL (K := K) rfl) (by rfl) B.sorted boot_sorted (q_cons (q_op uo_add (q_lst (q_cons (q_callB (uc_len (K := K)) (by rfl) B.len PySem.boot_len (q_cons (q_v 0) q_nil)) q_nil)) (q_v 1)) q_nil))))), ?_⟩
  obtain ⟨h, hS, hh, hl, q⟩ := h
  have hpos := hh.pos
  refine ⟨_, hS, fun u hu => ?_⟩
  have eu : cutV (h.map V.int) (some 1) none = (h.drop 1).map V.int := by
   rw [show (some (1 : Int)) = some ((1 : Nat) : Int) from rfl, cutV_drop, List.map_drop]
  rw [eu]
  have s1 : Same H (upd H u (.lst ((h.drop 1).map V.int))) := Same.new hu
  refine .inl ⟨_, SqL.of upd_same, comp_by (fun i => V.int ((h.drop 1).getD i 0)) (fun i => !partedB h ((h.drop 1).getD i 0)) (jp_list (SqL.of upd_same)) (by rw [List.length_map, List.length_drop]; exact small1000 (by omega)) (keepName rfl) (fun i x H' R Z hi sm hx hR hZ => ?_) (fun D H2 hD s2 hL => ?_)⟩
  ·obtain ⟨c, hcx, rfl⟩ := int_at hx
   rw [getD_at hcx] at hR hZ
   refine ⟨h, (s1.trans sm).seq hS, hh, fun H3 s3 => ifB (fun g => ?_) fun g => ?_⟩
   ·exact hR g H3 s3
   ·exact hZ g H3 s3
  rw [List.length_map, range_filter_map (h.drop 1) 0 (fun c => !partedB h c) V.int] at hL
  have t2 := s1.trans s2
  refine ⟨_, .inl (t2.seq hS), by show 1 ≤ sizeLine; decide, fun r hr0 => ?_⟩
  rw [List.length_map]
  have nDr : D ≠ r := by intro z; subst z; rw [hL] at hr0; cases hr0
  have fl : ((h.drop 1).filter fun c => !partedB h c).length ≤ h.length := Nat.le_trans (List.length_filter_le _ _) (by simp)
  refine ⟨_, _, upd_same, by rw [upd_ne nDr]; exact hL, by rw [List.length_map, sizeLine_eq]; show 1 + _ ≤ _; omega, fun e he => ?_⟩
  have s3 := (t2.trans (Same.new (o := .lst [.int (h.length : Int)]) hr0)).trans (Same.new (o := .lst ([V.int (h.length : Int)] ++ ((h.drop 1).filter fun c => !partedB h c).map V.int)) he)
  refine ⟨need h, SqL.of upd_same, fun l ms hl0 pm srt => ?_⟩
  exact q l ms _ (s3.trans (Same.new hl0)) (s3.free hl0) upd_same pm srt
theorem sc_filled : FnScope ["house", "start", "size"] ["house", "start"] (defScope s_filled) := ⟨rfl, rfl, rfl, by decide +kernel, rfl, by decide +kernel, by decide +kernel⟩
theorem ok_filled {f : Addr} {fd : FuncData} (F : Fun K "filled" "filled" s_filled f fd) (B : Blt mg) (ER : Errs K mg) (g_check_sum_from : G P w K mg base (CX1 P w) "check_sum_from" ["least", "amount"] 2 sFrom0) (g_first_from : G P w K mg base (CX1 P w) "first_from" ["start", "rest", "size"] 1 sFirst) (g_house_by_sums : G P w K mg base (CX1 P w) "house_by_sums" ["sums"] 5 (sHBS K)) : FnOk P w K mg base (CX1 P w) 6 f fd ["house", "start"] (sFill0 K) := by
 refine F.okN sc_filled (fun vs H Q E h => ?_) (fun cdv A outer s H vs Q E hr h => ?_)
 ·unfold sFill0 at h; split at h
  ·rfl
  ·exact h.elim
 ·unfold sFill0 at h; split at h
  rotate_left
  ·exact h.elim
  rename_i a nb
  refine ⟨_, (q_scons (q_expr (q_g g_check_sum_from (hr.mono (by decide)) pass1E (q_cons q_int (q_cons (q_v 1) q_nil)))) (q_scons (q_set (i := 2) sc_filled.nd rfl (Or.inr rfl) (q_callB (uc_len (K := K)) (by rfl) B.len PySem.boot_len (q_cons (q_v 0) q_nil))) (q_sone (q_ret (q_g g_house_by_sums (hr.mono (by decide)) pass1E (q_cons (q_comp [none, none, some 1, some 2] ["rest", "least", "start", "size"] rfl (by kernel_rfl) (q_enum B.enumerate (q_cons (q_v 0) q_nil)) (fun _ _ _ _ _ => (q_gtup (K := K) (n := 2) rfl (q_gcons (q_name (i := 0) (show List.Nodup (["rest", "least", "start", "size"] : List Str) from by decide +kernel) rfl (Or.inl rfl)) (q_gcons (q_name (i := 1) (show List.Nodup (["rest", "least", "start", "size"] : List Str) from by decide +kernel) rfl (Or.inl rfl)) q_gnil)))) (fun _ _ _ _ _ => q_fnil) (fun _ _ _ _ _ => (q_callB (uc_min2 rfl) (by rfl) B.min boot_min (q_cons (q_v 1) (q_cons (q_g g_first_from (hr.mono (by decide)) pass1E (q_cons (q_v 2) (q_cons (q_v 0) (q_cons (q_v 3) q_nil)))) q_nil))))) q_nil)))))), ?_⟩
  obtain ⟨h, hS, hh, hl, h1, q2⟩ := h
  have hpos := hh.pos
  refine ⟨h1, _, .inl hS, ?_⟩
  rw [List.length_map]
  refine ⟨_, hS, comp_by (fun i => V.int (fillF h nb i)) (fun _ => true) (jp_enum hS) (by rw [List.length_map, sizeLine_eq]; omega) (keepTup2 rfl rfl) (fun i y H' R Z hi sm hy hR hZ => ?_) (fun D H1 hD s1 hL => ?_)⟩
  ·obtain ⟨T, x1, rfl, hT, e1⟩ := hy
   obtain ⟨c, ec, rfl⟩ := int_at e1
   have := hR rfl H' (Same.refl _)
   unfold fillF at this
   rw [getD_at ec] at this
   exact ⟨T, _, rfl, SqT.of hT, rfl, _, _, rfl, _, _, rfl, rfl, by omega, this⟩
  rw [List.length_map, range_ints (fun i => fillF h nb i)] at hL
  have wl : ((List.range h.length).map fun r => fillF h nb r).length = h.length := by simp
  exact ⟨_, FillS h nb, SqL.of hL, by rw [wl]; exact hl, fill_least hh h1, by rw [wl]; exact fill_sums0 hh, fun p g H2 s2 hp hg L N gl => q2 p g H2 (s1.trans s2) (s1.free hp) hg L N (by rw [wl] at gl; exact gl)⟩
theorem sc_house_above : FnScope ["gap", "size"] ["gap"] (defScope s_house_above) := ⟨rfl, rfl, rfl, by decide +kernel, rfl, by decide +kernel, by decide +kernel⟩
theorem ok_house_above {f : Addr} {fd : FuncData} {tk_LONGEST_HOUSE : Tok} (F : Fun K "house_above" "house_above" s_house_above f fd) (B : Blt mg) (ER : Errs K mg) (mc_LONGEST_HOUSE : mg "LONGEST_HOUSE" = some (.int 1000 tk_LONGEST_HOUSE)) : FnOk P w K mg base (CX1 P w) 1 f fd ["gap"] (sAboveX ER.a_TooMany) := by
 refine F.okX sc_house_above (fun vs H Q E h => ?_) (fun cdv A outer s H vs Q E hr h => ?_)
 ·unfold sAboveX at h; split at h
  ·rfl
  ·exact h.elim
 ·unfold sAboveX at h; split at h
  rotate_left
  ·exact h.elim
  rename_i m
  refine ⟨_, (q_scons (q_set (i := 1) sc_house_above.nd rfl (Or.inl rfl) (q_op uo_add (q_v 0) q_int)) (q_scons (q_sif (q_tcmp uo_gt (q_v 1) (q_glob (v := .int 1000) (by rfl) mc_LONGEST_HOUSE ⟨_, rfl⟩) (nomark _)) (q_sone (q_raise raises1 rfl ER.m_TooMany ER.x_TooMany (q_cons q_str q_nil))) q_snil) (q_sone (q_ret (q_op uo_add (q_lst (q_cons q_int q_nil)) (q_callTy (uc_listRng rfl) (by rfl) B.list boot_list (q_cons (q_callTy uc_rangeV (by rfl) B.range boot_range (q_cons (q_op uo_add (q_v 1) q_int) (q_cons (q_op uo_mul q_int (q_v 1)) q_nil))) q_nil))))))), ?_⟩
  obtain ⟨⟨m1, m2⟩, q0, e⟩ := h
  refine ifB (fun z => ⟨by show 1 ≤ sizeLine; decide, e (by have := of_decide_eq_true z; omega)⟩) fun z => ?_
  have q := q0 (by have := of_decide_eq_false z; omega)
  refine ⟨by show 1 ≤ sizeLine; decide, fun r hr => ⟨.inl ⟨by decide, by decide⟩, fun rg hrg => ⟨_, _, upd_same, ⟨by omega, by omega, by omega⟩, fun l hl0 => ?_⟩⟩⟩
  have s3 : Same H (upd (upd (upd H r (.lst [.int 0])) rg (.rng (m + 1 + 1) (2 * (m + 1)))) l (.lst ((List.range (2 * (m + 1) - (m + 1 + 1)).toNat).map fun (k : Nat) => V.int (m + 1 + 1 + (k : Int))))) := ((Same.new hr).trans (Same.new hrg)).trans (Same.new hl0)
  refine ⟨_, _, ((Same.new hrg).trans (Same.new hl0)) _ _ upd_same, upd_same, by rw [List.length_map, List.length_range, sizeLine_eq]; show 1 + _ ≤ _; omega, fun p hp => ?_⟩
  refine q p _ (s3.trans (Same.new hp)) (s3.free hp) ?_
  rw [upd_same]
  have e : [V.int 0] ++ ((List.range (2 * (m + 1) - (m + 1 + 1)).toNat).map fun (k : Nat) => V.int (m + 1 + 1 + (k : Int))) = (fullL (m.toNat + 1)).map V.int := by
   unfold fullL
   rw [List.map_cons, List.map_map, show (2 * (m + 1) - (m + 1 + 1)).toNat = m.toNat + 1 - 1 by omega]
   show V.int 0 :: _ = V.int 0 :: _
   congr 1
   apply List.map_congr_left
   intro i _
   show V.int (m + 1 + 1 + (i : Int)) = V.int (((m.toNat + 1 : Nat) : Int) + (1 + (i : Int)))
   congr 1
   omega
  rw [e]
theorem sc_without_coin : FnScope ["house", "coin", "size"] ["house", "coin"] (defScope s_without_coin) := ⟨rfl, rfl, rfl, by decide +kernel, rfl, by decide +kernel, by decide +kernel⟩
theorem ok_without_coin {f : Addr} {fd : FuncData} (F : Fun K "without_coin" "without_coin" s_without_coin f fd) (B : Blt mg) (ER : Errs K mg) (g_house_above : G P w K mg base (CX1 P w) "house_above" ["gap"] 1 (sAboveX ER.a_TooMany)) : FnOk P w K mg base (CX1 P w) 2 f fd ["house", "coin"] (sWOX K ER.a_TooMany) := by
 refine F.okX sc_without_coin (fun vs H Q E h => ?_) (fun cdv A outer s H vs Q E hr h => ?_)
 ·unfold sWOX at h; split at h
  ·rfl
  ·exact h.elim
 ·unfold sWOX at h; split at h
  rotate_left
  ·exact h.elim
  rename_i a c
  refine ⟨_, (q_scons (q_set (i := 2) sc_without_coin.nd rfl (Or.inr rfl) (q_callB (uc_len (K := K)) (by rfl) B.len PySem.boot_len (q_cons (q_v 0) q_nil))) (q_scons (q_sif (q_tcmp (uo_eq (K := K) hr.u8) (q_v 1) (q_v 2) (nomark _)) (q_sone (q_ret (q_g g_house_above (hr.mono (by decide)) pass1 (q_cons (q_v 2) q_nil)))) q_snil) (q_sone (q_ret (q_comp [none, some 1, some 2] ["least", "coin", "size"] rfl (by kernel_rfl) (q_seq (K := K) (q_v 0)) (fun _ _ _ _ _ => (q_name (i := 0) (show List.Nodup (["least", "coin", "size"] : List Str) from by decide +kernel) rfl (Or.inl rfl))) (fun _ _ _ _ _ => q_fnil) (fun _ _ _ _ _ => (q_if (q_tcmp (uo_eq (K := K) hr.u8) (q_v 0) (q_v 1) (nomark _)) (q_op uo_add (q_v 0) (q_v 2)) (q_v 0)))))))), ?_⟩
  obtain ⟨h, hS, hh, hl, q, e⟩ := h
  have hp := hh.pos
  refine ⟨_, .inl hS, ?_⟩
  rw [List.length_map]
  refine ifB (fun z => ?_) fun z => ?_
  ·have z' : c = (h.length : Int) := of_decide_eq_true z
   subst z'
   refine ⟨⟨by omega, by omega⟩, fun lt p H' s' hpn hL => q (fun c => by omega) p H' s' hpn ?_, fun e1 => e rfl (by omega)⟩
   unfold woH
   rw [if_pos rfl]
   rw [Int.toNat_natCast] at hL
   exact hL
  ·have z' : c ≠ (h.length : Int) := of_decide_eq_false z
   refine .inl ⟨_, hS, comp_by (fun i => V.int (if h.getD i 0 = c then h.getD i 0 + (h.length : Int) else h.getD i 0)) (fun _ => true) (jp_list hS) (by rw [List.length_map]; exact small1000 (by omega)) (keepName rfl) (fun i x H' R Z hi sm hx hR hZ => ?_) (fun D H1 hD s1 hL => ?_)⟩
   ·obtain ⟨y, hy, rfl⟩ := int_at hx
    have := hR rfl H' (Same.refl _)
    rw [getD_at hy] at this
    refine tT (ifB (fun w => ?_) fun w => ?_)
    ·have w' : y = c := of_decide_eq_true w
     rw [if_pos w'] at this
     exact this
    ·have w' : ¬ y = c := of_decide_eq_false w
     rw [if_neg w'] at this
     exact this
   rw [mapAt (fun x => if x = c then x + (h.length : Int) else x)] at hL
   refine q (fun w => z' w.1) D H1 s1 hD ?_
   unfold woH
   rw [if_neg z']
   exact hL
theorem sc_children_of : FnScope ["house", "greatest"] ["house"] (defScope s_children_of) := ⟨rfl, rfl, rfl, by decide +kernel, rfl, by decide +kernel, by decide +kernel⟩
theorem ok_children_of {f : Addr} {fd : FuncData} (F : Fun K "children_of" "children_of" s_children_of f fd) (ER : Errs K mg) (g_greatest_gap : G P w K mg base (CX1 P w) "greatest_gap" ["house"] 1 (sGreat K)) (g_needed_coins : G P w K mg base (CX1 P w) "needed_coins" ["house"] 2 (sNeedX K)) (g_without_coin : G P w K mg base (CX1 P w) "without_coin" ["house", "coin"] 2 (sWOX K ER.a_TooMany)) : FnOk P w K mg base (CX1 P w) 3 f fd ["house"] (sKidsX K ER.a_TooMany) := by
 refine F.okX sc_children_of (fun vs H Q E h => ?_) (fun cdv A outer s H vs Q E hr h => ?_)
 ·unfold sKidsX at h; split at h
  ·rfl
  ·exact h.elim
 ·unfold sKidsX at h; split at h
  rotate_left
  ·exact h.elim
  rename_i a
  refine ⟨_, (q_scons (q_set (i := 1) sc_children_of.nd rfl (Or.inr rfl) (q_g g_greatest_gap (hr.mono (by decide)) pass1 (q_cons (q_v 0) q_nil))) (q_sone (q_loopX (q_ret (q_compX [none, some 0, some 1] ["coin", "house", "greatest"] rfl (by kernel_rfl) (q_seq (K := K) (q_g g_needed_coins (hr.mono (by decide)) pass1E (q_cons (q_v 0) q_nil))) (fun _ _ _ _ _ => (q_name (i := 0) (show List.Nodup (["coin", "house", "greatest"] : List Str) from by decide +kernel) rfl (Or.inl rfl))) (fun _ _ _ _ _ => q_fone (q_tcmp uo_gt (q_v 0) (q_v 2) (nomark _))) (fun _ _ _ _ _ => (q_g g_without_coin (hr.mono (by decide)) passC (q_cons (q_v 1) (q_cons (q_v 0) q_nil))))))))), ?_⟩
  obtain ⟨h, hS, house, hl, M, hM, mx, hc⟩ := h
  refine ⟨h, hS, house.pos, fun M' hM' mx' => ?_⟩
  have eM : M' = M := Int.le_antisymm (mx M' hM') (mx' M hM)
  subst eM
  refine ⟨h, hS, house, hl, fun pn ms H1 s1 hpn hn pm srt => ?_⟩
  have mlen : ms.length ≤ 1000 := by
   rw [pm.length_eq]
   unfold need
   rw [List.length_cons]
   have : ((h.drop 1).filter fun c => !partedB h c).length ≤ (h.drop 1).length := List.length_filter_le _ _
   rw [List.length_drop] at this
   have := house.pos
   omega
  rcases hc with ⟨hlt, q⟩ | ⟨hf, e⟩
  ·refine .inl ⟨_, SqL.of hn, comp_some (fun i => decide (M' - (h.length : Int) < ms.getD i 0)) (fun i T fs => fs = [(T, .lst ((woH h (ms.getD i 0)).map V.int))]) (jp_list (SqL.of hn)) (by rw [List.length_map]; exact small1000 (by omega)) (keepName rfl) (fun i x H' R Z hi sm hx hR hZ => ?_) (fun D H2 ps hD s2 hL psl hps => ?_)⟩
   ·obtain ⟨y, hy, rfl⟩ := int_at hx
    rw [getD_at hy] at hR hZ
    refine ifB (fun z => ?_) fun z => hZ z H' (Same.refl _)
    refine ⟨h, (s1.trans sm).seq hS, house, hl, fun _ p H6 s6 hp6 hg6 => ?_, fun ey e1 => ?_⟩
    ·refine hR z p [(p, .lst ((woH h y).map V.int))] H6 s6 (fun w hw => ?_) rfl
     rw [List.mem_singleton.mp hw]
     exact ⟨hp6, hg6⟩
    ·exfalso
     have := of_decide_eq_true z
     rcases hlt with w | w <;> omega
   rw [List.length_map] at psl hps
   have ecs : ((List.range ms.length).filter fun i => decide (M' - (h.length : Int) < ms.getD i 0)).map (fun i => ms.getD i 0) = ms.filter (fun x => decide (M' - (h.length : Int) < x)) := by
    have := range_filter_map ms 0 (fun x => decide (M' - (h.length : Int) < x)) (fun x => x)
    rw [List.map_id'] at this
    exact this
   refine q D ps ms H2 (s1.trans s2) (s1.free hD) (fun qa hq => ?_) pm srt ⟨hL, by rw [← ecs, List.length_map]; exact psl, fun i qa c hq hc => ?_⟩
   ·obtain ⟨i, hi⟩ := List.mem_iff_getElem?.mp hq
    obtain ⟨i', fs, hi', hf, rfl⟩ := hps i qa hi
    exact s1.free (hf _ List.mem_cons_self).1
   ·obtain ⟨i', fs, hi', hf, rfl⟩ := hps i qa hq
    rw [← ecs, List.getElem?_map, hi'] at hc
    cases hc
    exact (hf _ List.mem_cons_self).2
  ·have hlen : h.length = 1000 := by rw [hf]; exact fullL_len (by omega)
   have h0 : ms[0]? = some 1000 := by
    have m1 : (1000 : Int) ∈ ms := by
     rw [pm.mem_iff]
     unfold need
     rw [hlen]
     exact List.mem_cons_self
    cases hms : ms with
    | nil => rw [hms] at m1; cases m1
    | cons y r =>
     have y1 : (1000 : Int) ≤ y := by
      have : y ∈ need h := pm.mem_iff.mp (by rw [hms]; exact List.mem_cons_self)
      unfold need at this
      rcases List.mem_cons.mp this with e | e
      ·omega
      ·have ym := List.mem_of_mem_drop (List.mem_filter.mp e).1
       obtain ⟨j, hj⟩ := List.mem_iff_getElem?.mp (List.mem_filter.mp e).1
       rw [List.getElem?_drop] at hj
       have := house.above _ y hj (by omega)
       omega
     have y2 : y ≤ 1000 := by
      rw [hms] at m1 srt
      rcases List.mem_cons.mp m1 with e | e
      ·omega
      ·exact (List.pairwise_cons.mp srt).1 _ e
     show some y = some 1000
     congr 1
     omega
   have hM2 : M' - (h.length : Int) < 1000 := by
    have := (full_top (m := 1000) (by omega)).2 M' (by rw [← hf]; exact hM)
    omega
   refine .inl ⟨_, SqL.of hn, ?_⟩
   have pos : 0 < (ms.map V.int).length := by
    rw [List.length_map]
    exact (List.getElem?_eq_some_iff.mp h0).1
   intro D hD
   refine ⟨fun i m H2 => i = 0 ∧ Same H1 H2, ⟨0, rfl, Same.new hD⟩, ?_⟩
   rintro i m H2 ⟨rfl, s2⟩
   refine .inr ⟨(jp_list (SqL.of hn)).go 0 H2 pos s2, fun x H3 y => ⟨keepName rfl, ?_⟩⟩
   obtain ⟨s3, p3⟩ := (jp_list (SqL.of hn)).yld 0 H2 x H3 pos s2 y
   obtain ⟨y', hy', rfl⟩ := int_at p3
   rw [h0] at hy'
   cases hy'
   have t3 := s1.trans (s2.trans s3)
   refine ifB (fun z => ?_) fun z => ?_
   ·exact ⟨h, t3.seq hS, house, hl, fun nn => absurd ⟨by rw [hlen]; rfl, hlen⟩ nn, fun _ _ => e _ t3⟩
   ·exfalso
    have := of_decide_eq_false z
    omega
theorem sc_parent_of : FnScope ["house", "greatest"] ["house"] (defScope s_parent_of) := ⟨rfl, rfl, rfl, by decide +kernel, rfl, by decide +kernel, by decide +kernel⟩
theorem ok_parent_of {f : Addr} {fd : FuncData} (F : Fun K "parent_of" "parent_of" s_parent_of f fd) (ER : Errs K mg) (g_greatest_gap : G P w K mg base (CX1 P w) "greatest_gap" ["house"] 1 (sGreat K)) (g_filled : G P w K mg base (CX1 P w) "filled" ["house", "start"] 6 (sFill0 K)) : FnOk P w K mg base (CX1 P w) 7 f fd ["house"] (sParX K) := by
 refine F.okN sc_parent_of (fun vs H Q E h => ?_) (fun cdv A outer s H vs Q E hr h => ?_)
 ·unfold sParX at h; split at h
  ·rfl
  ·exact h.elim
 ·unfold sParX at h; split at h
  rotate_left
  ·exact h.elim
  rename_i a
  refine ⟨_, (q_scons (q_set (i := 1) sc_parent_of.nd rfl (Or.inl rfl) (q_g g_greatest_gap (hr.mono (by decide)) pass1E (q_cons (q_v 0) q_nil))) (q_scons (q_sif (q_tcmp uo_lt (q_v 1) q_int (nomark _)) (q_sone (q_ret q_non)) q_snil) (q_sone (q_ret (q_g g_filled (hr.mono (by decide)) pass1E (q_cons (q_v 0) (q_cons (q_v 1) q_nil))))))), ?_⟩
  obtain ⟨h, hS, house, hl, M, hM, mx, q1, q2⟩ := h
  refine ⟨h, hS, house.pos, fun M' hM' mx' => ?_⟩
  have eM : M' = M := Int.le_antisymm (mx M' hM') (mx' M hM)
  subst eM
  refine ifB (fun z => q1 (of_decide_eq_true z)) fun z => ?_
  have z' := of_decide_eq_false z
  exact ⟨h, hS, house, by omega, by omega, fun p g' H' s' hp hg L N gl => q2 (by omega) p g' H' s' hp hg L N⟩
end
end PG
namespace PG
open PySem L2 PyProof.Rows
section
variable {P : Program} {w : World} {K : FrK} {mg : Str → Option Value} {base : Heap}
theorem sc__law_whole : FnScope ["_law_found"] ["_law_found"] (defScope s__law_whole) := ⟨rfl, rfl, rfl, by decide +kernel, rfl, by decide +kernel, by decide +kernel⟩
theorem ok__law_whole {f : Addr} {fd : FuncData} (F : Fun K "_law_whole" "_law_whole" s__law_whole f fd) (B : Blt mg) (ER : Errs K mg) : FnOk P w K mg base (CX1 P w) 1 f fd ["_law_found"] sNum := by
 refine F.okN sc__law_whole (fun vs H Q E h => ?_) (fun cdv A outer s H vs Q E hr h => ?_)
 ·unfold sNum at h; split at h
  ·rfl
  ·exact h.elim
 ·unfold sNum at h; split at h
  rotate_left
  ·exact h.elim
  rename_i x
  refine ⟨_, (q_sone (q_ret (q_and (q_callB (uc_isi (K := K)) (by rfl) B.isi boot_isinstance (q_cons (q_v 0) (q_cons (q_bltn (v := .ty "int") (by rfl) B.int boot_int rfl) q_nil))) (q_one (q_not (q_callB (uc_isi (K := K)) (by rfl) B.isi boot_isinstance (q_cons (q_v 0) (q_cons (q_bltn (v := .ty "bool") (by rfl) B.bool boot_bool rfl) q_nil)))))))), ?_⟩
  obtain ⟨kn, q⟩ := h
  cases x with
  | non => exact ⟨_, false, TyOf.non, by kernel_rfl, iteF q⟩
  | bl b => exact ⟨_, true, TyOf.bl b, by kernel_rfl, iteT ⟨_, true, TyOf.bl b, by kernel_rfl, q⟩⟩
  | int i => exact ⟨_, true, TyOf.int i, by kernel_rfl, iteT ⟨_, false, TyOf.int i, by kernel_rfl, q⟩⟩
  | str x => exact ⟨_, false, TyOf.str x, by kernel_rfl, iteF q⟩
  | ref a =>
   rcases kn with ⟨xs, e⟩ | ⟨xs, e⟩ | ⟨kvs, e⟩
   ·exact ⟨_, false, TyOf.lst e, by kernel_rfl, iteF q⟩
   ·exact ⟨_, false, TyOf.tup e, by kernel_rfl, iteF q⟩
   ·exact ⟨_, false, TyOf.dK e, by kernel_rfl, iteF q⟩
  | _ => exact kn.elim
theorem sc__law_cell : FnScope ["_law_script", "_law_k", "_law_number"] ["_law_script", "_law_k"] (defScope s__law_cell) := ⟨rfl, rfl, rfl, by decide +kernel, rfl, by decide +kernel, by decide +kernel⟩
theorem ok__law_cell {f : Addr} {fd : FuncData} (F : Fun K "_law_cell" "_law_cell" s__law_cell f fd) (B : Blt mg) (ER : Errs K mg) : FnOk P w K mg base (CX1 P w) 1 f fd ["_law_script", "_law_k"] (sCellN K) := by
 refine F.okN sc__law_cell (fun vs H Q E h => ?_) (fun cdv A outer s H vs Q E hr h => ?_)
 ·unfold sCellN at h; split at h
  ·rfl
  ·exact h.elim
 ·unfold sCellN at h; split at h
  rotate_left
  ·exact h.elim
  rename_i a k
  refine ⟨_, (q_scons (q_sif (q_tcmp uo_lt (q_v 1) (q_callB (uc_len (K := K)) (by rfl) B.len PySem.boot_len (q_cons (q_v 0) q_nil)) (nomark _)) (q_sone (q_ret (q_ix (ux (K := K)) (q_v 0) (q_v 1) (fun _ _ => rfl)))) q_snil) (q_scons (q_set (i := 2) sc__law_cell.nd rfl (Or.inl rfl) (q_cut (q_op uo_add (q_op uo_mul (q_op uo_mul (q_v 1) (q_v 1)) q_int) q_int))) (q_scut (q_sif (q_tcmp uo_gt (q_callB (uc_len (K := K)) (by rfl) B.len PySem.boot_len (q_cons (q_v 0) q_nil)) q_int (nomark _)) (q_sone (q_set (i := 2) sc__law_cell.nd rfl (Or.inl rfl) (q_cut (q_op uo_add (q_v 2) (q_op uo_mul (q_op uo_mod (q_ix (ux (K := K)) (q_v 0) (q_op uo_mod (q_op uo_mul (q_v 1) q_int) (q_callB (uc_len (K := K)) (by rfl) B.len PySem.boot_len (q_cons (q_v 0) q_nil))) (fun _ _ => rfl)) q_int) q_int))))) q_snil) (q_sone (q_ret (q_op uo_mod (q_op uo_mul (q_v 2) q_int) q_int)))))), ?_⟩
  obtain ⟨ns, hS, hl, ⟨k0, k1⟩, q⟩ := h
  refine ⟨_, .inl hS, ifB (fun h1 => ?_) fun h1 => ?_⟩
  ·have h1' := of_decide_eq_true h1
   rw [List.length_map] at h1'
   exact ⟨_, _, .inl hS, atInt k0 h1', q _⟩
  refine ⟨fun v H' => ∃ n : Int, v = .int n ∧ H = H', ⟨.inl ⟨by omega, by omega⟩, .inr ⟨by decide, by decide⟩, _, rfl, rfl⟩, ?_⟩
  rintro _ _ ⟨n, rfl, rfl⟩
  refine ⟨fun σ' H' => ∃ n : Int, σ' = [some (.ref a), some (.int k), some (.int n)] ∧ H = H', ⟨_, .inl hS, ifB (fun h2 => ?_) fun h2 => ⟨n, rfl, rfl⟩⟩, ?_⟩
  ·have h2' := of_decide_eq_true h2
   rw [List.length_map] at h2'
   have hp : (0 : Int) < (ns.length : Int) := by omega
   refine ⟨fun v H' => ∃ n : Int, v = .int n ∧ H = H', ⟨.inl ⟨by omega, by omega⟩, _, .inl hS, by rw [List.length_map]; exact hp, _, _, .inl hS, atInt (ns := ns) (by rw [List.length_map]; exact Int.emod_nonneg _ (by omega)) (by rw [List.length_map]; exact Int.emod_lt_of_pos _ hp), by decide, .inr ⟨by decide, by decide⟩, _, rfl, rfl⟩, ?_⟩
   rintro _ _ ⟨n, rfl, rfl⟩
   exact ⟨n, rfl, rfl⟩
  rintro _ _ ⟨n, rfl, rfl⟩
  exact ⟨.inr ⟨by decide, by decide⟩, by decide, q _⟩
theorem sc__law_mixed : FnScope ["_law_script", "_law_k"] ["_law_script", "_law_k"] (defScope s__law_mixed) := ⟨rfl, rfl, rfl, by decide +kernel, rfl, by decide +kernel, by decide +kernel⟩
theorem ok__law_mixed {f : Addr} {fd : FuncData} (F : Fun K "_law_mixed" "_law_mixed" s__law_mixed f fd) (ER : Errs K mg) (g__law_cell : G P w K mg base (CX1 P w) "_law_cell" ["_law_script", "_law_k"] 1 (sCellN K)) : FnOk P w K mg base (CX1 P w) 2 f fd ["_law_script", "_law_k"] (sMixN K) := by
 refine F.okN sc__law_mixed (fun vs H Q E h => ?_) (fun cdv A outer s H vs Q E hr h => ?_)
 ·unfold sMixN at h; split at h
  ·rfl
  ·exact h.elim
 ·unfold sMixN at h; split at h
  rotate_left
  ·exact h.elim
  rename_i a k
  refine ⟨_, (q_sone (q_ret (q_op uo_mod (q_op uo_mul (q_op uo_mod (q_g g__law_cell (hr.mono (by decide)) pass1E (q_cons (q_v 0) (q_cons (q_v 1) q_nil))) q_int) q_int) q_int))), ?_⟩
  obtain ⟨ns, hS, hl, hk, q⟩ := h
  exact ⟨ns, hS, hl, hk, fun n => ⟨by decide, .inr ⟨by decide, by decide⟩, by decide, q _ (Int.emod_nonneg _ (by decide))⟩⟩
theorem sc__law_divisor : FnScope ["_law_one", "_law_other"] ["_law_one", "_law_other"] (defScope s__law_divisor) := ⟨rfl, rfl, rfl, by decide +kernel, rfl, by decide +kernel, by decide +kernel⟩
theorem ok__law_divisor {f : Addr} {fd : FuncData} (F : Fun K "_law_divisor" "_law_divisor" s__law_divisor f fd) (ER : Errs K mg) : FnOk P w K mg base (CX1 P w) 1 f fd ["_law_one", "_law_other"] sGcd := by
 refine F.okN sc__law_divisor (fun vs H Q E h => ?_) (fun cdv A outer s H vs Q E hr h => ?_)
 ·unfold sGcd at h; split at h
  ·rfl
  ·exact h.elim
 ·unfold sGcd at h; split at h
  rotate_left
  ·exact h.elim
  rename_i a b
  refine ⟨_, (q_scons (q_while PassesOwn.never (q_tcmp uo_gt (q_v 1) q_int (nomark _)) (q_sone (q_par (i := 0) (j := 1) rfl sc__law_divisor.nd rfl rfl (by decide) rfl rfl (q_cons (q_v 1) (q_cons (q_op uo_mod (q_v 0) (q_v 1)) q_nil)) (by rfl)))) (q_sone (q_ret (q_v 0)))), ?_⟩
  obtain ⟨ha, hb, q⟩ := h
  refine while_of (fun σ H' => ∃ g l : Int, σ = [some (.int g), some (.int l)] ∧ H' = H ∧ 0 ≤ g ∧ 0 ≤ l ∧ Nat.gcd g.toNat l.toNat = Nat.gcd a.toNat b.toNat) (fun σ _ => match σ with | [_, some (.int l)] => l.toNat | _ => 0) ⟨a, b, rfl, rfl, ha, hb, rfl⟩ ?_
  rintro σ H' ⟨g, l, rfl, rfl, hg, hl, e⟩
  refine ifB (fun h1 => while_go ?_) fun h1 => ?_
  ·have h2 : 0 < l := of_decide_eq_true h1
   refine ⟨h2, _, _, rfl, ⟨l, g % l, rfl, rfl, hl, Int.emod_nonneg _ (by omega), ?_⟩, ?_⟩
   ·rw [gcd_step hg h2, e]
   ·show (g % l).toNat < l.toNat
    have := Int.emod_lt_of_pos g h2
    have := Int.emod_nonneg g (show l ≠ 0 by omega)
    omega
  ·have h1' : ¬ 0 < l := of_decide_eq_false h1
   have z : l = 0 := by omega
   subst z
   have e' : g = ((Nat.gcd a.toNat b.toNat : Nat) : Int) := by
    rw [← e]
    simp
    omega
   rw [← e'] at q
   exact q
theorem sc__law_of_coins : FnScope ["_law_script", "_law_coins", "_law_second", "_law_k", "_law_paid", "_law_amount"] ["_law_script"] (defScope s__law_of_coins) := ⟨rfl, rfl, rfl, by decide +kernel, rfl, by decide +kernel, by decide +kernel⟩
theorem ok__law_of_coins {f : Addr} {fd : FuncData} (F : Fun K "_law_of_coins" "_law_of_coins" s__law_of_coins f fd) (B : Blt mg) (ER : Errs K mg) (g__law_mixed : G P w K mg base (CX1 P w) "_law_mixed" ["_law_script", "_law_k"] 2 (sMixN K)) (g__law_divisor : G P w K mg base (CX1 P w) "_law_divisor" ["_law_one", "_law_other"] 1 sGcd) : FnOk P w K mg base (CX1 P w) 3 f fd ["_law_script"] (sGaps61 K) := by
 refine F.okN sc__law_of_coins (fun vs H Q E h => ?_) (fun cdv A outer s H vs Q E hr h => ?_)
 ·unfold sGaps61 at h; split at h
  ·rfl
  ·exact h.elim
 ·unfold sGaps61 at h; split at h
  rotate_left
  ·exact h.elim
  rename_i a
  refine ⟨_, (q_scons (q_set (i := 1) sc__law_of_coins.nd rfl (Or.inl rfl) (q_lst (q_cons (q_op uo_add q_int (q_op uo_mod (q_g g__law_mixed (hr.mono (by decide)) pass1E (q_cons (q_v 0) (q_cons q_int q_nil))) q_int)) q_nil))) (q_scons (q_set (i := 2) sc__law_of_coins.nd rfl (Or.inl rfl) (q_op uo_add (q_op uo_add (q_ix (ux (K := K)) (q_v 1) q_int (fun _ _ => rfl)) q_int) (q_op uo_mod (q_g g__law_mixed (hr.mono (by decide)) pass1E (q_cons (q_v 0) (q_cons q_int q_nil))) (q_op uo_mul q_int (q_ix (ux (K := K)) (q_v 1) q_int (fun _ _ => rfl)))))) (q_scons (q_while PassesOwn.never (q_tcmp uo_gt (q_g g__law_divisor (hr.mono (by decide)) pass1E (q_cons (q_v 2) (q_cons (q_ix (ux (K := K)) (q_v 1) q_int (fun _ _ => rfl)) q_nil))) q_int (nomark _)) (q_sone (q_set (i := 2) sc__law_of_coins.nd rfl (Or.inl rfl) (q_op uo_sub (q_v 2) q_int)))) (q_scons (q_expr (q_bm (K := K) PySem.F.slot_list_append PySem.F.type_list_append um_append (q_v 1) (q_cons (q_v 2) q_nil))) (q_scons (q_for PassesOwn.never rfl (q_range1 B.range (q_cons (q_op uo_mod (q_g g__law_mixed (hr.mono (by decide)) pass1E (q_cons (q_v 0) (q_cons q_int q_nil))) q_int) q_nil)) (q_name (i := 3) sc__law_of_coins.nd rfl (Or.inl rfl)) (q_sone (q_expr (q_bm (K := K) PySem.F.slot_list_append PySem.F.type_list_append um_append (q_v 1) (q_cons (q_op uo_add q_int (q_op uo_mod (q_g g__law_mixed (hr.mono (by decide)) pass1E (q_cons (q_v 0) (q_cons (q_op uo_add q_int (q_v 3)) q_nil))) q_int)) q_nil))))) (q_scons (q_set (i := 4) sc__law_of_coins.nd rfl (Or.inr rfl) (q_lst (q_cons q_bl q_nil))) (q_scons (q_for PassesOwn.never rfl (q_range2 B.range (q_cons q_int (q_cons q_int q_nil))) (q_name (i := 5) sc__law_of_coins.nd rfl (Or.inr rfl)) (q_sone (q_expr (q_bm (K := K) PySem.F.slot_list_append PySem.F.type_list_append um_append (q_v 4) (q_cons (q_cmp uo_gt (q_callB (uc_len (K := K)) (by rfl) B.len PySem.boot_len (q_cons (q_comp [none, some 5, some 4] ["_law_coin", "_law_amount", "_law_paid"] rfl (by kernel_rfl) (q_seq (K := K) (q_v 1)) (fun _ _ _ _ _ => (q_name (i := 0) (show List.Nodup (["_law_coin", "_law_amount", "_law_paid"] : List Str) from by decide +kernel) rfl (Or.inl rfl))) (fun _ _ _ _ _ => q_fone (q_tw (q_tand (q_tcmp uo_le (q_v 0) (q_v 1) (nomark _)) (q_tand1 (q_tval (K := K) (q_ix (ux (K := K)) (q_v 2) (q_op uo_sub (q_v 1) (q_v 0)) (fun _ _ => rfl))))))) (fun _ _ _ _ _ => (q_v 0))) q_nil)) q_int (nomark _)) q_nil))))) (q_sone (q_ret (q_comp [none, some 4] ["_law_amount", "_law_paid"] rfl (by kernel_rfl) (q_range1 B.range (q_cons q_int q_nil)) (fun _ _ _ _ _ => (q_name (i := 0) (show List.Nodup (["_law_amount", "_law_paid"] : List Str) from by decide +kernel) rfl (Or.inl rfl))) (fun _ _ _ _ _ => q_fone (q_tnot (q_tval (K := K) (q_ix (ux (K := K)) (q_v 1) (q_v 0) (fun _ _ => rfl))))) (fun _ _ _ _ _ => (q_v 0)))))))))))), ?_⟩
  obtain ⟨ns, hS, hl, q⟩ := h
  refine ⟨ns, hS, hl, ⟨by decide, by decide⟩, fun n1 n10 => ⟨by decide, by show 1 ≤ sizeLine; decide, fun p hp => ?_⟩⟩
  have c0b : 2 ≤ 2 + n1 % 9 ∧ 2 + n1 % 9 ≤ 10 := by omega
  generalize 2 + n1 % 9 = c0 at c0b
  have s1 : Same H (upd H p (.lst [.int c0])) := Same.new hp
  have hc1 : (upd H p (.lst [.int c0])) p = some (.lst [.int c0]) := upd_same
  generalize upd H p (.lst [.int c0]) = H1 at s1 hc1
  refine ⟨_, _, .inl (SqL.of hc1), rfl, ns, s1.seq hS, hl, ⟨by decide, by decide⟩, fun n2 n20 => ⟨_, _, .inl (SqL.of hc1), rfl, .inl ⟨by decide, by decide⟩, by omega, ?_⟩⟩
  have b0 := Int.emod_nonneg n2 (show 2 * c0 ≠ 0 by omega)
  have b1 := Int.emod_lt_of_pos n2 (show 0 < 2 * c0 by omega)
  refine while_of (fun σ H' => ∃ b : Int, σ = [some (.ref a), some (.ref p), some (.int b), none, none, none] ∧ H1 = H' ∧ c0 + 1 ≤ b ∧ b ≤ 3 * c0) (fun σ _ => match σ with | [_, _, some (.int x), _, _, _] => x.toNat | _ => 0) ⟨c0 + 1 + n2 % (2 * c0), rfl, rfl, by omega, by omega⟩ ?_
  rintro σ _ ⟨b, rfl, rfl, bb0, bb1⟩
  refine ⟨_, _, .inl (SqL.of hc1), rfl, by omega, by omega, ifB (fun z => while_go ?_) fun z => ?_⟩
  ·have z' : (1 : Int) < ((Nat.gcd b.toNat c0.toNat : Nat) : Int) := of_decide_eq_true z
   have ne : b ≠ c0 + 1 := fun e => by
    have h1 := Nat.gcd_dvd_left b.toNat c0.toNat
    have h2 := Nat.gcd_dvd_right b.toNat c0.toNat
    rw [e, show (c0 + 1).toNat = c0.toNat + 1 by omega] at h1 z'
    rw [e, show (c0 + 1).toNat = c0.toNat + 1 by omega] at h2
    have h3 := (Nat.dvd_add_right h2).mp h1
    have h4 := Nat.eq_one_of_dvd_one h3
    rw [h4] at z'
    omega
   refine ⟨⟨b - 1, rfl, rfl, by omega, by omega⟩, ?_⟩
   show (b - 1).toNat < b.toNat
   omega
  have gz : gcdL [c0, b] = 1 := by
   have z' : ¬ (1 : Int) < ((Nat.gcd b.toNat c0.toNat : Nat) : Int) := of_decide_eq_false z
   have := Nat.gcd_pos_of_pos_left c0.toNat (show 0 < b.toNat by omega)
   rw [gcdL_two, Nat.gcd_comm]
   omega
  refine ⟨⟨_, SqL.of hc1⟩, _, hc1, by show 1 + 1 ≤ _; rw [sizeLine_eq]; omega, ?_⟩
  have s2 : Same H (upd H1 p (.lst ([.int c0] ++ [.int b]))) := s1.put hp
  have hc2 : (upd H1 p (.lst ([.int c0] ++ [.int b]))) p = some (.lst (([c0, b] : List Int).map V.int)) := upd_same
  generalize upd H1 p (.lst ([.int c0] ++ [.int b])) = H2 at s2 hc2
  refine ⟨ns, s2.seq hS, hl, ⟨by decide, by decide⟩, fun n3 n30 => ⟨by decide, ⟨by omega, by omega⟩, ?_⟩⟩
  refine for_range (fun i σ H' => ∃ (cs : List Int) (v1 : Option V), σ = [some (.ref a), some (.ref p), some (.int b), v1, none, none] ∧ Same H H' ∧ H' p = some (.lst (cs.map V.int)) ∧ c0 ∈ cs ∧ b ∈ cs ∧ cs.length ≤ 2 + i ∧ ∀ c ∈ cs, 1 ≤ c) ⟨[c0, b], none, rfl, s2, hc2, List.mem_cons_self, List.mem_cons_of_mem _ List.mem_cons_self, Nat.le_refl _, fun c hc => ?_⟩ ?_ ?_
  ·simp only [List.mem_cons, List.not_mem_nil, or_false] at hc
   rcases hc with rfl | rfl <;> omega
  ·rintro i σ H3 hi ⟨cs, v1, rfl, s3, hc3, m1, m2, cl, cp⟩
   have hi' : i < 4 := by omega
   refine ⟨⟨_, SqL.of hc3⟩, ns, s3.seq hS, hl, ⟨by omega, by omega⟩, fun n4 n40 => ⟨by decide, _, hc3, by rw [List.length_map]; exact small1000 (by omega), ?_⟩⟩
   refine ⟨cs ++ [2 + n4 % 41], _, rfl, s3.put hp, by rw [upd_same, List.map_append]; rfl, List.mem_append_left _ m1, List.mem_append_left _ m2, by simp; omega, fun c hc => ?_⟩
   rcases List.mem_append.mp hc with w | w
   ·exact cp c w
   ·rw [List.mem_singleton.mp w]; omega
  rintro σ H3 ⟨cs, v1, rfl, s3, hc3, m1, m2, cl, cp⟩
  have cl' : cs.length ≤ 10 := by omega
  refine ⟨by show 1 ≤ sizeLine; decide, fun pd hpd => ?_⟩
  have s4 := Same.new (o := .lst [.bl true]) hpd
  refine ⟨⟨by decide, by decide, by decide, by decide⟩, ?_⟩
  refine for_range (fun i σ H' => ∃ (bs : List Bool) (v1 v2 : Option V), σ = [some (.ref a), some (.ref p), some (.int b), v1, some (.ref pd), v2] ∧ Same H3 H' ∧ H' pd = some (.lst (bs.map V.bl)) ∧ bs.length = 1 + i ∧ ∀ t : Nat, t < 1 + i → (bs.getD t false = true ↔ Payable cs (t : Int))) ⟨[true], _, _, rfl, s4, upd_same, rfl, fun t ht => ?_⟩ ?_ ?_
  ·rw [show t = 0 by omega]
   exact ⟨fun _ => Payable.zero, fun _ => rfl⟩
  ·rintro i σ H4 hi ⟨bs, v1, v2, rfl, s5, hb, bl, hall⟩
   have hi' : i < 299 := hi
   refine ⟨⟨_, SqL.of hb⟩, ?_⟩
   have hc4 := s5 _ _ hc3
   refine .inl ⟨_, SqL.of hc4, comp_by (fun j => V.int (cs.getD j 0)) (fun j => decide (cs.getD j 0 ≤ 1 + (i : Int)) && bs.getD (1 + (i : Int) - cs.getD j 0).toNat false) (jp_list (SqL.of hc4)) (by rw [List.length_map]; exact small1000 (by omega)) (keepName rfl) (fun j x H' R Z hj sm hx hR hZ => ?_) (fun D H5 hD s6 hL => ?_)⟩
   ·obtain ⟨c, hcx, rfl⟩ := int_at hx
    have c1 := cp c (List.mem_of_getElem? hcx)
    have hRR := hR
    have hZZ := hZ
    rw [getD_at hcx] at hRR hZZ
    refine ifB (fun z => ?_) fun z => hZZ (by have z' : decide (c ≤ 1 + (i : Int)) = false := z; rw [z']; rfl) H' (Same.refl _)
    have z' : c ≤ 1 + (i : Int) := of_decide_eq_true z
    have hat : atI (bs.map V.bl) (1 + (i : Int) - c) = some (.bl (bs.getD (1 + (i : Int) - c).toNat false)) := atBl (by omega) (by omega)
    refine ⟨_, _, .inl (SqL.of (sm _ _ hb)), hat, ifB (fun w => ?_) fun w => ?_⟩
    ·exact hRR (by rw [decide_eq_true z', w]; rfl) H' (Same.refl _)
    ·exact hZZ (by rw [w, Bool.and_false]) H' (Same.refl _)
   rw [List.length_map] at hL
   refine ⟨_, .inl (SqL.of hL), ?_⟩
   rw [List.length_map]
   have hb5 := s6 _ _ hb
   refine ⟨_, hb5, by rw [List.length_map]; exact small1000 (by omega), ?_⟩
   have step := payable_step cp (t := 1 + i) (by omega)
   have key : (decide ((0 : Int) < ((((List.range cs.length).filter fun j => decide (cs.getD j 0 ≤ 1 + (i : Int)) && bs.getD (1 + (i : Int) - cs.getD j 0).toNat false).length : Nat) : Int)) = true) ↔ Payable cs ((1 + i : Nat) : Int) := by
    rw [step, decide_eq_true_iff]
    constructor
    ·intro h
     have : 0 < ((List.range cs.length).filter fun j => decide (cs.getD j 0 ≤ 1 + (i : Int)) && bs.getD (1 + (i : Int) - cs.getD j 0).toNat false).length := by omega
     obtain ⟨j, hj⟩ := List.exists_mem_of_length_pos this
     obtain ⟨j1, j2⟩ := List.mem_filter.mp hj
     rw [Bool.and_eq_true] at j2
     have j1' := List.mem_range.mp j1
     have j3 := of_decide_eq_true j2.1
     have cm := List.mem_of_getElem? (getD_some (ns := cs) j1')
     have c1 := cp _ cm
     refine ⟨_, cm, by omega, ?_⟩
     have := (hall (1 + (i : Int) - cs.getD j 0).toNat (by omega)).mp j2.2
     rw [show ((((1 + i : Nat) : Int) - cs.getD j 0).toNat : Int) = (((1 + (i : Int) - cs.getD j 0).toNat : Nat) : Int) by omega]
     exact this
    ·rintro ⟨c, hcm, c2, hpay⟩
     obtain ⟨j, hj⟩ := List.mem_iff_getElem?.mp hcm
     have jl := (List.getElem?_eq_some_iff.mp hj).1
     have c1 := cp c hcm
     have hm : j ∈ (List.range cs.length).filter fun j => decide (cs.getD j 0 ≤ 1 + (i : Int)) && bs.getD (1 + (i : Int) - cs.getD j 0).toNat false := by
      refine List.mem_filter.mpr ⟨List.mem_range.mpr jl, ?_⟩
      rw [getD_at hj, Bool.and_eq_true]
      refine ⟨decide_eq_true (by omega), (hall _ (by omega)).mpr ?_⟩
      rw [show (((1 + (i : Int) - c).toNat : Nat) : Int) = ((((1 + i : Nat) : Int) - c).toNat : Int) by omega]
      exact hpay
     have := List.length_pos_of_mem hm
     omega
   refine ⟨bs ++ [_], _, _, rfl, (s5.trans s6).put hpd, by rw [upd_same, List.map_append]; rfl, by simp; omega, fun t ht => ?_⟩
   by_cases e : t = 1 + i
   ·subst e
    rw [List.getD_eq_getElem?_getD, List.getElem?_append_right (by omega), show 1 + i - bs.length = 0 by omega]
    exact key
   ·rw [List.getD_eq_getElem?_getD, List.getElem?_append_left (by omega), ← List.getD_eq_getElem?_getD]
    exact hall t (by omega)
  ·rintro σ H4 ⟨bs, v1, v2, rfl, s5, hb, bl, hall⟩
   have bl' : bs.length = 300 := bl
   refine ⟨⟨by decide, by decide⟩, comp_by (fun i => V.int (0 + (i : Int))) (fun i => !bs.getD i false) jp_range (by rw [sizeLine_eq]; decide) (keepName rfl) (fun i x H' R Z hi sm hx hR hZ => ?_) (fun D H5 hD s6 hL => ?_)⟩
   ·subst hx
    have hi' : i < 300 := hi
    have hat : atI (bs.map V.bl) (0 + (i : Int)) = some (.bl (bs.getD (0 + (i : Int)).toNat false)) := atBl (by omega) (by omega)
    rw [show (0 + (i : Int)).toNat = i by omega] at hat
    exact ⟨_, _, .inl (SqL.of (sm _ _ hb)), hat, ifB (fun w => hR w H' (Same.refl _)) fun w => hZ w H' (Same.refl _)⟩
   have t5 := s3.trans s5
   have gg := gaps_coins (pb := fun i => bs.getD i false) m1 m2 ⟨by omega, by omega⟩ ⟨by omega, by omega⟩ gz cp (N := 300) (by omega) fun i hi => hall i hi
   have gb : ∀ g ∈ ((List.range 300).filter fun (i : Nat) => !bs.getD i false).map (fun (i : Nat) => 0 + (i : Int)), g ≤ ((299 : Nat) : Int) := fun g hg => by
    obtain ⟨i, hi, rfl⟩ := List.mem_map.mp hg
    have := List.mem_range.mp (List.mem_filter.mp hi).1
    omega
   exact q D (((List.range 300).filter fun (i : Nat) => !bs.getD i false).map fun (i : Nat) => 0 + (i : Int)) H5 (t5.trans s6) (t5.free hD) (by rw [hL, List.map_map]; rfl) gg (fun g hg => by have := gb g hg; omega) (gaps_len gg gb)
theorem sc__law_stays_closed : FnScope ["_law_gaps_here", "_law_number", "_law_known", "_law_one"] ["_law_gaps_here", "_law_number"] (defScope s__law_stays_closed) := ⟨rfl, rfl, rfl, by decide +kernel, rfl, by decide +kernel, by decide +kernel⟩
theorem ok__law_stays_closed {f : Addr} {fd : FuncData} (F : Fun K "_law_stays_closed" "_law_stays_closed" s__law_stays_closed f fd) (B : Blt mg) (ER : Errs K mg) : FnOk P w K mg base (CX1 P w) 1 f fd ["_law_gaps_here", "_law_number"] (sStays K) := by
 refine F.okN sc__law_stays_closed (fun vs H Q E h => ?_) (fun cdv A outer s H vs Q E hr h => ?_)
 ·unfold sStays at h; split at h
  ·rfl
  ·exact h.elim
 ·unfold sStays at h; split at h
  rotate_left
  ·exact h.elim
  rename_i a n
  refine ⟨_, (q_scons (q_set (i := 2) sc__law_stays_closed.nd rfl (Or.inl rfl) (q_cut (q_callTy (uc_dictP rfl) (by rfl) B.dict boot_dict (q_cons (q_comp [none] ["_law_gap"] rfl (by kernel_rfl) (q_seq (K := K) (q_v 0)) (fun _ _ _ _ _ => (q_name (i := 0) (show List.Nodup (["_law_gap"] : List Str) from by decide +kernel) rfl (Or.inl rfl))) (fun _ _ _ _ _ => q_fnil) (fun _ _ _ _ _ => (q_tup (q_cons (q_v 0) (q_cons q_bl q_nil))))) q_nil)))) (q_scons (q_for PassesOwn.never rfl (q_range2 B.range (q_cons q_int (q_cons (q_op uo_add (q_op uo_fdiv (q_v 1) q_int) q_int) q_nil))) (q_name (i := 3) sc__law_stays_closed.nd rfl (Or.inl rfl)) (q_sone (q_sif (q_tw (q_tand (q_tcmp (uo_notInD hr.u8) (q_v 3) (q_v 2) rfl) (q_tand1 (q_tcmp (uo_notInD hr.u8) (q_op uo_sub (q_v 1) (q_v 3)) (q_v 2) rfl)))) (q_sone (q_ret q_bl)) q_snil))) (q_sone (q_ret q_bl)))), ?_⟩
  obtain ⟨G, hS, gl, ⟨n1, n2⟩, q⟩ := h
  refine ⟨fun v H' => ∃ (d : Addr) (kvs : List (Key × V)), v = .ref d ∧ Same H H' ∧ H' d = some (.dK kvs) ∧ MemD kvs G, ?_, ?_⟩
  ·refine .inl ⟨_, hS, comp_objs (fun k T fs => ∃ y, G[k]? = some y ∧ fs = [(T, .tup [.int y, .bl true])]) (jp_list hS) (by rw [List.length_map]; exact small1000 (by omega)) (keepName rfl) (fun i x H' R Z hi sm hx hR => ?_) (fun D H2 ps hD s2 hL tl hts => ?_)⟩
   ·obtain ⟨y, hy, rfl⟩ := int_at hx
    refine tT ⟨by show 2 ≤ sizeLine; decide, fun T hT => ?_⟩
    refine hR T _ _ (Same.new hT) (fun z hz => ?_) ⟨y, hy, rfl⟩
    rw [List.mem_singleton.mp hz]
    exact ⟨hT, upd_same⟩
   ·rw [List.length_map] at tl
    refine ⟨ps, trueL G, hL, by unfold trueL; rw [List.length_map]; exact tl, fun i p k v hp hk => ?_, fun d hd => ⟨d, _, rfl, s2.trans (Same.new hd), upd_same, memD_of G⟩⟩
    obtain ⟨fs, hf, y, hy, rfl⟩ := hts i p hp
    unfold trueL at hk
    rw [List.getElem?_map, hy] at hk
    cases hk
    exact (hf _ List.mem_cons_self).2
  rintro _ H1 ⟨d, kvs, rfl, s1, hd, mem⟩
  refine ⟨⟨by decide, by decide⟩, ⟨by decide, by decide, by omega, by omega⟩, ?_⟩
  have en : (n / 2 + 1 - 1).toNat = (n / 2).toNat := by omega
  rw [en]
  refine for_range (fun i σ H' => ∃ v : Option V, σ = [some (.ref a), some (.int n), some (.ref d), v] ∧ H1 = H' ∧ ∀ j ∈ List.range i, (decide (1 + (j : Int) ∈ G) || decide (n - (1 + (j : Int)) ∈ G)) = true) ⟨none, rfl, rfl, fun j hj => by simp at hj⟩ ?_ ?_
  ·rintro i σ _ hi ⟨v, rfl, rfl, hall⟩
   have more : (decide (1 + (i : Int) ∈ G) || decide (n - (1 + (i : Int)) ∈ G)) = true → ∀ j ∈ List.range (i + 1), (decide (1 + (j : Int) ∈ G) || decide (n - (1 + (j : Int)) ∈ G)) = true := fun h j hj => by
    have := List.mem_range.mp hj
    by_cases e : j = i
    ·subst e; exact h
    ·exact hall j (List.mem_range.mpr (by omega))
   refine ⟨kvs, .inl hd, ?_⟩
   rw [mem]
   refine ifB (fun z => ⟨kvs, .inl hd, ?_⟩) fun z => ⟨_, rfl, rfl, more ?_⟩
   ·rw [mem]
    refine ifB (fun z2 => ?_) fun z2 => ⟨_, rfl, rfl, more ?_⟩
    ·have ef : closedB G n = false := by
      cases w : closedB G n
      ·rfl
      ·unfold closedB at w
       have := List.all_eq_true.mp w i (List.mem_range.mpr hi)
       have z' : decide (1 + (i : Int) ∈ G) = false := by simpa using z
       have z2' : decide (n - (1 + (i : Int)) ∈ G) = false := by simpa using z2
       rw [z', z2'] at this
       cases this
     have := q H1 s1
     rw [ef] at this
     exact this
    ·have z2' : decide (n - (1 + (i : Int)) ∈ G) = true := by simpa using z2
     rw [z2', Bool.or_true]
   ·have z' : decide (1 + (i : Int) ∈ G) = true := by simpa using z
    rw [z', Bool.true_or]
  ·rintro σ _ ⟨v, rfl, rfl, hall⟩
   have et : closedB G n = true := by unfold closedB; exact List.all_eq_true.mpr hall
   have := q H1 s1
   rw [et] at this
   exact this
theorem sc__law_one_by_one : FnScope ["_law_script", "_law_gaps_here", "_law_k", "_law_last", "_law_some"] ["_law_script"] (defScope s__law_one_by_one) := ⟨rfl, rfl, rfl, by decide +kernel, rfl, by decide +kernel, by decide +kernel⟩
theorem ok__law_one_by_one {f : Addr} {fd : FuncData} (F : Fun K "_law_one_by_one" "_law_one_by_one" s__law_one_by_one f fd) (B : Blt mg) (ER : Errs K mg) (g__law_mixed : G P w K mg base (CX1 P w) "_law_mixed" ["_law_script", "_law_k"] 2 (sMixN K)) (g__law_stays_closed : G P w K mg base (CX1 P w) "_law_stays_closed" ["_law_gaps_here", "_law_number"] 1 (sStays K)) : FnOk P w K mg base (CX1 P w) 3 f fd ["_law_script"] (sGaps61 K) := by
 refine F.okN sc__law_one_by_one (fun vs H Q E h => ?_) (fun cdv A outer s H vs Q E hr h => ?_)
 ·unfold sGaps61 at h; split at h
  ·rfl
  ·exact h.elim
 ·unfold sGaps61 at h; split at h
  rotate_left
  ·exact h.elim
  rename_i a
  refine ⟨_, (q_scons (q_set (i := 1) sc__law_one_by_one.nd rfl (Or.inr rfl) (q_lst q_nil)) (q_scons (q_for PassesOwn.never rfl (q_range1 B.range (q_cons (q_callB (uc_min2 rfl) (by rfl) B.min boot_min (q_cons q_int (q_cons (q_op uo_add q_int (q_callB (uc_len (K := K)) (by rfl) B.len PySem.boot_len (q_cons (q_v 0) q_nil))) q_nil))) q_nil)) (q_name (i := 2) sc__law_one_by_one.nd rfl (Or.inl rfl)) (q_scons (q_set (i := 3) sc__law_one_by_one.nd rfl (Or.inr rfl) (q_cut (q_maxD (K := K) rfl B.max (q_cons (q_v 1) q_nil) q_int))) (q_scons (q_setC (i := 4) [none, some 3, some 1] ["_law_j", "_law_last", "_law_gaps_here"] sc__law_one_by_one.nd rfl rfl rfl (by kernel_rfl) (q_range2 B.range (q_cons q_int (q_cons q_int q_nil))) (fun _ _ _ _ _ => (q_name (i := 0) (show List.Nodup (["_law_j", "_law_last", "_law_gaps_here"] : List Str) from by decide +kernel) rfl (Or.inl rfl))) (fun _ _ _ _ _ => q_fone (q_tval (K := K) (q_g g__law_stays_closed (hr.mono (by decide)) pass1E (q_cons (q_v 2) (q_cons (q_op uo_add (q_v 1) (q_v 0)) q_nil))))) (fun _ _ _ _ _ => (q_op uo_add (q_v 1) (q_v 0)))) (q_scons (q_sif (q_tcmp (uo_eq (K := K) hr.u8) (q_v 4) (q_lst q_nil) (nomark _)) (q_sone (q_ret (q_v 1))) q_snil) (q_sone (q_expr (q_bm (K := K) PySem.F.slot_list_append PySem.F.type_list_append um_append (q_v 1) (q_cons (q_ix (ux (K := K)) (q_v 4) (q_op uo_mod (q_op uo_mod (q_op uo_fdiv (q_g g__law_mixed (hr.mono (by decide)) pass1E (q_cons (q_v 0) (q_cons (q_op uo_add q_int (q_v 2)) q_nil))) q_int) q_int) (q_callB (uc_len (K := K)) (by rfl) B.len PySem.boot_len (q_cons (q_v 4) q_nil))) (fun _ _ => rfl)) q_nil)))))))) (q_sone (q_ret (q_v 1))))), ?_⟩
  obtain ⟨ns, hS, hl, q⟩ := h
  refine ⟨by show 0 ≤ _; omega, fun p hp => ?_⟩
  refine ⟨_, .inl ((Same.new hp).seq hS), ?_⟩
  rw [List.length_map]
  have hR : 3 ≤ (if 3 + (ns.length : Int) < 40 then 3 + (ns.length : Int) else 40) ∧ (if 3 + (ns.length : Int) < 40 then 3 + (ns.length : Int) else 40) ≤ 40 := by split <;> omega
  refine ⟨⟨by omega, by omega⟩, ?_⟩
  generalize (if 3 + (ns.length : Int) < 40 then 3 + (ns.length : Int) else 40) = top at hR
  refine for_range (fun i σ H' => ∃ (G : List Int) (v1 v2 v3 : Option V), σ = [some (.ref a), some (.ref p), v1, v2, v3] ∧ Same H H' ∧ H' p = some (.lst (G.map V.int)) ∧ Gaps G ∧ G.length ≤ i ∧ ∀ g ∈ G, g ≤ 11 * (i : Int)) ⟨[], none, none, none, rfl, Same.new hp, upd_same, Gaps.nil, Nat.le_refl _, fun g hg => by cases hg⟩ ?_ ?_
  ·rintro i σ H1 hi ⟨G, v1, v2, v3, rfl, s1, hG, g, gl, gb⟩
   have hi' : i < 40 := by omega
   refine ⟨fun v H' => ∃ l : Int, v = .int l ∧ (0 ≤ l ∧ l ≤ 11 * (i : Int)) ∧ (∀ y ∈ G, y ≤ l) ∧ H1 = H', ⟨G, SqL.of hG, fun e => ⟨0, rfl, ⟨by omega, by omega⟩, (fun y hy => by rw [e] at hy; cases hy), rfl⟩, fun m hm mx => ⟨m, rfl, ⟨by have := g.pos m hm; omega, gb m hm⟩, mx, rfl⟩⟩, ?_⟩
   rintro _ _ ⟨l, rfl, ⟨l0, l1⟩, lm, rfl⟩
   refine ⟨⟨by decide, by decide, by decide, by decide⟩, comp_by (fun j => V.int (l + (1 + (j : Int)))) (fun j => closedB G (l + (1 + (j : Int)))) jp_range (by rw [sizeLine_eq]; decide) (keepName rfl) (fun j x H' R Z hj sm hx hR hZ => ?_) (fun D H2 hD s2 hL => ?_)⟩
   ·subst hx
    have hj' : j < 11 := hj
    refine ⟨G, SqL.of (sm _ _ hG), by omega, ⟨by omega, by omega⟩, fun H6 s6 => ifB (fun z => hR z H6 s6) fun z => hZ z H6 s6⟩
   have hL2 : H2 D = some (.lst ((((List.range 11).filter fun (j : Nat) => closedB G (l + (1 + (j : Int)))).map fun (j : Nat) => l + (1 + (j : Int))).map V.int)) := by rw [hL, List.map_map]; rfl
   have hSm : ∀ x ∈ ((List.range 11).filter fun (j : Nat) => closedB G (l + (1 + (j : Int)))).map (fun (j : Nat) => l + (1 + (j : Int))), l + 1 ≤ x ∧ x ≤ l + 11 ∧ closedB G x = true := fun x hx => by
    obtain ⟨j, hj, rfl⟩ := List.mem_map.mp hx
    obtain ⟨h1, h2⟩ := List.mem_filter.mp hj
    have := List.mem_range.mp h1
    exact ⟨by omega, by omega, h2⟩
   generalize (((List.range 11).filter fun (j : Nat) => closedB G (l + (1 + (j : Int)))).map fun (j : Nat) => l + (1 + (j : Int))) = S at hL2 hSm
   have hG2 := s2 _ _ hG
   refine ⟨by show 0 ≤ _; omega, fun r hr => ?_⟩
   have s3 : Same H2 (upd H2 r (.lst [])) := Same.new hr
   refine eqInts (neg := false) (ms := []) (SqL.of (s3 _ _ hL2)) (SqL.of upd_same) (ifB (fun z => ?_) fun z => ?_)
   ·exact q p G _ ((s1.trans s2).trans s3) hp (s3 _ _ hG2) g (fun x hx => by have := gb x hx; omega) (by omega)
   ·have z' : S ≠ [] := of_decide_eq_false z
    have Sp : (0 : Int) < (S.length : Int) := by
     have : 0 < S.length := List.length_pos_iff.mpr z'
     omega
    have t3 := (s1.trans s2).trans s3
    refine ⟨⟨_, SqL.of (s3 _ _ hG2)⟩, ns, t3.seq hS, hl, ⟨by omega, by omega⟩, fun n n0 => ⟨⟨by decide, by decide⟩, by decide, _, .inl (SqL.of (s3 _ _ hL2)), ?_⟩⟩
    rw [List.length_map]
    have e0 := Int.emod_nonneg (n / 7 % 3) (show (S.length : Int) ≠ 0 by omega)
    have e1 := Int.emod_lt_of_pos (n / 7 % 3) Sp
    refine ⟨Sp, _, _, .inl (SqL.of (s3 _ _ hL2)), atInt e0 e1, _, s3 _ _ hG2, by rw [List.length_map]; exact small1000 (by omega), ?_⟩
    have hx := hSm (S.getD (n / 7 % 3 % (S.length : Int)).toNat 0) (List.mem_of_getElem? (getD_some (by omega)))
    generalize S.getD (n / 7 % 3 % (S.length : Int)).toNat 0 = x at hx
    refine ⟨G ++ [x], _, _, _, rfl, t3.put hp, by rw [upd_same, List.map_append]; rfl, g.snoc (fun y hy => by have := lm y hy; omega) (by omega) (by omega) (by omega) (closedB_of hx.2.2), by simp; omega, fun y hy => ?_⟩
    rcases List.mem_append.mp hy with w | w
    ·have := gb y w; omega
    ·rw [List.mem_singleton.mp w]; omega
  ·rintro σ H1 ⟨G, v1, v2, v3, rfl, s1, hG, g, gl, gb⟩
   exact q p G H1 s1 hp hG g (fun x hx => by have := gb x hx; omega) (by omega)
theorem sc__law_gaps : FnScope ["_law_script", "_law_way"] ["_law_script"] (defScope s__law_gaps) := ⟨rfl, rfl, rfl, by decide +kernel, rfl, by decide +kernel, by decide +kernel⟩
theorem ok__law_gaps {f : Addr} {fd : FuncData} (F : Fun K "_law_gaps" "_law_gaps" s__law_gaps f fd) (B : Blt mg) (ER : Errs K mg) (g__law_mixed : G P w K mg base (CX1 P w) "_law_mixed" ["_law_script", "_law_k"] 2 (sMixN K)) (g__law_of_coins : G P w K mg base (CX1 P w) "_law_of_coins" ["_law_script"] 3 (sGaps61 K)) (g__law_one_by_one : G P w K mg base (CX1 P w) "_law_one_by_one" ["_law_script"] 3 (sGaps61 K)) : FnOk P w K mg base (CX1 P w) 4 f fd ["_law_script"] (sGaps61 K) := by
 refine F.okN sc__law_gaps (fun vs H Q E h => ?_) (fun cdv A outer s H vs Q E hr h => ?_)
 ·unfold sGaps61 at h; split at h
  ·rfl
  ·exact h.elim
 ·unfold sGaps61 at h; split at h
  rotate_left
  ·exact h.elim
  rename_i a
  refine ⟨_, (q_scons (q_set (i := 1) sc__law_gaps.nd rfl (Or.inl rfl) (q_cut (q_op uo_mod (q_op uo_fdiv (q_g g__law_mixed (hr.mono (by decide)) pass1E (q_cons (q_v 0) (q_cons q_int q_nil))) q_int) q_int))) (q_scons (q_sif (q_tcmp uo_lt (q_v 1) q_int (nomark _)) (q_sone (q_ret (q_callTy (uc_listRng rfl) (by rfl) B.list boot_list (q_cons (q_callTy uc_rangeV (by rfl) B.range boot_range (q_cons q_int (q_cons (q_op uo_add q_int (q_op uo_mod (q_g g__law_mixed (hr.mono (by decide)) pass1E (q_cons (q_v 0) (q_cons q_int q_nil))) q_int)) q_nil))) q_nil)))) q_snil) (q_scons (q_sif (q_tcmp uo_lt (q_v 1) q_int (nomark _)) (q_sone (q_ret (q_g g__law_of_coins (hr.mono (by decide)) pass1E (q_cons (q_v 0) q_nil)))) q_snil) (q_sone (q_ret (q_g g__law_one_by_one (hr.mono (by decide)) pass1E (q_cons (q_v 0) q_nil))))))), ?_⟩
  obtain ⟨ns, hS, hl, q⟩ := h
  refine ⟨fun v H' => ∃ n : Int, v = .int n ∧ H = H', ⟨ns, hS, hl, ⟨by decide, by decide⟩, fun n n0 => ⟨⟨by decide, by decide⟩, by decide, _, rfl, rfl⟩⟩, ?_⟩
  rintro _ _ ⟨way, rfl, rfl⟩
  refine ifB (fun z => ?_) fun z => ifB (fun z2 => ?_) fun z2 => ?_
  ·refine ⟨ns, hS, hl, ⟨by decide, by decide⟩, fun n n0 => ⟨by decide, ?_⟩⟩
   have n1 := Int.emod_nonneg n (show (30 : Int) ≠ 0 by omega)
   have n2 : n % 30 < 30 := by omega
   obtain ⟨m, hm⟩ : ∃ m : Nat, n % 30 = (m : Int) := ⟨(n % 30).toNat, by omega⟩
   rw [hm]
   refine fun r hr => ⟨_, _, upd_same, ⟨by decide, by omega, by omega⟩, fun l hl0 => ?_⟩
   have e : ((List.range (1 + (m : Int) - 1).toNat).map fun (k : Nat) => V.int (1 + (k : Int))) = ((List.range m).map fun (i : Nat) => 1 + (i : Int)).map V.int := by
    rw [show (1 + (m : Int) - 1).toNat = m by omega, List.map_map]
    rfl
   rw [e]
   refine q l _ _ ((Same.new hr).trans (Same.new hl0)) ((Same.new hr).free hl0) upd_same (gaps_range (by omega)) (fun g hg => ?_) (by rw [List.length_map, List.length_range]; omega)
   obtain ⟨i, hi, rfl⟩ := List.mem_map.mp hg
   have := List.mem_range.mp hi
   omega
  ·exact ⟨ns, hS, hl, q⟩
  ·exact ⟨ns, hS, hl, q⟩
end
end PG
namespace PG
open PySem L2 PyProof.Rows
section
variable {P : Program} {w : World} {K : FrK} {mg : Str → Option Value} {base : Heap}
theorem sc__law_house : FnScope ["_law_gaps_here", "_law_known", "_law_size", "_law_found", "_law_rest"] ["_law_gaps_here"] (defScope s__law_house) := ⟨rfl, rfl, rfl, by decide +kernel, rfl, by decide +kernel, by decide +kernel⟩
theorem ok__law_house {f : Addr} {fd : FuncData} (F : Fun K "_law_house" "_law_house" s__law_house f fd) (B : Blt mg) (ER : Errs K mg) : FnOk P w K mg base (CX1 P w) 1 f fd ["_law_gaps_here"] (sDueG K) := by
 refine F.okN sc__law_house (fun vs H Q E h => ?_) (fun cdv A outer s H vs Q E hr h => ?_)
 ·unfold sDueG at h; split at h
  ·rfl
  ·exact h.elim
 ·unfold sDueG at h; split at h
  rotate_left
  ·exact h.elim
  rename_i a
  refine ⟨_, (q_scons (q_set (i := 1) sc__law_house.nd rfl (Or.inl rfl) (q_cut (q_callTy (uc_dictP rfl) (by rfl) B.dict boot_dict (q_cons (q_comp [none] ["_law_gap"] rfl (by kernel_rfl) (q_seq (K := K) (q_v 0)) (fun _ _ _ _ _ => (q_name (i := 0) (show List.Nodup (["_law_gap"] : List Str) from by decide +kernel) rfl (Or.inl rfl))) (fun _ _ _ _ _ => q_fnil) (fun _ _ _ _ _ => (q_tup (q_cons (q_v 0) (q_cons q_bl q_nil))))) q_nil)))) (q_scons (q_set (i := 2) sc__law_house.nd rfl (Or.inl rfl) q_int) (q_scons (q_while PassesOwn.never (q_tcmp (uo_inD hr.u8) (q_v 2) (q_v 1) rfl) (q_sone (q_set (i := 2) sc__law_house.nd rfl (Or.inl rfl) (q_op uo_add (q_v 2) q_int)))) (q_scons (q_set (i := 3) sc__law_house.nd rfl (Or.inl rfl) (q_lst q_nil)) (q_scons (q_for PassesOwn.never rfl (q_range1 B.range (q_cons (q_v 2) q_nil)) (q_name (i := 4) sc__law_house.nd rfl (Or.inl rfl)) (q_scons (q_while PassesOwn.never (q_tcmp (uo_inD hr.u8) (q_v 4) (q_v 1) rfl) (q_sone (q_set (i := 4) sc__law_house.nd rfl (Or.inl rfl) (q_op uo_add (q_v 4) (q_v 2))))) (q_sone (q_expr (q_bm (K := K) PySem.F.slot_list_append PySem.F.type_list_append um_append (q_v 3) (q_cons (q_v 4) q_nil)))))) (q_sone (q_ret (q_v 3)))))))), ?_⟩
  obtain ⟨G, hS, g, q⟩ := h
  have gl : G.length ≤ 300 := g.few
  refine ⟨fun v H' => ∃ (d : Addr) (kvs : List (Key × V)), v = .ref d ∧ Same H H' ∧ H' d = some (.dK kvs) ∧ MemD kvs G, ?_, ?_⟩
  ·refine .inl ⟨_, hS, comp_objs (fun k T fs => ∃ y, G[k]? = some y ∧ fs = [(T, .tup [.int y, .bl true])]) (jp_list hS) (by rw [List.length_map]; exact small1000 (by omega)) (keepName rfl) (fun i x H' R Z hi sm hx hR => ?_) (fun D H2 ps hD s2 hL tl hts => ?_)⟩
   ·obtain ⟨y, hy, rfl⟩ := int_at hx
    refine tT ⟨by show 2 ≤ sizeLine; decide, fun T hT => ?_⟩
    refine hR T _ _ (Same.new hT) (fun z hz => ?_) ⟨y, hy, rfl⟩
    rw [List.mem_singleton.mp hz]
    exact ⟨hT, upd_same⟩
   ·rw [List.length_map] at tl
    refine ⟨ps, trueL G, hL, by unfold trueL; rw [List.length_map]; exact tl, fun i p k v hp hk => ?_, fun d hd => ⟨d, _, rfl, s2.trans (Same.new hd), upd_same, memD_of G⟩⟩
    obtain ⟨fs, hf, y, hy, rfl⟩ := hts i p hp
    unfold trueL at hk
    rw [List.getElem?_map, hy] at hk
    cases hk
    exact (hf _ List.mem_cons_self).2
  rintro _ H1 ⟨d, kvs, rfl, s1, hd, mem⟩
  refine while_of (fun σ H' => ∃ m : Nat, σ = [some (.ref a), some (.ref d), some (.int (m : Int)), none, none] ∧ H1 = H' ∧ 1 ≤ m ∧ ∀ k : Int, 1 ≤ k → k < m → k ∈ G) (fun σ _ => match σ with | [_, _, some (.int x), _, _] => (2001 - x).toNat | _ => 0) ⟨1, rfl, rfl, by omega, fun k k1 k2 => by omega⟩ ?_
  rintro σ _ ⟨m, rfl, rfl, m1, low⟩
  refine ⟨kvs, .inl hd, ?_⟩
  rw [mem]
  refine ifB (fun z => while_go ?_) fun z => ?_
  ·have z' : (m : Int) ∈ G := of_decide_eq_true z
   have := g.le _ z'
   refine ⟨⟨m + 1, rfl, rfl, by omega, fun k k1 k2 => ?_⟩, ?_⟩
   ·by_cases e : k = (m : Int)
    ·rw [e]; exact z'
    ·exact low k k1 (by omega)
   ·show (2001 - ((m : Int) + 1)).toNat < (2001 - (m : Int)).toNat
    omega
  have out : (m : Int) ∉ G := of_decide_eq_false z
  have mh := (hOf_house g.le m1 out low).small g
  have hlen : (hOf G m).length = m := by unfold hOf; simp
  rw [hlen] at mh
  refine ⟨by show 0 ≤ _; omega, fun p hp => ?_⟩
  have s2 : Same H1 (upd H1 p (.lst [])) := Same.new hp
  refine ⟨⟨by omega, by omega⟩, ?_⟩
  rw [Int.toNat_natCast]
  refine for_range (fun i σ H' => ∃ v : Option V, σ = [some (.ref a), some (.ref d), some (.int (m : Int)), some (.ref p), v] ∧ Same H1 H' ∧ H' p = some (.lst (((List.range i).map fun (i : Nat) => 0 + (i : Int) + (firstK G (0 + (i : Int)) (m : Int) : Int) * (m : Int)).map V.int))) ⟨none, rfl, s2, upd_same⟩ ?_ ?_
  ·rintro i σ H2 hi ⟨v, rfl, s3, hp2⟩
   refine while_of (fun σ H' => ∃ k : Nat, σ = [some (.ref a), some (.ref d), some (.int (m : Int)), some (.ref p), some (.int (0 + (i : Int) + (k : Int) * (m : Int)))] ∧ H2 = H' ∧ ∀ j : Nat, j < k → 0 + (i : Int) + (j : Int) * (m : Int) ∈ G) (fun σ _ => match σ with | [_, _, _, _, some (.int x)] => (2001 - x).toNat | _ => 0) ⟨0, by rw [show 0 + (i : Int) + ((0 : Nat) : Int) * (m : Int) = 0 + (i : Int) by simp]; rfl, rfl, fun j hj => by omega⟩ ?_
   rintro σ _ ⟨k, rfl, rfl, hk⟩
   refine ⟨kvs, .inl (s3 _ _ hd), ?_⟩
   rw [mem]
   refine ifB (fun z => while_go ?_) fun z => ?_
   ·have z' : 0 + (i : Int) + (k : Int) * (m : Int) ∈ G := of_decide_eq_true z
    have e : 0 + (i : Int) + (k : Int) * (m : Int) + (m : Int) = 0 + (i : Int) + ((k + 1 : Nat) : Int) * (m : Int) := by rw [Int.natCast_add, Int.add_mul]; simp; omega
    have le := g.le _ z'
    refine ⟨⟨k + 1, by rw [← e]; rfl, rfl, fun j hj => ?_⟩, ?_⟩
    ·by_cases w : j = k
     ·subst w; exact z'
     ·exact hk j (by omega)
    ·show (2001 - (0 + (i : Int) + (k : Int) * (m : Int) + (m : Int))).toNat < (2001 - (0 + (i : Int) + (k : Int) * (m : Int))).toNat
     omega
   ·have z' := of_decide_eq_false z
    have ek := firstK_uniq g.le (by omega) (by omega) z' hk
    refine ⟨⟨_, SqL.of hp2⟩, _, hp2, by rw [List.length_map, List.length_map, List.length_range]; exact small1000 (by omega), ?_⟩
    refine ⟨_, rfl, s3.put hp, ?_⟩
    rw [upd_same, ek, List.range_succ, List.map_append, List.map_append]
    rfl
  ·rintro σ H2 ⟨v, rfl, s3, hp2⟩
   exact q p (hOf G m) H2 (s1.trans s3) (s1.free hp) hp2 (hOf_house g.le m1 out low)
theorem sc__law_more : FnScope ["_law_gaps_here", "_law_last", "_law_size"] ["_law_gaps_here"] (defScope s__law_more) := ⟨rfl, rfl, rfl, by decide +kernel, rfl, by decide +kernel, by decide +kernel⟩
theorem ok__law_more {f : Addr} {fd : FuncData} (F : Fun K "_law_more" "_law_more" s__law_more f fd) (B : Blt mg) (ER : Errs K mg) (g__law_stays_closed : G P w K mg base (CX1 P w) "_law_stays_closed" ["_law_gaps_here", "_law_number"] 1 (sStays K)) (g__law_house : G P w K mg base (CX1 P w) "_law_house" ["_law_gaps_here"] 1 (sDueG K)) : FnOk P w K mg base (CX1 P w) 2 f fd ["_law_gaps_here"] (sMore K) := by
 refine F.okN sc__law_more (fun vs H Q E h => ?_) (fun cdv A outer s H vs Q E hr h => ?_)
 ·unfold sMore at h; split at h
  ·rfl
  ·exact h.elim
 ·unfold sMore at h; split at h
  rotate_left
  ·exact h.elim
  rename_i a
  refine ⟨_, (q_scons (q_set (i := 1) sc__law_more.nd rfl (Or.inr rfl) (q_cut (q_maxD (K := K) rfl B.max (q_cons (q_v 0) q_nil) (q_un uu_neg q_int)))) (q_scons (q_set (i := 2) sc__law_more.nd rfl (Or.inl rfl) (q_cut (q_callB (uc_len (K := K)) (by rfl) B.len PySem.boot_len (q_cons (q_g g__law_house (hr.mono (by decide)) pass1E (q_cons (q_v 0) q_nil)) q_nil)))) (q_sone (q_ret (q_comp [none, some 1, some 0] ["_law_j", "_law_last", "_law_gaps_here"] rfl (by kernel_rfl) (q_range2 B.range (q_cons q_int (q_cons (q_op uo_add (q_v 2) q_int) q_nil))) (fun _ _ _ _ _ => (q_name (i := 0) (show List.Nodup (["_law_j", "_law_last", "_law_gaps_here"] : List Str) from by decide +kernel) rfl (Or.inl rfl))) (fun _ _ _ _ _ => q_fone (q_tw (q_tand (q_tcmp uo_gt (q_op uo_add (q_v 1) (q_v 0)) q_int (nomark _)) (q_tand1 (q_tval (K := K) (q_g g__law_stays_closed (hr.mono (by decide)) pass1E (q_cons (q_v 2) (q_cons (q_op uo_add (q_v 1) (q_v 0)) q_nil)))))))) (fun _ _ _ _ _ => (q_op uo_add (q_v 1) (q_v 0)))))))), ?_⟩
  obtain ⟨G, hS, g, gb, gl, q⟩ := h
  obtain ⟨h0, ho⟩ := house_ex g
  have hsm := ho.small g
  refine ⟨fun v H' => ∃ last : Int, v = .int last ∧ (∀ y ∈ G, y ≤ last) ∧ ((G = [] ∧ last = -1) ∨ last ∈ G) ∧ H = H', ⟨G, hS, fun e => ⟨-1, rfl, (by rw [e]; simp), .inl ⟨e, rfl⟩, rfl⟩, fun m hm mx => ⟨m, rfl, mx, .inr hm, rfl⟩⟩, ?_⟩
  rintro _ _ ⟨last, rfl, lmax, lor, rfl⟩
  have l1 : -1 ≤ last ∧ last ≤ 620 := by
   rcases lor with ⟨_, e⟩ | e
   ·omega
   ·have := g.pos last e
    have := gb last e
    omega
  refine ⟨fun v H' => v = .int (h0.length : Int) ∧ Same H H', ⟨G, hS, g, fun p h H1 s1 hp hL ho1 => ⟨_, .inl (SqL.of hL), ?_⟩⟩, ?_⟩
  ·rw [List.length_map, ho1.uniq ho]
   exact ⟨rfl, s1⟩
  rintro _ H1 ⟨rfl, s1⟩
  refine ⟨⟨by decide, by decide, by omega, by omega⟩, comp_by (fun (j : Nat) => V.int (last + (1 + (j : Int)))) (fun (j : Nat) => decide (0 < last + (1 + (j : Int))) && closedB G (last + (1 + (j : Int)))) jp_range (by rw [sizeLine_eq]; omega) (keepName rfl) (fun j x H' R Z hj sm hx hR hZ => ?_) (fun D H2 hD s2 hL => ?_)⟩
  ·subst hx
   refine ifB (fun z => ?_) fun z => hZ (by have z' : decide (0 < last + (1 + (j : Int))) = false := z; rw [z', Bool.false_and]) H' (Same.refl _)
   have z' : decide (0 < last + (1 + (j : Int))) = true := z
   have z2 := of_decide_eq_true z'
   refine ⟨G, (s1.trans sm).seq hS, by omega, ⟨by omega, by omega⟩, fun H6 s6 => ifB (fun w => hR (by rw [z', w]; rfl) H6 s6) fun w => hZ (by rw [z', w]; rfl) H6 s6⟩
  refine q D H2 (s1.trans s2) (s1.free hD) ?_
  have en : (((List.range ((h0.length : Int) + 2 - 1).toNat).filter fun (j : Nat) => decide (0 < last + (1 + (j : Int))) && closedB G (last + (1 + (j : Int)))).map fun (j : Nat) => last + (1 + (j : Int))) = nexts G := by
   refine rising_eq ?_ (nexts_up G) fun x => ?_
   ·rw [List.pairwise_map]
    exact (List.Pairwise.filter _ List.pairwise_lt_range).imp fun hab => by omega
   ·rw [mem_nexts, List.mem_map]
    constructor
    ·rintro ⟨j, hj, rfl⟩
     obtain ⟨j1, j2⟩ := List.mem_filter.mp hj
     rw [Bool.and_eq_true] at j2
     exact ⟨by have := of_decide_eq_true j2.1; omega, fun y hy => by have := lmax y hy; omega, closed_half (closedB_of j2.2)⟩
    ·intro nx
     have x1 := nx.pos
     have x2 : last < x := by
      rcases lor with ⟨_, e⟩ | e
      ·omega
      ·exact nx.top _ e
     have x3 : x ≤ last + (h0.length : Int) + 1 := by
      rcases lor with ⟨e, e2⟩ | e
      ·have := next_le ho nx (B := 0) (by rw [e]; simp) (by omega)
       omega
      ·have := next_le ho nx lmax (by have := g.pos last e; omega)
       omega
     refine ⟨(x - last - 1).toNat, List.mem_filter.mpr ⟨List.mem_range.mpr (by omega), ?_⟩, by omega⟩
     rw [show last + (1 + (((x - last - 1).toNat : Nat) : Int)) = x by omega, Bool.and_eq_true]
     exact ⟨decide_eq_true (by omega), closedB_iff.mpr fun b b1 b2 => nx.cl b b1 (by omega)⟩
  rw [hL, ← en, List.map_map]
  rfl
theorem sc__law_numbers : FnScope ["_law_found", "_law_due", "_law_number", "_law_other"] ["_law_found", "_law_due"] (defScope s__law_numbers) := ⟨rfl, rfl, rfl, by decide +kernel, rfl, by decide +kernel, by decide +kernel⟩
theorem ok__law_numbers {f : Addr} {fd : FuncData} (F : Fun K "_law_numbers" "_law_numbers" s__law_numbers f fd) (B : Blt mg) (ER : Errs K mg) (g__law_whole : G P w K mg base (CX1 P w) "_law_whole" ["_law_found"] 1 sNum) : FnOk P w K mg base (CX1 P w) 2 f fd ["_law_found", "_law_due"] (sNums21 K) := by
 refine F.okN sc__law_numbers (fun vs H Q E h => ?_) (fun cdv A outer s H vs Q E hr h => ?_)
 ·unfold sNums21 at h; split at h
  ·rfl
  ·exact h.elim
 ·unfold sNums21 at h; split at h
  rotate_left
  ·exact h.elim
  rename_i p r
  refine ⟨_, (q_scons (q_sif (q_tw (q_tor (q_tnot (q_tval (K := K) (q_callB (uc_isi (K := K)) (by rfl) B.isi boot_isinstance (q_cons (q_v 0) (q_cons (q_bltn (v := .ty "list") (by rfl) B.list boot_list rfl) q_nil))))) (q_tor1 (q_tcmp (uo_ne (K := K) hr.u8) (q_callB (uc_len (K := K)) (by rfl) B.len PySem.boot_len (q_cons (q_v 0) q_nil)) (q_callB (uc_len (K := K)) (by rfl) B.len PySem.boot_len (q_cons (q_v 1) q_nil)) (nomark _))))) (q_sone (q_ret q_bl)) q_snil) (q_scons (q_for PassesOwn.never rfl (q_zip B.zip (q_cons (q_v 0) (q_cons (q_v 1) q_nil))) (q_gtup (K := K) (n := 2) rfl (q_gcons (q_name (i := 2) sc__law_numbers.nd rfl (Or.inl rfl)) (q_gcons (q_name (i := 3) sc__law_numbers.nd rfl (Or.inl rfl)) q_gnil))) (q_sone (q_sif (q_tw (q_tor (q_tnot (q_tval (K := K) (q_g g__law_whole (hr.mono (by decide)) pass1E (q_cons (q_v 2) q_nil)))) (q_tor1 (q_tcmp (uo_ne (K := K) hr.u8) (q_v 2) (q_v 3) (nomark _))))) (q_sone (q_ret q_bl)) q_snil))) (q_sone (q_ret q_bl)))), ?_⟩
  obtain ⟨ps, hp, hr1, q⟩ := h
  refine ⟨_, true, TyOf.lst hp, by kernel_rfl, ⟨_, .inl (SqL.of hp), _, .inl (SqL.of hr1), ifB (fun g => by simp at g) fun g => ?_⟩⟩
  refine ⟨_, _, SqL.of hp, SqL.of hr1, ?_⟩
  refine for_zip (K := K) (xs := ps.map V.int) (ys := ps.map V.int) (fun i σ H' => ∃ (v w : Option V), σ = [some (.ref p), some (.ref r), v, w] ∧ Same H H') rfl ⟨none, none, rfl, Same.refl _⟩ (fun i σ H' _ ⟨_, _, _, s⟩ => ⟨s.seq (SqL.of hp), s.seq (SqL.of hr1)⟩) ?_ ?_
  ·rintro i x y T σ H' hx hy hT ⟨v, w, rfl, s⟩
   rw [hx] at hy
   cases hy
   obtain ⟨n, en, rfl⟩ := int_at hx
   refine ⟨T, _, rfl, SqT.of upd_same, rfl, _, _, rfl, _, _, rfl, rfl, trivial, ifB (fun g => by simp at g) fun g => ⟨_, _, rfl, s.trans (Same.new hT)⟩⟩
  ·rintro σ H' ⟨v, w, rfl, s⟩
   exact q H' s
theorem sc__law_houses : FnScope ["_law_found", "_law_due", "_law_one", "_law_other"] ["_law_found", "_law_due"] (defScope s__law_houses) := ⟨rfl, rfl, rfl, by decide +kernel, rfl, by decide +kernel, by decide +kernel⟩
theorem ok__law_houses {f : Addr} {fd : FuncData} (F : Fun K "_law_houses" "_law_houses" s__law_houses f fd) (B : Blt mg) (ER : Errs K mg) (g__law_numbers : G P w K mg base (CX1 P w) "_law_numbers" ["_law_found", "_law_due"] 2 (sNums21 K)) : FnOk P w K mg base (CX1 P w) 3 f fd ["_law_found", "_law_due"] (sHouses K) := by
 refine F.okN sc__law_houses (fun vs H Q E h => ?_) (fun cdv A outer s H vs Q E hr h => ?_)
 ·unfold sHouses at h; split at h
  ·rfl
  ·exact h.elim
 ·unfold sHouses at h; split at h
  rotate_left
  ·exact h.elim
  rename_i p r
  refine ⟨_, (q_scons (q_sif (q_tw (q_tor (q_tnot (q_tval (K := K) (q_callB (uc_isi (K := K)) (by rfl) B.isi boot_isinstance (q_cons (q_v 0) (q_cons (q_bltn (v := .ty "list") (by rfl) B.list boot_list rfl) q_nil))))) (q_tor1 (q_tcmp (uo_ne (K := K) hr.u8) (q_callB (uc_len (K := K)) (by rfl) B.len PySem.boot_len (q_cons (q_v 0) q_nil)) (q_callB (uc_len (K := K)) (by rfl) B.len PySem.boot_len (q_cons (q_v 1) q_nil)) (nomark _))))) (q_sone (q_ret q_bl)) q_snil) (q_scons (q_for PassesOwn.never rfl (q_zip B.zip (q_cons (q_v 0) (q_cons (q_v 1) q_nil))) (q_gtup (K := K) (n := 2) rfl (q_gcons (q_name (i := 2) sc__law_houses.nd rfl (Or.inl rfl)) (q_gcons (q_name (i := 3) sc__law_houses.nd rfl (Or.inl rfl)) q_gnil))) (q_sone (q_sif (q_tnot (q_tval (K := K) (q_g g__law_numbers (hr.mono (by decide)) pass1E (q_cons (q_v 2) (q_cons (q_v 3) q_nil))))) (q_sone (q_ret q_bl)) q_snil))) (q_sone (q_ret q_bl)))), ?_⟩
  obtain ⟨ps, rs, gs, hp, hr, pl, rl, kp, kr, q⟩ := h
  refine ⟨_, true, TyOf.lst hp, by kernel_rfl, ⟨_, .inl (SqL.of hp), _, .inl (SqL.of hr), ifB (fun g => ?_) fun g => ?_⟩⟩
  ·exfalso
   rw [List.length_map, List.length_map, pl, rl] at g
   simp at g
  refine ⟨_, _, SqL.of hp, SqL.of hr, ?_⟩
  refine for_zip (K := K) (xs := ps.map V.ref) (ys := rs.map V.ref) (fun i σ H' => ∃ (v w : Option V), σ = [some (.ref p), some (.ref r), v, w] ∧ Same H H') (by rw [List.length_map, List.length_map, pl, rl]) ⟨none, none, rfl, Same.refl _⟩ (fun i σ H' _ ⟨_, _, _, s⟩ => ⟨s.seq (SqL.of hp), s.seq (SqL.of hr)⟩) ?_ ?_
  ·rintro i x y T σ H' hx hy hT ⟨v, w, rfl, s⟩
   obtain ⟨x', ex, rfl⟩ := ref_at hx
   obtain ⟨y', ey, rfl⟩ := ref_at hy
   obtain ⟨g, hg⟩ : ∃ g, gs[i]? = some g := ⟨_, List.getElem?_eq_getElem (by rw [← pl]; exact (List.getElem?_eq_some_iff.mp ex).1)⟩
   have sT := s.trans (Same.new (o := .tup [.ref x', .ref y']) hT)
   exact ⟨T, _, rfl, SqT.of upd_same, rfl, _, _, rfl, _, _, rfl, rfl, g, sT _ _ (kp i x' g ex hg), sT _ _ (kr i y' g ey hg), fun H2 s2 => ⟨_, _, rfl, sT.trans s2⟩⟩
  ·rintro σ H' ⟨v, w, rfl, s⟩
   exact q H' s
theorem sc__law_parent : FnScope ["_law_house_here", "_law_due", "_law_found"] ["_law_house_here", "_law_due"] (defScope s__law_parent) := ⟨rfl, rfl, rfl, by decide +kernel, rfl, by decide +kernel, by decide +kernel⟩
theorem ok__law_parent {f : Addr} {fd : FuncData} (F : Fun K "_law_parent" "_law_parent" s__law_parent f fd) (ER : Errs K mg) (g_parent_of : G P w K mg base (CX1 P w) "parent_of" ["house"] 7 (sParX K)) (g__law_numbers : G P w K mg base (CX1 P w) "_law_numbers" ["_law_found", "_law_due"] 2 (sNums21 K)) : FnOk P w K mg base (CX1 P w) 8 f fd ["_law_house_here", "_law_due"] (sLPar K) := by
 refine F.okN sc__law_parent (fun vs H Q E h => ?_) (fun cdv A outer s H vs Q E hr h => ?_)
 ·unfold sLPar at h; split at h
  ·rfl
  ·exact h.elim
 ·unfold sLPar at h; split at h
  rotate_left
  ·exact h.elim
  rename_i a v
  refine ⟨_, (q_scons (q_set (i := 2) sc__law_parent.nd rfl (Or.inl rfl) (q_g g_parent_of (hr.mono (by decide)) pass1E (q_cons (q_v 0) q_nil))) (q_scons (q_sif (q_tcmp uo_is (q_v 1) q_non (nomark _)) (q_sone (q_ret (q_cmp uo_is (q_v 2) q_non (nomark _)))) q_snil) (q_sone (q_ret (q_g g__law_numbers (hr.mono (by decide)) pass1E (q_cons (q_v 2) (q_cons (q_v 1) q_nil))))))), ?_⟩
  obtain ⟨h, hA, house, hl, M, hM, mx, pv, q⟩ := h
  refine ⟨h, SqL.of hA, house, hl, M, hM, mx, fun lt => ?_, fun ge p g' H1 s1 hp hg L N => ?_⟩
  ·rcases pv with ⟨_, rfl⟩ | ⟨ge, _⟩
   ·exact q H (Same.refl _)
   ·omega
  ·rcases pv with ⟨lt, _⟩ | ⟨_, r, g, rfl, hr, un⟩
   ·omega
   ·have := un g' L N
    subst this
    exact ⟨g', hg, s1 _ _ hr, fun H2 s2 => q H2 (s1.trans s2)⟩
end
end PG
namespace PG
open PySem L2 PyProof.Rows
section
variable {P : Program} {w : World} {K : FrK} {mg : Str → Option Value} {base : Heap}
theorem full_listV {n : Nat} {lo hi : Int} (h0 : 1 ≤ n) (h1 : lo = (n : Int) + 1) (h2 : hi = 2 * (n : Int)) : [V.int 0] ++ ((List.range (hi - lo).toNat).map fun (k : Nat) => V.int (lo + (k : Int))) = (fullL n).map V.int := by
 unfold fullL
 rw [List.map_cons, List.map_map, show (hi - lo).toNat = n - 1 by omega]
 show V.int 0 :: _ = V.int 0 :: _
 congr 1
 apply List.map_congr_left
 intro i _
 show V.int (lo + (i : Int)) = V.int ((n : Int) + (1 + (i : Int)))
 congr 1
 omega
theorem two_next {n : Nat} {m : Int} (n3 : 3 ≤ n) (hm : m = (n : Int) + 1) : TwoH n (n + 1) ((List.range n).map fun (k : Nat) => m * (0 + (k : Int))) := by
 have ix := (two_idx (n := n) (m := n + 1) (by omega) (.inl rfl)).2
 have e : ∀ k, k < n → ((n + 1) * k) % n = k := fun k hk => by
  rw [Nat.add_mul, Nat.mul_add_mod, Nat.one_mul, Nat.mod_eq_of_lt hk]
 refine ⟨n3, by omega, by simp, fun k hk => ?_, ix⟩
 rw [e k hk, List.getElem?_map, List.getElem?_range hk]
 show some (m * (0 + (k : Int))) = _
 rw [hm, Int.zero_add, Int.natCast_mul, Int.natCast_add]
 all_goals rfl
theorem TwoH.none {n m : Nat} {h ms : List Int} (a : TwoH n m h) (pm : ms.Perm (need h)) : ms.filter (fun x => decide (((m * (n - 1) : Nat) : Int) - (h.length : Int) < x)) = [] := by
 rw [List.filter_eq_nil_iff]
 intro c hc hd
 exact a.kids c (pm.mem_iff.mp hc) (of_decide_eq_true hd)
theorem full_parV {m : Nat} (m2 : 2 ≤ m) {H : Hp} {r : Addr} (hr : H r = some (.lst ((fullL (m - 1)).map V.int))) : ParV H (fullL m) (2 * (m : Int) - 1 - ((fullL m).length : Int)) (.ref r) := by
 have e : 2 * (m : Int) - 1 - ((fullL m).length : Int) = (m : Int) - 1 := by
  rw [fullL_len (by omega)]
  omega
 rw [e]
 exact .inr ⟨by omega, r, _, rfl, hr, fun g' L N => full_par m2 L N⟩
theorem eqSame {K : FrK} {H : Hp} {Q : VK} {a b : Addr} {ns : List Int} (ha : SqL K H a (ns.map V.int)) (hb : SqL K H b (ns.map V.int)) (q : Q (.bl true) H) : rEqL K false (.ref a) (.ref b) H Q := by
 refine eqInts (neg := false) ha hb ?_
 rw [if_neg (by decide), decide_eq_true rfl]
 exact q
theorem kids3 : (([2, 3] : List Int).filter fun x => decide (3 - (([0, 3] : List Int).length : Int) < x)).map (fun c => woH [0, 3] c) = [[0, 4, 5], [0, 5]] := by decide
theorem kids5 {l : Int} (l5 : 5 ≤ l) : (([2, l] : List Int).filter fun x => decide (l - (([0, l] : List Int).length : Int) < x)).map (fun c => woH [0, l] c) = [[0, l + 2]] := by
 have e2 : (([0, l] : List Int).length : Int) = 2 := rfl
 have f1 : decide (l - (([0, l] : List Int).length : Int) < 2) = false := decide_eq_false (by rw [e2]; omega)
 have f2 : decide (l - (([0, l] : List Int).length : Int) < l) = true := decide_eq_true (by rw [e2]; omega)
 have nl : l ≠ (([0, l] : List Int).length : Int) := by rw [e2]; omega
 have n0 : ¬ (0 : Int) = l := by omega
 rw [List.filter_cons, f1, List.filter_cons, f2]
 show [woH [0, l] l] = [[0, l + 2]]
 unfold woH
 rw [if_neg nl]
 unfold lessH
 rw [List.map_cons, List.map_cons, List.map_nil, if_neg n0, if_pos rfl]
 all_goals rfl
theorem sc__law_of_two : FnScope ["_law_last", "_law_house_here", "_law_parent_here", "_law_due"] ["_law_last"] (defScope s__law_of_two) := ⟨rfl, rfl, rfl, by decide +kernel, rfl, by decide +kernel, by decide +kernel⟩
theorem ok__law_of_two {f : Addr} {fd : FuncData} (F : Fun K "_law_of_two" "_law_of_two" s__law_of_two f fd) (ER : Errs K mg) (g_children_of : G P w K mg base (CX1 P w) "children_of" ["house"] 3 (sKidsX K ER.a_TooMany)) (g__law_houses : G P w K mg base (CX1 P w) "_law_houses" ["_law_found", "_law_due"] 3 (sHouses K)) (g__law_parent : G P w K mg base (CX1 P w) "_law_parent" ["_law_house_here", "_law_due"] 8 (sLPar K)) : FnOk P w K mg base (CX1 P w) 9 f fd ["_law_last"] sTwo61 := by
 refine F.okN sc__law_of_two (fun vs H Q E h => ?_) (fun cdv A outer s H vs Q E hr h => ?_)
 ·unfold sTwo61 at h; split at h
  ·rfl
  ·exact h.elim
 ·unfold sTwo61 at h; split at h
  rotate_left
  ·exact h.elim
  rename_i l
  refine ⟨_, (q_scons (q_set (i := 1) sc__law_of_two.nd rfl (Or.inl rfl) (q_lst (q_cons q_int (q_cons (q_v 0) q_nil)))) (q_scons (q_set (i := 2) sc__law_of_two.nd rfl (Or.inl rfl) (q_lst (q_cons q_int (q_cons (q_op uo_sub (q_v 0) q_int) q_nil)))) (q_scut (q_sif (q_tcmp (uo_eq (K := K) hr.u8) (q_v 0) q_int (nomark _)) (q_sone (q_set (i := 2) sc__law_of_two.nd rfl (Or.inl rfl) (q_lst (q_cons q_int q_nil)))) q_snil) (q_scons (q_set (i := 3) sc__law_of_two.nd rfl (Or.inl rfl) (q_lst (q_cons (q_lst (q_cons q_int (q_cons (q_op uo_add (q_v 0) q_int) q_nil))) q_nil))) (q_scut (q_sif (q_tcmp (uo_eq (K := K) hr.u8) (q_v 0) q_int (nomark _)) (q_sone (q_set (i := 3) sc__law_of_two.nd rfl (Or.inl rfl) (q_lst (q_cons (q_lst (q_cons q_int (q_cons q_int (q_cons q_int q_nil)))) (q_cons (q_lst (q_cons q_int (q_cons q_int q_nil))) q_nil))))) q_snil) (q_sone (q_ret (q_and (q_g g__law_parent (hr.mono (by decide)) pass1E (q_cons (q_v 1) (q_cons (q_v 2) q_nil))) (q_and (q_g g__law_houses (hr.mono (by decide)) pass1E (q_cons (q_g g_children_of (hr.mono (by decide)) pass1E (q_cons (q_v 1) q_nil)) (q_cons (q_v 3) q_nil))) (q_one (q_cmp (uo_eq (K := K) hr.u8) (q_v 1) (q_lst (q_cons q_int (q_cons (q_v 0) q_nil))) (nomark _)))))))))))), ?_⟩
  obtain ⟨⟨l3, lm⟩, od, q⟩ := h
  refine ⟨by show 2 ≤ sizeLine; decide, fun A hA => ⟨by show 2 ≤ sizeLine; decide, fun R hR => ?_⟩⟩
  have s1 := Same.new (o := .lst [.int 0, .int l]) hA
  have s2 := Same.new (o := .lst [.int 0, .int (l - 2)]) hR
  have hA1 : (upd (upd H A (.lst [.int 0, .int l])) R (.lst [.int 0, .int (l - 2)])) A = some (.lst (([0, l] : List Int).map V.int)) := s2 _ _ upd_same
  have hR1 : (upd (upd H A (.lst [.int 0, .int l])) R (.lst [.int 0, .int (l - 2)])) R = some (.lst (([0, l - 2] : List Int).map V.int)) := upd_same
  have t2 := s1.trans s2
  generalize upd (upd H A (.lst [.int 0, .int l])) R (.lst [.int 0, .int (l - 2)]) = H2 at t2 hA1 hR1
  refine ⟨fun σ' H' => ∃ (R' : Addr) (g : List Int), σ' = [some (.int l), some (.ref A), some (.ref R'), none] ∧ Same H2 H' ∧ H' R' = some (.lst (g.map V.int)) ∧ ((l = 3 ∧ g = [0]) ∨ (5 ≤ l ∧ g = [0, l - 2])), ?_, ?_⟩
  ·refine ifB (fun z => ?_) fun z => ?_
   ·have z' : l = 3 := of_decide_eq_true z
    refine ⟨by show 1 ≤ sizeLine; decide, fun R2 hR2 => ?_⟩
    exact ⟨R2, [0], rfl, Same.new hR2, upd_same, .inl ⟨z', rfl⟩⟩
   ·have z' : l ≠ 3 := of_decide_eq_false z
    exact ⟨R, [0, l - 2], rfl, Same.refl _, hR1, .inr ⟨by omega, rfl⟩⟩
  rintro _ H3 ⟨R', g, rfl, s3, hR3, hg⟩
  refine ⟨by show 2 ≤ sizeLine; decide, fun E0 hE => ⟨by show 1 ≤ sizeLine; decide, fun D hD => ?_⟩⟩
  have sE := Same.new (o := .lst [.int 0, .int (l + 2)]) hE
  have sD := Same.new (o := .lst [.ref E0]) hD
  refine ⟨fun σ' H' => ∃ (D' : Addr) (ds : List Addr) (gs : List (List Int)), σ' = [some (.int l), some (.ref A), some (.ref R'), some (.ref D')] ∧ Same H3 H' ∧ H' D' = some (.lst (ds.map V.ref)) ∧ ds.length = gs.length ∧ (∀ (i : Nat) (qa : Addr) (g1 : List Int), ds[i]? = some qa → gs[i]? = some g1 → H' qa = some (.lst (g1.map V.int))) ∧ ((l = 3 ∧ gs = [[0, 4, 5], [0, 5]]) ∨ (5 ≤ l ∧ gs = [[0, l + 2]])), ?_, ?_⟩
  ·refine ifB (fun z => ?_) fun z => ?_
   ·have z' : l = 3 := of_decide_eq_true z
    refine ⟨by show 3 ≤ sizeLine; decide, fun E1 hE1 => ⟨by show 2 ≤ sizeLine; decide, fun E2 hE2 => ⟨by show 2 ≤ sizeLine; decide, fun D2 hD2 => ?_⟩⟩⟩
    have u1 := Same.new (o := .lst [.int 0, .int 4, .int 5]) hE1
    have u2 := Same.new (o := .lst [.int 0, .int 5]) hE2
    have u3 := Same.new (o := .lst [.ref E1, .ref E2]) hD2
    refine ⟨D2, [E1, E2], [[0, 4, 5], [0, 5]], rfl, (((sE.trans sD).trans u1).trans u2).trans u3, upd_same, rfl, fun i qa g1 h1 h2 => ?_, .inl ⟨z', rfl⟩⟩
    match i, h1, h2 with
    | 0, h1, h2 => cases h1; cases h2; exact (u2.trans u3) _ _ upd_same
    | 1, h1, h2 => cases h1; cases h2; exact u3 _ _ upd_same
    | i + 2, h1, h2 => simp at h1
   ·have z' : l ≠ 3 := of_decide_eq_false z
    refine ⟨D, [E0], [[0, l + 2]], rfl, sE.trans sD, upd_same, rfl, fun i qa g1 h1 h2 => ?_, .inr ⟨by omega, rfl⟩⟩
    match i, h1, h2 with
    | 0, h1, h2 => cases h1; cases h2; exact sD _ _ upd_same
    | i + 1, h1, h2 => simp at h1
  rintro _ H4 ⟨D', ds, gs, rfl, s4, hD4, dl, dk, hgs⟩
  have hA4 := (s3.trans s4) _ _ hA1
  have hR4 := s4 _ _ hR3
  have house := pair_house l3 od
  have mem : l ∈ ([0, l] : List Int) := List.mem_cons_of_mem _ List.mem_cons_self
  have mx : ∀ x ∈ ([0, l] : List Int), x ≤ l := fun x hx => by
   simp only [List.mem_cons, List.not_mem_nil, or_false] at hx
   rcases hx with rfl | rfl <;> omega
  have pv : ParV H4 [0, l] (l - 2) (.ref R') := by
   refine .inr ⟨by omega, R', g, rfl, hR4, fun g' L N => ?_⟩
   rcases hg with ⟨e, eg⟩ | ⟨l5, eg⟩
   ·rw [e, show (3 : Int) - 2 = 1 by decide] at L N
    rw [eg]
    exact pair_par3 L N
   ·rw [eg]
    exact pair_par l5 od L N
  refine ⟨[0, l], hA4, house, by show 2 ≤ 1000; omega, l, mem, mx, pv, fun H5 s5 => ?_⟩
  refine ⟨[0, l], SqL.of (s5 _ _ hA4), house, by show 2 ≤ 1000; omega, l, mem, mx, .inl ⟨.inl (by show 2 < 1000; omega), fun C ps ms H6 s6 hC hps pm srt ka => ?_⟩⟩
  have em := pair_sorted l3 pm srt
  subst em
  obtain ⟨cs, ka', ec⟩ : ∃ cs, KidsAt H6 C ps [0, l] cs ∧ cs.map (fun c => woH [0, l] c) = gs := ⟨_, ka, by
   rcases hgs with ⟨e, eg⟩ | ⟨l5, eg⟩
   ·rw [eg, e]
    exact kids3
   ·rw [eg]
    exact kids5 l5⟩
  have el : ps.length = gs.length := by rw [ka'.len, ← ec, List.length_map]
  have u6 := s5.trans s6
  refine ⟨ps, ds, gs, ka'.lst, u6 _ _ hD4, el, dl, fun i qa g1 h1 h2 => ?_, fun i qa g1 h1 h2 => u6 _ _ (dk i qa g1 h1 h2), fun H7 s7 => ?_⟩
  ·rw [← ec, List.getElem?_map] at h2
   cases hc : cs[i]? with
   | none => rw [hc] at h2; cases h2
   | some c => rw [hc] at h2; cases h2; exact ka'.kid i qa c h1 hc
  refine ⟨by show 2 ≤ sizeLine; decide, fun r hr => ?_⟩
  have s8 := Same.new (o := .lst [.int 0, .int l]) hr
  have hA8 := s8 _ _ ((u6.trans s7) _ _ hA4)
  have eqq : ∀ Q' : VK, Q' (.bl true) (upd H7 r (.lst [.int 0, .int l])) → uEq K (.ref A) (.ref r) (upd H7 r (.lst [.int 0, .int l])) Q' := fun Q' h => eqSame (ns := [0, l]) (SqL.of hA8) (SqL.of upd_same) h
  exact eqq _ (q _ ((((t2.trans s3).trans s4).trans (u6.trans s7)).trans s8))
theorem sc__law_too_long : FnScope ["_law_house_here", "_law_came", "error"] [] (defScope s__law_too_long) := ⟨rfl, rfl, rfl, by decide +kernel, rfl, by decide +kernel, by decide +kernel⟩
theorem ok__law_too_long {f : Addr} {fd : FuncData} (F : Fun K "_law_too_long" "_law_too_long" s__law_too_long f fd) (B : Blt mg) (ER : Errs K mg) (g_children_of : G P w K mg base (CX1 P w) "children_of" ["house"] 3 (sKidsX K ER.a_TooMany)) (g__law_houses : G P w K mg base (CX1 P w) "_law_houses" ["_law_found", "_law_due"] 3 (sHouses K)) (g__law_parent : G P w K mg base (CX1 P w) "_law_parent" ["_law_house_here", "_law_due"] 8 (sLPar K)) : FnOk P w K mg base (CX1 P w) 9 f fd [] sToo61 := by
 refine F.okN sc__law_too_long (fun vs H Q E h => ?_) (fun cdv A outer s H vs Q E hr h => ?_)
 ·unfold sToo61 at h; split at h
  ·rfl
  ·exact h.elim
 ·unfold sToo61 at h; split at h
  rotate_left
  ·exact h.elim
  refine ⟨_, (q_scons (q_set (i := 0) sc__law_too_long.nd rfl (Or.inl rfl) (q_op uo_add (q_lst (q_cons q_int q_nil)) (q_callTy (uc_listRng rfl) (by rfl) B.list boot_list (q_cons (q_callTy uc_rangeV (by rfl) B.range boot_range (q_cons q_int (q_cons q_int q_nil))) q_nil)))) (q_scons (q_set (i := 1) sc__law_too_long.nd rfl (Or.inl rfl) q_non) (q_scons (q_tryD (i := 2) (K := K) ER.m_PayError sc__law_too_long.nd rfl rfl (q_xexpr (q_xg g_children_of (hr.mono (by decide)) (q_cons (q_v 0) q_nil))) (fun _ => (q_sone (q_set (i := 1) sc__law_too_long.nd rfl (Or.inl rfl) (q_v 2))))) (q_scons (q_sif (q_tw (q_tor (q_tnot (q_tval (K := K) (q_callB (uc_isiD (K := K)) (by rfl) B.isi boot_isinstance (q_cons (q_v 1) (q_cons (q_glob (v := .ref ER.a_TooMany) (by rfl) ER.m_TooMany rfl) q_nil))))) (q_tor1 (q_tnot (q_tval (K := K) (q_callB (uc_isiD (K := K)) (by rfl) B.isi boot_isinstance (q_cons (q_v 1) (q_cons (q_bltn (v := .ty "ValueError") (by rfl) B.ValueError PyProof.Rows.Boot.«ValueError» rfl) q_nil)))))))) (q_sone (q_ret q_bl)) q_snil) (q_scons (q_sif (q_tval (K := K) (q_callB (uc_isiD (K := K)) (by rfl) B.isi boot_isinstance (q_cons (q_v 1) (q_cons (q_tup (q_cons (q_glob (v := .ref ER.a_NoChange) (by rfl) ER.m_NoChange rfl) (q_cons (q_glob (v := .ref ER.a_NoCoins) (by rfl) ER.m_NoCoins rfl) (q_cons (q_glob (v := .ref ER.a_NoGaps) (by rfl) ER.m_NoGaps rfl) (q_cons (q_glob (v := .ref ER.a_NoOne) (by rfl) ER.m_NoOne rfl) (q_cons (q_glob (v := .ref ER.a_NoPaying) (by rfl) ER.m_NoPaying rfl) q_nil)))))) q_nil)))) (q_sone (q_ret q_bl)) q_snil) (q_scons (q_sif (q_tval (K := K) (q_callB (uc_isiD (K := K)) (by rfl) B.isi boot_isinstance (q_cons (q_v 1) (q_cons (q_tup (q_cons (q_glob (v := .ref ER.a_NoSum) (by rfl) ER.m_NoSum rfl) (q_cons (q_glob (v := .ref ER.a_Shared) (by rfl) ER.m_Shared rfl) (q_cons (q_glob (v := .ref ER.a_TooLittle) (by rfl) ER.m_TooLittle rfl) (q_cons (q_glob (v := .ref ER.a_Unclosed) (by rfl) ER.m_Unclosed rfl) q_nil))))) q_nil)))) (q_sone (q_ret q_bl)) q_snil) (q_scons (q_sif (q_tnot (q_tval (K := K) (q_g g__law_houses (hr.mono (by decide)) pass1E (q_cons (q_g g_children_of (hr.mono (by decide)) pass1E (q_cons (q_comp [none] ["_law_k"] rfl (by kernel_rfl) (q_range1 B.range (q_cons q_int q_nil)) (fun _ _ _ _ _ => (q_name (i := 0) (show List.Nodup (["_law_k"] : List Str) from by decide +kernel) rfl (Or.inl rfl))) (fun _ _ _ _ _ => q_fnil) (fun _ _ _ _ _ => (q_op uo_mul q_int (q_v 0)))) q_nil)) (q_cons (q_lst q_nil) q_nil))))) (q_sone (q_ret q_bl)) q_snil) (q_sone (q_ret (q_g g__law_parent (hr.mono (by decide)) pass1E (q_cons (q_v 0) (q_cons (q_op uo_add (q_lst (q_cons q_int q_nil)) (q_callTy (uc_listRng rfl) (by rfl) B.list boot_list (q_cons (q_callTy uc_rangeV (by rfl) B.range boot_range (q_cons q_int (q_cons q_int q_nil))) q_nil))) q_nil)))))))))))), ?_⟩
  have q := h
  refine ⟨by show 1 ≤ sizeLine; decide, fun r hr => fun rg hrg => ⟨_, _, upd_same, ⟨by decide, by decide, by decide⟩, fun l hl0 => ?_⟩⟩
  have s1 := Same.new (o := .lst [.int 0]) hr
  have s2 := Same.new (o := .rng 1001 2000) hrg
  have s3 := Same.new (o := .lst ((List.range (2000 - 1001 : Int).toNat).map fun (k : Nat) => V.int (1001 + (k : Int)))) hl0
  refine ⟨_, _, (s2.trans s3) _ _ upd_same, upd_same, by rw [List.length_map, List.length_range, sizeLine_eq]; show 1 + _ ≤ _; omega, fun A hA => ?_⟩
  have s4 := Same.new (o := .lst ([V.int 0] ++ ((List.range (2000 - 1001 : Int).toNat).map fun (k : Nat) => V.int (1001 + (k : Int))))) hA
  have hA4 := (upd_same (H := upd (upd (upd H r (.lst [.int 0])) rg (.rng 1001 2000)) l (.lst ((List.range (2000 - 1001 : Int).toNat).map fun (k : Nat) => V.int (1001 + (k : Int))))) (a := A) (o := .lst ([V.int 0] ++ ((List.range (2000 - 1001 : Int).toNat).map fun (k : Nat) => V.int (1001 + (k : Int)))))).trans (congrArg (fun l => some (HO.lst l)) (full_listV (n := 1000) (lo := 1001) (hi := 2000) (by omega) (by omega) (by omega)))
  have t4 := ((s1.trans s2).trans s3).trans s4
  generalize upd (upd (upd (upd H r (.lst [.int 0])) rg (.rng 1001 2000)) l (.lst ((List.range (2000 - 1001 : Int).toNat).map fun (k : Nat) => V.int (1001 + (k : Int))))) A (.lst ([V.int 0] ++ ((List.range (2000 - 1001 : Int).toNat).map fun (k : Nat) => V.int (1001 + (k : Int))))) = H4 at t4 hA4
  refine ⟨fullL 1000, SqL.of hA4, full_house (by omega), Nat.le_of_eq (fullL_len (by omega)), _, (full_top (m := 1000) (by omega)).1, (full_top (m := 1000) (by omega)).2, .inr ⟨rfl, fun H5 s5 => ⟨ER.a_TooMany, rfl, ER.t_TooMany, fun ea hea => ?_⟩⟩⟩
  have sx := Same.new (o := excD ea ER.a_TooMany none) hea
  have hx : (upd H5 ea (excD ea ER.a_TooMany none)) ea = some (excD ea ER.a_TooMany none) := upd_same
  have t5 := (t4.trans s5).trans sx
  have hA5 := (s5.trans sx) _ _ hA4
  generalize upd H5 ea (excD ea ER.a_TooMany none) = Hx at sx hx t5 hA5
  refine ⟨_, _, hx, ER.c_TooMany, .inl ⟨_, ER.k_TooMany_TooMany, _, _, hx, ER.c_TooMany, _, ER.v_TooMany, ?_⟩⟩
  refine ⟨by show 5 ≤ sizeLine; decide, fun T0 hT0 => ?_⟩
  have v0 := Same.new (o := .tup [.ref ER.a_NoChange, .ref ER.a_NoCoins, .ref ER.a_NoGaps, .ref ER.a_NoOne, .ref ER.a_NoPaying]) hT0
  have hx0 := v0 _ _ hx
  refine ⟨_, _, hx0, ER.c_TooMany, .inr ⟨_, _, upd_same, kitAny_no (fun c hc => ?_), fun y hy => ?_, ?_⟩⟩
  ·simp only [List.map_cons, List.map_nil, List.mem_cons, List.not_mem_nil, or_false, clsV] at hc
   rcases hc with rfl | rfl | rfl | rfl | rfl
   ·exact ER.k_TooMany_NoChange
   ·exact ER.k_TooMany_NoCoins
   ·exact ER.k_TooMany_NoGaps
   ·exact ER.k_TooMany_NoOne
   ·exact ER.k_TooMany_NoPaying
  ·simp only [List.mem_cons, List.not_mem_nil, or_false] at hy
   rcases hy with rfl | rfl | rfl | rfl | rfl <;> rfl
  refine ⟨by show 4 ≤ sizeLine; decide, fun T1 hT1 => ?_⟩
  have v1 := Same.new (o := .tup [.ref ER.a_NoSum, .ref ER.a_Shared, .ref ER.a_TooLittle, .ref ER.a_Unclosed]) hT1
  have hx1 := v1 _ _ hx0
  refine ⟨_, _, hx1, ER.c_TooMany, .inr ⟨_, _, upd_same, kitAny_no (fun c hc => ?_), fun y hy => ?_, ?_⟩⟩
  ·simp only [List.map_cons, List.map_nil, List.mem_cons, List.not_mem_nil, or_false, clsV] at hc
   rcases hc with rfl | rfl | rfl | rfl
   ·exact ER.k_TooMany_NoSum
   ·exact ER.k_TooMany_Shared
   ·exact ER.k_TooMany_TooLittle
   ·exact ER.k_TooMany_Unclosed
  ·simp only [List.mem_cons, List.not_mem_nil, or_false] at hy
   rcases hy with rfl | rfl | rfl | rfl <;> rfl
  have t6 := t5.trans (v0.trans v1)
  have hA6 := (v0.trans v1) _ _ hA5
  generalize upd (upd Hx T0 (.tup [.ref ER.a_NoChange, .ref ER.a_NoCoins, .ref ER.a_NoGaps, .ref ER.a_NoOne, .ref ER.a_NoPaying])) T1 (.tup [.ref ER.a_NoSum, .ref ER.a_Shared, .ref ER.a_TooLittle, .ref ER.a_Unclosed]) = H6 at t6 hA6
  refine ⟨⟨by decide, by decide⟩, comp_by (fun (i : Nat) => V.int (1001 * (0 + (i : Int)))) (fun _ => true) jp_range (by rw [sizeLine_eq]; decide) (keepName rfl) (fun i x H' R Z hi sm hxx hR hZ => ?_) (fun D H7 hD s7 hL => ?_)⟩
  ·subst hxx
   exact tT ⟨.inl ⟨by decide, by decide⟩, hR rfl H' (Same.refl _)⟩
  have hD7 : H7 D = some (.lst (((List.range 1000).map fun (k : Nat) => 1001 * (0 + (k : Int))).map V.int)) := hL.trans (congrArg (fun l => some (HO.lst l)) (range_ints (n := 1000) (fun (i : Nat) => 1001 * (0 + (i : Int)))))
  have two := two_next (n := 1000) (m := 1001) (by omega) (by omega)
  generalize ((List.range 1000).map fun (k : Nat) => 1001 * (0 + (k : Int))) = L at hD7 two
  obtain ⟨top1, top2⟩ := two.top
  refine ⟨L, SqL.of hD7, two.house, Nat.le_of_eq two.len, _, top1, top2, .inl ⟨.inr (by omega), fun C ps ms H8 s8 hC hps pm srt ka => ?_⟩⟩
  rw [two.none pm] at ka
  have pe : ps = [] := List.eq_nil_of_length_eq_zero ka.len
  subst pe
  refine ⟨by show 0 ≤ _; omega, fun e he => ?_⟩
  have s9 := Same.new (o := .lst []) he
  refine ⟨[], [], [], s9 _ _ ka.lst, upd_same, rfl, rfl, (fun i qa g1 h1 h2 => by simp at h1), (fun i qa g1 h1 h2 => by simp at h1), fun H10 s10 => ?_⟩
  have u10 := ((s7.trans s8).trans s9).trans s10
  have hA10 := u10 _ _ hA6
  have t10 := t6.trans u10
  refine ⟨by show 1 ≤ sizeLine; decide, fun r2 hr2 => fun rg2 hrg2 => ⟨_, _, upd_same, ⟨by decide, by decide, by decide⟩, fun l2 hl2 => ?_⟩⟩
  have w1 := Same.new (o := .lst [.int 0]) hr2
  have w2 := Same.new (o := .rng 1000 1998) hrg2
  have w3 := Same.new (o := .lst ((List.range (1998 - 1000 : Int).toNat).map fun (k : Nat) => V.int (1000 + (k : Int)))) hl2
  refine ⟨_, _, (w2.trans w3) _ _ upd_same, upd_same, by rw [List.length_map, List.length_range, sizeLine_eq]; show 1 + _ ≤ _; omega, fun B2 hB2 => ?_⟩
  have w4 := Same.new (o := .lst ([V.int 0] ++ ((List.range (1998 - 1000 : Int).toNat).map fun (k : Nat) => V.int (1000 + (k : Int))))) hB2
  have hB4 := (upd_same (H := upd (upd (upd H10 r2 (.lst [.int 0])) rg2 (.rng 1000 1998)) l2 (.lst ((List.range (1998 - 1000 : Int).toNat).map fun (k : Nat) => V.int (1000 + (k : Int))))) (a := B2) (o := .lst ([V.int 0] ++ ((List.range (1998 - 1000 : Int).toNat).map fun (k : Nat) => V.int (1000 + (k : Int)))))).trans (congrArg (fun l => some (HO.lst l)) (full_listV (n := 1000 - 1) (lo := 1000) (hi := 1998) (by omega) (by omega) (by omega)))
  have u14 := ((w1.trans w2).trans w3).trans w4
  exact ⟨fullL 1000, u14 _ _ hA10, full_house (by omega), Nat.le_of_eq (fullL_len (by omega)), _, (full_top (m := 1000) (by omega)).1, (full_top (m := 1000) (by omega)).2, full_parV (m := 1000) (by omega) hB4, fun H15 s15 => q H15 ((t10.trans u14).trans s15)⟩
theorem sc__law_long : FnScope ["_law_script", "_law_number", "_law_first", "_law_second", "_law_house_here", "_law_k", "_law_kept", "_law_parent_here"] ["_law_script"] (defScope s__law_long) := ⟨rfl, rfl, rfl, by decide +kernel, rfl, by decide +kernel, by decide +kernel⟩
theorem ok__law_long {f : Addr} {fd : FuncData} (F : Fun K "_law_long" "_law_long" s__law_long f fd) (B : Blt mg) (ER : Errs K mg) (g_children_of : G P w K mg base (CX1 P w) "children_of" ["house"] 3 (sKidsX K ER.a_TooMany)) (g__law_mixed : G P w K mg base (CX1 P w) "_law_mixed" ["_law_script", "_law_k"] 2 (sMixN K)) (g__law_houses : G P w K mg base (CX1 P w) "_law_houses" ["_law_found", "_law_due"] 3 (sHouses K)) (g__law_parent : G P w K mg base (CX1 P w) "_law_parent" ["_law_house_here", "_law_due"] 8 (sLPar K)) : FnOk P w K mg base (CX1 P w) 9 f fd ["_law_script"] (sLong61 K) := by
 refine F.okN sc__law_long (fun vs H Q E h => ?_) (fun cdv A outer s H vs Q E hr h => ?_)
 ·unfold sLong61 at h; split at h
  ·rfl
  ·exact h.elim
 ·unfold sLong61 at h; split at h
  rotate_left
  ·exact h.elim
  rename_i a
  refine ⟨_, (q_scons (q_set (i := 1) sc__law_long.nd rfl (Or.inl rfl) (q_cut (q_g g__law_mixed (hr.mono (by decide)) pass1E (q_cons (q_v 0) (q_cons q_int q_nil))))) (q_scons (q_set (i := 2) sc__law_long.nd rfl (Or.inl rfl) (q_cut (q_op uo_add q_int (q_op uo_mod (q_v 1) q_int)))) (q_scons (q_set (i := 3) sc__law_long.nd rfl (Or.inl rfl) (q_cut (q_op uo_add (q_op uo_add (q_v 2) q_int) (q_op uo_mul (q_op uo_mod (q_op uo_fdiv (q_v 1) q_int) q_int) (q_op uo_mod (q_v 2) q_int))))) (q_scons (q_set (i := 4) sc__law_long.nd rfl (Or.inl rfl) (q_op uo_mul (q_lst (q_cons q_int q_nil)) (q_v 2))) (q_scons (q_for PassesOwn.never rfl (q_range1 B.range (q_cons (q_v 2) q_nil)) (q_name (i := 5) sc__law_long.nd rfl (Or.inl rfl)) (q_sone (q_asg (q_op uo_mul (q_v 3) (q_v 5)) (q_gsub (q_v 4) (q_op uo_mod (q_op uo_mul (q_v 3) (q_v 5)) (q_v 2)) us_set)))) (q_scons (q_set (i := 6) sc__law_long.nd rfl (Or.inl rfl) (q_callTy (uc_list (K := K)) (by rfl) B.list boot_list (q_cons (q_v 4) q_nil))) (q_scons (q_set (i := 7) sc__law_long.nd rfl (Or.inl rfl) (q_callTy (uc_list (K := K)) (by rfl) B.list boot_list (q_cons (q_v 4) q_nil))) (q_scons (q_asg (q_op uo_sub (q_op uo_mul (q_v 3) (q_op uo_sub (q_v 2) q_int)) (q_v 2)) (q_gsub (q_v 7) (q_op uo_mod (q_op uo_mul (q_v 3) (q_op uo_sub (q_v 2) q_int)) (q_v 2)) us_set)) (q_sone (q_ret (q_and (q_g g__law_houses (hr.mono (by decide)) pass1E (q_cons (q_g g_children_of (hr.mono (by decide)) pass1E (q_cons (q_v 4) q_nil)) (q_cons (q_lst q_nil) q_nil))) (q_and (q_g g__law_parent (hr.mono (by decide)) pass1E (q_cons (q_v 4) (q_cons (q_v 7) q_nil))) (q_one (q_cmp (uo_eq (K := K) hr.u8) (q_v 4) (q_v 6) (nomark _))))))))))))))), ?_⟩
  obtain ⟨ns, hS, hl, q⟩ := h
  refine ⟨fun v H' => ∃ n : Int, v = .int n ∧ 0 ≤ n ∧ H = H', ⟨ns, hS, hl, ⟨by decide, by decide⟩, fun n n0 => ⟨n, rfl, n0, rfl⟩⟩, ?_⟩
  rintro _ _ ⟨num, rfl, num0, rfl⟩
  refine ⟨fun v H' => ∃ n : Nat, v = .int (n : Int) ∧ (100 ≤ n ∧ n ≤ 150) ∧ H = H', ⟨by decide, (100 + num % 51).toNat, ?_, ⟨by omega, by omega⟩, rfl⟩, ?_⟩
  ·rw [Int.toNat_of_nonneg (by omega)]
  rintro _ _ ⟨n, rfl, ⟨n1, n2⟩, rfl⟩
  obtain ⟨m, em, hm⟩ : ∃ m : Nat, (n : Int) + 1 + num / 51 % 2 * ((n : Int) % 2) = (m : Int) ∧ (m = n + 1 ∨ (m = n + 2 ∧ n % 2 = 1)) := by
   rcases (show num / 51 % 2 = 0 ∨ num / 51 % 2 = 1 by omega) with e | e
   ·rw [e, Int.zero_mul]
    exact ⟨n + 1, by omega, .inl rfl⟩
   ·rcases (show (n : Int) % 2 = 0 ∨ (n : Int) % 2 = 1 by omega) with e2 | e2
    ·rw [e2, Int.mul_zero]
     exact ⟨n + 1, by omega, .inl rfl⟩
    ·rw [e, e2]
     exact ⟨n + 2, by omega, .inr ⟨rfl, by omega⟩⟩
  refine ⟨fun v H' => v = .int (m : Int) ∧ H = H', ⟨⟨by decide, by decide⟩, by decide, by decide, .inl ⟨by omega, by omega⟩, congrArg V.int em, rfl⟩, ?_⟩
  rintro _ _ ⟨rfl, rfl⟩
  obtain ⟨inj, sur⟩ := two_idx (n := n) (m := m) (by omega) hm
  refine ⟨by show 1 ≤ sizeLine; decide, fun r hr0 => ⟨_, upd_same, ⟨by omega, by omega⟩, ?_, fun p hp => ?_⟩⟩
  ·rw [sizeLine_eq]; show 1 * ((n : Int)).toNat ≤ _; omega
  rw [rep_int, Int.toNat_natCast]
  have sr := Same.new (o := .lst [.int 0]) hr0
  have hpH : H p = none := sr.free hp
  have s0 := sr.trans (Same.new (o := .lst ((List.replicate n (0 : Int)).map V.int)) hp)
  refine ⟨⟨by omega, by omega⟩, ?_⟩
  rw [Int.toNat_natCast]
  refine for_range (fun i σ H' => ∃ (L : List Int) (v : Option V), σ = [some (.ref a), some (.int num), some (.int (n : Int)), some (.int (m : Int)), some (.ref p), v, none, none] ∧ Same H H' ∧ H' p = some (.lst (L.map V.int)) ∧ L.length = n ∧ ∀ k, k < i → L[(m * k) % n]? = some ((m * k : Nat) : Int)) ⟨List.replicate n 0, none, rfl, s0, upd_same, by simp, fun k hk => by omega⟩ ?_ ?_
  ·rintro i σ H1 hi ⟨L, v, rfl, s1, hp1, ll, hk⟩
   have e1 : (m : Int) * (0 + (i : Int)) = ((m * i : Nat) : Int) := by rw [Int.zero_add, Int.natCast_mul]
   have e2 : (m : Int) * (0 + (i : Int)) % (n : Int) = (((m * i) % n : Nat) : Int) := by rw [e1, Int.natCast_emod]
   have lt : (m * i) % n < n := Nat.mod_lt _ (by omega)
   refine ⟨.inr ⟨by omega, by omega⟩, .inr ⟨by omega, by omega⟩, by omega, _, _, hp1, ixN_pos (by rw [e2]; omega) (by rw [e2, List.length_map, ll]; omega), ?_⟩
   refine ⟨L.set ((m * i) % n) ((m * i : Nat) : Int), _, rfl, s1.put hpH, by rw [upd_same, e2, e1, Int.toNat_natCast, set_int], by rw [List.length_set]; exact ll, fun k hk' => ?_⟩
   by_cases z : k = i
   ·subst z
    rw [List.getElem?_set_self (by omega)]
   ·have hne : (m * i) % n ≠ (m * k) % n := fun w => z (inj k i (by omega) (by omega) w.symm)
    rw [List.getElem?_set_ne hne]
    exact hk k (by omega)
  ·rintro σ H1 ⟨L, v, rfl, s1, hp1, ll, hk⟩
   have two : TwoH n m L := ⟨by omega, by omega, ll, hk, sur⟩
   refine ⟨_, .inl (SqL.of hp1), fun kp hkp => ?_⟩
   have s2 := Same.new (o := .lst (L.map V.int)) hkp
   refine ⟨_, .inl (SqL.of (s2 _ _ hp1)), fun pp hpp => ?_⟩
   have s3 := Same.new (o := .lst (L.map V.int)) hpp
   have e1 : (m : Int) * ((n : Int) - 1) = ((m * (n - 1) : Nat) : Int) := by rw [Int.natCast_mul, show (((n - 1 : Nat)) : Int) = (n : Int) - 1 by omega]
   have e2 : (m : Int) * ((n : Int) - 1) % (n : Int) = (((m * (n - 1)) % n : Nat) : Int) := by rw [e1, Int.natCast_emod]
   have lt : (m * (n - 1)) % n < n := Nat.mod_lt _ (by omega)
   refine ⟨.inl ⟨by omega, by omega⟩, .inl ⟨by omega, by omega⟩, by omega, _, _, upd_same, ixN_pos (by rw [e2]; omega) (by rw [e2, List.length_map, ll]; omega), ?_⟩
   have eL : (L.map V.int).set ((m : Int) * ((n : Int) - 1) % (n : Int)).toNat (.int ((m : Int) * ((n : Int) - 1) - (n : Int))) = (L.set ((m * (n - 1)) % n) (((m * (n - 1) : Nat) : Int) - (n : Int))).map V.int := by rw [e2, e1, Int.toNat_natCast, set_int]
   have u := s3.put (o := .lst ((L.map V.int).set ((m : Int) * ((n : Int) - 1) % (n : Int)).toNat (.int ((m : Int) * ((n : Int) - 1) - (n : Int))))) hpp
   have hp4 := (s2.trans u) _ _ hp1
   have hk4 := u _ _ (upd_same (H := H1) (a := kp) (o := .lst (L.map V.int)))
   have hpp4 := (upd_same (H := upd (upd H1 kp (.lst (L.map V.int))) pp (.lst (L.map V.int))) (a := pp) (o := .lst ((L.map V.int).set ((m : Int) * ((n : Int) - 1) % (n : Int)).toNat (.int ((m : Int) * ((n : Int) - 1) - (n : Int)))))).trans (congrArg (fun l => some (HO.lst l)) eL)
   have t4 := (s1.trans s2).trans u
   obtain ⟨top1, top2⟩ := two.top
   refine ⟨L, SqL.of hp4, two.house, by omega, _, top1, top2, .inl ⟨.inl (by omega), fun C ps ms H5 s5 hC hps pm srt ka => ?_⟩⟩
   rw [two.none pm] at ka
   have pe : ps = [] := List.eq_nil_of_length_eq_zero ka.len
   subst pe
   refine ⟨by show 0 ≤ _; omega, fun e he => ?_⟩
   have s6 := Same.new (o := .lst []) he
   refine ⟨[], [], [], s6 _ _ ka.lst, upd_same, rfl, rfl, (fun i qa g1 h1 h2 => by simp at h1), (fun i qa g1 h1 h2 => by simp at h1), fun H7 s7 => ?_⟩
   have u7 := (s5.trans s6).trans s7
   have w := two.split
   refine ⟨L, u7 _ _ hp4, two.house, by omega, _, top1, top2, .inr ⟨by omega, pp, _, rfl, u7 _ _ hpp4, fun g' LS LN => least_uniq two.par.1 two.par.2 LS LN⟩, fun H8 s8 => ?_⟩
   have eqq : ∀ Q' : VK, Q' (.bl true) H8 → uEq K (.ref p) (.ref kp) H8 Q' := fun Q' h => eqSame (SqL.of ((u7.trans s8) _ _ hp4)) (SqL.of ((u7.trans s8) _ _ hk4)) h
   exact eqq _ (q _ (t4.trans (u7.trans s8)))
end
end PG
namespace PG
open PySem L2 PyProof.Rows
section
variable {P : Program} {w : World} {K : FrK} {mg : Str → Option Value} {base : Heap}
theorem sc_law : FnScope ["_law_script", "_law_way", "_law_gaps_here", "_law_house_here", "_law_kept", "_law_parent_here", "_law_due", "_law_first", "_law_child"] ["_law_script"] (defScope s_law) := ⟨rfl, rfl, rfl, by decide +kernel, rfl, by decide +kernel, by decide +kernel⟩
theorem ok_law {f : Addr} {fd : FuncData} (F : Fun K "law" "law" s_law f fd) (B : Blt mg) (ER : Errs K mg) (g_children_of : G P w K mg base (CX1 P w) "children_of" ["house"] 3 (sKidsX K ER.a_TooMany)) (g__law_cell : G P w K mg base (CX1 P w) "_law_cell" ["_law_script", "_law_k"] 1 (sCellN K)) (g__law_mixed : G P w K mg base (CX1 P w) "_law_mixed" ["_law_script", "_law_k"] 2 (sMixN K)) (g__law_gaps : G P w K mg base (CX1 P w) "_law_gaps" ["_law_script"] 4 (sGaps61 K)) (g__law_house : G P w K mg base (CX1 P w) "_law_house" ["_law_gaps_here"] 1 (sDueG K)) (g__law_more : G P w K mg base (CX1 P w) "_law_more" ["_law_gaps_here"] 2 (sMore K)) (g__law_houses : G P w K mg base (CX1 P w) "_law_houses" ["_law_found", "_law_due"] 3 (sHouses K)) (g__law_parent : G P w K mg base (CX1 P w) "_law_parent" ["_law_house_here", "_law_due"] 8 (sLPar K)) (g__law_of_two : G P w K mg base (CX1 P w) "_law_of_two" ["_law_last"] 9 sTwo61) (g__law_too_long : G P w K mg base (CX1 P w) "_law_too_long" [] 9 sToo61) (g__law_long : G P w K mg base (CX1 P w) "_law_long" ["_law_script"] 9 (sLong61 K)) : FnOk P w K mg base (CX1 P w) 10 f fd ["_law_script"] (sLaw K) := by
 refine F.okN sc_law (fun vs H Q E h => ?_) (fun cdv A outer s H vs Q E hr h => ?_)
 ·unfold sLaw at h; split at h
  ·rfl
  ·exact h.elim
 ·unfold sLaw at h; split at h
  rotate_left
  ·exact h.elim
  rename_i a
  refine ⟨_, (q_scons (q_set (i := 1) sc_law.nd rfl (Or.inl rfl) (q_cut (q_op uo_mod (q_g g__law_mixed (hr.mono (by decide)) pass1E (q_cons (q_v 0) (q_cons q_int q_nil))) q_int))) (q_scons (q_sif (q_tcmp (uo_eq (K := K) hr.u8) (q_v 1) q_int (nomark _)) (q_sone (q_ret (q_g g__law_of_two (hr.mono (by decide)) pass1E (q_cons (q_op uo_add q_int (q_op uo_mul q_int (q_op uo_mod (q_g g__law_cell (hr.mono (by decide)) pass1E (q_cons (q_v 0) (q_cons q_int q_nil))) (q_ix (ux (K := K)) (q_lst (q_cons q_int (q_cons q_int q_nil))) (q_op uo_mod (q_g g__law_mixed (hr.mono (by decide)) pass1E (q_cons (q_v 0) (q_cons q_int q_nil))) q_int) (fun _ _ => rfl))))) q_nil)))) q_snil) (q_scut (q_sif (q_tw (q_tand (q_tcmp (uo_eq (K := K) hr.u8) (q_v 1) q_int (nomark _)) (q_tand1 (q_tnot (q_tval (K := K) (q_g0 g__law_too_long (hr.mono (by decide)) pass1E)))))) (q_sone (q_ret q_bl)) q_snil) (q_scut (q_sif (q_tw (q_tand (q_tcmp (uo_eq (K := K) hr.u8) (q_v 1) q_int (nomark _)) (q_tand1 (q_tnot (q_tval (K := K) (q_g g__law_long (hr.mono (by decide)) pass1E (q_cons (q_v 0) q_nil))))))) (q_sone (q_ret q_bl)) q_snil) (q_scons (q_set (i := 2) sc_law.nd rfl (Or.inr rfl) (q_g g__law_gaps (hr.mono (by decide)) pass1E (q_cons (q_v 0) q_nil))) (q_scons (q_set (i := 3) sc_law.nd rfl (Or.inl rfl) (q_g g__law_house (hr.mono (by decide)) pass1E (q_cons (q_v 2) q_nil))) (q_scons (q_set (i := 4) sc_law.nd rfl (Or.inl rfl) (q_callTy (uc_list (K := K)) (by rfl) B.list boot_list (q_cons (q_v 3) q_nil))) (q_scons (q_set (i := 5) sc_law.nd rfl (Or.inl rfl) q_non) (q_scut (q_sif (q_tcmp (uo_ne (K := K) hr.u8) (q_v 2) (q_lst q_nil) (nomark _)) (q_sone (q_set (i := 5) sc_law.nd rfl (Or.inl rfl) (q_g g__law_house (hr.mono (by decide)) pass1E (q_cons (q_slice (usl (K := K)) (q_v 2) q_none (q_some (q_un uu_neg q_int))) q_nil)))) q_snil) (q_scons (q_setC (i := 6) [none, some 2] ["_law_number", "_law_gaps_here"] sc_law.nd rfl rfl rfl (by kernel_rfl) (q_seq (K := K) (q_g g__law_more (hr.mono (by decide)) pass1E (q_cons (q_v 2) q_nil))) (fun _ _ _ _ _ => (q_name (i := 0) (show List.Nodup (["_law_number", "_law_gaps_here"] : List Str) from by decide +kernel) rfl (Or.inl rfl))) (fun _ _ _ _ _ => q_fnil) (fun _ _ _ _ _ => (q_g g__law_house (hr.mono (by decide)) pass1E (q_cons (q_op uo_add (q_v 1) (q_lst (q_cons (q_v 0) q_nil))) q_nil)))) (q_scons (q_set (i := 7) sc_law.nd rfl (Or.inl rfl) (q_g g_children_of (hr.mono (by decide)) pass1E (q_cons (q_v 3) q_nil))) (q_scons (q_sif (q_tw (q_tor (q_tnot (q_tval (K := K) (q_g g__law_houses (hr.mono (by decide)) pass1E (q_cons (q_v 7) (q_cons (q_v 6) q_nil))))) (q_tor (q_tnot (q_tval (K := K) (q_g g__law_parent (hr.mono (by decide)) pass1E (q_cons (q_v 3) (q_cons (q_v 5) q_nil))))) (q_tor1 (q_tcmp (uo_ne (K := K) hr.u8) (q_v 3) (q_v 4) (nomark _)))))) (q_sone (q_ret q_bl)) q_snil) (q_scons (q_for PassesOwn.never rfl (q_seq (K := K) (q_v 6)) (q_name (i := 8) sc_law.nd rfl (Or.inl rfl)) (q_sone (q_sif (q_tnot (q_tval (K := K) (q_g g__law_parent (hr.mono (by decide)) pass1E (q_cons (q_callTy (uc_list (K := K)) (by rfl) B.list boot_list (q_cons (q_v 8) q_nil)) (q_cons (q_v 3) q_nil))))) (q_sone (q_ret q_bl)) q_snil))) (q_scons (q_for PassesOwn.never rfl (q_seq (K := K) (q_v 7)) (q_name (i := 8) sc_law.nd rfl (Or.inl rfl)) (q_sone (q_expr (q_bm (K := K) PySem.F.slot_list_append PySem.F.type_list_append um_append (q_v 8) (q_cons q_int q_nil))))) (q_scons (q_expr (q_bm (K := K) PySem.F.slot_list_append PySem.F.type_list_append um_append (q_v 7) (q_cons (q_lst q_nil) q_nil))) (q_sone (q_ret (q_and (q_g g__law_houses (hr.mono (by decide)) pass1E (q_cons (q_g g_children_of (hr.mono (by decide)) pass1E (q_cons (q_v 3) q_nil)) (q_cons (q_v 6) q_nil))) (q_and (q_g g__law_parent (hr.mono (by decide)) pass1E (q_cons (q_v 3) (q_cons (q_v 5) q_nil))) (q_one (q_cmp (uo_eq (K := K) hr.u8) (q_v 3) (q_v 4) (nomark _)))))))))))))))))))))), ?_⟩
  obtain ⟨ns, hS, hl, q⟩ := h
  refine ⟨fun v H' => ∃ n : Int, v = .int n ∧ H = H', ⟨ns, hS, hl, ⟨by decide, by decide⟩, fun n n0 => ⟨by decide, _, rfl, rfl⟩⟩, ?_⟩
  rintro _ _ ⟨way, rfl, rfl⟩
  refine ifB (fun z => ?_) fun z => ?_
  ·refine ⟨ns, hS, hl, ⟨by decide, by decide⟩, fun c => ⟨by show 2 ≤ sizeLine; decide, fun o ho => ?_⟩⟩
   have so := Same.new (o := .lst [.int 499998, .int 3]) ho
   refine ⟨ns, so.seq hS, hl, ⟨by decide, by decide⟩, fun n2 n20 => ⟨by decide, ?_⟩⟩
   obtain ⟨v, hv, hm, _⟩ := atI_lt (xs := [V.int 499998, V.int 3]) (k := n2 % 2) (Int.emod_nonneg _ (by omega)) (by show n2 % 2 < 2; omega)
   refine ⟨_, v, .inl (SqL.of upd_same), hv, ?_⟩
   have hn : ∃ d : Int, v = .int d ∧ 1 ≤ d ∧ d ≤ 499998 := by
    simp only [List.mem_cons, List.not_mem_nil, or_false] at hm
    rcases hm with rfl | rfl
    ·exact ⟨_, rfl, by omega, by omega⟩
    ·exact ⟨_, rfl, by omega, by omega⟩
   obtain ⟨d, rfl, d1, d2⟩ := hn
   have m0 := Int.emod_nonneg c (show d ≠ 0 by omega)
   have m1 := Int.emod_lt_of_pos c (show 0 < d by omega)
   exact ⟨by omega, .inl ⟨by decide, by decide⟩, ⟨by omega, by omega⟩, by omega, fun H1 s1 => q H1⟩
  refine ⟨fun σ' H' => σ' = [some (.ref a), some (.int way), none, none, none, none, none, none, none] ∧ Same H H', ?_, ?_⟩
  ·refine ifB (fun z1 => ?_) fun z1 => ⟨rfl, Same.refl _⟩
   exact fun H1 s1 => ⟨rfl, s1⟩
  rintro _ H1 ⟨rfl, s1⟩
  refine ⟨fun σ' H' => σ' = [some (.ref a), some (.int way), none, none, none, none, none, none, none] ∧ Same H H', ?_, ?_⟩
  ·refine ifB (fun z2 => ?_) fun z2 => ⟨rfl, s1⟩
   exact ⟨ns, s1.seq hS, hl, fun H2 s2 => ⟨rfl, s1.trans s2⟩⟩
  rintro _ H2 ⟨rfl, s2⟩
  refine ⟨ns, s2.seq hS, hl, fun A G H3 s3 hA0 hA g gb gl => ?_⟩
  refine ⟨G, SqL.of hA, g, fun P h H4 s4 hP0 hP ho => ?_⟩
  have house := ho.house g
  have hp := house.pos
  have hlen := ho.len_le g
  obtain ⟨M, hM, mx⟩ := max_of hp
  refine ⟨_, .inl (SqL.of hP), fun kp hkp => ?_⟩
  have s5 := Same.new (o := .lst (h.map V.int)) hkp
  have hA5 := (s4.trans s5) _ _ hA
  have hP5 := s5 _ _ hP
  have hk5 : (upd H4 kp (.lst (h.map V.int))) kp = some (.lst (h.map V.int)) := upd_same
  generalize upd H4 kp (.lst (h.map V.int)) = H5 at s5 hA5 hP5 hk5
  refine ⟨fun σ' H' => ∃ v : V, σ' = [some (.ref a), some (.int way), some (.ref A), some (.ref P), some (.ref kp), some v, none, none, none] ∧ Same H5 H' ∧ ParV H' h (M - (h.length : Int)) v, ⟨by show 0 ≤ _; omega, fun e0 he0 => ?_⟩, ?_⟩
  ·have se := Same.new (o := .lst []) he0
   refine eqInts (neg := true) (ns := G) (ms := []) (SqL.of (se _ _ hA5)) (SqL.of upd_same) (ifB (fun z => ?_) fun z => ?_)
   ·obtain ⟨G', c, rfl⟩ : ∃ G' c, G = G' ++ [c] := by
     rcases List.eq_nil_or_concat G with e | ⟨G', c, e⟩
     ·rw [e] at z; simp at z
     ·exact ⟨G', c, by rw [e, List.concat_eq_append]⟩
    obtain ⟨gG, nx⟩ := g.last
    refine ⟨_, SqL.of (se _ _ hA5), fun u hu => ?_⟩
    have ec : cutV ((G' ++ [c]).map V.int) none (some (-1)) = G'.map V.int := by rw [cutV_last, List.map_append, show [c].map V.int = [V.int c] from rfl, List.dropLast_concat]
    have su := Same.new (o := .lst (cutV ((G' ++ [c]).map V.int) none (some (-1)))) hu
    have hu' := (upd_same (H := upd H5 e0 (.lst [])) (a := u) (o := .lst (cutV ((G' ++ [c]).map V.int) none (some (-1))))).trans (congrArg (fun l => some (HO.lst l)) ec)
    refine ⟨G', SqL.of hu', gG, fun R pg H7 s7 hR0 hR ho7 => ?_⟩
    exact ⟨.ref R, rfl, (se.trans su).trans s7, par_last g ho ho7 hM mx hR⟩
   ·have e : G = [] := by
     by_cases w : G = []
     ·exact w
     ·rw [if_pos rfl] at z
      simp [w] at z
    subst e
    exact ⟨.non, rfl, se, par_nil ho hM mx⟩
  rintro _ H6 ⟨pv, rfl, s6, par⟩
  have hA6 := s6 _ _ hA5
  refine ⟨G, SqL.of hA6, g, gb, gl, fun N H7 s7 hN0 hN => ?_⟩
  have hA7 := s7 _ _ hA6
  have nl : (nexts G).length ≤ 300 := by have := nexts_few g; omega
  have gapc : ∀ c, Next G c → Gaps (G ++ [c]) := fun c nx => nx.gaps g (by have := next_le2 nx; omega) (by omega)
  refine .inl ⟨_, SqL.of hN, comp_objs (fun i T fs => ∃ c hc, (nexts G)[i]? = some c ∧ HouseOf (G ++ [c]) hc ∧ fs = [(T, .lst (List.map V.int hc))]) (jp_list (SqL.of hN)) (by rw [List.length_map]; exact small1000 (by omega)) (keepName rfl) (fun i x H' R Z hi sm hx hR => ?_) (fun D H8 ds hD0 s8 hD dl hds => ?_)⟩
  ·obtain ⟨c, hc, rfl⟩ := int_at hx
   have nx := mem_nexts.mp (List.mem_of_getElem? hc)
   refine tT ⟨by show 1 ≤ sizeLine; decide, fun r hr => ?_⟩
   have sr := Same.new (o := .lst [.int c]) hr
   refine ⟨_, _, sr _ _ (sm _ _ hA7), upd_same, by rw [List.length_map, sizeLine_eq]; show _ + 1 ≤ _; omega, fun p0 hp0 => ?_⟩
   have sp := Same.new (o := .lst (G.map V.int ++ [.int c])) hp0
   have hp0' := (upd_same (H := upd H' r (.lst [.int c])) (a := p0) (o := .lst (G.map V.int ++ [.int c]))).trans (congrArg (fun l => some (HO.lst l)) (show G.map V.int ++ [V.int c] = (G ++ [c]).map V.int by rw [List.map_append]; rfl))
   refine ⟨G ++ [c], SqL.of hp0', gapc c nx, fun P2 h2 H9 s9 hP2 hh2 ho2 => ?_⟩
   refine hR P2 [(P2, .lst (h2.map V.int))] H9 ((sr.trans sp).trans s9) (fun z hz => ?_) ⟨c, h2, hc, ho2, rfl⟩
   rw [List.mem_singleton.mp hz]
   exact ⟨(sr.trans sp).free hP2, hh2⟩
  rw [List.length_map] at dl
  have t8 := s7.trans s8
  have hP8 := (s6.trans t8) _ _ hP5
  have hk8 := (s6.trans t8) _ _ hk5
  have par8 := par.mono t8
  have dk : ∀ (i : Nat) (qa : Addr) (c : Int), ds[i]? = some qa → (nexts G)[i]? = some c → H8 qa = some (.lst ((woH h c).map V.int)) := fun i qa c h1 h2 => by
   obtain ⟨fs, hf, c', hc', e1, o1, rfl⟩ := hds i qa h1
   rw [h2] at e1
   cases e1
   have e2 := o1.uniq (kid_house g ho (mem_nexts.mp (List.mem_of_getElem? h2)))
   rw [← e2]
   exact (hf _ List.mem_cons_self).2
  have dlen : ds.length = ((nexts G).map (fun c => woH h c)).length := by rw [List.length_map]; exact dl
  have pk : ∀ {ps' : List Addr} {Hx : Hp}, (∀ (i : Nat) (qa : Addr) (c : Int), ps'[i]? = some qa → (nexts G)[i]? = some c → Hx qa = some (.lst ((woH h c).map V.int))) → ∀ (i : Nat) (qa : Addr) (g1 : List Int), ps'[i]? = some qa → ((nexts G).map (fun c => woH h c))[i]? = some g1 → Hx qa = some (.lst (g1.map V.int)) := fun hk i qa g1 h1 h2 => by
   rw [List.getElem?_map] at h2
   cases hc : (nexts G)[i]? with
   | none => rw [hc] at h2; cases h2
   | some c => rw [hc] at h2; cases h2; exact hk i qa c h1 hc
  refine ⟨h, SqL.of hP8, house, by omega, M, hM, mx, .inl ⟨.inl (by omega), fun F ps ms H9 s9 hF hps pm srt ka => ?_⟩⟩
  rw [kids_next g ho hM mx pm srt] at ka
  refine ⟨ps, ds, (nexts G).map (fun c => woH h c), ka.lst, s9 _ _ hD, by rw [List.length_map]; exact ka.len, dlen, pk ka.kid, pk (fun i qa c h1 h2 => s9 _ _ (dk i qa c h1 h2)), fun H10 s10 => ?_⟩
  have u10 := s9.trans s10
  refine ⟨h, u10 _ _ hP8, house, by omega, M, hM, mx, par8.mono u10, fun H11 s11 => ?_⟩
  have u11 := u10.trans s11
  refine eqInts (neg := true) (SqL.of (u11 _ _ hP8)) (SqL.of (u11 _ _ hk8)) (ifB (fun w => by simp at w) fun _ => ?_)
  have hD11 := u11 _ _ hD
  refine .inl ⟨_, SqL.of hD11, for_list (K := K) (a := D) (xs := ds.map V.ref) (fun i σ H' => ∃ y : Option V, σ = [some (.ref a), some (.int way), some (.ref A), some (.ref P), some (.ref kp), some pv, some (.ref D), some (.ref F), y] ∧ Same H11 H') ⟨none, rfl, Same.refl _⟩ (fun i σ H' _ ⟨_, _, s⟩ => SqL.of (s _ _ hD11)) ?_ ?_⟩
  ·rintro i x σ H12 hx ⟨y, rfl, s12⟩
   obtain ⟨qa, hq, rfl⟩ := ref_at hx
   obtain ⟨c, hc⟩ : ∃ c, (nexts G)[i]? = some c := ⟨_, List.getElem?_eq_getElem (by rw [← dl]; exact (List.getElem?_eq_some_iff.mp hq).1)⟩
   have nx := mem_nexts.mp (List.mem_of_getElem? hc)
   have gc := gapc c nx
   have oc := kid_house g ho nx
   have u12 := u11.trans s12
   have housec := oc.house gc
   obtain ⟨Mc, hMc, mxc⟩ := max_of housec.pos
   refine ⟨_, .inl (SqL.of (u12 _ _ (dk i qa c hq hc))), fun l hl0 => ?_⟩
   have sl := Same.new (o := .lst ((woH h c).map V.int)) hl0
   refine ⟨woH h c, upd_same, housec, by have := oc.small gc; omega, Mc, hMc, mxc, par_last gc oc ho hMc mxc (sl _ _ (u12 _ _ hP8)), fun H13 s13 => ?_⟩
   exact ⟨_, rfl, (s12.trans sl).trans s13⟩
  rintro σ H14 ⟨y14, rfl, s14⟩
  have t14 := (s10.trans s11).trans s14
  have hF14 := t14 _ _ ka.lst
  have pl : ps.length ≤ 300 := by rw [ka.len]; exact nl
  have kidAt : ∀ qa ∈ ps, ∃ c ∈ nexts G, H9 qa = some (.lst ((woH h c).map V.int)) := fun qa hq => by
   obtain ⟨i, hi⟩ := List.mem_iff_getElem?.mp hq
   obtain ⟨c, hc⟩ : ∃ c, (nexts G)[i]? = some c := ⟨_, List.getElem?_eq_getElem (by rw [← ka.len]; exact (List.getElem?_eq_some_iff.mp hi).1)⟩
   exact ⟨c, List.mem_of_getElem? hc, ka.kid i qa c hi hc⟩
  have nF : F ∉ ps := fun hq => by
   obtain ⟨c, hc, e⟩ := kidAt F hq
   rw [ka.lst] at e
   have e' := HO.lst.inj (Option.some.inj e)
   have hpos := (kid_house g ho (mem_nexts.mp hc)).pos
   cases ps with
   | nil => cases hq
   | cons x r =>
    cases hw : woH h c with
    | nil => rw [hw] at hpos; simp at hpos
    | cons y s => rw [hw] at e'; simp at e'
  refine .inl ⟨_, SqL.of hF14, for_list (K := K) (a := F) (xs := ps.map V.ref) (fun i σ H' => ∃ v : Option V, σ = [some (.ref a), some (.int way), some (.ref A), some (.ref P), some (.ref kp), some pv, some (.ref D), some (.ref F), v] ∧ (∀ x, x ∉ ps → H' x = H14 x) ∧ ∀ qa ∈ ps, ∃ zs, H' qa = some (.lst zs) ∧ zs.length ≤ 2000 + i) ⟨y14, rfl, fun _ _ => rfl, fun qa hq => ?_⟩ (fun i σ H' _ ⟨_, _, e, _⟩ => SqL.of ((e F nF).trans hF14)) ?_ ?_⟩
  ·obtain ⟨c, hc, e⟩ := kidAt qa hq
   have nx := mem_nexts.mp hc
   have := (kid_house g ho nx).small (gapc c nx)
   exact ⟨_, t14 _ _ e, by rw [List.length_map]; omega⟩
  ·rintro i x σ H' hx ⟨v, rfl, e, kq⟩
   obtain ⟨p', ep, rfl⟩ := ref_at hx
   have mp := List.mem_of_getElem? ep
   have ip := (List.getElem?_eq_some_iff.mp ep).1
   obtain ⟨zs, hz, zl⟩ := kq p' mp
   refine ⟨⟨_, SqL.of hz⟩, _, hz, by rw [sizeLine_eq]; omega, ⟨_, rfl, fun x hx => ?_, fun qa hq => ?_⟩⟩
   ·have nx : x ≠ p' := fun z => by
     rw [z] at hx
     exact hx mp
    rw [upd_ne nx, e x hx]
   ·by_cases z : qa = p'
    ·subst z
     exact ⟨_, upd_same, by rw [List.length_append]; show _ + 1 ≤ _; omega⟩
    ·obtain ⟨zs', h1, h2⟩ := kq qa hq
     exact ⟨zs', by rw [upd_ne z]; exact h1, by omega⟩
  rintro σ H15 ⟨v15, rfl, e15, kq⟩
  have hF15 : H15 F = some (.lst (ps.map V.ref)) := (e15 F nF).trans hF14
  refine ⟨⟨_, SqL.of hF15⟩, by show 0 ≤ _; omega, fun r hr => ?_⟩
  refine ⟨_, (Same.new hr) _ _ hF15, by rw [List.length_map, sizeLine_eq]; omega, ?_⟩
  have sz : Same H8 (upd (upd H15 r (.lst [])) F (.lst (ps.map V.ref ++ [.ref r]))) := fun x o hx => by
   have n1 : x ∉ ps := fun c => by
    have := hps x c
    rw [hx] at this
    cases this
   have n2 : x ≠ F := fun c => by
    rw [c, hF] at hx
    cases hx
   have h15 : H15 x = some o := (e15 x n1).trans ((s9.trans t14) _ _ hx)
   have n3 : x ≠ r := fun c => by
    rw [c, hr] at h15
    cases h15
   rw [upd_ne n2, upd_ne n3]
   exact h15
  refine ⟨h, SqL.of (sz _ _ hP8), house, by omega, M, hM, mx, .inl ⟨.inl (by omega), fun F2 ps2 ms2 H17 s17 hF2 hps2 pm2 srt2 ka2 => ?_⟩⟩
  rw [kids_next g ho hM mx pm2 srt2] at ka2
  have u17 := sz.trans s17
  refine ⟨ps2, ds, (nexts G).map (fun c => woH h c), ka2.lst, u17 _ _ hD, by rw [List.length_map]; exact ka2.len, dlen, pk ka2.kid, pk (fun i qa c h1 h2 => u17 _ _ (dk i qa c h1 h2)), fun H18 s18 => ?_⟩
  have u18 := u17.trans s18
  refine ⟨h, u18 _ _ hP8, house, by omega, M, hM, mx, par8.mono u18, fun H19 s19 => ?_⟩
  have u19 := u18.trans s19
  have eqq : ∀ Q' : VK, Q' (.bl true) H19 → uEq K (.ref P) (.ref kp) H19 Q' := fun Q' h => eqInts (neg := false) (SqL.of (u19 _ _ hP8)) (SqL.of (u19 _ _ hk8)) (by rw [if_neg (by decide), decide_eq_true rfl]; exact h)
  exact eqq _ (q _)
end
end PG
namespace PG
open PySem L2 PyProof.Rows
theorem len_0 {α : Type} {us : List α} (h : us.length = 0) : us = [] := List.eq_nil_of_length_eq_zero h
theorem len_1 {α : Type} {us : List α} (h : us.length = 1) : ∃ a0, us = [a0] := by
 cases us with
 | nil => simp at h
 | cons a t => cases t with
  | nil => exact ⟨a, rfl⟩
  | cons b s => simp at h
theorem len_2 {α : Type} {us : List α} (h : us.length = 2) : ∃ a0 a1, us = [a0, a1] := by
 cases us with
 | nil => simp at h
 | cons a0 t =>
  obtain ⟨a1, rfl⟩ := len_1 (us := t) (by simpa using h)
  exact ⟨a0, a1, rfl⟩
theorem len_3 {α : Type} {us : List α} (h : us.length = 3) : ∃ a0 a1 a2, us = [a0, a1, a2] := by
 cases us with
 | nil => simp at h
 | cons a0 t =>
  obtain ⟨a1, a2, rfl⟩ := len_2 (us := t) (by simpa using h)
  exact ⟨a0, a1, a2, rfl⟩
theorem all_mk {l : PySem.W.OpenLaw} {w : World} {K : FrK} {h : Heap} {mg : Str → Option Value} {fa : Addr} (X : K.In h) (GN : h.Ns mainGlobals mg) (hfa : mg "law" = some (.ref fa))
  {f0 : Addr} {od0 an0 : Option Addr} {sl0 : Array (Option Value)} {oc0 kV0 dc0 pm0 cd0 ct0 : Value}
  {f1 : Addr} {od1 an1 : Option Addr} {sl1 : Array (Option Value)} {oc1 kV1 dc1 pm1 cd1 ct1 : Value}
  {f2 : Addr} {od2 an2 : Option Addr} {sl2 : Array (Option Value)} {oc2 kV2 dc2 pm2 cd2 ct2 : Value}
  {f3 : Addr} {od3 an3 : Option Addr} {sl3 : Array (Option Value)} {oc3 kV3 dc3 pm3 cd3 ct3 : Value}
  {f4 : Addr} {od4 an4 : Option Addr} {sl4 : Array (Option Value)} {oc4 kV4 dc4 pm4 cd4 ct4 : Value}
  {f5 : Addr} {od5 an5 : Option Addr} {sl5 : Array (Option Value)} {oc5 kV5 dc5 pm5 cd5 ct5 : Value}
  {f6 : Addr} {od6 an6 : Option Addr} {sl6 : Array (Option Value)} {oc6 kV6 dc6 pm6 cd6 ct6 : Value}
  {f7 : Addr} {od7 an7 : Option Addr} {sl7 : Array (Option Value)} {oc7 kV7 dc7 pm7 cd7 ct7 : Value}
  {f8 : Addr} {od8 an8 : Option Addr} {sl8 : Array (Option Value)} {oc8 kV8 dc8 pm8 cd8 ct8 : Value}
  {f9 : Addr} {od9 an9 : Option Addr} {sl9 : Array (Option Value)} {oc9 kV9 dc9 pm9 cd9 ct9 : Value}
  {f10 : Addr} {od10 an10 : Option Addr} {sl10 : Array (Option Value)} {oc10 kV10 dc10 pm10 cd10 ct10 : Value}
  {f11 : Addr} {od11 an11 : Option Addr} {sl11 : Array (Option Value)} {oc11 kV11 dc11 pm11 cd11 ct11 : Value}
  {f12 : Addr} {od12 an12 : Option Addr} {sl12 : Array (Option Value)} {oc12 kV12 dc12 pm12 cd12 ct12 : Value}
  {f13 : Addr} {od13 an13 : Option Addr} {sl13 : Array (Option Value)} {oc13 kV13 dc13 pm13 cd13 ct13 : Value}
  {f14 : Addr} {od14 an14 : Option Addr} {sl14 : Array (Option Value)} {oc14 kV14 dc14 pm14 cd14 ct14 : Value}
  {f15 : Addr} {od15 an15 : Option Addr} {sl15 : Array (Option Value)} {oc15 kV15 dc15 pm15 cd15 ct15 : Value}
  {f16 : Addr} {od16 an16 : Option Addr} {sl16 : Array (Option Value)} {oc16 kV16 dc16 pm16 cd16 ct16 : Value}
  {f17 : Addr} {od17 an17 : Option Addr} {sl17 : Array (Option Value)} {oc17 kV17 dc17 pm17 cd17 ct17 : Value}
  {f18 : Addr} {od18 an18 : Option Addr} {sl18 : Array (Option Value)} {oc18 kV18 dc18 pm18 cd18 ct18 : Value}
  {f19 : Addr} {od19 an19 : Option Addr} {sl19 : Array (Option Value)} {oc19 kV19 dc19 pm19 cd19 ct19 : Value}
  {f20 : Addr} {od20 an20 : Option Addr} {sl20 : Array (Option Value)} {oc20 kV20 dc20 pm20 cd20 ct20 : Value}
  {f21 : Addr} {od21 an21 : Option Addr} {sl21 : Array (Option Value)} {oc21 kV21 dc21 pm21 cd21 ct21 : Value}
  {f22 : Addr} {od22 an22 : Option Addr} {sl22 : Array (Option Value)} {oc22 kV22 dc22 pm22 cd22 ct22 : Value}
  {f23 : Addr} {od23 an23 : Option Addr} {sl23 : Array (Option Value)} {oc23 kV23 dc23 pm23 cd23 ct23 : Value}
  {f24 : Addr} {od24 an24 : Option Addr} {sl24 : Array (Option Value)} {oc24 kV24 dc24 pm24 cd24 ct24 : Value}
  {f25 : Addr} {od25 an25 : Option Addr} {sl25 : Array (Option Value)} {oc25 kV25 dc25 pm25 cd25 ct25 : Value}
  {f26 : Addr} {od26 an26 : Option Addr} {sl26 : Array (Option Value)} {oc26 kV26 dc26 pm26 cd26 ct26 : Value}
  {f27 : Addr} {od27 an27 : Option Addr} {sl27 : Array (Option Value)} {oc27 kV27 dc27 pm27 cd27 ct27 : Value}
  {f28 : Addr} {od28 an28 : Option Addr} {sl28 : Array (Option Value)} {oc28 kV28 dc28 pm28 cd28 ct28 : Value}
  {f29 : Addr} {od29 an29 : Option Addr} {sl29 : Array (Option Value)} {oc29 kV29 dc29 pm29 cd29 ct29 : Value}
  {f30 : Addr} {od30 an30 : Option Addr} {sl30 : Array (Option Value)} {oc30 kV30 dc30 pm30 cd30 ct30 : Value}
  {f31 : Addr} {od31 an31 : Option Addr} {sl31 : Array (Option Value)} {oc31 kV31 dc31 pm31 cd31 ct31 : Value}
  {f32 : Addr} {od32 an32 : Option Addr} {sl32 : Array (Option Value)} {oc32 kV32 dc32 pm32 cd32 ct32 : Value}
  {f33 : Addr} {od33 an33 : Option Addr} {sl33 : Array (Option Value)} {oc33 kV33 dc33 pm33 cd33 ct33 : Value}
  {f34 : Addr} {od34 an34 : Option Addr} {sl34 : Array (Option Value)} {oc34 kV34 dc34 pm34 cd34 ct34 : Value} {nm_Unclosed qn_Unclosed : Str} {N_Unclosed : Addr} {bs_Unclosed : List Value} {sn_Unclosed : List Str} {sub_Unclosed : List Value} {ab_Unclosed : Bool} {col_Unclosed : Option Bool} {dd_Unclosed : Option Addr} {k0_Unclosed k1_Unclosed k2_Unclosed k3_Unclosed k5_Unclosed : Option Value} {nc_Unclosed : Value} {nd_Unclosed : Option Addr} {es_Unclosed : Array DictEntry} {nn_Unclosed : Nat} {ns_Unclosed : Array (Option Value)}
  {u0 : Tok}
  {C_PayError : Addr}
  {C_NoCoins : Addr}
  {C_NoPaying : Addr}
  {C_NoSum : Addr}
  {C_Shared : Addr}
  {C_TooMany : Addr}
  {C_NoOne : Addr}
  {C_NoGaps : Addr}
  {C_Unclosed : Addr}
  {C_NoChange : Addr}
  {C_TooLittle : Addr}
  {cd_TooMany : ClassData}
  {cd_Unclosed : ClassData}
  (a0 : PySem.W.nsIn K mainGlobals "is_number" = some (some (.ref f0))) (l0 : K.lookup f0 = some ⟨oc0, od0, .func (PySem.W.fnOf "is_number" "is_number" (defArgs s_is_number) (defBody s_is_number) (defScope s_is_number) .none kV0 dc0 pm0 an0 cd0 ct0), sl0⟩) (c0 : PySem.W.codeIn K cd0 "is_number" = true) (k0 : PySem.W.keepIn K (.ref f0) = true)
  (a1 : PySem.W.nsIn K mainGlobals "check_sum_from" = some (some (.ref f1))) (l1 : K.lookup f1 = some ⟨oc1, od1, .func (PySem.W.fnOf "check_sum_from" "check_sum_from" (defArgs s_check_sum_from) (defBody s_check_sum_from) (defScope s_check_sum_from) .none kV1 dc1 pm1 an1 cd1 ct1), sl1⟩) (c1 : PySem.W.codeIn K cd1 "check_sum_from" = true) (k1 : PySem.W.keepIn K (.ref f1) = true)
  (a2 : PySem.W.nsIn K mainGlobals "share_of_two" = some (some (.ref f2))) (l2 : K.lookup f2 = some ⟨oc2, od2, .func (PySem.W.fnOf "share_of_two" "share_of_two" (defArgs s_share_of_two) (defBody s_share_of_two) (defScope s_share_of_two) .none kV2 dc2 pm2 an2 cd2 ct2), sl2⟩) (c2 : PySem.W.codeIn K cd2 "share_of_two" = true) (k2 : PySem.W.keepIn K (.ref f2) = true)
  (a3 : PySem.W.nsIn K mainGlobals "with_coin" = some (some (.ref f3))) (l3 : K.lookup f3 = some ⟨oc3, od3, .func (PySem.W.fnOf "with_coin" "with_coin" (defArgs s_with_coin) (defBody s_with_coin) (defScope s_with_coin) .none kV3 dc3 pm3 an3 cd3 ct3), sl3⟩) (c3 : PySem.W.codeIn K cd3 "with_coin" = true) (k3 : PySem.W.keepIn K (.ref f3) = true)
  (a4 : PySem.W.nsIn K mainGlobals "lower_next" = some (some (.ref f4))) (l4 : K.lookup f4 = some ⟨oc4, od4, .func (PySem.W.fnOf "lower_next" "lower_next" (defArgs s_lower_next) (defBody s_lower_next) (defScope s_lower_next) .none kV4 dc4 pm4 an4 cd4 ct4), sl4⟩) (c4 : PySem.W.codeIn K cd4 "lower_next" = true) (k4 : PySem.W.keepIn K (.ref f4) = true)
  (a5 : PySem.W.nsIn K mainGlobals "lower_rest" = some (some (.ref f5))) (l5 : K.lookup f5 = some ⟨oc5, od5, .func (PySem.W.fnOf "lower_rest" "lower_rest" (defArgs s_lower_rest) (defBody s_lower_rest) (defScope s_lower_rest) .none kV5 dc5 pm5 an5 cd5 ct5), sl5⟩) (c5 : PySem.W.codeIn K cd5 "lower_rest" = true) (k5 : PySem.W.keepIn K (.ref f5) = true)
  (a6 : PySem.W.nsIn K mainGlobals "greatest_gap" = some (some (.ref f6))) (l6 : K.lookup f6 = some ⟨oc6, od6, .func (PySem.W.fnOf "greatest_gap" "greatest_gap" (defArgs s_greatest_gap) (defBody s_greatest_gap) (defScope s_greatest_gap) .none kV6 dc6 pm6 an6 cd6 ct6), sl6⟩) (c6 : PySem.W.codeIn K cd6 "greatest_gap" = true) (k6 : PySem.W.keepIn K (.ref f6) = true)
  (a7 : PySem.W.nsIn K mainGlobals "needed_coins" = some (some (.ref f7))) (l7 : K.lookup f7 = some ⟨oc7, od7, .func (PySem.W.fnOf "needed_coins" "needed_coins" (defArgs s_needed_coins) (defBody s_needed_coins) (defScope s_needed_coins) .none kV7 dc7 pm7 an7 cd7 ct7), sl7⟩) (c7 : PySem.W.codeIn K cd7 "needed_coins" = true) (k7 : PySem.W.keepIn K (.ref f7) = true)
  (a8 : PySem.W.nsIn K mainGlobals "is_parted" = some (some (.ref f8))) (l8 : K.lookup f8 = some ⟨oc8, od8, .func (PySem.W.fnOf "is_parted" "is_parted" (defArgs s_is_parted) (defBody s_is_parted) (defScope s_is_parted) .none kV8 dc8 pm8 an8 cd8 ct8), sl8⟩) (c8 : PySem.W.codeIn K cd8 "is_parted" = true) (k8 : PySem.W.keepIn K (.ref f8) = true)
  (a9 : PySem.W.nsIn K mainGlobals "sums_by_rests" = some (some (.ref f9))) (l9 : K.lookup f9 = some ⟨oc9, od9, .func (PySem.W.fnOf "sums_by_rests" "sums_by_rests" (defArgs s_sums_by_rests) (defBody s_sums_by_rests) (defScope s_sums_by_rests) .none kV9 dc9 pm9 an9 cd9 ct9), sl9⟩) (c9 : PySem.W.codeIn K cd9 "sums_by_rests" = true) (k9 : PySem.W.keepIn K (.ref f9) = true)
  (a10 : PySem.W.nsIn K mainGlobals "first_from" = some (some (.ref f10))) (l10 : K.lookup f10 = some ⟨oc10, od10, .func (PySem.W.fnOf "first_from" "first_from" (defArgs s_first_from) (defBody s_first_from) (defScope s_first_from) .none kV10 dc10 pm10 an10 cd10 ct10), sl10⟩) (c10 : PySem.W.codeIn K cd10 "first_from" = true) (k10 : PySem.W.keepIn K (.ref f10) = true)
  (a11 : PySem.W.nsIn K mainGlobals "filled" = some (some (.ref f11))) (l11 : K.lookup f11 = some ⟨oc11, od11, .func (PySem.W.fnOf "filled" "filled" (defArgs s_filled) (defBody s_filled) (defScope s_filled) .none kV11 dc11 pm11 an11 cd11 ct11), sl11⟩) (c11 : PySem.W.codeIn K cd11 "filled" = true) (k11 : PySem.W.keepIn K (.ref f11) = true)
  (a12 : PySem.W.nsIn K mainGlobals "house_by_sums" = some (some (.ref f12))) (l12 : K.lookup f12 = some ⟨oc12, od12, .func (PySem.W.fnOf "house_by_sums" "house_by_sums" (defArgs s_house_by_sums) (defBody s_house_by_sums) (defScope s_house_by_sums) .none kV12 dc12 pm12 an12 cd12 ct12), sl12⟩) (c12 : PySem.W.codeIn K cd12 "house_by_sums" = true) (k12 : PySem.W.keepIn K (.ref f12) = true)
  (a13 : PySem.W.nsIn K mainGlobals "parent_of" = some (some (.ref f13))) (l13 : K.lookup f13 = some ⟨oc13, od13, .func (PySem.W.fnOf "parent_of" "parent_of" (defArgs s_parent_of) (defBody s_parent_of) (defScope s_parent_of) .none kV13 dc13 pm13 an13 cd13 ct13), sl13⟩) (c13 : PySem.W.codeIn K cd13 "parent_of" = true) (k13 : PySem.W.keepIn K (.ref f13) = true)
  (a14 : PySem.W.nsIn K mainGlobals "children_of" = some (some (.ref f14))) (l14 : K.lookup f14 = some ⟨oc14, od14, .func (PySem.W.fnOf "children_of" "children_of" (defArgs s_children_of) (defBody s_children_of) (defScope s_children_of) .none kV14 dc14 pm14 an14 cd14 ct14), sl14⟩) (c14 : PySem.W.codeIn K cd14 "children_of" = true) (k14 : PySem.W.keepIn K (.ref f14) = true)
  (a15 : PySem.W.nsIn K mainGlobals "without_coin" = some (some (.ref f15))) (l15 : K.lookup f15 = some ⟨oc15, od15, .func (PySem.W.fnOf "without_coin" "without_coin" (defArgs s_without_coin) (defBody s_without_coin) (defScope s_without_coin) .none kV15 dc15 pm15 an15 cd15 ct15), sl15⟩) (c15 : PySem.W.codeIn K cd15 "without_coin" = true) (k15 : PySem.W.keepIn K (.ref f15) = true)
  (a16 : PySem.W.nsIn K mainGlobals "house_above" = some (some (.ref f16))) (l16 : K.lookup f16 = some ⟨oc16, od16, .func (PySem.W.fnOf "house_above" "house_above" (defArgs s_house_above) (defBody s_house_above) (defScope s_house_above) .none kV16 dc16 pm16 an16 cd16 ct16), sl16⟩) (c16 : PySem.W.codeIn K cd16 "house_above" = true) (k16 : PySem.W.keepIn K (.ref f16) = true)
  (a17 : PySem.W.nsIn K mainGlobals "_law_whole" = some (some (.ref f17))) (l17 : K.lookup f17 = some ⟨oc17, od17, .func (PySem.W.fnOf "_law_whole" "_law_whole" (defArgs s__law_whole) (defBody s__law_whole) (defScope s__law_whole) .none kV17 dc17 pm17 an17 cd17 ct17), sl17⟩) (c17 : PySem.W.codeIn K cd17 "_law_whole" = true) (k17 : PySem.W.keepIn K (.ref f17) = true)
  (a18 : PySem.W.nsIn K mainGlobals "_law_cell" = some (some (.ref f18))) (l18 : K.lookup f18 = some ⟨oc18, od18, .func (PySem.W.fnOf "_law_cell" "_law_cell" (defArgs s__law_cell) (defBody s__law_cell) (defScope s__law_cell) .none kV18 dc18 pm18 an18 cd18 ct18), sl18⟩) (c18 : PySem.W.codeIn K cd18 "_law_cell" = true) (k18 : PySem.W.keepIn K (.ref f18) = true)
  (a19 : PySem.W.nsIn K mainGlobals "_law_mixed" = some (some (.ref f19))) (l19 : K.lookup f19 = some ⟨oc19, od19, .func (PySem.W.fnOf "_law_mixed" "_law_mixed" (defArgs s__law_mixed) (defBody s__law_mixed) (defScope s__law_mixed) .none kV19 dc19 pm19 an19 cd19 ct19), sl19⟩) (c19 : PySem.W.codeIn K cd19 "_law_mixed" = true) (k19 : PySem.W.keepIn K (.ref f19) = true)
  (a20 : PySem.W.nsIn K mainGlobals "_law_divisor" = some (some (.ref f20))) (l20 : K.lookup f20 = some ⟨oc20, od20, .func (PySem.W.fnOf "_law_divisor" "_law_divisor" (defArgs s__law_divisor) (defBody s__law_divisor) (defScope s__law_divisor) .none kV20 dc20 pm20 an20 cd20 ct20), sl20⟩) (c20 : PySem.W.codeIn K cd20 "_law_divisor" = true) (k20 : PySem.W.keepIn K (.ref f20) = true)
  (a21 : PySem.W.nsIn K mainGlobals "_law_of_coins" = some (some (.ref f21))) (l21 : K.lookup f21 = some ⟨oc21, od21, .func (PySem.W.fnOf "_law_of_coins" "_law_of_coins" (defArgs s__law_of_coins) (defBody s__law_of_coins) (defScope s__law_of_coins) .none kV21 dc21 pm21 an21 cd21 ct21), sl21⟩) (c21 : PySem.W.codeIn K cd21 "_law_of_coins" = true) (k21 : PySem.W.keepIn K (.ref f21) = true)
  (a22 : PySem.W.nsIn K mainGlobals "_law_stays_closed" = some (some (.ref f22))) (l22 : K.lookup f22 = some ⟨oc22, od22, .func (PySem.W.fnOf "_law_stays_closed" "_law_stays_closed" (defArgs s__law_stays_closed) (defBody s__law_stays_closed) (defScope s__law_stays_closed) .none kV22 dc22 pm22 an22 cd22 ct22), sl22⟩) (c22 : PySem.W.codeIn K cd22 "_law_stays_closed" = true) (k22 : PySem.W.keepIn K (.ref f22) = true)
  (a23 : PySem.W.nsIn K mainGlobals "_law_one_by_one" = some (some (.ref f23))) (l23 : K.lookup f23 = some ⟨oc23, od23, .func (PySem.W.fnOf "_law_one_by_one" "_law_one_by_one" (defArgs s__law_one_by_one) (defBody s__law_one_by_one) (defScope s__law_one_by_one) .none kV23 dc23 pm23 an23 cd23 ct23), sl23⟩) (c23 : PySem.W.codeIn K cd23 "_law_one_by_one" = true) (k23 : PySem.W.keepIn K (.ref f23) = true)
  (a24 : PySem.W.nsIn K mainGlobals "_law_gaps" = some (some (.ref f24))) (l24 : K.lookup f24 = some ⟨oc24, od24, .func (PySem.W.fnOf "_law_gaps" "_law_gaps" (defArgs s__law_gaps) (defBody s__law_gaps) (defScope s__law_gaps) .none kV24 dc24 pm24 an24 cd24 ct24), sl24⟩) (c24 : PySem.W.codeIn K cd24 "_law_gaps" = true) (k24 : PySem.W.keepIn K (.ref f24) = true)
  (a25 : PySem.W.nsIn K mainGlobals "_law_house" = some (some (.ref f25))) (l25 : K.lookup f25 = some ⟨oc25, od25, .func (PySem.W.fnOf "_law_house" "_law_house" (defArgs s__law_house) (defBody s__law_house) (defScope s__law_house) .none kV25 dc25 pm25 an25 cd25 ct25), sl25⟩) (c25 : PySem.W.codeIn K cd25 "_law_house" = true) (k25 : PySem.W.keepIn K (.ref f25) = true)
  (a26 : PySem.W.nsIn K mainGlobals "_law_more" = some (some (.ref f26))) (l26 : K.lookup f26 = some ⟨oc26, od26, .func (PySem.W.fnOf "_law_more" "_law_more" (defArgs s__law_more) (defBody s__law_more) (defScope s__law_more) .none kV26 dc26 pm26 an26 cd26 ct26), sl26⟩) (c26 : PySem.W.codeIn K cd26 "_law_more" = true) (k26 : PySem.W.keepIn K (.ref f26) = true)
  (a27 : PySem.W.nsIn K mainGlobals "_law_numbers" = some (some (.ref f27))) (l27 : K.lookup f27 = some ⟨oc27, od27, .func (PySem.W.fnOf "_law_numbers" "_law_numbers" (defArgs s__law_numbers) (defBody s__law_numbers) (defScope s__law_numbers) .none kV27 dc27 pm27 an27 cd27 ct27), sl27⟩) (c27 : PySem.W.codeIn K cd27 "_law_numbers" = true) (k27 : PySem.W.keepIn K (.ref f27) = true)
  (a28 : PySem.W.nsIn K mainGlobals "_law_houses" = some (some (.ref f28))) (l28 : K.lookup f28 = some ⟨oc28, od28, .func (PySem.W.fnOf "_law_houses" "_law_houses" (defArgs s__law_houses) (defBody s__law_houses) (defScope s__law_houses) .none kV28 dc28 pm28 an28 cd28 ct28), sl28⟩) (c28 : PySem.W.codeIn K cd28 "_law_houses" = true) (k28 : PySem.W.keepIn K (.ref f28) = true)
  (a29 : PySem.W.nsIn K mainGlobals "_law_parent" = some (some (.ref f29))) (l29 : K.lookup f29 = some ⟨oc29, od29, .func (PySem.W.fnOf "_law_parent" "_law_parent" (defArgs s__law_parent) (defBody s__law_parent) (defScope s__law_parent) .none kV29 dc29 pm29 an29 cd29 ct29), sl29⟩) (c29 : PySem.W.codeIn K cd29 "_law_parent" = true) (k29 : PySem.W.keepIn K (.ref f29) = true)
  (a30 : PySem.W.nsIn K mainGlobals "_law_of_two" = some (some (.ref f30))) (l30 : K.lookup f30 = some ⟨oc30, od30, .func (PySem.W.fnOf "_law_of_two" "_law_of_two" (defArgs s__law_of_two) (defBody s__law_of_two) (defScope s__law_of_two) .none kV30 dc30 pm30 an30 cd30 ct30), sl30⟩) (c30 : PySem.W.codeIn K cd30 "_law_of_two" = true) (k30 : PySem.W.keepIn K (.ref f30) = true)
  (a31 : PySem.W.nsIn K mainGlobals "_law_too_long" = some (some (.ref f31))) (l31 : K.lookup f31 = some ⟨oc31, od31, .func (PySem.W.fnOf "_law_too_long" "_law_too_long" (defArgs s__law_too_long) (defBody s__law_too_long) (defScope s__law_too_long) .none kV31 dc31 pm31 an31 cd31 ct31), sl31⟩) (c31 : PySem.W.codeIn K cd31 "_law_too_long" = true) (k31 : PySem.W.keepIn K (.ref f31) = true)
  (a32 : PySem.W.nsIn K mainGlobals "_law_long" = some (some (.ref f32))) (l32 : K.lookup f32 = some ⟨oc32, od32, .func (PySem.W.fnOf "_law_long" "_law_long" (defArgs s__law_long) (defBody s__law_long) (defScope s__law_long) .none kV32 dc32 pm32 an32 cd32 ct32), sl32⟩) (c32 : PySem.W.codeIn K cd32 "_law_long" = true) (k32 : PySem.W.keepIn K (.ref f32) = true)
  (a33 : PySem.W.nsIn K mainGlobals "law" = some (some (.ref f33))) (l33 : K.lookup f33 = some ⟨oc33, od33, .func (PySem.W.fnOf "law" "law" (defArgs s_law) (defBody s_law) (defScope s_law) .none kV33 dc33 pm33 an33 cd33 ct33), sl33⟩) (c33 : PySem.W.codeIn K cd33 "law" = true) (k33 : PySem.W.keepIn K (.ref f33) = true)
  (m0 : PySem.W.nsIn K mainGlobals "LONGEST_HOUSE" = some (some (.int 1000 u0)))
  (ca_PayError : PySem.W.nsIn K mainGlobals "PayError" = some (some (.ref C_PayError)))
  (ca_NoCoins : PySem.W.nsIn K mainGlobals "NoCoins" = some (some (.ref C_NoCoins)))
  (ca_NoPaying : PySem.W.nsIn K mainGlobals "NoPaying" = some (some (.ref C_NoPaying)))
  (ca_NoSum : PySem.W.nsIn K mainGlobals "NoSum" = some (some (.ref C_NoSum)))
  (ca_Shared : PySem.W.nsIn K mainGlobals "Shared" = some (some (.ref C_Shared)))
  (ca_TooMany : PySem.W.nsIn K mainGlobals "TooMany" = some (some (.ref C_TooMany)))
  (ca_NoOne : PySem.W.nsIn K mainGlobals "NoOne" = some (some (.ref C_NoOne)))
  (ca_NoGaps : PySem.W.nsIn K mainGlobals "NoGaps" = some (some (.ref C_NoGaps)))
  (ca_Unclosed : PySem.W.nsIn K mainGlobals "Unclosed" = some (some (.ref C_Unclosed)))
  (ca_NoChange : PySem.W.nsIn K mainGlobals "NoChange" = some (some (.ref C_NoChange)))
  (ca_TooLittle : PySem.W.nsIn K mainGlobals "TooLittle" = some (some (.ref C_TooLittle)))
  (cx_TooMany : PySem.W.excIn K C_TooMany [.type "ValueError", .type "Exception", .type "BaseException", .type "object"] "ValueError.__new__" = true)
  (e1_TooMany : PySem.W.findIn K (.ref C_TooMany) "__getattribute__" = some (some (.builtin "BaseException.__getattribute__")))
  (e2_TooMany : PySem.W.findIn K (.ref C_TooMany) "__getattr__" = some none)
  (e3_TooMany : PySem.W.findIn K (.ref C_TooMany) "__class__" = some (some (.builtin "object.__class__")))
  (e4_TooMany : PySem.W.mroIn K C_TooMany (.type "BaseException") = some true)
  (e5_TooMany : PySem.W.mroIn K C_TooMany (.type "object") = some true)
  (e6_TooMany : PySem.W.clsIn K C_TooMany = some cd_TooMany)
  (et_TooMany : PySem.W.exmOne K (.ref C_TooMany) (.ref C_PayError) = some true)
  (ev_TooMany : PySem.W.kitOne K (.ref C_TooMany) (.type "ValueError") = some true)
  (ek_TooMany_PayError : PySem.W.kitOne K (.ref C_TooMany) (.ref C_PayError) = some true)
  (ek_TooMany_NoCoins : PySem.W.kitOne K (.ref C_TooMany) (.ref C_NoCoins) = some false)
  (ek_TooMany_NoPaying : PySem.W.kitOne K (.ref C_TooMany) (.ref C_NoPaying) = some false)
  (ek_TooMany_NoSum : PySem.W.kitOne K (.ref C_TooMany) (.ref C_NoSum) = some false)
  (ek_TooMany_Shared : PySem.W.kitOne K (.ref C_TooMany) (.ref C_Shared) = some false)
  (ek_TooMany_TooMany : PySem.W.kitOne K (.ref C_TooMany) (.ref C_TooMany) = some true)
  (ek_TooMany_NoOne : PySem.W.kitOne K (.ref C_TooMany) (.ref C_NoOne) = some false)
  (ek_TooMany_NoGaps : PySem.W.kitOne K (.ref C_TooMany) (.ref C_NoGaps) = some false)
  (ek_TooMany_Unclosed : PySem.W.kitOne K (.ref C_TooMany) (.ref C_Unclosed) = some false)
  (ek_TooMany_NoChange : PySem.W.kitOne K (.ref C_TooMany) (.ref C_NoChange) = some false)
  (ek_TooMany_TooLittle : PySem.W.kitOne K (.ref C_TooMany) (.ref C_TooLittle) = some false)
  (e1_Unclosed : PySem.W.findIn K (.ref C_Unclosed) "__getattribute__" = some (some (.builtin "BaseException.__getattribute__")))
  (e2_Unclosed : PySem.W.findIn K (.ref C_Unclosed) "__getattr__" = some none)
  (e3_Unclosed : PySem.W.findIn K (.ref C_Unclosed) "__class__" = some (some (.builtin "object.__class__")))
  (e4_Unclosed : PySem.W.mroIn K C_Unclosed (.type "BaseException") = some true)
  (e5_Unclosed : PySem.W.mroIn K C_Unclosed (.type "object") = some true)
  (e6_Unclosed : PySem.W.clsIn K C_Unclosed = some cd_Unclosed)
  (et_Unclosed : PySem.W.exmOne K (.ref C_Unclosed) (.ref C_PayError) = some true)
  (ev_Unclosed : PySem.W.kitOne K (.ref C_Unclosed) (.type "ValueError") = some true)
  (ek_Unclosed_PayError : PySem.W.kitOne K (.ref C_Unclosed) (.ref C_PayError) = some true)
  (ek_Unclosed_NoCoins : PySem.W.kitOne K (.ref C_Unclosed) (.ref C_NoCoins) = some false)
  (ek_Unclosed_NoPaying : PySem.W.kitOne K (.ref C_Unclosed) (.ref C_NoPaying) = some false)
  (ek_Unclosed_NoSum : PySem.W.kitOne K (.ref C_Unclosed) (.ref C_NoSum) = some false)
  (ek_Unclosed_Shared : PySem.W.kitOne K (.ref C_Unclosed) (.ref C_Shared) = some false)
  (ek_Unclosed_TooMany : PySem.W.kitOne K (.ref C_Unclosed) (.ref C_TooMany) = some false)
  (ek_Unclosed_NoOne : PySem.W.kitOne K (.ref C_Unclosed) (.ref C_NoOne) = some false)
  (ek_Unclosed_NoGaps : PySem.W.kitOne K (.ref C_Unclosed) (.ref C_NoGaps) = some false)
  (ek_Unclosed_Unclosed : PySem.W.kitOne K (.ref C_Unclosed) (.ref C_Unclosed) = some true)
  (ek_Unclosed_NoChange : PySem.W.kitOne K (.ref C_Unclosed) (.ref C_NoChange) = some false)
  (ek_Unclosed_TooLittle : PySem.W.kitOne K (.ref C_Unclosed) (.ref C_TooLittle) = some false)
  (cx_PayError : PySem.W.excIn K C_PayError [.type "ValueError", .type "Exception", .type "BaseException", .type "object"] "ValueError.__new__" = true)
  (xl_Unclosed : K.lookup C_Unclosed = some (excClassObj nm_Unclosed qn_Unclosed C_Unclosed N_Unclosed bs_Unclosed (.ref C_PayError :: PySem.W.bmV) true sn_Unclosed sub_Unclosed ab_Unclosed col_Unclosed dd_Unclosed k0_Unclosed k1_Unclosed k2_Unclosed k3_Unclosed k5_Unclosed "ValueError.__new__")) (xn_Unclosed : K.lookup N_Unclosed = some ⟨nc_Unclosed, nd_Unclosed, .dict es_Unclosed nn_Unclosed, ns_Unclosed⟩) (xo_Unclosed : (es_Unclosed.all fun e => match e.key with | .str _ _ => true | _ => false) = true) (a34 : PySem.W.nsIn K N_Unclosed "__init__" = some (some (.ref f34))) (l34 : K.lookup f34 = some ⟨oc34, od34, .func (PySem.W.fnOf "__init__" "Unclosed.__init__" (defArgs s_Unclosed___init__) (defBody s_Unclosed___init__) (defScope s_Unclosed___init__) .none kV34 dc34 pm34 an34 cd34 ct34), sl34⟩) (c34 : PySem.W.codeIn K cd34 "Unclosed.__init__" = true) (k34 : PySem.W.keepIn K (.ref f34) = true) (i34 : PySem.W.isFn K (.ref f34) = true) (xk_Unclosed : PySem.W.keepIn K (.ref C_Unclosed) = true) (xs_Unclosed : PySem.W.findIn K (.ref C_Unclosed) "__setattr__" = some (some (.builtin "object.__setattr__"))) (xd_Unclosed : PySem.W.hasDictIn K C_Unclosed = true) (xf_Unclosed_one : PySem.W.findIn K (.ref C_Unclosed) "one" = some none) (xt_Unclosed_one : PySem.W.takerIn K C_Unclosed "one" = some none) (xf_Unclosed_other : PySem.W.findIn K (.ref C_Unclosed) "other" = some none) (xt_Unclosed_other : PySem.W.takerIn K C_Unclosed "other" = some none)
  (z0 : PySem.W.nsIn K mainGlobals "len" = some none)
  (z1 : PySem.W.nsIn K mainGlobals "isinstance" = some none)
  (z2 : PySem.W.nsIn K mainGlobals "int" = some none)
  (z3 : PySem.W.nsIn K mainGlobals "bool" = some none)
  (z4 : PySem.W.nsIn K mainGlobals "all" = some none)
  (z5 : PySem.W.nsIn K mainGlobals "any" = some none)
  (z6 : PySem.W.nsIn K mainGlobals "set" = some none)
  (z7 : PySem.W.nsIn K mainGlobals "range" = some none)
  (z8 : PySem.W.nsIn K mainGlobals "list" = some none)
  (z9 : PySem.W.nsIn K mainGlobals "abs" = some none)
  (z10 : PySem.W.nsIn K mainGlobals "min" = some none)
  (z11 : PySem.W.nsIn K mainGlobals "max" = some none)
  (z12 : PySem.W.nsIn K mainGlobals "sum" = some none)
  (z13 : PySem.W.nsIn K mainGlobals "sorted" = some none)
  (z14 : PySem.W.nsIn K mainGlobals "zip" = some none)
  (z15 : PySem.W.nsIn K mainGlobals "enumerate" = some none)
  (z16 : PySem.W.nsIn K mainGlobals "tuple" = some none)
  (z17 : PySem.W.nsIn K mainGlobals "str" = some none)
  (z18 : PySem.W.nsIn K mainGlobals "dict" = some none)
  (z19 : PySem.W.nsIn K mainGlobals "ValueError" = some none)
  (z20 : PySem.W.nsIn K mainGlobals "reversed" = some none) :
  ∃ fd : FuncData, (∀ (s : Shared) (v : Value), BindsTo s fd ⟨[v], []⟩ [("_law_script", v)]) ∧ ∀ base : Heap, K.In base → base.Ns mainGlobals mg → FnOk l.prog w K mg base (CX1 l.prog w) 10 fa fd ["_law_script"] (sLaw K) := by
 have e := hfa.symm.trans (PySem.W.mg_of X GN a33)
 cases e
 have B : Blt mg := ⟨PySem.W.mg_none_of X GN z0, PySem.W.mg_none_of X GN z1, PySem.W.mg_none_of X GN z2, PySem.W.mg_none_of X GN z3, PySem.W.mg_none_of X GN z4, PySem.W.mg_none_of X GN z5, PySem.W.mg_none_of X GN z6, PySem.W.mg_none_of X GN z7, PySem.W.mg_none_of X GN z8, PySem.W.mg_none_of X GN z9, PySem.W.mg_none_of X GN z10, PySem.W.mg_none_of X GN z11, PySem.W.mg_none_of X GN z12, PySem.W.mg_none_of X GN z13, PySem.W.mg_none_of X GN z14, PySem.W.mg_none_of X GN z15, PySem.W.mg_none_of X GN z16, PySem.W.mg_none_of X GN z17, PySem.W.mg_none_of X GN z18, PySem.W.mg_none_of X GN z19, PySem.W.mg_none_of X GN z20⟩
 have mc_LONGEST_HOUSE := PySem.W.mg_of X GN m0
 obtain ⟨ER, hER_Unclosed, hER_PayError⟩ : ∃ R : Errs K mg, R.a_Unclosed = C_Unclosed ∧ R.a_PayError = C_PayError := ⟨⟨C_PayError, PySem.W.mg_of X GN ca_PayError, C_NoCoins, PySem.W.mg_of X GN ca_NoCoins, C_NoPaying, PySem.W.mg_of X GN ca_NoPaying, C_NoSum, PySem.W.mg_of X GN ca_NoSum, C_Shared, PySem.W.mg_of X GN ca_Shared, C_TooMany, PySem.W.mg_of X GN ca_TooMany, C_NoOne, PySem.W.mg_of X GN ca_NoOne, C_NoGaps, PySem.W.mg_of X GN ca_NoGaps, C_Unclosed, PySem.W.mg_of X GN ca_Unclosed, C_NoChange, PySem.W.mg_of X GN ca_NoChange, C_TooLittle, PySem.W.mg_of X GN ca_TooLittle, cx_TooMany, ⟨e1_TooMany, e2_TooMany, e3_TooMany, e4_TooMany, e5_TooMany, fun z => by rw [z] at e6_TooMany; cases e6_TooMany⟩, et_TooMany, ev_TooMany, ek_TooMany_PayError, ek_TooMany_NoCoins, ek_TooMany_NoPaying, ek_TooMany_NoSum, ek_TooMany_Shared, ek_TooMany_TooMany, ek_TooMany_NoOne, ek_TooMany_NoGaps, ek_TooMany_Unclosed, ek_TooMany_NoChange, ek_TooMany_TooLittle, ⟨⟨_, by unfold PySem.W.clsIn; rw [xl_Unclosed], rfl, rfl⟩, xs_Unclosed⟩, xd_Unclosed, xf_Unclosed_one, xt_Unclosed_one, xf_Unclosed_other, xt_Unclosed_other, ⟨e1_Unclosed, e2_Unclosed, e3_Unclosed, e4_Unclosed, e5_Unclosed, fun z => by rw [z] at e6_Unclosed; cases e6_Unclosed⟩, et_Unclosed, ev_Unclosed, ek_Unclosed_PayError, ek_Unclosed_NoCoins, ek_Unclosed_NoPaying, ek_Unclosed_NoSum, ek_Unclosed_Shared, ek_Unclosed_TooMany, ek_Unclosed_NoOne, ek_Unclosed_NoGaps, ek_Unclosed_Unclosed, ek_Unclosed_NoChange, ek_Unclosed_TooLittle⟩, rfl, rfl⟩
 subst hER_Unclosed
 subst hER_PayError
 have F0 := fun_mk (st := s_is_number) l0 c0 k0
 have b0 := F0.binds (ps := ["thing"]) fun _ _ _ _ _ _ us hl => by obtain ⟨u0, rfl⟩ := len_1 hl; rfl
 have F1 := fun_mk (st := s_check_sum_from) l1 c1 k1
 have b1 := F1.binds (ps := ["least", "amount"]) fun _ _ _ _ _ _ us hl => by obtain ⟨u0, u1, rfl⟩ := len_2 hl; rfl
 have F2 := fun_mk (st := s_share_of_two) l2 c2 k2
 have b2 := F2.binds (ps := ["one", "other"]) fun _ _ _ _ _ _ us hl => by obtain ⟨u0, u1, rfl⟩ := len_2 hl; rfl
 have F3 := fun_mk (st := s_with_coin) l3 c3 k3
 have b3 := F3.binds (ps := ["sums", "coin"]) fun _ _ _ _ _ _ us hl => by obtain ⟨u0, u1, rfl⟩ := len_2 hl; rfl
 have F4 := fun_mk (st := s_lower_next) l4 c4 k4
 have b4 := F4.binds (ps := ["sums", "place", "coin"]) fun _ _ _ _ _ _ us hl => by obtain ⟨u0, u1, u2, rfl⟩ := len_3 hl; rfl
 have F5 := fun_mk (st := s_lower_rest) l5 c5 k5
 have b5 := F5.binds (ps := ["sums", "amount"]) fun _ _ _ _ _ _ us hl => by obtain ⟨u0, u1, rfl⟩ := len_2 hl; rfl
 have F6 := fun_mk (st := s_greatest_gap) l6 c6 k6
 have b6 := F6.binds (ps := ["house"]) fun _ _ _ _ _ _ us hl => by obtain ⟨u0, rfl⟩ := len_1 hl; rfl
 have F7 := fun_mk (st := s_needed_coins) l7 c7 k7
 have b7 := F7.binds (ps := ["house"]) fun _ _ _ _ _ _ us hl => by obtain ⟨u0, rfl⟩ := len_1 hl; rfl
 have F8 := fun_mk (st := s_is_parted) l8 c8 k8
 have b8 := F8.binds (ps := ["house", "least"]) fun _ _ _ _ _ _ us hl => by obtain ⟨u0, u1, rfl⟩ := len_2 hl; rfl
 have F9 := fun_mk (st := s_sums_by_rests) l9 c9 k9
 have b9 := F9.binds (ps := ["given", "step", "size"]) fun _ _ _ _ _ _ us hl => by obtain ⟨u0, u1, u2, rfl⟩ := len_3 hl; rfl
 have F10 := fun_mk (st := s_first_from) l10 c10 k10
 have b10 := F10.binds (ps := ["start", "rest", "size"]) fun _ _ _ _ _ _ us hl => by obtain ⟨u0, u1, u2, rfl⟩ := len_3 hl; rfl
 have F11 := fun_mk (st := s_filled) l11 c11 k11
 have b11 := F11.binds (ps := ["house", "start"]) fun _ _ _ _ _ _ us hl => by obtain ⟨u0, u1, rfl⟩ := len_2 hl; rfl
 have F12 := fun_mk (st := s_house_by_sums) l12 c12 k12
 have b12 := F12.binds (ps := ["sums"]) fun _ _ _ _ _ _ us hl => by obtain ⟨u0, rfl⟩ := len_1 hl; rfl
 have F13 := fun_mk (st := s_parent_of) l13 c13 k13
 have b13 := F13.binds (ps := ["house"]) fun _ _ _ _ _ _ us hl => by obtain ⟨u0, rfl⟩ := len_1 hl; rfl
 have F14 := fun_mk (st := s_children_of) l14 c14 k14
 have b14 := F14.binds (ps := ["house"]) fun _ _ _ _ _ _ us hl => by obtain ⟨u0, rfl⟩ := len_1 hl; rfl
 have F15 := fun_mk (st := s_without_coin) l15 c15 k15
 have b15 := F15.binds (ps := ["house", "coin"]) fun _ _ _ _ _ _ us hl => by obtain ⟨u0, u1, rfl⟩ := len_2 hl; rfl
 have F16 := fun_mk (st := s_house_above) l16 c16 k16
 have b16 := F16.binds (ps := ["gap"]) fun _ _ _ _ _ _ us hl => by obtain ⟨u0, rfl⟩ := len_1 hl; rfl
 have F17 := fun_mk (st := s__law_whole) l17 c17 k17
 have b17 := F17.binds (ps := ["_law_found"]) fun _ _ _ _ _ _ us hl => by obtain ⟨u0, rfl⟩ := len_1 hl; rfl
 have F18 := fun_mk (st := s__law_cell) l18 c18 k18
 have b18 := F18.binds (ps := ["_law_script", "_law_k"]) fun _ _ _ _ _ _ us hl => by obtain ⟨u0, u1, rfl⟩ := len_2 hl; rfl
 have F19 := fun_mk (st := s__law_mixed) l19 c19 k19
 have b19 := F19.binds (ps := ["_law_script", "_law_k"]) fun _ _ _ _ _ _ us hl => by obtain ⟨u0, u1, rfl⟩ := len_2 hl; rfl
 have F20 := fun_mk (st := s__law_divisor) l20 c20 k20
 have b20 := F20.binds (ps := ["_law_one", "_law_other"]) fun _ _ _ _ _ _ us hl => by obtain ⟨u0, u1, rfl⟩ := len_2 hl; rfl
 have F21 := fun_mk (st := s__law_of_coins) l21 c21 k21
 have b21 := F21.binds (ps := ["_law_script"]) fun _ _ _ _ _ _ us hl => by obtain ⟨u0, rfl⟩ := len_1 hl; rfl
 have F22 := fun_mk (st := s__law_stays_closed) l22 c22 k22
 have b22 := F22.binds (ps := ["_law_gaps_here", "_law_number"]) fun _ _ _ _ _ _ us hl => by obtain ⟨u0, u1, rfl⟩ := len_2 hl; rfl
 have F23 := fun_mk (st := s__law_one_by_one) l23 c23 k23
 have b23 := F23.binds (ps := ["_law_script"]) fun _ _ _ _ _ _ us hl => by obtain ⟨u0, rfl⟩ := len_1 hl; rfl
 have F24 := fun_mk (st := s__law_gaps) l24 c24 k24
 have b24 := F24.binds (ps := ["_law_script"]) fun _ _ _ _ _ _ us hl => by obtain ⟨u0, rfl⟩ := len_1 hl; rfl
 have F25 := fun_mk (st := s__law_house) l25 c25 k25
 have b25 := F25.binds (ps := ["_law_gaps_here"]) fun _ _ _ _ _ _ us hl => by obtain ⟨u0, rfl⟩ := len_1 hl; rfl
 have F26 := fun_mk (st := s__law_more) l26 c26 k26
 have b26 := F26.binds (ps := ["_law_gaps_here"]) fun _ _ _ _ _ _ us hl => by obtain ⟨u0, rfl⟩ := len_1 hl; rfl
 have F27 := fun_mk (st := s__law_numbers) l27 c27 k27
 have b27 := F27.binds (ps := ["_law_found", "_law_due"]) fun _ _ _ _ _ _ us hl => by obtain ⟨u0, u1, rfl⟩ := len_2 hl; rfl
 have F28 := fun_mk (st := s__law_houses) l28 c28 k28
 have b28 := F28.binds (ps := ["_law_found", "_law_due"]) fun _ _ _ _ _ _ us hl => by obtain ⟨u0, u1, rfl⟩ := len_2 hl; rfl
 have F29 := fun_mk (st := s__law_parent) l29 c29 k29
 have b29 := F29.binds (ps := ["_law_house_here", "_law_due"]) fun _ _ _ _ _ _ us hl => by obtain ⟨u0, u1, rfl⟩ := len_2 hl; rfl
 have F30 := fun_mk (st := s__law_of_two) l30 c30 k30
 have b30 := F30.binds (ps := ["_law_last"]) fun _ _ _ _ _ _ us hl => by obtain ⟨u0, rfl⟩ := len_1 hl; rfl
 have F31 := fun_mk (st := s__law_too_long) l31 c31 k31
 have b31 := F31.binds (ps := []) fun _ _ _ _ _ _ us hl => by obtain rfl := len_0 hl; rfl
 have F32 := fun_mk (st := s__law_long) l32 c32 k32
 have b32 := F32.binds (ps := ["_law_script"]) fun _ _ _ _ _ _ us hl => by obtain ⟨u0, rfl⟩ := len_1 hl; rfl
 have F33 := fun_mk (st := s_law) l33 c33 k33
 have F34 := fun_mk (st := s_Unclosed___init__) l34 c34 k34
 have b34 := F34.binds (ps := ["self", "one", "other"]) fun _ _ _ _ _ _ us hl => by obtain ⟨u0, u1, u2, rfl⟩ := len_3 hl; rfl
 refine ⟨PySem.W.fnOf "law" "law" (defArgs s_law) (defBody s_law) (defScope s_law) .none kV33 dc33 pm33 an33 cd33 ct33, fun s v => .of_eq rfl, fun base _ _ => ?_⟩
 have g__law_stays_closed : G l.prog w K mg base (CX1 l.prog w) "_law_stays_closed" _ _ _ := ⟨_, _, PySem.W.mg_of X GN a22, k22, b22, ok__law_stays_closed F22 B ER⟩
 have g__law_cell : G l.prog w K mg base (CX1 l.prog w) "_law_cell" _ _ _ := ⟨_, _, PySem.W.mg_of X GN a18, k18, b18, ok__law_cell F18 B ER⟩
 have g__law_mixed : G l.prog w K mg base (CX1 l.prog w) "_law_mixed" _ _ _ := ⟨_, _, PySem.W.mg_of X GN a19, k19, b19, ok__law_mixed F19 ER g__law_cell⟩
 have g__law_one_by_one : G l.prog w K mg base (CX1 l.prog w) "_law_one_by_one" _ _ _ := ⟨_, _, PySem.W.mg_of X GN a23, k23, b23, ok__law_one_by_one F23 B ER g__law_mixed g__law_stays_closed⟩
 have g__law_divisor : G l.prog w K mg base (CX1 l.prog w) "_law_divisor" _ _ _ := ⟨_, _, PySem.W.mg_of X GN a20, k20, b20, ok__law_divisor F20 ER⟩
 have g__law_of_coins : G l.prog w K mg base (CX1 l.prog w) "_law_of_coins" _ _ _ := ⟨_, _, PySem.W.mg_of X GN a21, k21, b21, ok__law_of_coins F21 B ER g__law_mixed g__law_divisor⟩
 have g__law_gaps : G l.prog w K mg base (CX1 l.prog w) "_law_gaps" _ _ _ := ⟨_, _, PySem.W.mg_of X GN a24, k24, b24, ok__law_gaps F24 B ER g__law_mixed g__law_of_coins g__law_one_by_one⟩
 have g__law_house : G l.prog w K mg base (CX1 l.prog w) "_law_house" _ _ _ := ⟨_, _, PySem.W.mg_of X GN a25, k25, b25, ok__law_house F25 B ER⟩
 have g_greatest_gap : G l.prog w K mg base (CX1 l.prog w) "greatest_gap" _ _ _ := ⟨_, _, PySem.W.mg_of X GN a6, k6, b6, ok_greatest_gap F6 B ER⟩
 have g_house_above : G l.prog w K mg base (CX1 l.prog w) "house_above" _ _ _ := ⟨_, _, PySem.W.mg_of X GN a16, k16, b16, ok_house_above F16 B ER mc_LONGEST_HOUSE⟩
 have g_without_coin : G l.prog w K mg base (CX1 l.prog w) "without_coin" _ _ _ := ⟨_, _, PySem.W.mg_of X GN a15, k15, b15, ok_without_coin F15 B ER g_house_above⟩
 have g_is_parted : G l.prog w K mg base (CX1 l.prog w) "is_parted" _ _ _ := ⟨_, _, PySem.W.mg_of X GN a8, k8, b8, ok_is_parted F8 B ER⟩
 have g_needed_coins : G l.prog w K mg base (CX1 l.prog w) "needed_coins" _ _ _ := ⟨_, _, PySem.W.mg_of X GN a7, k7, b7, ok_needed_coins F7 B ER g_is_parted⟩
 have g_children_of : G l.prog w K mg base (CX1 l.prog w) "children_of" _ _ _ := ⟨_, _, PySem.W.mg_of X GN a14, k14, b14, ok_children_of F14 ER g_greatest_gap g_needed_coins g_without_coin⟩
 have g_is_number : G l.prog w K mg base (CX1 l.prog w) "is_number" _ _ _ := ⟨_, _, PySem.W.mg_of X GN a0, k0, b0, ok_is_number F0 B ER⟩
 have g_check_sum_from : G l.prog w K mg base (CX1 l.prog w) "check_sum_from" _ _ _ := ⟨_, _, PySem.W.mg_of X GN a1, k1, b1, ok_check_sum_from F1 ER g_is_number⟩
 have g_share_of_two : G l.prog w K mg base (CX1 l.prog w) "share_of_two" _ _ _ := ⟨_, _, PySem.W.mg_of X GN a2, k2, b2, ok_share_of_two F2 ER⟩
 have g_lower_rest : G l.prog w K mg base (CX1 l.prog w) "lower_rest" _ _ _ := ⟨_, _, PySem.W.mg_of X GN a5, k5, b5, ok_lower_rest F5 B ER⟩
 have g_lower_next : G l.prog w K mg base (CX1 l.prog w) "lower_next" _ _ _ := ⟨_, _, PySem.W.mg_of X GN a4, k4, b4, ok_lower_next F4 ER g_lower_rest⟩
 have g_with_coin : G l.prog w K mg base (CX1 l.prog w) "with_coin" _ _ _ := ⟨_, _, PySem.W.mg_of X GN a3, k3, b3, ok_with_coin F3 B ER g_share_of_two g_lower_next⟩
 have g_sums_by_rests : G l.prog w K mg base (CX1 l.prog w) "sums_by_rests" _ _ _ := ⟨_, _, PySem.W.mg_of X GN a9, k9, b9, ok_sums_by_rests F9 ER g_with_coin g_lower_rest⟩
 have g_house_by_sums : G l.prog w K mg base (CX1 l.prog w) "house_by_sums" _ _ _ := ⟨_, _, PySem.W.mg_of X GN a12, k12, b12, ok_house_by_sums F12 B ER g_sums_by_rests⟩
 have g_first_from : G l.prog w K mg base (CX1 l.prog w) "first_from" _ _ _ := ⟨_, _, PySem.W.mg_of X GN a10, k10, b10, ok_first_from F10 ER⟩
 have g_filled : G l.prog w K mg base (CX1 l.prog w) "filled" _ _ _ := ⟨_, _, PySem.W.mg_of X GN a11, k11, b11, ok_filled F11 B ER g_check_sum_from g_first_from g_house_by_sums⟩
 have g_parent_of : G l.prog w K mg base (CX1 l.prog w) "parent_of" _ _ _ := ⟨_, _, PySem.W.mg_of X GN a13, k13, b13, ok_parent_of F13 ER g_greatest_gap g_filled⟩
 have g__law_whole : G l.prog w K mg base (CX1 l.prog w) "_law_whole" _ _ _ := ⟨_, _, PySem.W.mg_of X GN a17, k17, b17, ok__law_whole F17 B ER⟩
 have g__law_numbers : G l.prog w K mg base (CX1 l.prog w) "_law_numbers" _ _ _ := ⟨_, _, PySem.W.mg_of X GN a27, k27, b27, ok__law_numbers F27 B ER g__law_whole⟩
 have g__law_parent : G l.prog w K mg base (CX1 l.prog w) "_law_parent" _ _ _ := ⟨_, _, PySem.W.mg_of X GN a29, k29, b29, ok__law_parent F29 ER g_parent_of g__law_numbers⟩
 have g__law_houses : G l.prog w K mg base (CX1 l.prog w) "_law_houses" _ _ _ := ⟨_, _, PySem.W.mg_of X GN a28, k28, b28, ok__law_houses F28 B ER g__law_numbers⟩
 have g__law_of_two : G l.prog w K mg base (CX1 l.prog w) "_law_of_two" _ _ _ := ⟨_, _, PySem.W.mg_of X GN a30, k30, b30, ok__law_of_two F30 ER g_children_of g__law_houses g__law_parent⟩
 have g__law_too_long : G l.prog w K mg base (CX1 l.prog w) "_law_too_long" _ _ _ := ⟨_, _, PySem.W.mg_of X GN a31, k31, b31, ok__law_too_long F31 B ER g_children_of g__law_houses g__law_parent⟩
 have g__law_long : G l.prog w K mg base (CX1 l.prog w) "_law_long" _ _ _ := ⟨_, _, PySem.W.mg_of X GN a32, k32, b32, ok__law_long F32 B ER g_children_of g__law_mixed g__law_houses g__law_parent⟩
 have g__law_more : G l.prog w K mg base (CX1 l.prog w) "_law_more" _ _ _ := ⟨_, _, PySem.W.mg_of X GN a26, k26, b26, ok__law_more F26 B ER g__law_stays_closed g__law_house⟩
 exact ok_law F33 B ER g_children_of g__law_cell g__law_mixed g__law_gaps g__law_house g__law_more g__law_houses g__law_parent g__law_of_two g__law_too_long g__law_long
theorem walk {l : PySem.W.OpenLaw} {q : Program} {loose : List Str} {XP : (Str → Option Value) → Heap → Prop} {YP : World → Heap → Prop} {d : DefRec} {K : Params → FrK} (hn : l.most = some 63) (hdf : d.params.defaults = [])
  (hY : ∀ (w : World) (h : Heap), YP w h → (K w.params).In h)
  (F : ∀ (w : World) (mg : Str → Option Value) (fa : Addr) (h : Heap), (K w.params).In h → h.Ns mainGlobals mg → mg d.name = some (.ref fa) →
   ∃ fd : FuncData, (∀ (s : Shared) (u : Value), BindsTo s fd ⟨[u], []⟩ [("_law_script", u)]) ∧ ∀ base : Heap, (K w.params).In base → base.Ns mainGlobals mg → FnOk l.prog w (K w.params) mg base (CX1 l.prog w) 10 fa fd ["_law_script"] (sLaw (K w.params))) :
  PySem.W.WalkO q loose XP YP l.row.toRowW d [] (fun f vs => PySem.call f vs) :=
 L2.walk_of (n := 63) (k := 10) (x := "_law_script") (CX := fun w => CX1 l.prog w) (sp := fun w => sLaw (K w.params)) hn (by decide) hdf ⟨rfl, by decide, by decide⟩ hY F (fun _ _ a ns hl _ hS => ⟨ns, hS, hl, fun _ => rfl⟩) fun _ _ _ _ _ z => by obtain ⟨_, _, _, _, _, _, _, _, _, _, _, _, _, _, _, h⟩ := z; exact h
end PG
open PySem PySem.W PyProof.Rows
theorem PySem.W.Fast.tw15730053962836747519 : True := trivial
theorem PySem.W.Fast.tw5787941400113153816 : True := trivial
theorem PySem.W.Fast.tw13129556675159103147 : True := trivial
theorem PySem.W.Fast.tw11544731767897334826 : True := trivial
theorem PySem.W.Fast.tw15038450634158610046 : True := trivial
theorem PySem.W.Fast.tw4514063121551006676 : True := trivial
theorem PySem.W.Fast.tw5757668905001026318 : True := trivial
theorem PySem.W.Fast.tw17401224491964464521 : True := trivial
theorem PySem.W.Fast.tw12856861195647593771 : True := trivial
theorem PySem.W.Fast.tw2136269050066148215 : True := trivial
theorem PySem.W.Fast.tw7307834546844405120 : True := trivial
theorem PySem.W.Fast.tw7626148789137627396 : True := trivial
theorem PySem.W.Fast.tw8473756281201270227 : True := trivial
theorem PySem.W.Fast.tw4219552517286995263 : True := trivial
theorem PySem.W.Fast.tw13872514550612919985 : True := trivial
theorem PySem.W.Fast.tw960394902056827407 : True := trivial
theorem PySem.W.Fast.tw13665353228135486554 : True := trivial
theorem PySem.W.Fast.tw4601023144090613431 : True := trivial
set_option maxRecDepth 100000 in
set_option maxHeartbeats 0 in
theorem PySem.Challenge.cw_paygaps_k61_parents_and_children_holds : PySem.Challenge.rw_paygaps_k61_parents_and_children.Holds := by
 w_on; o_law; k_head; (case hw => w_witness2)
 k_fill
 refine PG.walk (l := PySem.Challenge.rw_paygaps_k61_parents_and_children) rfl rfl (fun w h Y => PySem.W.kIn_of Y) ?F
 case F =>
  intro w mg fa h KX G hmg
  refine' PG.all_mk KX G hmg ?a0 ?l0 ?c0 ?k0 ?a1 ?l1 ?c1 ?k1 ?a2 ?l2 ?c2 ?k2 ?a3 ?l3 ?c3 ?k3 ?a4 ?l4 ?c4 ?k4 ?a5 ?l5 ?c5 ?k5 ?a6 ?l6 ?c6 ?k6 ?a7 ?l7 ?c7 ?k7 ?a8 ?l8 ?c8 ?k8 ?a9 ?l9 ?c9 ?k9 ?a10 ?l10 ?c10 ?k10 ?a11 ?l11 ?c11 ?k11 ?a12 ?l12 ?c12 ?k12 ?a13 ?l13 ?c13 ?k13 ?a14 ?l14 ?c14 ?k14 ?a15 ?l15 ?c15 ?k15 ?a16 ?l16 ?c16 ?k16 ?a17 ?l17 ?c17 ?k17 ?a18 ?l18 ?c18 ?k18 ?a19 ?l19 ?c19 ?k19 ?a20 ?l20 ?c20 ?k20 ?a21 ?l21 ?c21 ?k21 ?a22 ?l22 ?c22 ?k22 ?a23 ?l23 ?c23 ?k23 ?a24 ?l24 ?c24 ?k24 ?a25 ?l25 ?c25 ?k25 ?a26 ?l26 ?c26 ?k26 ?a27 ?l27 ?c27 ?k27 ?a28 ?l28 ?c28 ?k28 ?a29 ?l29 ?c29 ?k29 ?a30 ?l30 ?c30 ?k30 ?a31 ?l31 ?c31 ?k31 ?a32 ?l32 ?c32 ?k32 ?a33 ?l33 ?c33 ?k33 ?m0 ?ca_PayError ?ca_NoCoins ?ca_NoPaying ?ca_NoSum ?ca_Shared ?ca_TooMany ?ca_NoOne ?ca_NoGaps ?ca_Unclosed ?ca_NoChange ?ca_TooLittle ?cx_TooMany ?e1_TooMany ?e2_TooMany ?e3_TooMany ?e4_TooMany ?e5_TooMany ?e6_TooMany ?et_TooMany ?ev_TooMany ?ek_TooMany_PayError ?ek_TooMany_NoCoins ?ek_TooMany_NoPaying ?ek_TooMany_NoSum ?ek_TooMany_Shared ?ek_TooMany_TooMany ?ek_TooMany_NoOne ?ek_TooMany_NoGaps ?ek_TooMany_Unclosed ?ek_TooMany_NoChange ?ek_TooMany_TooLittle ?e1_Unclosed ?e2_Unclosed ?e3_Unclosed ?e4_Unclosed ?e5_Unclosed ?e6_Unclosed ?et_Unclosed ?ev_Unclosed ?ek_Unclosed_PayError ?ek_Unclosed_NoCoins ?ek_Unclosed_NoPaying ?ek_Unclosed_NoSum ?ek_Unclosed_Shared ?ek_Unclosed_TooMany ?ek_Unclosed_NoOne ?ek_Unclosed_NoGaps ?ek_Unclosed_Unclosed ?ek_Unclosed_NoChange ?ek_Unclosed_TooLittle ?cx_PayError ?xl_Unclosed ?xn_Unclosed ?xo_Unclosed ?a34 ?l34 ?c34 ?k34 ?i34 ?xk_Unclosed ?xs_Unclosed ?xd_Unclosed ?xf_Unclosed_one ?xt_Unclosed_one ?xf_Unclosed_other ?xt_Unclosed_other ?z0 ?z1 ?z2 ?z3 ?z4 ?z5 ?z6 ?z7 ?z8 ?z9 ?z10 ?z11 ?z12 ?z13 ?z14 ?z15 ?z16 ?z17 ?z18 ?z19 ?z20
  (case a0 => k_is)
  (case l0 => k_is)
  (case c0 => k_is)
  (case k0 => k_is)
  (case a1 => k_is)
  (case l1 => k_is)
  (case c1 => k_is)
  (case k1 => k_is)
  (case a2 => k_is)
  (case l2 => k_is)
  (case c2 => k_is)
  (case k2 => k_is)
  (case a3 => k_is)
  (case l3 => k_is)
  (case c3 => k_is)
  (case k3 => k_is)
  (case a4 => k_is)
  (case l4 => k_is)
  (case c4 => k_is)
  (case k4 => k_is)
  (case a5 => k_is)
  (case l5 => k_is)
  (case c5 => k_is)
  (case k5 => k_is)
  (case a6 => k_is)
  (case l6 => k_is)
  (case c6 => k_is)
  (case k6 => k_is)
  (case a7 => k_is)
  (case l7 => k_is)
  (case c7 => k_is)
  (case k7 => k_is)
  (case a8 => k_is)
  (case l8 => k_is)
  (case c8 => k_is)
  (case k8 => k_is)
  (case a9 => k_is)
  (case l9 => k_is)
  (case c9 => k_is)
  (case k9 => k_is)
  (case a10 => k_is)
  (case l10 => k_is)
  (case c10 => k_is)
  (case k10 => k_is)
  (case a11 => k_is)
  (case l11 => k_is)
  (case c11 => k_is)
  (case k11 => k_is)
  (case a12 => k_is)
  (case l12 => k_is)
  (case c12 => k_is)
  (case k12 => k_is)
  (case a13 => k_is)
  (case l13 => k_is)
  (case c13 => k_is)
  (case k13 => k_is)
  (case a14 => k_is)
  (case l14 => k_is)
  (case c14 => k_is)
  (case k14 => k_is)
  (case a15 => k_is)
  (case l15 => k_is)
  (case c15 => k_is)
  (case k15 => k_is)
  (case a16 => k_is)
  (case l16 => k_is)
  (case c16 => k_is)
  (case k16 => k_is)
  (case a17 => k_is)
  (case l17 => k_is)
  (case c17 => k_is)
  (case k17 => k_is)
  (case a18 => k_is)
  (case l18 => k_is)
  (case c18 => k_is)
  (case k18 => k_is)
  (case a19 => k_is)
  (case l19 => k_is)
  (case c19 => k_is)
  (case k19 => k_is)
  (case a20 => k_is)
  (case l20 => k_is)
  (case c20 => k_is)
  (case k20 => k_is)
  (case a21 => k_is)
  (case l21 => k_is)
  (case c21 => k_is)
  (case k21 => k_is)
  (case a22 => k_is)
  (case l22 => k_is)
  (case c22 => k_is)
  (case k22 => k_is)
  (case a23 => k_is)
  (case l23 => k_is)
  (case c23 => k_is)
  (case k23 => k_is)
  (case a24 => k_is)
  (case l24 => k_is)
  (case c24 => k_is)
  (case k24 => k_is)
  (case a25 => k_is)
  (case l25 => k_is)
  (case c25 => k_is)
  (case k25 => k_is)
  (case a26 => k_is)
  (case l26 => k_is)
  (case c26 => k_is)
  (case k26 => k_is)
  (case a27 => k_is)
  (case l27 => k_is)
  (case c27 => k_is)
  (case k27 => k_is)
  (case a28 => k_is)
  (case l28 => k_is)
  (case c28 => k_is)
  (case k28 => k_is)
  (case a29 => k_is)
  (case l29 => k_is)
  (case c29 => k_is)
  (case k29 => k_is)
  (case a30 => k_is)
  (case l30 => k_is)
  (case c30 => k_is)
  (case k30 => k_is)
  (case a31 => k_is)
  (case l31 => k_is)
  (case c31 => k_is)
  (case k31 => k_is)
  (case a32 => k_is)
  (case l32 => k_is)
  (case c32 => k_is)
  (case k32 => k_is)
  (case a33 => k_is)
  (case l33 => k_is)
  (case c33 => k_is)
  (case k33 => k_is)
  (case m0 => k_is)
  (case ca_PayError => k_is)
  (case ca_NoCoins => k_is)
  (case ca_NoPaying => k_is)
  (case ca_NoSum => k_is)
  (case ca_Shared => k_is)
  (case ca_TooMany => k_is)
  (case ca_NoOne => k_is)
  (case ca_NoGaps => k_is)
  (case ca_Unclosed => k_is)
  (case ca_NoChange => k_is)
  (case ca_TooLittle => k_is)
  (case cx_TooMany => k_exc)
  (case e1_TooMany => k_is)
  (case e2_TooMany => k_is)
  (case e3_TooMany => k_is)
  (case e4_TooMany => k_is)
  (case e5_TooMany => k_is)
  (case e6_TooMany => k_is)
  (case et_TooMany => kts_exm)
  (case ev_TooMany => kit_is)
  (case ek_TooMany_PayError => kit_is)
  (case ek_TooMany_NoCoins => kit_is)
  (case ek_TooMany_NoPaying => kit_is)
  (case ek_TooMany_NoSum => kit_is)
  (case ek_TooMany_Shared => kit_is)
  (case ek_TooMany_TooMany => kit_is)
  (case ek_TooMany_NoOne => kit_is)
  (case ek_TooMany_NoGaps => kit_is)
  (case ek_TooMany_Unclosed => kit_is)
  (case ek_TooMany_NoChange => kit_is)
  (case ek_TooMany_TooLittle => kit_is)
  (case e1_Unclosed => k_is)
  (case e2_Unclosed => k_is)
  (case e3_Unclosed => k_is)
  (case e4_Unclosed => k_is)
  (case e5_Unclosed => k_is)
  (case e6_Unclosed => k_is)
  (case et_Unclosed => kts_exm)
  (case ev_Unclosed => kit_is)
  (case ek_Unclosed_PayError => kit_is)
  (case ek_Unclosed_NoCoins => kit_is)
  (case ek_Unclosed_NoPaying => kit_is)
  (case ek_Unclosed_NoSum => kit_is)
  (case ek_Unclosed_Shared => kit_is)
  (case ek_Unclosed_TooMany => kit_is)
  (case ek_Unclosed_NoOne => kit_is)
  (case ek_Unclosed_NoGaps => kit_is)
  (case ek_Unclosed_Unclosed => kit_is)
  (case ek_Unclosed_NoChange => kit_is)
  (case ek_Unclosed_TooLittle => kit_is)
  (case cx_PayError => k_exc)
  (case xl_Unclosed => k_is)
  (case xn_Unclosed => k_is)
  (case xo_Unclosed => first | (simp; done) | rfl | kernel_rfl)
  (case a34 => k_is)
  (case l34 => k_is)
  (case c34 => k_is)
  (case k34 => k_is)
  (case i34 => k_is)
  (case xk_Unclosed => k_is)
  (case xs_Unclosed => k_is)
  (case xd_Unclosed => k_is)
  (case xf_Unclosed_one => k_is)
  (case xt_Unclosed_one => k_is)
  (case xf_Unclosed_other => k_is)
  (case xt_Unclosed_other => k_is)
  (case z0 => k_is)
  (case z1 => k_is)
  (case z2 => k_is)
  (case z3 => k_is)
  (case z4 => k_is)
  (case z5 => k_is)
  (case z6 => k_is)
  (case z7 => k_is)
  (case z8 => k_is)
  (case z9 => k_is)
  (case z10 => k_is)
  (case z11 => k_is)
  (case z12 => k_is)
  (case z13 => k_is)
  (case z14 => k_is)
  (case z15 => k_is)
  (case z16 => k_is)
  (case z17 => k_is)
  (case z18 => k_is)
  (case z19 => k_is)
  (case z20 => k_is)
