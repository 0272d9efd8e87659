import PyProof.Rows.All
import Wide.All
import OpenK.AllK
import Wide.FinOn
import PyProof.EqAt
import PyProof.EqKinds
import PyProof.TupleCall
import Open.SpecLaws
import KE.OsHead
import KE.OsGo
import KE.BitLaws
import PySem.Challenge.RW_taperbench_s01_answers
set_option Elab.async false
set_option linter.all false
set_option maxRecDepth 100000
/-! THE HAND LAYER, for ints, bools, texts, own classes, LISTS and tuples (index, slices, in, append, pop ..), calls, loops. Paste it whole ahead of your own text; what your proof does not reach may be deleted. -/
namespace L2
open PySem PySem.Spec PyProof.Rows

/-- a key: an int or a str -/
noncomputable abbrev Key := Sum Int Str
noncomputable def keyIs : Key → Value → Bool
  | .inl k, v => Value.isInt k v
  | .inr x, v => Value.isStrOf x v
noncomputable def keyH (w : World) : Key → Int
  | .inl k => hashInt k
  | .inr x => hashStr w x
theorem keyIs_shape : ∀ {k : Key} {v : Value}, keyIs k v = true → (∃ i t, k = Sum.inl i ∧ v = Value.int i t) ∨ (∃ x t, k = Sum.inr x ∧ v = Value.str x t)
  | .inl i, v, h => by
    obtain ⟨t, e⟩ := Value.isInt_shape (k := i) (v := v) h
    exact .inl ⟨i, t, rfl, e⟩
  | .inr x, v, h => by
    obtain ⟨t, e⟩ := Value.isStrOf_shape (x := x) (v := v) h
    exact .inr ⟨x, t, rfl, e⟩
theorem key_ll (a b : Int) : decide ((Sum.inl a : Key) = Sum.inl b) = (a == b) := by
  by_cases e : a = b
  · subst e; simp
  · have h : ¬ (Sum.inl a : Key) = Sum.inl b := fun q => e (Sum.inl.inj q)
    rw [decide_eq_false h]
    exact (beq_eq_false_iff_ne.mpr e).symm
theorem key_rr (a b : Str) : decide ((Sum.inr a : Key) = Sum.inr b) = decide (a = b) := by
  by_cases e : a = b
  · subst e; simp
  · have h : ¬ (Sum.inr a : Key) = Sum.inr b := fun q => e (Sum.inr.inj q)
    rw [decide_eq_false h, decide_eq_false e]
theorem key_lr (a : Int) (b : Str) : decide ((Sum.inl a : Key) = Sum.inr b) = false := decide_eq_false (fun q => nomatch q)
theorem key_rl (a : Str) (b : Int) : decide ((Sum.inr a : Key) = Sum.inl b) = false := decide_eq_false (fun q => nomatch q)

noncomputable def mixKind (prog : Program) (w : World) : PySem.KeyKind prog w Key where
  is := keyIs
  hash := keyH w
  inj := fun v a b ha hb => by
    rcases keyIs_shape ha with ⟨i, t, rfl, rfl⟩ | ⟨x, t, rfl, rfl⟩
    · rcases keyIs_shape hb with ⟨j, u, rfl, e⟩ | ⟨y, u, rfl, e⟩
      · injection e with e1 _; rw [e1]
      · exact nomatch e
    · rcases keyIs_shape hb with ⟨j, u, rfl, e⟩ | ⟨y, u, rfl, e⟩
      · exact nomatch e
      · injection e with e1 _; rw [e1]
  byValue := fun k v h => by
    rcases keyIs_shape h with ⟨i, t, rfl, rfl⟩ | ⟨x, t, rfl, rfl⟩ <;> rfl
  pyHash := fun hv h => by
    rcases keyIs_shape hv with ⟨i, t, rfl, rfl⟩ | ⟨x, t, rfl, rfl⟩
    · exact wpAny_pyHash_int h
    · exact wpAny_pyHash_str h
  eqBool := fun hu hv h => by
    rcases keyIs_shape hu with ⟨i, t, rfl, rfl⟩ | ⟨x, t, rfl, rfl⟩
    · rcases keyIs_shape hv with ⟨j, u, rfl, rfl⟩ | ⟨y, u, rfl, rfl⟩
      · rw [key_ll] at h; exact wpAny_eqBool_int h
      · rw [key_lr] at h; exact SeqAt.EqAt.int_str i t y u _ _ _ _ h
    · rcases keyIs_shape hv with ⟨j, u, rfl, rfl⟩ | ⟨y, u, rfl, rfl⟩
      · rw [key_rl] at h; exact SeqAt.EqAt.str_int x t j u _ _ _ _ h
      · rw [key_rr] at h; exact wpAny_eqBool_str h
  «strs» := fun k x t v h => by
    rcases keyIs_shape h with ⟨i, u, rfl, e⟩ | ⟨y, u, rfl, e⟩
    · exact nomatch e
    · injection e with e1 _
      subst e1
      cases v <;> rfl

end L2

namespace L2
open PySem PySem.Spec PyProof.Rows

/-- a value, without the heap -/
inductive V where
  | non | bl (b : Bool) | int (i : Int) | str (x : Str) | byt (b : Array UInt8) | flt (b : UInt64) | ref (a : Addr) | ty (n : String)
  deriving DecidableEq

noncomputable def RelV : V → Value → Prop
  | .non, u => u = Value.none
  | .bl b, u => u = Value.bool b
  | .int i, u => ∃ t, u = Value.int i t
  | .str x, u => ∃ t, u = Value.str x t
  | .byt b, u => ∃ t, u = Value.bytes b t
  | .flt b, u => ∃ t, u = Value.float b t
  | .ref a, u => u = Value.ref a
  | .ty n, u => u = Value.type n

noncomputable abbrev Vals : List V → List Value → Prop := Paired RelV
theorem Vals.length {xs : List V} {us : List Value} (r : Vals xs us) : xs.length = us.length := Paired.length r
theorem Vals.get : ∀ {xs : List V} {us : List Value} {i : Nat} {x : V}, Vals xs us → xs[i]? = some x → ∃ u, us[i]? = some u ∧ RelV x u
  | _, _, _, _, .nil, e => by simp at e
  | _, _, 0, _, .cons r _, e => by simp at e; subst e; exact ⟨_, rfl, r⟩
  | _, _, i + 1, x, .cons _ t, e => by
    obtain ⟨u, h1, h2⟩ := Vals.get (i := i) (x := x) t (by simpa using e)
    exact ⟨u, by simpa using h1, h2⟩
theorem Vals.append : ∀ {xs ys : List V} {us ws : List Value}, Vals xs us → Vals ys ws → Vals (xs ++ ys) (us ++ ws)
  | _, _, _, _, .nil, s => s
  | _, _, _, _, .cons r t, s => .cons r (Vals.append t s)
theorem Vals.take : ∀ {xs : List V} {us : List Value} (n : Nat), Vals xs us → Vals (xs.take n) (us.take n)
  | _, _, 0, _ => .nil
  | _, _, _ + 1, .nil => .nil
  | _, _, n + 1, .cons r t => .cons r (Vals.take n t)
theorem Vals.drop : ∀ {xs : List V} {us : List Value} (n : Nat), Vals xs us → Vals (xs.drop n) (us.drop n)
  | _, _, 0, r => r
  | _, _, _ + 1, .nil => .nil
  | _, _, n + 1, .cons _ t => Vals.drop n t
noncomputable def RelO : Option V → Option Value → Prop
  | some v, some u => RelV v u
  | none, none => True
  | _, _ => False
noncomputable def KV {κ : Type} : List (κ × V) → List (κ × Value) → Prop := Paired fun (p : κ × V) (q : κ × Value) => p.1 = q.1 ∧ RelV p.2 q.2

/-- a key of a dict (00_mix): an int or a text -/
noncomputable def kV : Key → V
  | .inl i => .int i
  | .inr x => .str x

/-- what stands at a tracked address -/
inductive HO where
  /-- a list -/
  | lst (xs : List V)
  /-- a tuple (never changes) -/
  | tup (xs : List V)
  /-- a dict whose keys are ints and texts; one whose keys are tuples of ints and texts (the empty one is both) -/
  | dK (kvs : List (Key × V)) | dT (kvs : List (List Key × V))
  /-- a set of ints: its members, its size -/
  | set (S : Int → Bool) (n : Nat)
  /-- an instance of the class at C, its dict at dx, its attributes -/
  | ins (C dx : Addr) (fs : List (Str × V))
  /-- the dict of the instance at x -/
  | own (x : Addr)
  /-- the dict of an exception -/
  | xd (fs : List (Str × V))
  /-- a bound method, f of x -/
  | met (f x : Addr)
  /-- a range object lo, lo + 1, .. below hi -/
  | rng (lo hi : Int)
  /-- a thing that is known to the object (the script; a dict while a loop walks it): read, never written while it is so -/
  | frz (o : Obj) (u : HO)
  /-- a code object's table -/
  | tbl (ps : Array Value)
  /-- any other thing, by what is true of its one object (a def of one's own: SetO a S n := HO.ext fun h => ..) -/
  | ext (φ : Heap → Prop)

noncomputable abbrev Hp := Addr → Option HO
noncomputable def upd (H : Hp) (a : Addr) (o : HO) : Hp := fun b => if b = a then some o else H b
theorem upd_same {H : Hp} {a : Addr} {o : HO} : upd H a o a = some o := by unfold upd; rw [if_pos rfl]
theorem upd_ne {H : Hp} {a b : Addr} {o : HO} (h : b ≠ a) : upd H a o b = H b := by unfold upd; rw [if_neg h]
theorem upd_upd {H : Hp} {a : Addr} {o u : HO} : upd (upd H a o) a u = upd H a u := by
  funext b; unfold upd; split <;> rfl
/-- two objects of different content stand apart -/
theorem ne_of {H : Hp} {a b : Addr} {o u : HO} (h : H a = some o) (h' : H b = some u) (d : o ≠ u) : a ≠ b := by
  intro e; subst e; rw [h] at h'; exact d (Option.some.inj h')
theorem ne_of_none {H : Hp} {a b : Addr} {o : HO} (h : H a = some o) (h' : H b = none) : a ≠ b := by
  intro e; subst e; rw [h] at h'; cases h'

section
variable (P : Program) (w : World)
noncomputable def ObjOk (H : Hp) (h : Heap) (a : Addr) : HO → Prop
  | .lst xs => xs.length ≤ sizeLine ∧ ∃ (its : List Value) (n : Nat), Vals xs its ∧ h.get? a = some { cls := .type "list", data := .seq its.toArray n }
  | .tup xs => xs.length ≤ sizeLine ∧ ∃ its : List Value, Vals xs its ∧ IsTup h a its.toArray
  | .dK kvs => kvs.length ≤ sizeLine ∧ (a == sysModules) = false ∧ ∃ vs, KV kvs vs ∧ h.DictOf (mixKind P w) a vs
  | .dT kvs => kvs.length ≤ sizeLine ∧ (a == sysModules) = false ∧ ∃ xs : List (List Key × Addr × Value),
      Paired (fun (p : List Key × V) (q : List Key × Addr × Value) => p.1 = q.1 ∧ H q.2.1 = some (.tup (p.1.map kV)) ∧ RelV p.2 q.2.2) kvs xs ∧
      ∃ o es ep, h.get? a = some o ∧ o.ExactDict ∧ o.data = .dict es ep ∧ es.toList = xs.map (entryOfKey (tupleKind (mixKind P w))) ∧ (xs.map (·.1)).Nodup
  | .set S n => h.SetOf (intKind P w) a S n
  | .ins C dx fs => H dx = some (.own a) ∧ fs.length ≤ 1000 ∧ dx ≠ a ∧ h.get? a = some (PySem.W.instObj C dx) ∧
      ∃ mA, h.Ns1 dx mA ∧ (∀ f, RelO (fs.lookup f) (mA f)) ∧ PySem.Within mA (fs.map (·.1))
  | .own _ => ∃ o, h.get? a = some o
  | .xd fs => ∃ mA, h.Ns1 a mA ∧ ∀ f, RelO (fs.lookup f) (mA f)
  | .rng lo hi => ∃ t u v, h.get? a = some { cls := .type "range", data := .fields #[.int lo t, .int hi u, .int 1 v] }
  | .frz o u => h.get? a = some o ∧ ObjOk H h a u
  | .tbl ps => h.get? a = some { cls := .none, data := .fields ps }
  | .met f x => h.get? a = some (PySem.W.methodObj (.ref f) (.ref x))
  | .ext φ => φ h ∧ (∃ o, h.get? a = some o) ∧ ∀ h1 h2 : Heap, φ h1 → (∀ o, h1.get? a = some o → h2.get? a = some o) → φ h2
/-- the abstract heap is held -/
noncomputable def HOk (H : Hp) (h : Heap) : Prop := ∀ a o, H a = some o → ObjOk P w H h a o
end

section
variable {P : Program} {w : World} {H H' : Hp} {h h' : Heap} {a : Addr} {o : HO}
theorem ObjOk.lt (x : ObjOk P w H h a o) : a < h.objs.size := by
  cases o with
  | lst xs => obtain ⟨_, _, _, _, e⟩ := x; exact Heap.lt_size e
  | tup xs => obtain ⟨_, _, _, p⟩ := x; exact p.lt
  | dK kvs => obtain ⟨_, _, _, _, o, _, _, e, _⟩ := x; exact Heap.lt_size e
  | dT kvs => obtain ⟨_, _, _, _, o, _, _, e, _⟩ := x; exact Heap.lt_size e
  | set S n => obtain ⟨o, _, _, _, e, _⟩ := x; exact Heap.lt_size e
  | ins C dx fs => obtain ⟨_, _, _, e, _⟩ := x; exact Heap.lt_size e
  | own y => obtain ⟨_, e⟩ := x; exact Heap.lt_size e
  | xd fs => obtain ⟨_, ⟨_, _, _, e, _⟩, _⟩ := x; exact Heap.lt_size e
  | rng lo hi => obtain ⟨_, _, _, e⟩ := x; exact Heap.lt_size e
  | frz ob u => obtain ⟨e, _⟩ := x; exact Heap.lt_size e
  | tbl ps => exact Heap.lt_size (show h.get? a = some _ from x)
  | met f y => exact Heap.lt_size (show h.get? a = some _ from x)
  | ext φ => obtain ⟨_, ⟨_, e⟩, _⟩ := x; exact Heap.lt_size e
theorem Paired.mapP {α β : Type} {F G : α → β → Prop} : ∀ {l₁ : List α} {l₂ : List β}, Paired F l₁ l₂ → (∀ a b, F a b → G a b) → Paired G l₁ l₂
  | _, _, .nil, _ => .nil
  | _, _, .cons r t, f => .cons (f _ _ r) (Paired.mapP t f)
/-- what an object's description leans on: its own object, its own dict, the tuples -/
theorem ObjOk.stay (x : ObjOk P w H h a o) (k : ∀ b u, (b = a ∨ H b = some (.own a)) → h.get? b = some u → h'.get? b = some u)
    (ho : ∀ b, H b = some (.own a) → H' b = some (.own a)) (ht : ∀ b xs, H b = some (.tup xs) → H' b = some (.tup xs)) : ObjOk P w H' h' a o := by
  induction o with
  | lst xs => obtain ⟨z, its, n, r, e⟩ := x; exact ⟨z, its, n, r, k _ _ (.inl rfl) e⟩
  | tup xs => obtain ⟨z, its, r, ob, e, c⟩ := x; exact ⟨z, its, r, ob, k _ _ (.inl rfl) e, c⟩
  | dK kvs => obtain ⟨z, y, vs, r, ob, es, ep, e, c⟩ := x; exact ⟨z, y, vs, r, ob, es, ep, k _ _ (.inl rfl) e, c⟩
  | dT kvs =>
    obtain ⟨z, y, xs, r, ob, es, ep, e, c⟩ := x
    exact ⟨z, y, xs, Paired.mapP r fun p q z => ⟨z.1, ht _ _ z.2.1, z.2.2⟩, ob, es, ep, k _ _ (.inl rfl) e, c⟩
  | set S n => obtain ⟨ob, es, ep, t, e, c⟩ := x; exact ⟨ob, es, ep, t, k _ _ (.inl rfl) e, c⟩
  | ins C dx fs =>
    obtain ⟨d, z, ne, e, mA, ⟨od, es, ep, e2, c⟩, r⟩ := x
    exact ⟨ho _ d, z, ne, k _ _ (.inl rfl) e, mA, ⟨od, es, ep, k _ _ (.inr d) e2, c⟩, r⟩
  | own y => obtain ⟨ob, e⟩ := x; exact ⟨ob, k _ _ (.inl rfl) e⟩
  | xd fs => obtain ⟨mA, ⟨od, es, ep, e, c⟩, r⟩ := x; exact ⟨mA, ⟨od, es, ep, k _ _ (.inl rfl) e, c⟩, r⟩
  | rng lo hi => obtain ⟨t, u, v, e⟩ := x; exact ⟨t, u, v, k _ _ (.inl rfl) e⟩
  | frz ob u ih => obtain ⟨e, q⟩ := x; exact ⟨k _ _ (.inl rfl) e, ih q⟩
  | tbl ps =>
    have e : h.get? a = some { cls := .none, data := .fields ps } := x
    show h'.get? a = some { cls := .none, data := .fields ps }
    exact k a _ (.inl rfl) e
  | met f y =>
    have e : h.get? a = some (PySem.W.methodObj (.ref f) (.ref y)) := x
    show h'.get? a = some (PySem.W.methodObj (.ref f) (.ref y))
    exact k a _ (.inl rfl) e
  | ext φ => obtain ⟨p, ⟨o, e⟩, st⟩ := x; exact ⟨st _ _ p fun o q => k _ _ (.inl rfl) q, ⟨o, k _ _ (.inl rfl) e⟩, st⟩
theorem HOk.lt (x : HOk P w H h) (e : H a = some o) : a < h.objs.size := (x a o e).lt
theorem HOk.fresh (x : HOk P w H h) (e : h.objs.size ≤ a) : H a = none := by
  cases q : H a with
  | none => rfl
  | some u => exact absurd (Nat.lt_of_lt_of_le (x.lt q) e) (Nat.lt_irrefl _)
/-- every object of the heap is kept -/
theorem HOk.kept (x : HOk P w H h) (k : ∀ b u, h.get? b = some u → h'.get? b = some u) : HOk P w H h' := fun a o e =>
  (x a o e).stay (fun b u _ q => k b u q) (fun _ q => q) fun _ _ q => q
/-- a new object is laid and tracked -/
theorem HOk.laid (x : HOk P w H h) (k : ∀ b u, h.get? b = some u → h'.get? b = some u) (hp : h.objs.size ≤ a) (new : ObjOk P w (upd H a o) h' a o) : HOk P w (upd H a o) h' := fun b u e => by
  have hn := x.fresh hp
  by_cases hb : b = a
  · subst hb; rw [upd_same] at e; cases e; exact new
  · rw [upd_ne hb] at e
    exact (x b u e).stay (fun c v _ q => k c v q) (fun c q => by rw [upd_ne (ne_of_none q hn)]; exact q) fun c xs q => by rw [upd_ne (ne_of_none q hn)]; exact q
end

/-- what may be read as u: it is u, or a known u -/
noncomputable def Rd (H : Hp) (a : Addr) (u : HO) : Prop := H a = some u ∨ ∃ o, H a = some (.frz o u)
theorem Rd.ok {P : Program} {w : World} {H : Hp} {h : Heap} {a : Addr} {u : HO} (r : Rd H a u) (x : HOk P w H h) : ObjOk P w H h a u := by
  rcases r with r | ⟨o, r⟩
  · exact x a u r
  · obtain ⟨_, q⟩ := x a _ r
    exact q
/-- what may be written -/
noncomputable def Mut : Option HO → Prop
  | some (.lst _) => True
  | some (.dK _) => True
  | some (.dT _) => True
  | some (.set _ _) => True
  | some (.ins _ _ _) => True
  | some (.ext _) => True
  | _ => False
section
variable {P : Program} {w : World} {H : Hp} {h h' : Heap} {x e : Addr} {o' : HO}
/-- the object at e is changed: x itself, or the dict of the instance x -/
theorem HOk.write (ok : HOk P w H h) (mu : Mut (H x)) (he : e = x ∨ H e = some (.own x)) (k : ∀ b u, b ≠ e → h.get? b = some u → h'.get? b = some u) (heo : ∃ u, h'.get? e = some u)
    (new : ObjOk P w (upd H x o') h' x o') : HOk P w (upd H x o') h' := fun b u q => by
  have nown : ∀ c y, H c = some (.own y) → c ≠ x := fun c y r z => by subst z; rw [r] at mu; exact mu
  have ntup : ∀ c xs, H c = some (.tup xs) → c ≠ x := fun c xs r z => by subst z; rw [r] at mu; exact mu
  by_cases hb : b = x
  · subst hb; rw [upd_same] at q; cases q; exact new
  · rw [upd_ne hb] at q
    by_cases hbe : b = e
    · have q' : H b = some (.own x) := by
        rcases he with z | z
        · exact absurd (hbe.trans z) hb
        · rw [hbe]; exact z
      rw [q] at q'; cases q'
      obtain ⟨v, hv⟩ := heo
      exact ⟨v, by rw [hbe]; exact hv⟩
    · refine (ok b u q).stay (fun c v hc r => k c v ?_ r) (fun c r => by rw [upd_ne (nown c b r)]; exact r) fun c xs r => by rw [upd_ne (ntup c xs r)]; exact r
      rcases hc with rfl | hc
      · exact hbe
      · rintro rfl
        rcases he with z | z
        · exact nown c b hc z
        · rw [hc] at z; cases z; exact hb rfl
end

/-! ### kept unless tracked; of the frames at fs (the callers') the slots may change (an exception that passes writes there); of the records at ex (iterators) nothing is said -/
structure Un (fs ex : List Addr) (H H' : Hp) (h h' : Heap) : Prop where
  keep : ∀ b o, h.get? b = some o → H b = none → b ∉ fs → b ∉ ex → h'.get? b = some o
  slot : ∀ b o, h.get? b = some o → H b = none → b ∈ fs → b ∉ ex → ∃ sl, h'.get? b = some { o with slots := sl }
  free : ∀ b o, h.get? b = some o → H b = none → b ∉ ex → H' b = none
  there : ∀ b o, h.get? b = some o → b ∉ ex → ∃ o', h'.get? b = some o'
  tups : ∀ b xs, H b = some (.tup xs) → H' b = some (.tup xs)
  frzs : ∀ b o u, H b = some (.frz o u) → H' b = some (.frz o u)
  tbls : ∀ b ps, H b = some (.tbl ps) → ∃ more, H' b = some (.tbl (ps ++ more))
section
variable {fs fs' ex ex' : List Addr} {H H1 H2 : Hp} {h h1 h2 h' : Heap} {a x e : Addr} {o : HO}
theorem Un.any (u : Un fs ex H H1 h h1) {b : Addr} {ob : Obj} (q : h.get? b = some ob) (n : H b = none) (hx : b ∉ ex) : ∃ sl, h1.get? b = some { ob with slots := sl } := by
  by_cases hb : b ∈ fs
  · exact u.slot b ob q n hb hx
  · exact ⟨ob.slots, u.keep b ob q n hb hx⟩
theorem Un.kept (k : ∀ b u, h.get? b = some u → h'.get? b = some u) : Un fs ex H H h h' :=
  ⟨fun b ob q _ _ _ => k b ob q, fun b ob q _ _ _ => ⟨ob.slots, k b ob q⟩, fun _ _ _ n _ => n, fun b ob q _ => ⟨ob, k b ob q⟩, fun _ _ q => q, fun _ _ _ q => q, fun _ ps q => ⟨#[], by rw [q]; simp⟩⟩
theorem Un.refl : Un fs ex H H h h := Un.kept fun _ _ q => q
theorem Un.laid (k : ∀ b u, h.get? b = some u → h'.get? b = some u) (hp : h.objs.size ≤ a) (hn : H a = none) : Un fs ex H (upd H a o) h h' where
  keep := fun b u q _ _ _ => k b u q
  slot := fun b u q _ _ _ => ⟨u.slots, k b u q⟩
  free := fun b u q n _ => by rw [upd_ne (Nat.ne_of_lt (Nat.lt_of_lt_of_le (Heap.lt_size q) hp))]; exact n
  there := fun b u q _ => ⟨u, k b u q⟩
  tups := fun b xs q => by rw [upd_ne (ne_of_none q hn)]; exact q
  frzs := fun b u xs q => by rw [upd_ne (ne_of_none q hn)]; exact q
  tbls := fun b ps q => ⟨#[], by rw [upd_ne (ne_of_none q hn), q]; simp⟩
theorem Un.write (mu : Mut (H x)) (he : e = x ∨ H e = some (.own x)) (k : ∀ b u, b ≠ e → h.get? b = some u → h'.get? b = some u) (heo : ∃ u, h'.get? e = some u) : Un fs ex H (upd H x o) h h' := by
  have hx : ∀ b, H b = none → b ≠ x := fun b n z => by subst z; rw [n] at mu; exact mu
  have hb : ∀ b, H b = none → b ≠ e := fun b n z => by
    subst z
    rcases he with r | r
    · exact hx b n r
    · rw [n] at r; cases r
  have hm : ∀ b u, H b = some u → ¬ Mut (some u) → b ≠ x := fun b u q nm z => by subst z; rw [q] at mu; exact nm mu
  refine ⟨fun b u q n _ _ => k b u (hb b n) q, fun b u q n _ _ => ⟨u.slots, k b u (hb b n) q⟩, fun b u q n _ => by rw [upd_ne (hx b n)]; exact n, fun b u q _ => ?_,
    fun b xs q => by rw [upd_ne (hm b _ q fun z => z)]; exact q, fun b u xs q => by rw [upd_ne (hm b _ q fun z => z)]; exact q, fun b ps q => ⟨#[], by rw [upd_ne (hm b _ q fun z => z), q]; simp⟩⟩
  by_cases hbe : b = e
  · subst hbe; exact heo
  · exact ⟨u, k b u hbe q⟩
end

/-! ### the heap without what is tracked -/
noncomputable def trk (h : Heap) (H : Hp) : List Addr := (List.range h.objs.size).filter fun a => (H a).isSome
noncomputable def hidT (h : Heap) (H : Hp) : Heap := PySem.W.hideAll h (trk h H)
theorem hidT_size (h : Heap) (H : Hp) : (hidT h H).objs.size = h.objs.size := PySem.W.hideAll_size _ _
theorem hidT_get {h : Heap} {H : Hp} {b : Addr} {o : Obj} (e : h.get? b = some o) (n : H b = none) : (hidT h H).get? b = some o :=
  PySem.W.hideAll_get _ e fun hm => by
    have q : (H b).isSome = true := (List.mem_filter.mp hm).2
    rw [n] at q; simp at q
theorem of_hidT {h : Heap} {H : Hp} {b : Addr} {o : Obj} (e : (hidT h H).get? b = some o) : h.get? b = some o ∧ H b = none := by
  have e' : h.get? b = some o := PySem.W.of_hideAll (trk h H) e
  refine ⟨e', ?_⟩
  cases q : H b with
  | none => rfl
  | some x =>
    have hm : b ∈ trk h H := List.mem_filter.mpr ⟨List.mem_range.mpr (Heap.lt_size e'), by simp [q]⟩
    have z : (hidT h H).get? b = none := PySem.W.hideAll_none (trk h H) hm
    rw [z] at e; cases e

/-! ### OpenK's ledger, filled with every new object but one -/
noncomputable def allNews (g h : Heap) (L : Addr) : List (Addr × Obj) := (List.range h.objs.size).filterMap fun a => if a = L ∨ (g.get? a).isSome = true then none else (h.get? a).map fun o => (a, o)
noncomputable def rest (g h : Heap) (L d : Addr) : List (Addr × Obj) := (allNews g h L).filter fun p => decide (p.1 ≠ d)
end L2

namespace L2
open PySem PySem.Spec PyProof.Rows

/-- the module's facts, over the base: the heap at the law's entry without what is tracked there -/
structure Mod (K : PySem.W.Frag) (mg : Str → Option Value) (base : Heap) : Prop where
  kin : K.In base
  glob : base.Ns mainGlobals mg
  blt : ∃ mb, base.Ns builtinsNs mb ∧ ∀ x : Str, x ≠ "__name__" → mb x = bootBuiltins x
  nolimit : base.NoLimit

/-- the context: a def's body (or a comprehension's block) running. base: fixed through the whole law; s₀, H₀: the entry; outer: the frames whose slots others may change (a def's callers); stack: all frames that run;
   ex: iterators that were made ahead of the entry and are walked here (a comprehension's); fn: the names whose cells were made at the entry (a def: all; a comprehension's block: its own); calm: not within an except suite; pn: pins that every state bears; xe: what is wanted of an exception that leaves the code -/
structure Cx where
  prog : Program
  w : World
  K : PySem.W.Frag
  mg : Str → Option Value
  base : Heap
  A : Around
  N : List Str
  s_0 : Shared
  H_0 : Hp
  env : Env
  outer : List Env
  stack : List Env
  ex : List Addr
  fn : Str → Bool
  calm : Bool
  pn : List (Addr × Obj)
  xe : Value → Shared → Prop
/-- the callers' frames -/
noncomputable def frs (l : List Env) : List Addr := l.filterMap (·.frame)
noncomputable abbrev Cx.fs (X : Cx) : List Addr := frs X.outer

noncomputable def Vis (sc : Scope) (x : Str) : Prop := sc.names.lookup x = some .local ∨ sc.names.lookup x = some .cell ∨ sc.names.lookup x = some .free
noncomputable def Loc (sc : Scope) (x : Str) : Prop := sc.names.lookup x = some .local ∨ sc.names.lookup x = some .cell
noncomputable def Look (env : Env) (h : Heap) (m : Str → Option Value) (x : Str) (u : Value) : Prop :=
  (env.kindOf x = some .local ∧ m x = some u) ∨ ((env.kindOf x = some .cell ∨ env.kindOf x = some .free) ∧ ∃ c, env.cells.lookup x = some c ∧ h.IsCell c (some u))

structure Cx.Ok (X : Cx) : Prop where
  mod : Mod X.K X.mg X.base
  kind : X.env.scope.kind = .function
  glob : X.env.globals = mainGlobals
  blt : X.env.builtins = builtinsNs
  above : X.s_0.heap.objs.size ≤ X.env.locals
  inj : ∀ x y c, X.env.cells.lookup x = some c → X.env.cells.lookup y = some c → x = y
  has : ∀ x, (X.env.kindOf x = some .cell ∨ X.env.kindOf x = some .free) → ∃ c, X.env.cells.lookup x = some c
  cab : ∀ x c, X.fn x = true → X.env.cells.lookup x = some c → X.s_0.heap.objs.size ≤ c
  hd : X.calm = true → X.A.handled = none
  frames : X.A.frames = some X.stack
  stk : X.stack = X.outer ∨ (X.stack = X.env :: X.outer ∧ X.env.frame = some X.env.locals)
  exf : ∀ b ∈ X.ex, b ≠ X.env.locals ∧ ∀ x c, X.env.cells.lookup x = some c → c ≠ b
  bs : ∀ b o, X.base.get? b = some o → X.s_0.heap.get? b = some o ∧ X.H_0 b = none
  bsz : X.base.objs.size ≤ X.s_0.heap.objs.size
  noex : ∀ b o, X.base.get? b = some o → b ∉ X.ex
  exfs : ∀ b ∈ X.ex, b ∉ X.fs
  funs : X.s_0.heap.FunFrames X.base X.outer
  frf : ∀ b ∈ X.fs, X.H_0 b = none

structure Inv (X : Cx) (pins : List (Addr × Obj)) (σ : List (Option V)) (H : Hp) (s : Shared) : Prop where
  ok : X.Ok
  os : s.os = X.s_0.os
  bare : AllBare s.gens
  base : Un X.fs X.ex X.H_0 H X.s_0.heap s.heap
  loc : ∃ m, s.heap.Ns X.env.locals m ∧ ∀ (i : Nat) (x : Str) (v : V), X.N[i]? = some x → σ[i]? = some (some v) → Vis X.env.scope x → ∃ u, RelV v u ∧ Look X.env s.heap m x u
  cell : ∀ x c, X.env.cells.lookup x = some c → ∃ v, s.heap.IsCell c v
  free : H X.env.locals = none
  freeC : ∀ x c, X.env.cells.lookup x = some c → H c = none
  pin : ∀ p ∈ X.pn ++ pins, s.heap.get? p.1 = some p.2 ∧ H p.1 = none ∧ p.1 ≠ X.env.locals ∧ p.1 ∉ X.fs ∧ ∀ v, p.2.data ≠ .cell v
  hok : HOk X.prog X.w H s.heap
  len : σ.length = X.N.length

section
variable {X : Cx} {pins : List (Addr × Obj)} {σ : List (Option V)} {H H' : Hp} {s : Shared} {h' : Heap}

theorem Cx.Ok.nofr (ok : X.Ok) {b : Addr} {o : Obj} (e : X.base.get? b = some o) : b ∉ X.fs := fun hb => by
  have := (ok.funs.mem hb).1
  rw [e] at this; cases this
theorem Inv.bs (I : Inv X pins σ H s) : ∀ b o, X.base.get? b = some o → s.heap.get? b = some o ∧ H b = none := fun b o e =>
  ⟨I.base.keep b o (I.ok.bs b o e).1 (I.ok.bs b o e).2 (I.ok.nofr e) (I.ok.noex b o e), I.base.free b o (I.ok.bs b o e).1 (I.ok.bs b o e).2 (I.ok.noex b o e)⟩
theorem Inv.bk (I : Inv X pins σ H s) : ∀ b o, X.base.get? b = some o → s.heap.get? b = some o := fun b o e => (I.bs b o e).1
theorem Inv.mod (I : Inv X pins σ H s) : Mod X.K X.mg X.base := I.ok.mod
theorem Inv.kIn (I : Inv X pins σ H s) : X.K.In s.heap := I.ok.mod.kin.keeps I.bk
theorem Inv.lt (I : Inv X pins σ H s) : X.env.locals < s.heap.objs.size := let ⟨_, hn, _⟩ := I.loc; hn.lt
theorem Inv.sz (I : Inv X pins σ H s) : X.s_0.heap.objs.size ≤ s.heap.objs.size := Nat.le_trans I.ok.above (Nat.le_of_lt I.lt)
theorem Inv.cne (I : Inv X pins σ H s) : ∀ x c, X.env.cells.lookup x = some c → c ≠ X.env.locals := fun x c e z => by
  obtain ⟨v, o, ho, hd⟩ := I.cell x c e
  obtain ⟨m, ⟨o', es, ep, ho', hd', _⟩, _⟩ := I.loc
  rw [z, ho'] at ho; cases ho; rw [hd'] at hd; cases hd
theorem Inv.funs (I : Inv X pins σ H s) : s.heap.FunFrames X.base X.outer := by
  have all : ∀ (l : List Env), (∀ b ∈ frs l, b ∈ X.fs) → X.s_0.heap.FunFrames X.base l → s.heap.FunFrames X.base l := by
    intro l
    induction l with
    | nil => intro _ _; trivial
    | cons env r ih =>
      intro hs hl
      obtain ⟨hk, ⟨L, o, hf, hn, ho, hd⟩, hr⟩ := hl
      have hL : L ∈ X.fs := hs L (by unfold frs; rw [List.filterMap_cons, hf]; exact List.mem_cons_self)
      obtain ⟨sl, e⟩ := I.base.slot L o ho (I.ok.frf L hL) hL fun z => I.ok.exfs L z hL
      exact ⟨hk, ⟨L, _, hf, hn, e, hd⟩, ih (fun b hb => hs b (by unfold frs; rw [List.filterMap_cons, hf]; exact List.mem_cons_of_mem _ hb)) hr⟩
  exact all X.outer (fun _ hb => hb) I.ok.funs

/-- the frames that run, for a call -/
theorem Inv.stack (I : Inv X pins σ H s) : s.heap.FunFrames X.base X.stack := by
  rcases I.ok.stk with e | ⟨e, hf⟩
  · rw [e]; exact I.funs
  · rw [e]
    obtain ⟨m, hn, _⟩ := I.loc
    refine .cons (by rw [I.ok.kind]; decide) hf hn ?_ I.funs
    exact Heap.get?_none_of_le (Nat.le_trans I.ok.bsz I.ok.above)
theorem Inv.stkSub (I : Inv X pins σ H s) : ∀ b ∈ frs X.stack, b ∈ X.env.locals :: X.fs := fun b hb => by
  rcases I.ok.stk with e | ⟨e, hf⟩
  · rw [e] at hb; exact List.mem_cons_of_mem _ hb
  · rw [e] at hb
    unfold frs at hb
    rw [List.filterMap_cons, hf] at hb
    exact hb
theorem Inv.stkFree (I : Inv X pins σ H s) : ∀ b ∈ frs X.stack, H b = none := fun b hb => by
  rcases List.mem_cons.mp (I.stkSub b hb) with e | hb
  · rw [e]; exact I.free
  · obtain ⟨_, o, ho, _⟩ := I.ok.funs.mem hb
    exact I.base.free b o ho (I.ok.frf b hb) fun z => I.ok.exfs b z hb

/-- THE STEP: the untracked objects but the frame and the records at ch are kept (the callers' frames up to slots), the frame's map is kept, the new abstract heap is held -/
theorem Inv.step {g' : Array GenState} {t' : Nat} {d' : Drawn} {ch : List Addr} (I : Inv X pins σ H s)
    (hch : ∀ b ∈ ch, (b ∈ X.ex ∨ X.s_0.heap.objs.size ≤ b) ∧ b ≠ X.env.locals ∧ (∀ x c, X.env.cells.lookup x = some c → c ≠ b) ∧ ∀ p ∈ X.pn ++ pins, p.1 ≠ b)
    (keep : ∀ b o, b ≠ X.env.locals → b ∉ X.fs → b ∉ ch → s.heap.get? b = some o → H b = none → h'.get? b = some o)
    (slot : ∀ b o, b ≠ X.env.locals → b ∈ X.fs → b ∉ ch → s.heap.get? b = some o → H b = none → ∃ sl, h'.get? b = some { o with slots := sl }) (free : ∀ b o, b ∉ ch → s.heap.get? b = some o → H b = none → H' b = none)
    (there : ∀ b o, b ∉ ch → s.heap.get? b = some o → ∃ o', h'.get? b = some o')
    (tups : ∀ b xs, H b = some (.tup xs) → H' b = some (.tup xs)) (frzs : ∀ b o u, H b = some (.frz o u) → H' b = some (.frz o u)) (tbls : ∀ b ps, H b = some (.tbl ps) → ∃ more, H' b = some (.tbl (ps ++ more)))
    (ns : ∀ m, s.heap.Ns X.env.locals m → h'.Ns X.env.locals m) (hok : HOk X.prog X.w H' h') (hg : AllBare g') :
    Inv X pins σ H' { s with heap := h', gens := g', drawn := d', toks := t' } := by
  have neL : ∀ b o, X.s_0.heap.get? b = some o → b ≠ X.env.locals := fun b o e => Nat.ne_of_lt (Nat.lt_of_lt_of_le (Heap.lt_size e) I.ok.above)
  have neC : ∀ b o, X.s_0.heap.get? b = some o → b ∉ X.ex → b ∉ ch := fun b o e hx hb => by
    rcases (hch b hb).1 with z | z
    · exact hx z
    · exact absurd (Nat.lt_of_lt_of_le (Heap.lt_size e) z) (Nat.lt_irrefl _)
  have cellK : ∀ x c, X.env.cells.lookup x = some c → ∀ v, s.heap.IsCell c v → h'.IsCell c v := fun x c e v ⟨o, ho, hd⟩ => by
    have nch : c ∉ ch := fun z => (hch c z).2.2.1 x c e rfl
    by_cases hc : c ∈ X.fs
    · obtain ⟨sl, q⟩ := slot c o (I.cne x c e) hc nch ho (I.freeC x c e)
      exact ⟨_, q, hd⟩
    · exact ⟨o, keep c o (I.cne x c e) hc nch ho (I.freeC x c e), hd⟩
  refine ⟨I.ok, I.os, hg, ⟨fun b o e n hb hx => ?_, fun b o e n hb hx => ?_, fun b o e n hx => ?_, fun b o e hx => ?_, fun b xs e => tups b xs (I.base.tups b xs e), fun b o xs e => frzs b o xs (I.base.frzs b o xs e), fun b ps e => ?_⟩, ?_, fun x c e => ?_, ?_, fun x c e => ?_, fun p hp => ?_, hok, I.len⟩
  · exact keep b o (neL b o e) hb (neC b o e hx) (I.base.keep b o e n hb hx) (I.base.free b o e n hx)
  · obtain ⟨sl, e1⟩ := I.base.slot b o e n hb hx
    obtain ⟨sl', e2⟩ := slot b _ (neL b o e) hb (neC b o e hx) e1 (I.base.free b o e n hx)
    exact ⟨sl', e2⟩
  · obtain ⟨o', e1⟩ := I.base.there b o e hx
    exact free b o' (neC b o e hx) e1 (I.base.free b o e n hx)
  · obtain ⟨o', e1⟩ := I.base.there b o e hx
    exact there b o' (neC b o e hx) e1
  · obtain ⟨m1, e1⟩ := I.base.tbls b ps e
    obtain ⟨m2, e2⟩ := tbls b _ e1
    exact ⟨m1 ++ m2, by rw [e2, Array.append_assoc]⟩
  · obtain ⟨m, hn, hl⟩ := I.loc
    refine ⟨m, ns m hn, fun i x v e1 e2 e3 => ?_⟩
    obtain ⟨u, r, l⟩ := hl i x v e1 e2 e3
    refine ⟨u, r, ?_⟩
    rcases l with l | ⟨k, c, e, z⟩
    · exact .inl l
    · exact .inr ⟨k, c, e, cellK x c e _ z⟩
  · obtain ⟨v, z⟩ := I.cell x c e
    exact ⟨v, cellK x c e v z⟩
  · obtain ⟨m, ⟨o, _, _, ho, _⟩, _⟩ := I.loc
    exact free _ o (fun z => (hch _ z).2.1 rfl) ho I.free
  · obtain ⟨v, o, ho, hd⟩ := I.cell x c e
    exact free c o (fun z => (hch c z).2.2.1 x c e rfl) ho (I.freeC x c e)
  · obtain ⟨e, n, ne, nf, d⟩ := I.pin p hp
    have nch : p.1 ∉ ch := fun z => (hch p.1 z).2.2.2 p hp rfl
    exact ⟨keep p.1 p.2 ne nf nch e n, free p.1 p.2 nch e n, ne, nf, d⟩
/-- .. where the frame's own object is kept too -/
theorem Inv.un {t' : Nat} (I : Inv X pins σ H s) (u : Un X.fs [] H H' s.heap h') (hok : HOk X.prog X.w H' h') : Inv X pins σ H' { s with heap := h', toks := t' } := by
  obtain ⟨m, ⟨o, es, ep, ho, r⟩, _⟩ := id I.loc
  obtain ⟨sl, hL⟩ := u.any ho I.free (by simp)
  exact I.step (g' := s.gens) (d' := s.drawn) (ch := []) (fun _ z => nomatch z) (fun b o _ hb _ e n => u.keep b o e n hb (by simp)) (fun b o _ hb _ e n => u.slot b o e n hb (by simp)) (fun b o _ e n => u.free b o e n (by simp)) (fun b o _ e => u.there b o e (by simp)) u.tups u.frzs u.tbls (fun m' hm => by
    obtain ⟨o', es', ep', ho', r'⟩ := hm
    rw [ho] at ho'; cases ho'
    exact ⟨_, es', ep', hL, r'⟩) hok I.bare
/-- behind a call (or a comprehension's block): the slots of this frame may have changed too, the records at ch may have turned -/
theorem Inv.call {g' : Array GenState} {t' : Nat} {d' : Drawn} {ch : List Addr} (I : Inv X pins σ H s) (u : Un (frs X.stack) ch H H' s.heap h') (hok : HOk X.prog X.w H' h') (hg : AllBare g')
    (hch : ∀ b ∈ ch, (b ∈ X.ex ∨ X.s_0.heap.objs.size ≤ b) ∧ b ≠ X.env.locals ∧ (∀ x c, X.env.cells.lookup x = some c → c ≠ b) ∧ ∀ p ∈ X.pn ++ pins, p.1 ≠ b) :
    Inv X pins σ H' { s with heap := h', gens := g', drawn := d', toks := t' } := by
  obtain ⟨m, ⟨o, es, ep, ho, r⟩, _⟩ := id I.loc
  obtain ⟨sl, hL⟩ := u.any ho I.free fun z => (hch _ z).2.1 rfl
  exact I.step (ch := ch) hch (fun b o hL hb hc e n => u.keep b o e n (fun z => (List.mem_cons.mp (I.stkSub b z)).elim hL hb) hc) (fun b o _ _ hc e n => u.any e n hc) (fun b o hc e n => u.free b o e n hc) (fun b o hc e => u.there b o e hc) u.tups u.frzs u.tbls (fun m' hm => by
    obtain ⟨o', es', ep', ho', r'⟩ := hm
    rw [ho] at ho'; cases ho'
    exact ⟨_, es', ep', hL, r'⟩) hok hg
theorem Inv.tok (I : Inv X pins σ H s) (t : Nat) : Inv X pins σ H { s with toks := t } := I.un (h' := s.heap) (t' := t) Un.refl I.hok
/-- all objects kept -/
theorem Inv.kept {t' : Nat} (I : Inv X pins σ H s) (k : ∀ b u, s.heap.get? b = some u → h'.get? b = some u) : Inv X pins σ H { s with heap := h', toks := t' } := I.un (Un.kept k) (I.hok.kept k)
/-- a new object laid and tracked -/
theorem Inv.laid {a : Addr} {o : HO} {t' : Nat} (I : Inv X pins σ H s) (k : ∀ b u, s.heap.get? b = some u → h'.get? b = some u) (hp : s.heap.objs.size ≤ a) (new : ObjOk X.prog X.w (upd H a o) h' a o) :
    Inv X pins σ (upd H a o) { s with heap := h', toks := t' } := I.un (Un.laid k hp (I.hok.fresh hp)) (I.hok.laid k hp new)
/-- an object written -/
theorem Inv.write {x e : Addr} {o : HO} {t' : Nat} (I : Inv X pins σ H s) (mu : Mut (H x)) (he : e = x ∨ H e = some (.own x)) (k : ∀ b u, b ≠ e → s.heap.get? b = some u → h'.get? b = some u) (heo : ∃ u, h'.get? e = some u)
    (new : ObjOk X.prog X.w (upd H x o) h' x o) : Inv X pins σ (upd H x o) { s with heap := h', toks := t' } := I.un (Un.write mu he k heo) (I.hok.write mu he k heo new)
theorem nodup_ix {N : List Str} (hN : N.Nodup) {i j : Nat} {x : Str} (a : N[i]? = some x) (b : N[j]? = some x) : i = j := by
  obtain ⟨h1, e1⟩ := List.getElem?_eq_some_iff.mp a
  obtain ⟨h2, e2⟩ := List.getElem?_eq_some_iff.mp b
  exact (List.getElem_inj hN).mp (e1.trans e2.symm)

/-- a name is stored; what changed -/
theorem store_ok2 {M : Model} {A : Around} {E : Value → Shared → Prop} {i : Nat} {x : Str} {v : V} {u : Value} {Q : Unit → Shared → Prop} (I : Inv X pins σ H s) (hN : X.N.Nodup) (hi : X.N[i]? = some x) (hx : Loc X.env.scope x) (r : RelV v u)
    (h : ∀ s', Inv X pins (σ.set i (some v)) H s' → (∃ a, Heap.SameBut a s.heap s'.heap ∧ (a = X.env.locals ∨ X.env.cells.lookup x = some a)) → Q () s') (hf : X.fn x = true ∨ X.env.scope.names.lookup x = some .local := by first | exact .inl rfl | exact .inr rfl | assumption) : wpAny M A (storeName X.env x u) Q E s := by
  obtain ⟨m, hn, hl⟩ := id I.loc
  have hcls : (X.env.scope.kind == .class || (X.env.scope.kind == .module && X.env.locals != X.env.globals)) = false := by rw [I.ok.kind]; rfl
  have hiσ : i < σ.length := by rw [I.len]; exact (List.getElem?_eq_some_iff.mp hi).1
  have cne := I.cne
  have tracked : ∀ {a : Addr} {h' : Heap}, (∃ o, s.heap.get? a = some o ∧ H a = none) → Heap.SameBut a s.heap h' → HOk X.prog X.w H h' := fun {a h'} ha hs b ob e => by
    obtain ⟨_, _, hfree⟩ := ha
    refine (I.hok b ob e).stay (fun c w' hc q => (hs.2 c ?_).trans q) (fun _ q => q) fun _ _ q => q
    rintro rfl
    rcases hc with rfl | hc
    · rw [hfree] at e; cases e
    · rw [hfree] at hc; cases hc
  rcases hx with hk | hk
  · refine wpAny_storeName_local hk hn (fun h' hn' hs => ?_) hcls
    obtain ⟨oL, _, _, hoL, _⟩ := id hn
    refine h _ ⟨I.ok, I.os, I.bare, ⟨fun b o e n hb hx => ?_, fun b o e n hb hx => ?_, I.base.free, fun b o e hx => ?_, I.base.tups, I.base.frzs, I.base.tbls⟩, ⟨_, hn', fun j y v' e1 e2 e3 => ?_⟩, fun y c e => ?_, I.free, I.freeC, fun p hp => ?_, tracked ⟨oL, hoL, I.free⟩ hs, by simpa using I.len⟩ ⟨_, hs, .inl rfl⟩
    · exact (hs.2 b (Nat.ne_of_lt (Nat.lt_of_lt_of_le (Heap.lt_size e) I.ok.above))).trans (I.base.keep b o e n hb hx)
    · obtain ⟨sl, e1⟩ := I.base.slot b o e n hb hx
      exact ⟨sl, (hs.2 b (Nat.ne_of_lt (Nat.lt_of_lt_of_le (Heap.lt_size e) I.ok.above))).trans e1⟩
    · obtain ⟨o', e1⟩ := I.base.there b o e hx
      exact ⟨o', (hs.2 b (Nat.ne_of_lt (Nat.lt_of_lt_of_le (Heap.lt_size e) I.ok.above))).trans e1⟩
    · by_cases hj : j = i
      · subst hj
        rw [hi] at e1; cases e1
        rw [List.getElem?_set_self hiσ] at e2
        cases e2
        exact ⟨u, r, .inl ⟨hk, by simp⟩⟩
      · rw [List.getElem?_set_ne (Ne.symm hj)] at e2
        obtain ⟨u', r', q⟩ := hl j y v' e1 e2 e3
        refine ⟨u', r', ?_⟩
        rcases q with ⟨k, e⟩ | ⟨k, c, e, z⟩
        · refine .inl ⟨k, ?_⟩
          have : y ≠ x := fun e => hj (nodup_ix hN e1 (e ▸ hi))
          simp [this, e]
        · exact .inr ⟨k, c, e, z.sameBut hs (cne y c e)⟩
    · obtain ⟨w', z⟩ := I.cell y c e
      exact ⟨w', z.sameBut hs (cne y c e)⟩
    · obtain ⟨e, n, ne, nf, d⟩ := I.pin p hp
      exact ⟨(hs.2 p.1 ne).trans e, n, ne, nf, d⟩
  · have hfn : X.fn x = true := by
      rcases hf with z | z
      · exact z
      · rw [z] at hk; cases hk
    obtain ⟨c, hc⟩ := I.ok.has x (.inl hk)
    obtain ⟨w', z⟩ := I.cell x c hc
    refine wpAny_storeName_cell I.ok.kind hk hc z (fun h' hc' hs => ?_)
    obtain ⟨oc, hoc, hocd⟩ := id z
    refine h { s with heap := h' } ⟨I.ok, I.os, I.bare, ⟨fun b o e n hb hx => ?_, fun b o e n hb hx => ?_, I.base.free, fun b o e hx => ?_, I.base.tups, I.base.frzs, I.base.tbls⟩, ⟨m, hn.sameBut hs (Ne.symm (cne x c hc)), fun j y v' e1 e2 e3 => ?_⟩, fun y c' e => ?_, I.free, I.freeC, fun p hp => ?_, tracked ⟨oc, hoc, I.freeC x c hc⟩ hs, by simpa using I.len⟩ ⟨c, hs, .inr hc⟩
    · exact (hs.2 b (Nat.ne_of_lt (Nat.lt_of_lt_of_le (Heap.lt_size e) (I.ok.cab x c hfn hc)))).trans (I.base.keep b o e n hb hx)
    · obtain ⟨sl, e1⟩ := I.base.slot b o e n hb hx
      exact ⟨sl, (hs.2 b (Nat.ne_of_lt (Nat.lt_of_lt_of_le (Heap.lt_size e) (I.ok.cab x c hfn hc)))).trans e1⟩
    · obtain ⟨o', e1⟩ := I.base.there b o e hx
      exact ⟨o', (hs.2 b (Nat.ne_of_lt (Nat.lt_of_lt_of_le (Heap.lt_size e) (I.ok.cab x c hfn hc)))).trans e1⟩
    · by_cases hj : j = i
      · subst hj
        rw [hi] at e1; cases e1
        rw [List.getElem?_set_self hiσ] at e2
        cases e2
        exact ⟨u, r, .inr ⟨.inl hk, c, hc, hc'⟩⟩
      · rw [List.getElem?_set_ne (Ne.symm hj)] at e2
        obtain ⟨u', r', q⟩ := hl j y v' e1 e2 e3
        refine ⟨u', r', ?_⟩
        rcases q with q | ⟨k, c', e, z'⟩
        · exact .inl q
        · refine .inr ⟨k, c', e, z'.sameBut hs ?_⟩
          rintro rfl
          exact hj (nodup_ix hN e1 (I.ok.inj _ _ _ e hc ▸ hi))
    · by_cases hcc : c' = c
      · subst hcc; exact ⟨_, hc'⟩
      · obtain ⟨w2, z2⟩ := I.cell y c' e
        exact ⟨w2, z2.sameBut hs hcc⟩
    · obtain ⟨e, n, ne, nf, d⟩ := I.pin p hp
      refine ⟨(hs.2 p.1 ?_).trans e, n, ne, nf, d⟩
      intro q
      rw [q, hoc] at e
      have q' : oc = p.2 := Option.some.inj e
      exact d w' (by rw [← q']; exact hocd)
theorem store_ok {M : Model} {A : Around} {E : Value → Shared → Prop} {i : Nat} {x : Str} {v : V} {u : Value} {Q : Unit → Shared → Prop} (I : Inv X pins σ H s) (hN : X.N.Nodup) (hi : X.N[i]? = some x) (hx : Loc X.env.scope x) (r : RelV v u)
    (h : ∀ s', Inv X pins (σ.set i (some v)) H s' → Q () s') (hf : X.fn x = true ∨ X.env.scope.names.lookup x = some .local := by first | exact .inl rfl | exact .inr rfl | assumption) : wpAny M A (storeName X.env x u) Q E s :=
  store_ok2 I hN hi hx r (fun s' I' _ => h s' I') hf
end

/-! ### the judgements -/
/-- an exception: its class, its own dict's address (where it has one), the abstract heap behind it -/
noncomputable abbrev XK := Value → Option Addr → Hp → Prop
noncomputable abbrev St := List (Option V)
noncomputable abbrev VK := V → Hp → Prop
/-- an expression's reading; a test's; an argument list's -/
noncomputable abbrev TE := St → Hp → VK → Prop
noncomputable abbrev TT := St → Hp → (Bool → Hp → Prop) → Prop
noncomputable abbrev TA := St → Hp → (List V → Hp → Prop) → Prop
/-- what is wanted behind a statement -/
structure Ends where
  nx : St → Hp → Prop
  rt : VK
  bk : St → Hp → Prop := fun _ _ => False
  ct : St → Hp → Prop := fun _ _ => False
noncomputable abbrev TS := Ends → St → Hp → Prop

noncomputable def EP (X : Cx) (pins : List (Addr × Obj)) (σ : St) (Q : VK) (u : Value) (s' : Shared) : Prop := ∃ v H', Inv X pins σ H' s' ∧ RelV v u ∧ Q v H'
noncomputable def TP (X : Cx) (pins : List (Addr × Obj)) (σ : St) (Q : Bool → Hp → Prop) (b : Bool) (s' : Shared) : Prop := ∃ H', Inv X pins σ H' s' ∧ Q b H'
noncomputable def AP (X : Cx) (pins : List (Addr × Obj)) (σ : St) (Q : List V → Hp → Prop) (us : List Value) (s' : Shared) : Prop := ∃ vs H', Inv X pins σ H' s' ∧ Vals vs us ∧ Q vs H'
noncomputable def SP (X : Cx) (pins : List (Addr × Obj)) (D : Ends) (f : Flow) (s' : Shared) : Prop :=
  match f with
  | .next => ∃ σ' H', Inv X pins σ' H' s' ∧ D.nx σ' H'
  | .brk => ∃ σ' H', Inv X pins σ' H' s' ∧ D.bk σ' H'
  | .cont => ∃ σ' H', Inv X pins σ' H' s' ∧ D.ct σ' H'
  | .ret u => ∃ v σ' H', Inv X pins σ' H' s' ∧ RelV v u ∧ D.rt v H'

noncomputable def PE (X : Cx) (e : Expr) (t : TE) : Prop :=
  ∀ (pins : List (Addr × Obj)) (s : Shared) (σ : St) (H : Hp) (Q : VK), Inv X pins σ H s → t σ H Q → wpAny (model X.prog X.w) X.A (eval e X.env) (EP X pins σ Q) X.xe s
noncomputable def PT (X : Cx) (e : Expr) (t : TT) : Prop :=
  ∀ (pins : List (Addr × Obj)) (s : Shared) (σ : St) (H : Hp) (Q : Bool → Hp → Prop), Inv X pins σ H s → t σ H Q → wpAny (model X.prog X.w) X.A (isTrue e X.env (eval e X.env)) (TP X pins σ Q) X.xe s
/-- a test whatever its 'whole' is (and, or) -/
noncomputable def PW (X : Cx) (e : Expr) (t : TT) : Prop :=
  ∀ (whole : Sem Value) (pins : List (Addr × Obj)) (s : Shared) (σ : St) (H : Hp) (Q : Bool → Hp → Prop), Inv X pins σ H s → t σ H Q → wpAny (model X.prog X.w) X.A (isTrue e X.env whole) (TP X pins σ Q) X.xe s
theorem PW.pt {X : Cx} {e : Expr} {t : TT} (h : PW X e t) : PT X e t := h _
/-- an argument list (no star), from the left -/
noncomputable def PA (X : Cx) (es : List Expr) (t : TA) : Prop :=
  ∀ (pos : Pos) (pins : List (Addr × Obj)) (s : Shared) (σ : St) (H : Hp) (Q : List V → Hp → Prop), Inv X pins σ H s → t σ H Q → wpAny (model X.prog X.w) X.A (spliced (backTo pos (starEach es X.env))) (AP X pins σ Q) X.xe s
noncomputable def PS (X : Cx) (st : Stmt) (t : TS) : Prop :=
  ∀ (pins : List (Addr × Obj)) (s : Shared) (σ : St) (H : Hp) (D : Ends), Inv X pins σ H s → t D σ H → wpAny (model X.prog X.w) X.A (exec st X.env) (SP X pins D) X.xe s
noncomputable def PSs (X : Cx) (st : List Stmt) (t : TS) : Prop :=
  ∀ (pins : List (Addr × Obj)) (s : Shared) (σ : St) (H : Hp) (D : Ends), Inv X pins σ H s → t D σ H → wpAny (model X.prog X.w) X.A (execs st X.env) (SP X pins D) X.xe s
/-- weaken the end -/
theorem thn {α : Type} {t : Sem α} {Q Q' : α → Shared → Prop} {M : Model} {A : Around} {E : Value → Shared → Prop} {s : Shared} (h : wpAny M A t Q E s) (hQ : ∀ a s, Q a s → Q' a s) : wpAny M A t Q' E s := wpAny_mono h hQ fun _ _ x => x
end L2

namespace L2
open PySem PySem.Spec PyProof.Rows
section
variable {X : Cx}

/-! ### names and constants -/
noncomputable def tVar (i : Nat) : TE := fun σ H Q => ∃ v, σ[i]? = some (some v) ∧ Q v H
noncomputable def tC (v : V) : TE := fun _ H Q => Q v H
theorem pe_var {i : Nat} {x : Str} {pos : Pos} (hN : X.N[i]? = some x) (hv : Vis X.env.scope x) (hd : (x == ("__debug__" : Str)) = false := by decide) (hcd : (x == ("__classdict__" : Str)) = false := by decide) : PE X (.Name x pos) (tVar i) := by
  intro pins s σ H Q I h
  obtain ⟨v, e, h⟩ := h
  obtain ⟨m, hn, hl⟩ := I.loc
  obtain ⟨u, r, l⟩ := hl i x v hN e hv
  have fin : EP X pins σ Q u s := ⟨v, H, I, r, h⟩
  rcases l with ⟨hk, hm⟩ | ⟨hk, c, hc, hcell⟩
  · exact wpAny_Name (wpAny_loadName_local I.ok.kind hk hn hm fin) hd
  · rcases hk with hk | hk
    · exact wpAny_Name (wpAny_loadName_cell I.ok.kind hk hc hcell fin) hd
    · exact wpAny_Name (wpAny_loadName_free I.ok.kind hk hc hcell fin hcd) hd
theorem pe_int {i j pos} : PE X (.Constant (.int i) j pos) (tC (.int i)) := fun _ _ _ H _ I h => wpAny_Constant_int ⟨.int i, H, I.tok _, ⟨_, rfl⟩, h⟩
theorem pe_non {j pos} : PE X (.Constant .none j pos) (tC .non) := fun _ _ _ H _ I h => Constant_none ⟨.non, H, I, rfl, h⟩
/-- a global name of the def -/
noncomputable def Gl (X : Cx) (x : Str) : Prop := X.env.kindOf x = some .globalImplicit
theorem ld_glob {E : Value → Shared → Prop} {pins : List (Addr × Obj)} {s : Shared} {σ : St} {H : Hp} {x : Str} {u : Value} {pos : Pos} {Q : Value → Shared → Prop} (I : Inv X pins σ H s) (hg : Gl X x) (hm : X.mg x = some u) (h : Q u s)
    (hd : (x == ("__debug__" : Str)) = false := by decide) : wpAny (model X.prog X.w) X.A (eval (.Name x pos) X.env) Q E s :=
  Calls.Name_function_global I.ok.kind hg (Calls.loadGlobal_global (by rw [I.ok.glob]; exact I.mod.glob.keeps I.bk) hm h) hd
theorem ld_blt {E : Value → Shared → Prop} {pins : List (Addr × Obj)} {s : Shared} {σ : St} {H : Hp} {x : Str} {u : Value} {pos : Pos} {Q : Value → Shared → Prop} (I : Inv X pins σ H s) (hg : Gl X x) (hm : X.mg x = none) (hv : bootBuiltins x = some u) (h : Q u s)
    (hn : x ≠ "__name__" := by decide) (hd : (x == ("__debug__" : Str)) = false := by decide) : wpAny (model X.prog X.w) X.A (eval (.Name x pos) X.env) Q E s := by
  obtain ⟨mb, h1, h2⟩ := I.mod.blt
  exact Calls.Name_function_global I.ok.kind hg (Calls.loadGlobal_builtin (by rw [I.ok.glob]; exact I.mod.glob.keeps I.bk) hm (by rw [I.ok.blt]; exact h1.keeps I.bk) ((h2 x hn).trans hv) h) hd
/-- a module's constant, a class, a function, as a value -/
theorem pe_glob {x : Str} {v : V} {u : Value} {pos : Pos} (hg : Gl X x) (hm : X.mg x = some u) (r : RelV v u) (hd : (x == ("__debug__" : Str)) = false := by decide) : PE X (.Name x pos) (tC v) :=
  fun _ _ _ H _ I h => ld_glob I hg hm ⟨v, H, I, r, h⟩ hd
/-! ### arithmetic -/
variable {a b : Expr} {ta tb : TE} {pos : Pos}
/-! ### comparisons -/
/-- a comparison as a value, as a test -/
noncomputable def tB (t : TE) : TT := fun σ H Q => t σ H fun x H1 => ∃ c, x = .bl c ∧ Q c H1
/-! ### and, or, not -/
variable {tA tB' : TT} {rest : List Expr}
noncomputable def tAnd (t u : TT) : TT := fun σ H Q => t σ H fun c H1 => if c = true then u σ H1 Q else Q false H1
noncomputable def tOr (t u : TT) : TT := fun σ H Q => t σ H fun c H1 => if c = true then Q true H1 else u σ H1 Q
noncomputable def tNot (t : TT) : TT := fun σ H Q => t σ H fun c H1 => Q (!c) H1
theorem pw_and1 (ha : PT X a tA) : PW X (.BoolOp .And [a] pos) tA := by
  intro wh pins s σ H Q I h
  refine isTrue_and (thn (ha pins s σ H Q I h) fun c s1 e => ?_)
  cases c with
  | true => exact isTrue_and_nil e
  | false => exact e
theorem pw_or1 (ha : PT X a tA) : PW X (.BoolOp .Or [a] pos) tA := by
  intro wh pins s σ H Q I h
  refine isTrue_or (thn (ha pins s σ H Q I h) fun c s1 e => ?_)
  cases c with
  | false => exact isTrue_or_nil e
  | true => exact e
theorem pw_and (ha : PT X a tA) (hb : PW X (.BoolOp .And (b :: rest) pos) tB') : PW X (.BoolOp .And (a :: b :: rest) pos) (tAnd tA tB') := by
  intro wh pins s σ H Q I h
  refine isTrue_and (thn (ha pins s σ H _ I h) fun c s1 ⟨H1, I1, q1⟩ => ?_)
  cases c with
  | true => exact hb wh pins s1 σ H1 Q I1 q1
  | false => exact ⟨H1, I1, q1⟩
theorem pw_or (ha : PT X a tA) (hb : PW X (.BoolOp .Or (b :: rest) pos) tB') : PW X (.BoolOp .Or (a :: b :: rest) pos) (tOr tA tB') := by
  intro wh pins s σ H Q I h
  refine isTrue_or (thn (ha pins s σ H _ I h) fun c s1 ⟨H1, I1, q1⟩ => ?_)
  cases c with
  | true => exact ⟨H1, I1, q1⟩
  | false => exact hb wh pins s1 σ H1 Q I1 q1
theorem pt_not (ha : PT X a tA) : PT X (.UnaryOp .Not a pos) (tNot tA) := by
  intro pins s σ H Q I h
  exact isTrue_not (ha pins s σ H (fun c H1 => Q (!c) H1) I h)
/-- a if t else b -/
noncomputable def tIf (t : TT) (ta tb : TE) : TE := fun σ H Q => t σ H fun c H1 => if c = true then ta σ H1 Q else tb σ H1 Q
theorem pe_ifExp {c : Expr} (hc : PT X c tA) (ha : PE X a ta) (hb : PE X b tb) : PE X (.IfExp c a b pos) (tIf tA ta tb) := by
  intro pins s σ H Q I h
  refine wpAny_IfExp (thn (hc pins s σ H _ I h) fun d s1 ⟨H1, I1, q1⟩ => ?_)
  cases d with
  | true => exact ha pins s1 σ H1 Q I1 q1
  | false => exact hb pins s1 σ H1 Q I1 q1
end
end L2

namespace L2
open PySem PySem.Spec PyProof.Rows

/-! ### a list, a tuple that is read: tracked, frozen, or an object of the module -/
noncomputable def SqL (K : PySem.W.Frag) (H : Hp) (a : Addr) (xs : List V) : Prop :=
  Rd H a (.lst xs) ∨
    ∃ (o : Obj) (its : Array Value) (n : Nat), K.lookup a = some o ∧ o.cls = .type "list" ∧ o.dict = none ∧ o.data = .seq its n ∧ its.size ≤ sizeLine ∧ Vals xs its.toList
noncomputable def SqT (K : PySem.W.Frag) (H : Hp) (a : Addr) (xs : List V) : Prop :=
  Rd H a (.tup xs) ∨
    ∃ (o : Obj) (its : Array Value) (n : Nat), K.lookup a = some o ∧ o.cls = .type "tuple" ∧ o.data = .seq its n ∧ its.size ≤ sizeLine ∧ Vals xs its.toList
section
variable {X : Cx} {pins : List (Addr × Obj)} {σ : St} {H : Hp} {s : Shared} {a : Addr} {xs ys : List V}
theorem SqL.of {K : PySem.W.Frag} (h : H a = some (.lst xs)) : SqL K H a xs := .inl (.inl h)
theorem SqT.of {K : PySem.W.Frag} (h : H a = some (.tup xs)) : SqT K H a xs := .inl (.inl h)
theorem Inv.list (I : Inv X pins σ H s) (h : SqL X.K H a xs) : ∃ its : List Value, Vals xs its ∧ PlainL s.heap a its.toArray ∧ xs.length ≤ sizeLine := by
  rcases h with h | ⟨o, its, n, hk, hc, hd, hs, hz, r⟩
  · obtain ⟨z, its, n, r, e⟩ := h.ok I.hok
    exact ⟨its, r, ⟨_, n, e, rfl, rfl, rfl⟩, z⟩
  · refine ⟨its.toList, r, ⟨o, n, I.kIn a o hk, hc, hd, by simpa using hs⟩, ?_⟩
    have e := r.length
    simp only [Array.length_toList] at e
    (first | lia | omega)
theorem Inv.tuple (I : Inv X pins σ H s) (h : SqT X.K H a xs) : ∃ its : List Value, Vals xs its ∧ IsTup s.heap a its.toArray ∧ xs.length ≤ sizeLine := by
  rcases h with h | ⟨o, its, n, hk, hc, hs, hz, r⟩
  · obtain ⟨z, its, r, p⟩ := h.ok I.hok
    exact ⟨its, r, p, z⟩
  · refine ⟨its.toList, r, ⟨o, I.kIn a o hk, hc, n, by simpa using hs⟩, ?_⟩
    have e := r.length
    simp only [Array.length_toList] at e
    (first | lia | omega)
end

/-! ### another wish about exceptions -/
noncomputable abbrev Cx.wish (X : Cx) (E : Value → Shared → Prop) : Cx := { X with xe := E }
/-- no exception leaves -/
noncomputable abbrev Cx.nox (X : Cx) : Cx := X.wish fun _ _ => False
theorem Cx.Ok.wish {X : Cx} (ok : X.Ok) (E : Value → Shared → Prop) : (X.wish E).Ok :=
  ⟨ok.mod, ok.kind, ok.glob, ok.blt, ok.above, ok.inj, ok.has, ok.cab, ok.hd, ok.frames, ok.stk, ok.exf, ok.bs, ok.bsz, ok.noex, ok.exfs, ok.funs, ok.frf⟩
theorem Cx.Ok.unwish {X : Cx} {E : Value → Shared → Prop} (ok : (X.wish E).Ok) : X.Ok :=
  ⟨ok.mod, ok.kind, ok.glob, ok.blt, ok.above, ok.inj, ok.has, ok.cab, ok.hd, ok.frames, ok.stk, ok.exf, ok.bs, ok.bsz, ok.noex, ok.exfs, ok.funs, ok.frf⟩
section
variable {X : Cx} {pins : List (Addr × Obj)} {σ : St} {H : Hp} {s : Shared} {E : Value → Shared → Prop}
theorem Inv.wish (I : Inv X pins σ H s) (E : Value → Shared → Prop) : Inv (X.wish E) pins σ H s := ⟨I.ok.wish E, I.os, I.bare, I.base, I.loc, I.cell, I.free, I.freeC, I.pin, I.hok, I.len⟩
theorem Inv.unwish (I : Inv (X.wish E) pins σ H s) : Inv X pins σ H s := ⟨I.ok.unwish, I.os, I.bare, I.base, I.loc, I.cell, I.free, I.freeC, I.pin, I.hok, I.len⟩
theorem SP.unwish {D : Ends} {f : Flow} {s' : Shared} (h : SP (X.wish E) pins D f s') : SP X pins D f s' := by
  cases f with
  | next => obtain ⟨σ', H', I, q⟩ := h; exact ⟨σ', H', I.unwish, q⟩
  | brk => obtain ⟨σ', H', I, q⟩ := h; exact ⟨σ', H', I.unwish, q⟩
  | cont => obtain ⟨σ', H', I, q⟩ := h; exact ⟨σ', H', I.unwish, q⟩
  | ret u => obtain ⟨v, σ', H', I, r, q⟩ := h; exact ⟨v, σ', H', I.unwish, r, q⟩
theorem PSs.nox {st : List Stmt} {t : TS} (h : PSs X.nox st t) : PSs X st t := fun pins s σ H D I hw =>
  wpAny_mono (h pins s σ H D (I.wish _) hw) (fun _ _ q => q.unwish) fun _ _ z => False.elim z
end

/-! ### blocks and small statements -/
section
variable {X : Cx} {st : Stmt} {rest : List Stmt} {t u : TS} {e : Expr} {te : TE} {pos : Pos}
noncomputable def tNext : TS := fun D σ H => D.nx σ H
noncomputable def tSeq (t u : TS) : TS := fun D σ H => t { D with nx := u D } σ H
theorem pss_nil : PSs X [] tNext := fun _ _ σ H _ I h => wpAny_execs_nil ⟨σ, H, I, h⟩
theorem pss_cons (h1 : PS X st t) (h2 : PSs X rest u) : PSs X (st :: rest) (tSeq t u) := by
  intro pins s σ H D I h
  refine wpAny_execs_cons (thn (h1 pins s σ H { D with nx := u D } I h) fun f s1 q => ?_)
  cases f with
  | next =>
    obtain ⟨σ', H', I', q⟩ := q
    exact h2 pins s1 σ' H' D I' q
  | ret v => exact q
  | brk => exact q
  | cont => exact q
theorem pss_one (h1 : PS X st t) : PSs X [st] t := by
  intro pins s σ H D I h
  refine wpAny_execs_cons (thn (h1 pins s σ H D I h) fun f s1 q => ?_)
  cases f with
  | next => exact wpAny_execs_nil q
  | ret v => exact q
  | brk => exact q
  | cont => exact q
/-- in a def's body nothing is shown -/
theorem Inv.quiet {pins : List (Addr × Obj)} {σ : St} {H : Hp} {s : Shared} (I : Inv X pins σ H s) : interactive X.env = false := by simp [interactive, I.ok.kind]
/-- an expression whose value is dropped -/
noncomputable def tDrop (te : TE) : TS := fun D σ H => te σ H fun _ H1 => D.nx σ H1
theorem ps_expr (he : PE X e te) (hs : swapsWith e none pos.line X.env = pure false := by rfl) : PS X (.Expr e pos) (tDrop te) := by
  intro pins s σ H D I h
  exact wpAny_Expr_any (thn (he pins s σ H _ I h) fun v s1 ⟨x, H1, I1, r1, q1⟩ => ⟨σ, H1, I1, q1⟩) I.quiet hs
noncomputable def tRet (te : TE) : TS := fun D σ H => te σ H D.rt
theorem ps_ret (he : PE X e te) : PS X (.Return (some e) pos) (tRet te) := by
  intro pins s σ H D I h
  exact wpAny_Return_some (thn (he pins s σ H _ I h) fun v s1 ⟨x, H1, I1, r1, q1⟩ => ⟨x, σ, H1, I1, r1, q1⟩)
noncomputable def tRetN : TS := fun D _ H => D.rt .non H
noncomputable def tIfS (c : TT) (t u : TS) : TS := fun D σ H => c σ H fun b H1 => if b = true then t D σ H1 else u D σ H1
theorem ps_if {c : Expr} {a b : List Stmt} {tc : TT} (hc : PT X c tc) (ha : PSs X a t) (hb : PSs X b u) : PS X (.If c a b pos) (tIfS tc t u) := by
  intro pins s σ H D I h
  refine wpAny_If (thn (hc pins s σ H _ I h) fun d s1 ⟨H1, I1, q1⟩ => ?_)
  cases d with
  | true => exact ha pins s1 σ H1 D I1 q1
  | false => exact hb pins s1 σ H1 D I1 q1
end

/-! ### targets -/
noncomputable abbrev TG := V → St → Hp → (St → Hp → Prop) → Prop
section
variable {X : Cx} {pos : Pos}
noncomputable def gName (i : Nat) : TG := fun v σ H Q => Q (σ.set i (some v)) H
/-- target = value -/
noncomputable def tAsg (te : TE) (g : TG) : TS := fun D σ H => te σ H fun x H1 => g x σ H1 D.nx
/-- name = value -/
theorem ps_set {i : Nat} {x : Str} {e : Expr} {te : TE} {pos' : Pos} (hN : X.N.Nodup) (hi : X.N[i]? = some x) (hx : Loc X.env.scope x) (he : PE X e te) (hs : swapsWith e (some (.Name x pos')) pos.line X.env = pure false := by rfl) (hf : X.fn x = true ∨ X.env.scope.names.lookup x = some .local := by first | exact .inl rfl | exact .inr rfl | assumption) :
    PS X (.Assign [.Name x pos'] e pos) (tAsg te (gName i)) := by
  intro pins s σ H D I h
  refine wpAny_Assign_Name (thn (he pins s σ H _ I h) fun v s1 ⟨y, H1, I1, r1, q1⟩ => ?_) hs
  exact store_ok I1 hN hi hx r1 (fun s2 I2 => ⟨_, H1, I2, q1⟩) hf
end

/-! ### while -/
section
variable {X : Cx} {pos : Pos}
/-- the invariant W with its measure -/
noncomputable def tWhile (c : TT) (tb : TS) : TS := fun D σ H => ∃ W : Nat → St → Hp → Prop, (∃ m, W m σ H) ∧ ∀ m σ H, W m σ H →
  c σ H fun b H1 => if b = true then ∃ N : St → Hp → Prop, (∀ σ' H', N σ' H' → ∃ m', m' < m ∧ W m' σ' H') ∧ tb { D with nx := N, ct := N, bk := D.nx } σ H1 else D.nx σ H1
theorem ps_while {c : Expr} {body : List Stmt} {tc : TT} {tb : TS} (hp : PassesOwn (model X.prog X.w) X.A X.env X.xe) (hc : PT X c tc) (hb : PSs X body tb) : PS X (.While c body [] pos) (tWhile tc tb) := by
  intro pins s σ H D I h
  obtain ⟨W, ⟨m0, w0⟩, turn⟩ := h
  refine wpAny_While (codeAny_whileLoop (fun n s' => ∃ σ' H', Inv X pins σ' H' s' ∧ W n σ' H') ?_ m0 ⟨σ, H, I, w0⟩)
  rintro n s1 ⟨σ1, H1, I1, w1⟩
  refine wpAny_passesOwn hp (thn (hc pins s1 σ1 H1 _ I1 (turn n σ1 H1 w1)) fun b s2 ⟨H2, I2, q2⟩ => ?_)
  cases b with
  | true =>
    obtain ⟨N, hN, q2⟩ := q2
    rw [if_pos rfl]
    refine wpAny_passesOwn hp (thn (hb pins s2 σ1 H2 _ I2 q2) fun f s3 q3 => ?_)
    cases f with
    | next =>
      obtain ⟨σ3, H3, I3, n3⟩ := q3
      obtain ⟨m', hm, w3⟩ := hN σ3 H3 n3
      exact ⟨m', hm, σ3, H3, I3, w3⟩
    | cont =>
      obtain ⟨σ3, H3, I3, n3⟩ := q3
      obtain ⟨m', hm, w3⟩ := hN σ3 H3 n3
      exact ⟨m', hm, σ3, H3, I3, w3⟩
    | brk => exact q3
    | ret v => exact q3
  | false =>
    rw [if_neg Bool.false_ne_true]
    exact wpAny_execs_nil ⟨σ1, H2, I2, q2⟩
end

/-! ### what a loop or a comprehension walks -/
/-- at turn i: it yields x (the heap may grow), or it stops -/
structure It where
  go : Nat → Hp → Prop
  yld : Nat → Hp → V → Hp → Prop
  stop : Nat → Hp → Prop
/-- the iterator's own objects may turn: they are not the frame's, not pinned, younger than the entry (or a comprehension's own) -/
noncomputable def FpOk (X : Cx) (pins : List (Addr × Obj)) (H : Hp) (b : Addr) : Prop :=
  H b = none ∧ b ≠ X.env.locals ∧ b ∉ X.fs ∧ (b ∈ X.ex ∨ X.s_0.heap.objs.size ≤ b) ∧ (∀ x c, X.env.cells.lookup x = some c → c ≠ b) ∧ ∀ p ∈ X.pn ++ pins, p.1 ≠ b
structure Turn (P : Program) (w : World) (K : PySem.W.Frag) (tg : Expr) (J : It) (fp : List Addr) (it : Addr) (tn : Nat → Heap → Prop) : Prop where
  mem : it ∈ fp
  obj : ∀ i h, tn i h → ∀ b ∈ fp, ∃ o, h.get? b = some o ∧ ∀ v, o.data ≠ .cell v
  keep : ∀ i h h', tn i h → (∀ b ∈ fp, ∀ o, h.get? b = some o → h'.get? b = some o) → tn i h'
  item : ∀ (X : Cx), X.prog = P → X.w = w → X.K = K → X.calm = true → ∀ (i : Nat) (pins : List (Addr × Obj)) (s : Shared) (σ : St) (H : Hp) (E : Value → Shared → Prop), Inv X pins σ H s → (∀ b ∈ fp, FpOk X pins H b) → tn i s.heap → J.go i H →
    wpAny (model P w) X.A (pyNext (.ref it)) (fun r s1 => ∃ u, r = some u ∧
      wpAny (model P w) X.A (letOwnedTupleGo tg (.ref it) u) (fun _ s2 => ∃ x H', Inv X pins σ H' s2 ∧ RelV x u ∧ J.yld i H x H' ∧ tn (i + 1) s2.heap ∧ ∀ b ∈ fp, H' b = none) E s1) E s
  done : ∀ (X : Cx), X.prog = P → X.w = w → X.K = K → X.calm = true → ∀ (i : Nat) (pins : List (Addr × Obj)) (s : Shared) (σ : St) (H : Hp) (E : Value → Shared → Prop), Inv X pins σ H s → (∀ b ∈ fp, FpOk X pins H b) → tn i s.heap → J.stop i H →
    wpAny (model P w) X.A (pyNext (.ref it)) (fun r s1 => r = none ∧ Inv X pins σ H s1) E s
  self : ∀ (A : Around) (i : Nat) (s : Shared) (Q : Value → Shared → Prop) (E : Value → Shared → Prop), tn i s.heap → Q (.ref it) s → wpAny (model P w) A (pyIter (.ref it)) Q E s
end L2

namespace L2
open PySem PySem.Spec PyProof.Rows
section
variable {X : Cx} {tg : Expr}
/-! ### for -/
end

/-! ### the forms one uses -/
/-- while, by a word and a measure of the state -/
theorem while_by {c : TT} {tb : TS} {D : Ends} {σ : St} {H : Hp} (Pv : St → Hp → Prop) (μ : St → Hp → Nat) (h0 : Pv σ H)
    (hs : ∀ σ H, Pv σ H → c σ H fun b H1 => if b = true then tb { D with nx := fun σ' H' => Pv σ' H' ∧ μ σ' H' < μ σ H, ct := fun σ' H' => Pv σ' H' ∧ μ σ' H' < μ σ H, bk := D.nx } σ H1 else D.nx σ H1)
    (mono : ∀ σ H Q Q', (∀ b H1, Q b H1 → Q' b H1) → c σ H Q → c σ H Q') : tWhile c tb D σ H := by
  refine ⟨fun m σ H => m = μ σ H ∧ Pv σ H, ⟨_, rfl, h0⟩, ?_⟩
  rintro m σ H ⟨rfl, p⟩
  refine mono σ H _ _ (fun b H1 q => ?_) (hs σ H p)
  cases b with
  | true => exact ⟨_, fun σ' H' ⟨p', l⟩ => ⟨_, l, rfl, p'⟩, q⟩
  | false => exact q
end L2

namespace L2
open PySem PySem.Spec PyProof.Rows

noncomputable abbrev R2 := V → V → Hp → VK → Prop
/-- a two-place operation on values: f is binaryOp op, inplaceOp op or compareOp op -/
noncomputable def OpR (X : Cx) (f : Value → Value → Sem Value) (r : R2) : Prop :=
  ∀ (pins : List (Addr × Obj)) (s : Shared) (σ : St) (H : Hp) (x y : V) (v u : Value) (Q : VK), Inv X pins σ H s → RelV x v → RelV y u → r x y H Q →
    wpAny (model X.prog X.w) X.A (f v u) (EP X pins σ Q) X.xe s
/-- a one-place operation -/
noncomputable def UnR (X : Cx) (f : Value → Sem Value) (r : V → Hp → VK → Prop) : Prop :=
  ∀ (pins : List (Addr × Obj)) (s : Shared) (σ : St) (H : Hp) (x : V) (v : Value) (Q : VK), Inv X pins σ H s → RelV x v → r x H Q →
    wpAny (model X.prog X.w) X.A (f v) (EP X pins σ Q) X.xe s
/-- a call of a value that is known (a builtin, a type) with values -/
noncomputable def CallR (X : Cx) (f : Value) (r : List V → Hp → VK → Prop) : Prop :=
  ∀ (pins : List (Addr × Obj)) (s : Shared) (σ : St) (H : Hp) (xs : List V) (us : List Value) (Q : VK), Inv X pins σ H s → Vals xs us → r xs H Q →
    wpAny (model X.prog X.w) X.A (call f us) (EP X pins σ Q) X.xe s
noncomputable def tOp (r : R2) (ta tb : TE) : TE := fun σ H Q => ta σ H fun x H1 => tb σ H1 fun y H2 => r x y H2 Q
noncomputable def tUn (r : V → Hp → VK → Prop) (ta : TE) : TE := fun σ H Q => ta σ H fun x H1 => r x H1 Q
/-- ints in, under C, and a value out -/
noncomputable def rI (C : Int → Int → Prop) (g : Int → Int → V) : R2 := fun x y H Q => ∃ i j, x = .int i ∧ y = .int j ∧ C i j ∧ Q (g i j) H
noncomputable def rI0 (g : Int → Int → V) : R2 := fun x y H Q => ∃ i j, x = .int i ∧ y = .int j ∧ Q (g i j) H
noncomputable def rU (g : Int → V) : V → Hp → VK → Prop := fun x H Q => ∃ i, x = .int i ∧ Q (g i) H

section
variable {X : Cx} {a b c : Expr} {ta tb tc : TE} {pos : Pos}

theorem binT (ha : PE X a ta) (hb : PE X b tb) {pins : List (Addr × Obj)} {s : Shared} {σ : St} {H : Hp} {R : V → V → Hp → Prop} (I : Inv X pins σ H s)
    (h : ta σ H fun x H1 => tb σ H1 fun y H2 => R x y H2) {Q : Value → Shared → Prop} {f : Value → Value → Sem Value}
    (hf : ∀ v u s2 x y H2, Inv X pins σ H2 s2 → RelV x v → RelV y u → R x y H2 → wpAny (model X.prog X.w) X.A (f v u) Q X.xe s2) :
    wpAny (model X.prog X.w) X.A (eval a X.env) (fun v s₁ => wpAny (model X.prog X.w) X.A (eval b X.env) (fun u s₂ => wpAny (model X.prog X.w) X.A (f v u) Q X.xe s₂) X.xe s₁) X.xe s := by
  refine thn (ha pins s σ H _ I h) fun v s1 ⟨x, H1, I1, r1, q1⟩ => ?_
  refine thn (hb pins s1 σ H1 _ I1 q1) fun u s2 ⟨y, H2, I2, r2, q2⟩ => ?_
  exact hf v u s2 x y H2 I2 r1 r2 q2

theorem pe_op {op : Operator} {r : R2} (ho : OpR X (binaryOp op) r) (ha : PE X a ta) (hb : PE X b tb) : PE X (.BinOp a op b pos) (tOp r ta tb) := by
  intro pins s σ H Q I h
  exact wpAny_BinOp (binT ha hb I h fun v u s2 x y H2 I2 rx ry q => ho pins s2 σ H2 x y v u Q I2 rx ry q)
theorem pe_un {op : UnaryOp} {r : V → Hp → VK → Prop} (ho : UnR X (unaryOp op) r) (ha : PE X a ta) : PE X (.UnaryOp op a pos) (tUn r ta) := by
  intro pins s σ H Q I h
  exact UnaryOp_ (thn (ha pins s σ H _ I h) fun v s1 ⟨x, H1, I1, r1, q1⟩ => ho pins s1 σ H1 x v Q I1 r1 q1)
/-! ### ints -/
theorem opI {f : Value → Value → Sem Value} {C : Int → Int → Prop} {g : Int → Int → Int}
    (rule : ∀ (i j : Int) (t u : Tok) (s : Shared) (Q : Value → Shared → Prop) (E : Value → Shared → Prop), C i j → Q (.int (g i j) s.toks) { s with toks := s.toks + 1 } → wpAny (model X.prog X.w) X.A (f (.int i t) (.int j u)) Q E s) :
    OpR X f (rI C fun i j => .int (g i j)) := by
  intro pins s σ H x y v u Q I rx ry h
  obtain ⟨i, j, rfl, rfl, hc, q⟩ := h
  obtain ⟨t, rfl⟩ := rx
  obtain ⟨t', rfl⟩ := ry
  exact rule i j t t' s _ _ hc ⟨.int (g i j), H, I.tok _, ⟨_, rfl⟩, q⟩
theorem opI0 {f : Value → Value → Sem Value} {g : Int → Int → Int}
    (rule : ∀ (i j : Int) (t u : Tok) (s : Shared) (Q : Value → Shared → Prop) (E : Value → Shared → Prop), Q (.int (g i j) s.toks) { s with toks := s.toks + 1 } → wpAny (model X.prog X.w) X.A (f (.int i t) (.int j u)) Q E s) :
    OpR X f (rI0 fun i j => .int (g i j)) := by
  intro pins s σ H x y v u Q I rx ry h
  obtain ⟨i, j, rfl, rfl, q⟩ := h
  obtain ⟨t, rfl⟩ := rx
  obtain ⟨t', rfl⟩ := ry
  exact rule i j t t' s _ _ ⟨.int (g i j), H, I.tok _, ⟨_, rfl⟩, q⟩
theorem opB0 {f : Value → Value → Sem Value} {g : Int → Int → Bool}
    (rule : ∀ (i j : Int) (t u : Tok) (s : Shared) (Q : Value → Shared → Prop) (E : Value → Shared → Prop), Q (.bool (g i j)) s → wpAny (model X.prog X.w) X.A (f (.int i t) (.int j u)) Q E s) :
    OpR X f (rI0 fun i j => .bl (g i j)) := by
  intro pins s σ H x y v u Q I rx ry h
  obtain ⟨i, j, rfl, rfl, q⟩ := h
  obtain ⟨t, rfl⟩ := rx
  obtain ⟨t', rfl⟩ := ry
  exact rule i j t t' s _ _ ⟨.bl (g i j), H, I, rfl, q⟩

theorem two_pow_nn (k : Nat) : (0 : Int) ≤ 2 ^ k := by
  rw [two_pow_cast]
  exact Int.natCast_nonneg _

theorem op_add : OpR X (binaryOp .Add) (rI0 fun i j => .int (i + j)) := opI0 fun _ _ _ _ _ _ _ q => add_int q
theorem op_sub : OpR X (binaryOp .Sub) (rI0 fun i j => .int (i - j)) := opI0 fun _ _ _ _ _ _ _ q => sub_int q
/-- % by a positive divisor of any size -/
theorem op_mod : OpR X (binaryOp .Mod) (rI (fun _ j => 0 < j) fun i j => .int (i % j)) := opI fun i j _ _ _ _ _ hc q => by
  have h1 : (0 : Int) < j := hc
  exact mod_int' (by (first | lia | omega)) (by rw [Int.fmod_eq_emod_of_nonneg i (by (first | lia | omega))]; exact q)
theorem op_shr : OpR X (binaryOp .RShift) (rI (fun _ j => 0 ≤ j) fun i j => .int (i / 2 ^ j.toNat)) := opI fun i j _ _ _ _ _ hc q =>
  rshift_int hc (by rw [Int.fdiv_eq_ediv_of_nonneg i (two_pow_nn _)]; exact q)
theorem op_and : OpR X (binaryOp .BitAnd) (rI0 fun i j => .int (Builtin.bitAnd i j)) := opI0 fun _ _ _ _ _ _ _ q => and_int q
theorem op_xor : OpR X (binaryOp .BitXor) (rI0 fun i j => .int (Builtin.bitXor i j)) := opI0 fun _ _ _ _ _ _ _ q => xor_int q

theorem unI {f : Value → Sem Value} {g : Int → Int}
    (rule : ∀ (i : Int) (t : Tok) (s : Shared) (Q : Value → Shared → Prop) (E : Value → Shared → Prop), Q (.int (g i) s.toks) { s with toks := s.toks + 1 } → wpAny (model X.prog X.w) X.A (f (.int i t)) Q E s) :
    UnR X f (rU fun i => .int (g i)) := by
  intro pins s σ H x v Q I rx h
  obtain ⟨i, rfl, q⟩ := h
  obtain ⟨t, rfl⟩ := rx
  exact rule i t s _ _ ⟨.int (g i), H, I.tok _, ⟨_, rfl⟩, q⟩
theorem un_neg : UnR X (unaryOp .USub) (rU fun i => .int (-i)) := unI fun _ _ _ _ _ q => neg_int q
/-! ### bools among ints: n += (a < b) -/
end

/-! ### comparisons -/
/-- the scalars that == tells apart as data does -/
noncomputable def scal : V → V → Bool
  | .non, .non => true | .non, .int _ => true | .int _, .non => true | .non, .bl _ => true | .bl _, .non => true | .non, .str _ => true | .str _, .non => true
  | .int _, .int _ => true | .bl _, .bl _ => true | .str _, .str _ => true | .byt _, .byt _ => true
  | .int _, .str _ => true | .str _, .int _ => true | .bl _, .str _ => true | .str _, .bl _ => true
  | _, _ => false
noncomputable def rEq : R2 := fun x y H Q => scal x y = true ∧ Q (.bl (decide (x = y))) H
theorem dec_int {i j : Int} : decide (V.int i = V.int j) = (i == j) := by
  rw [Bool.eq_iff_iff]
  simp
theorem dec_bl {i j : Bool} : decide (V.bl i = V.bl j) = (i == j) := by
  rw [Bool.eq_iff_iff]
  simp
theorem dec_str {i j : Str} : decide (V.str i = V.str j) = (i == j) := by
  rw [Bool.eq_iff_iff]
  simp
theorem dec_byt {i j : Array UInt8} : decide (V.byt i = V.byt j) = (i.toList == j.toList) := by
  rw [Bool.eq_iff_iff]
  cases i
  cases j
  simp

section
variable {X : Cx} {a b c : Expr} {ta tb tc : TE} {pos : Pos}
theorem fin_bl {pins : List (Addr × Obj)} {σ : St} {H : Hp} {s : Shared} {Q : VK} {k k' : Bool} (I : Inv X pins σ H s) (q : Q (.bl k) H) (e : k = k') : EP X pins σ Q (.bool k') s := by
  subst e
  exact ⟨.bl k, H, I, rfl, q⟩
theorem op_eq : OpR X (compareOp .Eq) rEq := by
  intro pins s σ H x y v u Q I rx ry h
  obtain ⟨hs, q⟩ := h
  cases x with
  | non =>
    cases rx
    cases y with
    | non => cases ry; exact PySem.EqNone.eq_none_none (fin_bl I q (by simp))
    | bl j => cases ry; exact PySem.EqNone.eq_none_bool (fin_bl I q (by simp))
    | int j => obtain ⟨t', rfl⟩ := ry; exact PySem.EqNone.eq_none_int (fin_bl I q (by simp))
    | str j => obtain ⟨t', rfl⟩ := ry; exact PySem.EqNone.eq_none_str (fin_bl I q (by simp))
    | _ => exact absurd (show false = true from hs) Bool.false_ne_true
  | bl i =>
    cases rx
    cases y with
    | non => cases ry; exact PySem.EqNone.eq_bool_none (fin_bl I q (by simp))
    | bl j => cases ry; exact eq_bool (fin_bl I q dec_bl)
    | str j => obtain ⟨t', rfl⟩ := ry; exact PySem.EqMixed.eq_bool_str (fin_bl I q (by simp))
    | _ => exact absurd (show false = true from hs) Bool.false_ne_true
  | int i =>
    obtain ⟨t, rfl⟩ := rx
    cases y with
    | non => cases ry; exact PySem.EqNone.eq_int_none (fin_bl I q (by simp))
    | int j => obtain ⟨t', rfl⟩ := ry; exact eq_int (fin_bl I q dec_int)
    | str j => obtain ⟨t', rfl⟩ := ry; exact PySem.EqMixed.eq_int_str (fin_bl I q (by simp))
    | _ => exact absurd (show false = true from hs) Bool.false_ne_true
  | str i =>
    obtain ⟨t, rfl⟩ := rx
    cases y with
    | non => cases ry; exact PySem.EqNone.eq_str_none (fin_bl I q (by simp))
    | bl j => cases ry; exact PySem.EqMixed.eq_str_bool (fin_bl I q (by simp))
    | int j => obtain ⟨t', rfl⟩ := ry; exact PySem.EqMixed.eq_str_int (fin_bl I q (by simp))
    | str j => obtain ⟨t', rfl⟩ := ry; exact eq_str (fin_bl I q dec_str)
    | _ => exact absurd (show false = true from hs) Bool.false_ne_true
  | byt i =>
    obtain ⟨t, rfl⟩ := rx
    cases y with
    | byt j => obtain ⟨t', rfl⟩ := ry; exact PySem.W.eq_bytes (fin_bl I q dec_byt)
    | _ => exact absurd (show false = true from hs) Bool.false_ne_true
  | _ => cases y <;> exact absurd (show false = true from hs) Bool.false_ne_true
theorem op_lt : OpR X (compareOp .Lt) (rI0 fun i j => .bl (decide (i < j))) := opB0 fun _ _ _ _ _ _ _ q => lt_int q
theorem op_le : OpR X (compareOp .LtE) (rI0 fun i j => .bl (decide (i ≤ j))) := opB0 fun _ _ _ _ _ _ _ q => le_int q
theorem op_gt : OpR X (compareOp .Gt) (rI0 fun i j => .bl (decide (j < i))) := opB0 fun _ _ _ _ _ _ _ q => gt_int q
theorem op_ge : OpR X (compareOp .GtE) (rI0 fun i j => .bl (decide (j ≤ i))) := opB0 fun _ _ _ _ _ _ _ q => ge_int q
/-- is None, is not None: the right side a value none -/
theorem op_isN : OpR X (compareOp .Is) (fun x y H Q => y = .non ∧ Q (.bl (decide (x = .non))) H) := by
  intro pins s σ H x y v u Q I rx ry h
  obtain ⟨rfl, q⟩ := h
  cases ry
  refine is_none_gen (fin_bl I q ?_)
  cases x <;> first
    | (cases rx; rfl)
    | (obtain ⟨t, rfl⟩ := rx; rfl)
theorem op_notN : OpR X (compareOp .IsNot) (fun x y H Q => y = .non ∧ Q (.bl (!decide (x = .non))) H) := by
  intro pins s σ H x y v u Q I rx ry h
  obtain ⟨rfl, q⟩ := h
  cases ry
  refine isnot_none_gen (fin_bl I q ?_)
  cases x <;> first
    | (cases rx; rfl)
    | (obtain ⟨t, rfl⟩ := rx; rfl)

theorem nomark (b : Expr) {op : CmpOp} (h : op ≠ .In := by decide) (h2 : op ≠ .NotIn := by decide) : behindInMarks op b = false := by
  have e1 : (op == CmpOp.In) = false := by cases op <;> first | rfl | exact absurd rfl h
  have e2 : (op == CmpOp.NotIn) = false := by cases op <;> first | rfl | exact absurd rfl h2
  cases b <;> simp [behindInMarks, e1, e2]
/-- a comparison as a value; hm: nomark b, or (for in, not in) by with_unfolding_all rfl -/
theorem pe_cmpR {op : CmpOp} {r : R2} (ho : OpR X (compareOp op) r) (ha : PE X a ta) (hb : PE X b tb) (hm : behindInMarks op b = false) : PE X (.Compare a [op] [b] pos) (tOp r ta tb) := by
  intro pins s σ H Q I h
  exact wpAny_Compare1 (binT ha hb I h fun v u s2 x y H2 I2 rx ry q => ho pins s2 σ H2 x y v u Q I2 rx ry q) hm
/-- a reading of a value as a test -/
noncomputable def tTest (t : TE) : TT := fun σ H Q => t σ H fun x H' => ∃ k, x = .bl k ∧ Q k H'
theorem pt_cmpR {op : CmpOp} {r : R2} (ho : OpR X (compareOp op) r) (ha : PE X a ta) (hb : PE X b tb) (hm : behindInMarks op b = false) : PT X (.Compare a [op] [b] pos) (tTest (tOp r ta tb)) := by
  intro pins s σ H Q I h
  refine wpAny_isTrue_Compare1 (thn (ha pins s σ H _ I h) fun v s1 ⟨x, H1, I1, r1, q1⟩ => thn (hb pins s1 σ H1 _ I1 q1) fun u s2 ⟨y, H2, I2, r2, q2⟩ =>
    thn (ho pins s2 σ H2 x y v u _ I2 r1 r2 q2) fun c s3 ⟨z, H3, I3, r3, k, e, q3⟩ => ?_) hm
  subst e
  cases r3
  exact wpAny_truthy_bool ⟨H3, I3, q3⟩
/-- a op1 b op2 c -/
noncomputable def tChain (r r' : R2) (ta tb tc : TE) : TE := fun σ H Q => ta σ H fun x H1 => tb σ H1 fun y H2 => r x y H2 fun z H3 => ∃ k, z = .bl k ∧
  (if k = true then tc σ H3 fun w' H4 => r' y w' H4 Q else Q (.bl false) H3)
theorem pe_chain {op op' : CmpOp} {r r' : R2} (ho : OpR X (compareOp op) r) (ho' : OpR X (compareOp op') r') (ha : PE X a ta) (hb : PE X b tb) (hc : PE X c tc)
    (hm : lastMarks [op, op'] [b, c] = false := by with_unfolding_all rfl) : PE X (.Compare a [op, op'] [b, c] pos) (tChain r r' ta tb tc) := by
  intro pins s σ H Q I h
  refine Compare_chain (thn (ha pins s σ H _ I h) fun v s1 ⟨x, H1, I1, r1, q1⟩ => chain_link (thn (hb pins s1 σ H1 _ I1 q1) fun u s2 ⟨y, H2, I2, r2, q2⟩ =>
    thn (ho pins s2 σ H2 x y v u _ I2 r1 r2 q2) fun d s3 ⟨z, H3, I3, r3, k, e, q3⟩ => ?_)) hm
  subst e
  cases r3
  refine wpAny_truthy_bool ?_
  cases k with
  | false => exact ite_ff ⟨.bl false, H3, I3, rfl, q3⟩
  | true => exact ite_tt (chain_last (thn (hc pins s3 σ H3 _ I3 q3) fun w' s4 ⟨z', H4, I4, r4, q4⟩ => ho' pins s4 σ H4 y z' u w' Q I4 r2 r4 q4))
/-! ### truth -/
theorem line63 : (sizeLine : Nat) < 2 ^ 63 := by rw [sizeLine_eq]; decide
/-! ### strs and bytes -/
/-! ### scalar builtins, by CallR -/
theorem vals1 {x : V} {us : List Value} (r : Vals [x] us) : ∃ u, us = [u] ∧ RelV x u := by
  cases r with
  | cons r1 r2 => cases r2; exact ⟨_, rfl, r1⟩
theorem vals2 {x y : V} {us : List Value} (r : Vals [x, y] us) : ∃ u w', us = [u, w'] ∧ RelV x u ∧ RelV y w' := by
  cases r with
  | cons r1 r2 =>
    cases r2 with
    | cons r3 r4 => cases r4; exact ⟨_, _, rfl, r1, r3⟩
theorem call_abs : CallR X (.builtin "abs") (fun xs H Q => ∃ i, xs = [.int i] ∧ Q (.int (if i < 0 then -i else i)) H) := by
  intro pins s σ H xs us Q I r h
  obtain ⟨i, rfl, q⟩ := h
  obtain ⟨u, rfl, t, rfl⟩ := vals1 r
  exact call_abs_int fun u tk => ⟨.int (if i < 0 then -i else i), H, I.tok _, ⟨_, rfl⟩, q⟩
theorem call_max2 (hc : X.calm = true) : CallR X (.builtin "max") (fun xs H Q => ∃ i j, xs = [.int i, .int j] ∧ Q (.int (if j > i then j else i)) H) := by
  intro pins s σ H xs us Q I r h
  obtain ⟨i, j, rfl, q⟩ := h
  obtain ⟨u, w', rfl, ⟨t, rfl⟩, ⟨t', rfl⟩⟩ := vals2 r
  refine max_two_ints (I.ok.hd hc) fun h' tk k => ⟨_, H, I.kept k, ?_, q⟩
  by_cases hj : j > i
  · rw [if_pos hj, if_pos hj]; exact ⟨_, rfl⟩
  · rw [if_neg hj, if_neg hj]; exact ⟨_, rfl⟩
theorem call_min2 (hc : X.calm = true) : CallR X (.builtin "min") (fun xs H Q => ∃ i j, xs = [.int i, .int j] ∧ Q (.int (if j < i then j else i)) H) := by
  intro pins s σ H xs us Q I r h
  obtain ⟨i, j, rfl, q⟩ := h
  obtain ⟨u, w', rfl, ⟨t, rfl⟩, ⟨t', rfl⟩⟩ := vals2 r
  refine min_two_ints (I.ok.hd hc) fun h' tk k => ⟨_, H, I.kept k, ?_, q⟩
  by_cases hj : j < i
  · rw [if_pos hj, if_pos hj]; exact ⟨_, rfl⟩
  · rw [if_neg hj, if_neg hj]; exact ⟨_, rfl⟩
end
end L2

namespace L2
open PySem PySem.Spec PyProof.Rows

/-! ### an instance, its attributes a map -/
structure ObjM (h : Heap) (x dx C : Addr) (mA : Str → Option Value) : Prop where
  obj : h.get? x = some (PySem.W.instObj C dx)
  ns : h.Ns1 dx mA
  ne : dx ≠ x

theorem lookIn_ns {h : Heap} {dx : Addr} {mA : Str → Option Value} (n : h.Ns1 dx mA) : ∃ od, h.get? dx = some od ∧ ∀ name, PySem.W.lookIn name od = some (mA name) := by
  obtain ⟨o, es, ep, ho, hd, hk, _, hm⟩ := n
  refine ⟨o, ho, fun name => ?_⟩
  have e := hm name
  unfold nsFind findBy at e
  rw [← Array.find?_toList] at e
  unfold PySem.W.lookIn
  rw [hd]
  dsimp only
  split
  · rename_i y q
    rw [q] at e
    exact congrArg some e
  · rename_i q
    rw [q] at e
    have a : es.toList.any (·.refKey) = false := by
      rw [List.any_eq_false]
      intro y hy
      obtain ⟨z, t, hkey⟩ := hk y (Array.mem_toList_iff.mp hy)
      simp [DictEntry.refKey, hkey]
    have a' : ¬ es.toList.any (·.refKey) = true := by rw [a]; exact Bool.false_ne_true
    rw [if_neg a']
    exact congrArg some e

theorem ObjM.look {h : Heap} {x dx C : Addr} {mA : Str → Option Value} (I : ObjM h x dx C mA) : ∃ od, PySem.W.InstAt h x (PySem.W.instObj C dx) C (some od) ∧ ∀ name, PySem.W.lookIn name od = some (mA name) :=
  let ⟨od, ho, hl⟩ := lookIn_ns I.ns
  ⟨od, ⟨I.obj, rfl, rfl, ho⟩, hl⟩

section
variable {prog : Program} {w : World} {A : Around} {E : Value → Shared → Prop} {s : Shared} {K : PySem.W.Frag} {x dx C f : Addr} {mA : Str → Option Value} {name : Str} {v : Value}

theorem get_map {expr : Bool} {Q : Value → Shared → Prop} (X : K.In s.heap) (I : ObjM s.heap x dx C mA) (hg : PySem.W.plainGet K C name = true) (hh : PySem.W.hasDictIn K C = true)
    (ha : PySem.W.findIn K (.ref C) name = some none) (hv : mA name = some v) (hv' : PySem.W.handedIn v = true) (h : Q v { s with toks := s.toks + 1 }) :
    wpAny (model prog w) A (getAttr (.ref x) name expr) Q E s := by
  obtain ⟨od, J, hl⟩ := I.look
  exact PySem.W.get_value X J (PySem.W.plainGet_of hg).1 (PySem.W.findObj_own hh ha rfl (by rw [hl, hv])) hv' h

theorem get_meth {pl : Sem Bool} {Q : Value × List Value → Shared → Prop} (X : K.In s.heap) (I : ObjM s.heap x dx C mA) (hg : PySem.W.plainGet K C name = true)
    (hf : PySem.W.findIn K (.ref C) name = some (some (.ref f))) (ht : PySem.W.isFn K (.ref f) = true) (hv : mA name = none) (h : Q (.ref f, [.ref x]) s) :
    wpAny (model prog w) A (getMethod (.ref x) name pl) Q E s := by
  obtain ⟨od, J, hl⟩ := I.look
  exact PySem.W.method_fn X J (PySem.W.plainGet_of hg).1 (PySem.W.plainGet_of hg).2 hf (beq_iff_eq.mp ht) (by show (PySem.W.lookIn name od).map (·.isSome) = some false; rw [hl, hv]; rfl) h

theorem set_map {ns : List Str} {Q : Unit → Shared → Prop} (X : K.In s.heap) (I : ObjM s.heap x dx C mA)
    (hs : PySem.W.findIn K (.ref C) "__setattr__" = some (some (.builtin "object.__setattr__"))) (hp : PySem.W.plainOver K C = true) (ht : PySem.W.takerIn K C name = some none) (hh : PySem.W.hasDictIn K C = true)
    (hw : PySem.Within mA ns) (hsz : ns.length ≤ sizeLine)
    (h : ∀ h', ObjM h' x dx C (fun y => if y = name then some v else mA y) → Heap.SameBut dx s.heap h' → Q () { s with heap := h', toks := s.toks + 2 }) :
    wpAny (model prog w) A (setAttr (.ref x) name v) Q E s := by
  obtain ⟨od, J, hl⟩ := I.look
  refine PySem.W.set_plain X J hs (PySem.W.osa_open (s := { s with toks := s.toks + 1 }) (r := none) X J hp ht fun b => ?_)
  obtain ⟨cd, hc, hd'⟩ := PySem.W.any_some hh
  have hx : s.heap.get? x = some ⟨.ref C, some dx, .plain, #[]⟩ := I.obj
  refine wpAny_bind (wpAny_pure (wpAny_bind (wpAny_bind (wpAny_loadPart hx (wpAny_bind (PySem.W.Looks.here (s := { s with toks := s.toks + 1 }) (PySem.W.looks_clsIn X hc) ?_))))))
  rw [hd']
  refine wpAny_pure (a := some dx) (wpAny_bind (wpAny_pure (wpAny_bind ?_)))
  refine wpAny_nsSet1 (s := { s with toks := s.toks + 1 }) I.ns fun h' hn2 hs2 => ?_
  obtain ⟨oD, esD, epD, hoD, hdD, hcD⟩ := hn2.count (PySem.Within.cons name v hw)
  refine wpAny_bind (wpAny_lookBehind hoD (by rw [hdD]; exact pastItsLine_dict (Nat.le_trans hcD (by rw [List.length_cons]; (first | lia | omega)))) ?_)
  exact wpAny_pure (h _ ⟨(hs2.2 _ (Ne.symm I.ne)).trans I.obj, hn2, I.ne⟩ hs2)

/-- C(..): the dict at the heap's end, the instance behind it; then its __init__ -/
theorem make_map {R : Result → Shared → Prop} {vs : List Value} {kw : List (Str × Value)} (X : K.In s.heap) (hm : PySem.W.makesIn K C = true)
    (hi : PySem.W.findIn K (.ref C) "__init__" = some (some (.ref f))) (hf : PySem.W.typeIn K (.ref f) = some (.type "function"))
    (h : codeAny (model prog w) (A.under (.builtin "type.__call__" ⟨.ref C :: vs, kw⟩)) (.call (.ref f) ⟨.ref (s.heap.objs.size + 1) :: vs, kw⟩) (PySem.W.InitBack (s.heap.objs.size + 1) R)
      { s with heap := (s.heap.push PySem.W.emptyDict).push (PySem.W.instObj C s.heap.objs.size) }) :
    codeAny (model prog w) A (.call (.ref C) ⟨vs, kw⟩) R s := by
  obtain ⟨hh, g, d, t, os⟩ := s
  exact PySem.W.make_core (PySem.W.makes_of X hm) (PySem.W.looks_findIn X hi) (fun self => PySem.W.bind_fn X self hf) (.inl rfl) h
end

/-! ### the attributes as a list of pairs -/
noncomputable def putF (f : Str) (v : V) : List (Str × V) → List (Str × V)
  | [] => [(f, v)]
  | (g, x) :: r => if g = f then (g, v) :: r else (g, x) :: putF f v r
theorem lookup_putF (f g : Str) (v : V) : ∀ fs : List (Str × V), (putF f v fs).lookup g = if g = f then some v else fs.lookup g
  | [] => by
    show List.lookup g [(f, v)] = _
    by_cases h : g = f
    · have hb : (g == f) = true := beq_iff_eq.mpr h
      simp only [List.lookup, hb, if_pos h]
    · have hb : (g == f) = false := beq_eq_false_iff_ne.mpr h
      simp only [List.lookup, hb, if_neg h]
  | (k, x) :: r => by
    have ih := lookup_putF f g v r
    rw [show putF f v ((k, x) :: r) = (if k = f then (k, v) :: r else (k, x) :: putF f v r) from rfl]
    by_cases hk : k = f
    · rw [if_pos hk]
      by_cases h : g = k
      · have hb : (g == k) = true := beq_iff_eq.mpr h
        simp only [List.lookup, hb, if_pos (h.trans hk)]
      · have hb : (g == k) = false := beq_eq_false_iff_ne.mpr h
        simp only [List.lookup, hb, if_neg (fun e : g = f => h (e.trans hk.symm))]
    · rw [if_neg hk]
      by_cases h : g = k
      · have hb : (g == k) = true := beq_iff_eq.mpr h
        simp only [List.lookup, hb, if_neg (fun e : g = f => hk (h.symm.trans e))]
      · have hb : (g == k) = false := beq_eq_false_iff_ne.mpr h
        simp only [List.lookup, hb]
        exact ih
theorem keys_putF (f : Str) (v : V) : ∀ fs : List (Str × V), f ∈ (putF f v fs).map (·.1) ∧ ∀ g, g ∈ fs.map (·.1) → g ∈ (putF f v fs).map (·.1)
  | [] => ⟨by simp [putF], fun g h => by simp at h⟩
  | (k, x) :: r => by
    obtain ⟨i1, i2⟩ := keys_putF f v r
    rw [show putF f v ((k, x) :: r) = (if k = f then (k, v) :: r else (k, x) :: putF f v r) from rfl]
    by_cases hk : k = f
    · rw [if_pos hk]
      subst hk
      exact ⟨by simp, fun g h => by simpa using h⟩
    · rw [if_neg hk]
      refine ⟨?_, fun g h => ?_⟩
      · rw [List.map_cons]
        exact List.mem_cons_of_mem _ i1
      · rw [List.map_cons] at h ⊢
        rcases List.mem_cons.mp h with e | e
        · exact List.mem_cons.mpr (.inl e)
        · exact List.mem_cons_of_mem _ (i2 g e)
theorem length_putF (f : Str) (v : V) : ∀ fs : List (Str × V), (putF f v fs).length ≤ fs.length + 1
  | [] => by simp [putF]
  | (k, x) :: r => by
    have ih := length_putF f v r
    rw [show putF f v ((k, x) :: r) = (if k = f then (k, v) :: r else (k, x) :: putF f v r) from rfl]
    by_cases hk : k = f
    · rw [if_pos hk, List.length_cons, List.length_cons]; (first | lia | omega)
    · rw [if_neg hk, List.length_cons, List.length_cons]; (first | lia | omega)

theorem RelO.some_of {v : V} {o : Option Value} (r : RelO (some v) o) : ∃ u, o = some u ∧ RelV v u := by
  cases o with
  | none => exact (show False from r).elim
  | some u => exact ⟨u, rfl, r⟩
theorem RelO.none_of {o : Option Value} (r : RelO none o) : o = none := by
  cases o with
  | none => rfl
  | some u => exact (show False from r).elim
theorem handed_of {v : V} {u : Value} (r : RelV v u) : PySem.W.handedIn u = true := by
  cases v with
  | non => cases (show u = Value.none from r); rfl
  | bl b => cases (show u = Value.bool b from r); rfl
  | int i => obtain ⟨t, e⟩ := (show ∃ t, u = Value.int i t from r); cases e; rfl
  | str x => obtain ⟨t, e⟩ := (show ∃ t, u = Value.str x t from r); cases e; rfl
  | byt b => obtain ⟨t, e⟩ := (show ∃ t, u = Value.bytes b t from r); cases e; rfl
  | flt b => obtain ⟨t, e⟩ := (show ∃ t, u = Value.float b t from r); cases e; rfl
  | ref a => cases (show u = Value.ref a from r); rfl
  | ty n => cases (show u = Value.type n from r); rfl

section
variable {P : Program} {w : World} {H H' : Hp} {h h' : Heap} {a C dx : Addr} {fs fs' : List (Str × V)}
theorem ins_get (hok : HOk P w H h) (e : H a = some (.ins C dx fs)) : ∃ mA, ObjM h a dx C mA ∧ (∀ f, RelO (fs.lookup f) (mA f)) ∧ PySem.Within mA (fs.map (·.1)) ∧ fs.length ≤ 1000 ∧ H dx = some (.own a) := by
  obtain ⟨d, z, ne, ob, mA, n, r, q⟩ := (show ObjOk P w H h a (.ins C dx fs) from hok a _ e)
  exact ⟨mA, ⟨ob, n, ne⟩, r, q, z, d⟩
end

/-! ### what of the text a class must have -/
structure Cls (K : PySem.W.Frag) (C : Addr) : Prop where
  pg : PySem.W.plainGet K C Str.empty = true
  hd : PySem.W.hasDictIn K C = true
  po : PySem.W.plainOver K C = true
  sa : PySem.W.findIn K (.ref C) "__setattr__" = some (some (.builtin "object.__setattr__"))
theorem Cls.get {K : PySem.W.Frag} {C : Addr} (c : Cls K C) (f : Str) : PySem.W.plainGet K C f = true := c.pg
/-- no class of it has the name -/
noncomputable def NoAttr (K : PySem.W.Frag) (C : Addr) (f : Str) : Prop := PySem.W.findIn K (.ref C) f = some none
theorem NoAttr.taker {K : PySem.W.Frag} {C : Addr} {f : Str} (n : NoAttr K C f) : PySem.W.takerIn K C f = some none := by
  unfold PySem.W.takerIn
  rw [show PySem.W.findIn K (.ref C) f = some none from n]
  rfl
/-- a constant of the class -/
structure Con (K : PySem.W.Frag) (C : Addr) (f : Str) (v : V) (u : Value) : Prop where
  at_ : PySem.W.findIn K (.ref C) f = some (some u)
  rel : RelV v u
  get : PySem.W.specialIn K u "__get__" = some none
  cp : PySem.W.copiedNames.contains f = false
/-- a method: a plain def of the class or of one above it -/
structure Meth (K : PySem.W.Frag) (C : Addr) (m : Str) (f : Addr) : Prop where
  at_ : PySem.W.findIn K (.ref C) m = some (some (.ref f))
  fn : PySem.W.isFn K (.ref f) = true
  kp : PySem.W.keepIn K (.ref f) = true

section
variable {X : Cx} {pins : List (Addr × Obj)} {σ : St} {H : Hp} {s : Shared} {a C dx : Addr} {fs : List (Str × V)} {f : Str} {v : V} {A : Around} {E : Value → Shared → Prop}

theorem getattr_ok {b : Bool} {Q : Value → Shared → Prop} (I : Inv X pins σ H s) (e : H a = some (.ins C dx fs)) (c : Cls X.K C) (n : NoAttr X.K C f) (l : fs.lookup f = some v)
    (h : ∀ u s', Inv X pins σ H s' → RelV v u → Q u s') : wpAny (model X.prog X.w) A (getAttr (.ref a) f b) Q E s := by
  obtain ⟨mA, O, r, _, _, _⟩ := ins_get I.hok e
  obtain ⟨u, hu, ru⟩ := RelO.some_of (v := v) (o := mA f) (by rw [← l]; exact r f)
  exact get_map I.kIn O (c.get f) c.hd n hu (handed_of ru) (h u _ (I.tok _) ru)

theorem getmeth_ok {m : Str} {g : Addr} {pl : Sem Bool} {Q : Value × List Value → Shared → Prop} (I : Inv X pins σ H s) (e : H a = some (.ins C dx fs)) (c : Cls X.K C) (k : Meth X.K C m g) (l : fs.lookup m = none)
    (h : Q (.ref g, [.ref a]) s) : wpAny (model X.prog X.w) A (getMethod (.ref a) m pl) Q E s := by
  obtain ⟨mA, O, r, _, _, _⟩ := ins_get I.hok e
  have hn : mA m = none := RelO.none_of (by rw [← l]; exact r m)
  exact get_meth I.kIn O (c.get m) k.at_ k.fn hn h

theorem setattr_ok {y : V} {u : Value} {Q : Unit → Shared → Prop} (I : Inv X pins σ H s) (e : H a = some (.ins C dx fs)) (c : Cls X.K C) (n : NoAttr X.K C f) (hl : fs.length < 1000) (ry : RelV y u)
    (h : ∀ s', Inv X pins σ (upd H a (.ins C dx (putF f y fs))) s' → Q () s') : wpAny (model X.prog X.w) A (setAttr (.ref a) f u) Q E s := by
  obtain ⟨mA, O, r, wi, _, ho⟩ := ins_get I.hok e
  have hz : (fs.map (·.1)).length ≤ sizeLine := by rw [List.length_map, sizeLine_eq]; (first | lia | omega)
  refine set_map I.kIn O c.sa c.po n.taker c.hd wi hz fun h' O' sb => h _ ?_
  have hd : ∃ o, h'.get? dx = some o := let ⟨o, _, _, e', _⟩ := O'.ns; ⟨o, e'⟩
  refine I.write (x := a) (e := dx) (by rw [e]; exact True.intro) (.inr ho) (fun b q hb z => (sb.2 b hb).trans z) hd ?_
  refine ⟨by rw [upd_ne O.ne]; exact ho, ?_, O.ne, O'.obj, _, O'.ns, fun g => ?_, fun g hg => ?_⟩
  · have := length_putF f y fs; (first | lia | omega)
  · show RelO ((putF f y fs).lookup g) (if g = f then some u else mA g)
    rw [lookup_putF]
    by_cases q : g = f
    · rw [if_pos q, if_pos q]; exact ry
    · rw [if_neg q, if_neg q]; exact r g
  · by_cases q : g = f
    · rw [q]; exact (keys_putF f y fs).1
    · refine (keys_putF f y fs).2 g (wi g fun z => hg ?_)
      show (if g = f then some u else mA g) = none
      rw [if_neg q]; exact z

/-- a new instance, tracked, without attributes -/
theorem Inv.made (I : Inv X pins σ H s) : Inv X pins σ (upd (upd H s.heap.objs.size (.own (s.heap.objs.size + 1))) (s.heap.objs.size + 1) (.ins C s.heap.objs.size []))
    { s with heap := (s.heap.push PySem.W.emptyDict).push (PySem.W.instObj C s.heap.objs.size) } := by
  have e1 : (s.heap.push PySem.W.emptyDict).get? s.heap.objs.size = some PySem.W.emptyDict := Heap.get?_push_size s.heap rfl
  have e2 : ((s.heap.push PySem.W.emptyDict).push (PySem.W.instObj C s.heap.objs.size)).get? (s.heap.objs.size + 1) = some (PySem.W.instObj C s.heap.objs.size) := by
    have := Heap.get?_push_size (s.heap.push PySem.W.emptyDict) (o := PySem.W.instObj C s.heap.objs.size) rfl
    rwa [Heap.size_push] at this
  have e3 : (s.heap.push PySem.W.emptyDict).Ns s.heap.objs.size (fun _ => none) := ⟨PySem.W.emptyDict, #[], _, e1, rfl, (fun e he => absurd he (by simp)), fun _ => rfl⟩
  have I1 := I.laid (a := s.heap.objs.size) (o := .own (s.heap.objs.size + 1)) (h' := s.heap.push PySem.W.emptyDict) (t' := s.toks) (fun b u q => Heap.get?_push_of_some _ q) (Nat.le_refl _) ⟨_, e1⟩
  refine I1.laid (a := s.heap.objs.size + 1) (o := .ins C s.heap.objs.size []) (t' := s.toks) (fun b u q => Heap.get?_push_of_some _ q) (Nat.le_of_eq (Heap.size_push _ _)) ?_
  have ne : s.heap.objs.size ≠ s.heap.objs.size + 1 := Nat.ne_of_lt (Nat.lt_succ_self _)
  refine ⟨by rw [upd_ne ne, upd_same], Nat.zero_le _, ne, e2, fun _ => none, (Heap.Ns1.of_empty e3).at fun o q => Heap.get?_push_of_some _ q, fun _ => True.intro, fun y hy => absurd rfl hy⟩

/-- e.f where nothing but the object is asked: through attributeBase (super) and the last hold -/
theorem attr_of {prog : Program} {w : World} {env : Env} {e : Expr} {f : Str} {pos : Pos} {s : Shared} {Q : Value → Shared → Prop} (hb : attributeBase e f env (eval e env) = eval e env)
    (h : wpAny (model prog w) A (eval e env) (fun o s₁ => wpAny (model prog w) A (getAttr o f true) Q E s₁) E s) : wpAny (model prog w) A (eval (.Attribute e f pos) env) Q E s :=
  Attribute_any_ h (by rw [arm_eval_Attribute, hb])
end

/-! ### readings and rules -/
/-- e.f = value -/
noncomputable def sFld (K : PySem.W.Frag) (ta tv : TE) (f : Str) : TS := fun D σ H => tv σ H fun y H1 => ta σ H1 fun x H2 => ∃ a C dx fs, x = .ref a ∧ H2 a = some (.ins C dx fs) ∧ Cls K C ∧ NoAttr K C f ∧ fs.length < 1000 ∧
  D.nx σ (upd H2 a (.ins C dx (putF f y fs)))
section
variable {X : Cx} {o e value : Expr} {f : Str} {pos pos' tpos : Pos} {ta tv : TE}
theorem ps_fld (ha : PE X o ta) (hv : PE X value tv) (hs : swapsWith value (some (.Attribute o f pos')) pos.line X.env = pure false) : PS X (.Assign [.Attribute o f pos'] value pos) (sFld X.K ta tv f) := by
  intro pins s σ H D I h
  refine plainObj_wpAny_Assign_Attribute (thn (hv pins s σ H _ I h) fun u s1 ⟨y, H1, I1, ry, q⟩ => thn (ha pins s1 σ H1 _ I1 q) fun ov s2 ⟨x, H2, I2, rx, a, C, dx, fs, ex, ea, c, n, l, q2⟩ => ?_) hs
  subst ex
  obtain rfl : ov = Value.ref a := rx
  exact setattr_ok I2 ea c n l ry fun s3 I3 => ⟨σ, _, I3, q2⟩
end

/-! ### isinstance -/
section
variable {X : Cx} {pins : List (Addr × Obj)} {σ : St} {H : Hp} {s : Shared} {A : Around} {E : Value → Shared → Prop} {Q : Value → Shared → Prop} {c : Value} {b : Bool}
/-- the type of a value, as the fragment's deciders take it; for an instance its class -/
inductive TyOf (K : PySem.W.Frag) (H : Hp) : V → Value → Prop where
  | non : TyOf K H .non (.type "NoneType")
  | bl (x : Bool) : TyOf K H (.bl x) (.type "bool")
  | int (i : Int) : TyOf K H (.int i) (.type "int")
  | str (x : Str) : TyOf K H (.str x) (.type "str")
  | flt (x : UInt64) : TyOf K H (.flt x) (.type "float")
  | lst {a : Addr} {xs : List V} (e : H a = some (.lst xs)) : TyOf K H (.ref a) (.type "list")
  | frz {a : Addr} {o : Obj} {xs : List V} (e : H a = some (.frz o (.lst xs))) : TyOf K H (.ref a) (.type "list")
  | tup {a : Addr} {xs : List V} (e : H a = some (.tup xs)) : TyOf K H (.ref a) (.type "tuple")
  | dK {a : Addr} {kvs : List (Key × V)} (e : H a = some (.dK kvs)) : TyOf K H (.ref a) (.type "dict")
  | dT {a : Addr} {kvs : List (List Key × V)} (e : H a = some (.dT kvs)) : TyOf K H (.ref a) (.type "dict")
  | ins {a C dx : Addr} {fs : List (Str × V)} (e : H a = some (.ins C dx fs)) (cl : Cls K C) (ha : PySem.W.findIn K (.ref C) "__class__" = some (some (.builtin "object.__class__")))
      (hn : PySem.W.specialIn K (.builtin "object.__class__") "__get__" = some (some (.builtin "getset_descriptor.__get__"))) (htk : PySem.W.takesIn K (.builtin "object.__class__") = some true)
      (hm : PySem.W.mroIn K C (.type "object") = some true) : TyOf K H (.ref a) (.ref C)
end
end L2

namespace L2
open PySem PySem.Spec PyProof.Rows

/-! ### room -/
structure Room (k : Nat) (A : Around) : Prop where
  hd : A.handled = none
  dp : A.depth + 3 * k + 5 < recursionLimit
  un : A.units + 16 * k + 200 < cLine
theorem Room.mono {j k : Nat} {A : Around} (r : Room k A) (h : j ≤ k) : Room j A := ⟨r.hd, by have := r.dp; (first | lia | omega), by have := r.un; (first | lia | omega)⟩
theorem Room.deeper {k : Nat} {A : Around} (r : Room (k + 1) A) (env : Env) : Room k (A.deeper env) :=
  ⟨r.hd, by have := r.dp; show A.depth + 1 + 3 * k + 5 < _; (first | lia | omega), by have := r.un; show A.units + 3 + 16 * k + 200 < _; (first | lia | omega)⟩
theorem make_depth {A : Around} {C : Addr} {us : List Value} {kw : List (Str × Value)} : (A.under (.builtin "type.__call__" ⟨.ref C :: us, kw⟩)).depth = A.depth + 1 := by
  first | rfl | simp [Around.under, Code.weight, Code.isCreation, Code.isGuard, Code.isCaller, Code.frames, Code.isFrame, guardIds]
theorem make_units {A : Around} {C : Addr} {us : List Value} {kw : List (Str × Value)} : (A.under (.builtin "type.__call__" ⟨.ref C :: us, kw⟩)).units = A.units + 1 := by
  first | rfl | simp [Around.under, Code.cUnits, Code.frames, Code.isFrame]
theorem Room.make {k : Nat} {A : Around} (r : Room (k + 1) A) (C : Addr) (us : List Value) (kw : List (Str × Value)) : Room k (A.under (.builtin "type.__call__" ⟨.ref C :: us, kw⟩)) :=
  ⟨r.hd, by have := r.dp; rw [make_depth]; (first | lia | omega), by have := r.un; rw [make_units]; (first | lia | omega)⟩
theorem Room.depth {k : Nat} {A : Around} (r : Room k A) : A.depth < recursionLimit := by have := r.dp; (first | lia | omega)
/-! ### argument lists and displays -/
noncomputable def tNil : TA := fun _ H Q => Q [] H
noncomputable def tCons (ta : TE) (tr : TA) : TA := fun σ H Q => ta σ H fun x H1 => tr σ H1 fun xs H2 => Q (x :: xs) H2
section
variable {X : Cx} {e : Expr} {es : List Expr} {te : TE} {t : TA} {pos : Pos}
theorem pa_nil : PA X [] tNil := fun _ _ _ _ H Q I h => Calls.spliced_nil ⟨[], H, I, .nil, h⟩
theorem pa_cons (ha : PE X e te) (hr : PA X es t) (hs : starEach (e :: es) X.env = (false, eval e X.env) :: starEach es X.env := by rfl) : PA X (e :: es) (tCons te t) := by
  intro pos pins s σ H Q I h
  rw [hs]
  show wpAny _ _ (spliced ((false, eval e X.env) :: backTo pos (starEach es X.env))) _ _ s
  refine Calls.spliced_cons (thn (ha pins s σ H _ I h) fun u s1 ⟨x, H1, I1, r1, q1⟩ => ?_)
  exact thn (hr pos pins s1 σ H1 _ I1 q1) fun us s2 ⟨xs, H2, I2, r2, q2⟩ => ⟨x :: xs, H2, I2, .cons r1 r2, q2⟩

/-- a tuple, a list of written items -/
noncomputable def tTup (t : TA) : TE := fun σ H Q => t σ H fun xs H1 => xs.length ≤ sizeLine ∧ ∀ p, H1 p = none → Q (.ref p) (upd H1 p (.tup xs))
noncomputable def tLst (t : TA) : TE := fun σ H Q => t σ H fun xs H1 => xs.length ≤ sizeLine ∧ ∀ p, H1 p = none → Q (.ref p) (upd H1 p (.lst xs))
theorem pe_tup {x1} (h : PA X es t) : PE X (.Tuple es x1 pos) (tTup t) := by
  intro pins s σ H Q I hq
  refine wpAny_Tuple_spliced (thn (h pos pins s σ H _ I hq) fun us s1 ⟨xs, H1, I1, r, z, q⟩ => ⟨by rw [← r.length]; exact z, ?_⟩)
  have hf : H1 s1.heap.objs.size = none := I1.hok.fresh (Nat.le_refl _)
  refine ⟨.ref s1.heap.objs.size, upd H1 s1.heap.objs.size (.tup xs), I1.laid (t' := s1.toks) (fun b u e => Heap.get?_push_of_some _ e) (Nat.le_refl _) ?_, rfl, q _ hf⟩
  exact ⟨z, us, r, ⟨_, Heap.get?_push_size _ rfl, rfl, _, rfl⟩⟩
theorem pe_lst (h : PA X es t) : PE X (.List es pos) (tLst t) := by
  intro pins s σ H Q I hq
  refine wpAny_List_spliced (thn (h pos pins s σ H _ I hq) fun us s1 ⟨xs, H1, I1, r, z, q⟩ => ⟨by rw [← r.length]; exact z, ?_⟩)
  have hf : H1 s1.heap.objs.size = none := I1.hok.fresh (Nat.le_refl _)
  refine ⟨.ref s1.heap.objs.size, upd H1 s1.heap.objs.size (.lst xs), I1.laid (t' := s1.toks) (fun b u e => Heap.get?_push_of_some _ e) (Nat.le_refl _) ?_, rfl, q _ hf⟩
  exact ⟨z, us, 0, r, Heap.get?_push_size _ rfl⟩
end

/-! ### what a def promises -/
/-- a def's promise: the bound arguments in the parameters' order, the heap, the wanted end, the wanted exception -/
noncomputable abbrev Sp := List V → Hp → VK → XK → Prop
/-- how an exception lies behind a call (file 08 gives it): the callers' frames, abstract heap and state ahead of the call, the wish, the exception, the state -/
noncomputable abbrev CXT := List Env → Hp → Shared → XK → Value → Shared → Prop

/-- the state at a call -/
structure Env0 (P : Program) (w : World) (K : PySem.W.Frag) (mg : Str → Option Value) (base : Heap) (A : Around) (outer : List Env) (s : Shared) (H : Hp) : Prop where
  frames : A.frames = some outer
  mod : Mod K mg base
  bs : ∀ b o, base.get? b = some o → s.heap.get? b = some o ∧ H b = none
  bsz : base.objs.size ≤ s.heap.objs.size
  funs : s.heap.FunFrames base outer
  frf : ∀ b ∈ frs outer, H b = none
  hok : HOk P w H s.heap
  bare : AllBare s.gens
/-- a call's end -/
noncomputable def CE (outer : List Env) (P : Program) (w : World) (H : Hp) (s : Shared) (Q : VK) (u : Value) (s' : Shared) : Prop :=
  ∃ v H', s'.os = s.os ∧ AllBare s'.gens ∧ Un (frs outer) [] H H' s.heap s'.heap ∧ HOk P w H' s'.heap ∧ RelV v u ∧ Q v H'
noncomputable def CR (CX : CXT) (outer : List Env) (P : Program) (w : World) (H : Hp) (s : Shared) (Q : VK) (E : XK) (r : Result) (s' : Shared) : Prop :=
  match r with
  | .ok (.ret u) => CE outer P w H s Q u s'
  | .ok _ => False
  | .error e => CX outer H s E e s'
structure FnOk (P : Program) (w : World) (K : PySem.W.Frag) (mg : Str → Option Value) (base : Heap) (CX : CXT) (k : Nat) (f : Addr) (fd : FuncData) (ps : List Str) (sp : Sp) : Prop where
  len : ∀ vs H Q E, sp vs H Q E → vs.length = ps.length
  run : ∀ (A : Around) (outer : List Env) (s : Shared) (H : Hp) (args : Args) (us : List Value) (vs : List V) (Q : VK) (E : XK), Room k A → Env0 P w K mg base A outer s H → BindsTo s fd args (ps.zip us) → Vals vs us → sp vs H Q E →
    codeAny (model P w) A (.call (.ref f) args) (CR CX outer P w H s Q E) s
theorem FnOk.mono {P : Program} {w : World} {K : PySem.W.Frag} {mg : Str → Option Value} {base : Heap} {CX : CXT} {j k : Nat} {f : Addr} {fd : FuncData} {ps : List Str} {sp : Sp} (F : FnOk P w K mg base CX j f fd ps sp) (h : j ≤ k) :
    FnOk P w K mg base CX k f fd ps sp := ⟨F.len, fun A outer s H args us vs Q E hr => F.run A outer s H args us vs Q E (hr.mono h)⟩
/-- a weaker promise -/
theorem FnOk.imp {P : Program} {w : World} {K : PySem.W.Frag} {mg : Str → Option Value} {base : Heap} {CX : CXT} {k : Nat} {f : Addr} {fd : FuncData} {ps : List Str} {sp sp' : Sp} (F : FnOk P w K mg base CX k f fd ps sp)
    (h : ∀ vs H Q E, sp' vs H Q E → sp vs H Q E) : FnOk P w K mg base CX k f fd ps sp' :=
  ⟨fun vs H Q E q => F.len vs H Q E (h _ _ _ _ q), fun A outer s H args us vs Q E hr he hb hv hs => F.run A outer s H args us vs Q E hr he hb hv (h _ _ _ _ hs)⟩

theorem Env0.make {P : Program} {w : World} {K : PySem.W.Frag} {mg : Str → Option Value} {base : Heap} {A : Around} {outer : List Env} {s : Shared} {H : Hp} (e : Env0 P w K mg base A outer s H) (C : Addr) (us : List Value) (kw : List (Str × Value)) :
    Env0 P w K mg base (A.under (.builtin "type.__call__" ⟨.ref C :: us, kw⟩)) outer s H := ⟨by first | exact e.frames | (simpa [Around.under, Code.envs, Code.isFrame, pushEnvs] using e.frames), e.mod, e.bs, e.bsz, e.funs, e.frf, e.hok, e.bare⟩
section
variable {X : Cx} {pins : List (Addr × Obj)} {σ : St} {H : Hp} {s s' : Shared}
/-- from a body: what a callee wants -/
theorem Inv.env0 (I : Inv X pins σ H s) : Env0 X.prog X.w X.K X.mg X.base X.A X.stack s H :=
  ⟨I.ok.frames, I.ok.mod, I.bs, Nat.le_trans I.ok.bsz I.sz, I.stack, I.stkFree, I.hok, I.bare⟩
/-- behind a call -/
theorem Inv.after {Q : VK} {u : Value} (I : Inv X pins σ H s) (h : CE X.stack X.prog X.w H s Q u s') : EP X pins σ Q u s' := by
  obtain ⟨v, H', os, bare, un, hok, r, q⟩ := h
  obtain ⟨hh, g, d, t, os'⟩ := s'
  obtain rfl : os' = s.os := os
  exact ⟨v, H', I.call (h' := hh) (g' := g) (d' := d) (t' := t) (ch := []) un hok bare (fun b z => absurd z (by simp)), r, q⟩
end

/-! ### calls -/
/-- f(..): the written arguments, then the defaults dvs; E: what is wanted of an exception -/
noncomputable def tCall (sp : Sp) (dvs : List V) (E : XK) (t : TA) : TE := fun σ H Q => t σ H fun vs H1 => sp (vs ++ dvs) H1 Q E
/-- C(..): a new instance and its dict, then __init__ -/
noncomputable def tMake (C : Addr) (sp : Sp) (dvs : List V) (E : XK) (t : TA) : TE := fun σ H Q => t σ H fun vs H1 => ∀ x dx, H1 x = none → H1 dx = none → dx ≠ x →
  sp (.ref x :: (vs ++ dvs)) (upd (upd H1 dx (.own x)) x (.ins C dx [])) (fun v H2 => v = .non ∧ Q (.ref x) H2) E

/-- how the parameters are bound: us the positional arguments, kw the keywords' values by name, ds the defaults that fill up -/
noncomputable def Binds (K : PySem.W.Frag) (fd : FuncData) (ps : List Str) (ds : List Value) : Prop :=
  ∀ (s : Shared) (us : List Value), K.In s.heap → (us ++ ds).length = ps.length → BindsTo s fd ⟨us, []⟩ (ps.zip (us ++ ds))
/-- every parameter is given -/
theorem Binds.all {K : PySem.W.Frag} {fd : FuncData} {ps : List Str} (h : ∀ us : List Value, us.length = ps.length → bindArgs fd ⟨us, []⟩ = pure (ps.zip us)) : Binds K fd ps [] := fun s us _ hl => by
  rw [List.append_nil] at hl ⊢
  exact .of_eq (h us hl)

/-- an exception of a callee reaches what this body wants of exceptions -/
noncomputable def Passes (CX : CXT) (X : Cx) (E : XK) : Prop := ∀ (pins : List (Addr × Obj)) (σ : St) (H : Hp) (s : Shared) (e : Value) (s' : Shared), Inv X pins σ H s → CX X.stack H s E e s' → X.xe e s'

section
variable {X : Cx} {CX : CXT} {k : Nat} {f C : Addr} {fd : FuncData} {ps : List Str} {sp : Sp} {dvs : List V} {ds : List Value} {E : XK} {x m : Str} {p pos apos : Pos} {e o : Expr} {es : List Expr} {ta : TE} {t : TA}

/-- the callee runs -/
theorem run_fn {pins : List (Addr × Obj)} {σ : St} {H : Hp} {s : Shared} {Q : VK} {us : List Value} {vs : List V} (F : FnOk X.prog X.w X.K X.mg X.base CX k f fd ps sp) (hr : Room k X.A) (hb : Binds X.K fd ps ds) (hd : Vals dvs ds) (hx : Passes CX X E)
    (I : Inv X pins σ H s) (r : Vals vs us) (h : sp (vs ++ dvs) H Q E) : wpAny (model X.prog X.w) X.A (call (.ref f) us) (EP X pins σ Q) X.xe s := by
  have r2 : Vals (vs ++ dvs) (us ++ ds) := r.append hd
  have hl : (us ++ ds).length = ps.length := by rw [← r2.length]; exact F.len _ _ _ _ h
  refine wpAny_call (codeAny_mono (F.run X.A X.stack s H ⟨us, []⟩ (us ++ ds) (vs ++ dvs) Q E hr I.env0 (hb s us I.kIn hl) r2 h) fun r s' hq => ?_)
  cases r with
  | error e => exact hx pins σ H s e s' I hq
  | ok fl =>
    cases fl with
    | ret u => exact I.after hq
    | next => exact False.elim hq
    | brk => exact False.elim hq
    | cont => exact False.elim hq

theorem pe_call (F : FnOk X.prog X.w X.K X.mg X.base CX k f fd ps sp) (hr : Room k X.A) (hg : Gl X x) (hm : X.mg x = some (.ref f)) (hk : PySem.W.keepIn X.K (.ref f) = true) (hb : Binds X.K fd ps ds) (hd : Vals dvs ds) (hx : Passes CX X E)
    (ha : PA X (e :: es) t) (hdb : (x == ("__debug__" : Str)) = false := by decide) (he : starEach (e :: es) X.env = (false, eval e X.env) :: starEach es X.env := by rfl) (hpl : (backTo pos (starEach es X.env)).any (·.1) = false := by rfl) :
    PE X (.Call (.Name x p) (e :: es) [] pos) (tCall sp dvs E t) := by
  intro pins s σ H Q I h
  refine wpAny_Call_Name_kw (ld_glob I hg hm ?_ hdb)
  refine PySem.W.callWith_K (h₀ := X.base) I.ok.mod.kin hk (thn (ha pos pins s σ H _ I h) fun us s1 ⟨vs, H1, I1, r, q⟩ => ⟨I1.kIn, ?_⟩) he hpl
  exact run_fn F hr hb hd hx I1 r q
theorem pe_call0 (F : FnOk X.prog X.w X.K X.mg X.base CX k f fd ps sp) (hr : Room k X.A) (hg : Gl X x) (hm : X.mg x = some (.ref f)) (hk : PySem.W.keepIn X.K (.ref f) = true) (hb : Binds X.K fd ps ds) (hd : Vals dvs ds) (hx : Passes CX X E)
    (hdb : (x == ("__debug__" : Str)) = false := by decide) : PE X (.Call (.Name x p) [] [] pos) (tCall sp dvs E tNil) := by
  intro pins s σ H Q I h
  refine wpAny_Call_Name_kw (ld_glob I hg hm ?_ hdb)
  exact PySem.W.callWith_K0 I.kIn hk (run_fn (us := []) F hr hb hd hx I .nil h)

/-- what a class must have to be made -/
structure Mk (K : PySem.W.Frag) (C f : Addr) : Prop where
  makes : PySem.W.makesIn K C = true
  init : PySem.W.findIn K (.ref C) "__init__" = some (some (.ref f))
  fn : PySem.W.isFn K (.ref f) = true
  kp : PySem.W.keepIn K (.ref C) = true

theorem run_make {pins : List (Addr × Obj)} {σ : St} {H : Hp} {s : Shared} {Q : VK} {us : List Value} {vs : List V} (M : Mk X.K C f) (F : FnOk X.prog X.w X.K X.mg X.base CX k f fd ps sp) (hr : Room (k + 1) X.A) (hb : Binds X.K fd ps ds) (hd : Vals dvs ds)
    (hx : Passes CX X E) (I : Inv X pins σ H s) (r : Vals vs us)
    (h : ∀ x dx, H x = none → H dx = none → dx ≠ x → sp (.ref x :: (vs ++ dvs)) (upd (upd H dx (.own x)) x (.ins C dx [])) (fun v H2 => v = .non ∧ Q (.ref x) H2) E) :
    wpAny (model X.prog X.w) X.A (call (.ref C) us) (EP X pins σ Q) X.xe s := by
  have hq := h (s.heap.objs.size + 1) s.heap.objs.size (I.hok.fresh (Nat.le_succ _)) (I.hok.fresh (Nat.le_refl _)) (Nat.ne_of_lt (Nat.lt_succ_self _))
  have I2 := Inv.made (C := C) I
  have r2 : Vals (V.ref (s.heap.objs.size + 1) :: (vs ++ dvs)) (Value.ref (s.heap.objs.size + 1) :: (us ++ ds)) := .cons rfl (r.append hd)
  have hl : (Value.ref (s.heap.objs.size + 1) :: us ++ ds).length = ps.length := by
    have e := r2.length
    rw [F.len _ _ _ _ hq] at e
    exact e.symm
  refine wpAny_call (make_map (f := f) I.kIn M.makes M.init (beq_iff_eq.mp M.fn) (codeAny_mono (F.run _ X.stack _ _ ⟨Value.ref (s.heap.objs.size + 1) :: us, []⟩ (Value.ref (s.heap.objs.size + 1) :: (us ++ ds)) _ _ E (hr.make C us [])
    (I2.env0.make C us []) (hb _ (Value.ref (s.heap.objs.size + 1) :: us) I2.kIn hl) r2 hq) fun r s' hq' => ?_))
  cases r with
  | error e => exact hx pins σ _ _ e s' I2 hq'
  | ok fl =>
    cases fl with
    | ret u =>
      obtain ⟨v, H', I3, rv, ev, q3⟩ := I2.after hq'
      subst ev
      exact ⟨rv, ⟨V.ref (s.heap.objs.size + 1), H', I3, rfl, q3⟩⟩
    | next => exact False.elim hq'
    | brk => exact False.elim hq'
    | cont => exact False.elim hq'
theorem pe_make (M : Mk X.K C f) (F : FnOk X.prog X.w X.K X.mg X.base CX k f fd ps sp) (hr : Room (k + 1) X.A) (hg : Gl X x) (hm : X.mg x = some (.ref C)) (hb : Binds X.K fd ps ds) (hd : Vals dvs ds) (hx : Passes CX X E)
    (ha : PA X (e :: es) t) (hdb : (x == ("__debug__" : Str)) = false := by decide) (he : starEach (e :: es) X.env = (false, eval e X.env) :: starEach es X.env := by rfl) (hpl : (backTo pos (starEach es X.env)).any (·.1) = false := by rfl) :
    PE X (.Call (.Name x p) (e :: es) [] pos) (tMake C sp dvs E t) := by
  intro pins s σ H Q I h
  refine wpAny_Call_Name_kw (ld_glob I hg hm ?_ hdb)
  refine PySem.W.callWith_K (h₀ := X.base) I.ok.mod.kin M.kp (thn (ha pos pins s σ H _ I h) fun us s1 ⟨vs, H1, I1, r, q⟩ => ⟨I1.kIn, ?_⟩) he hpl
  exact run_make M F hr hb hd hx I1 r q
theorem pe_make0 (M : Mk X.K C f) (F : FnOk X.prog X.w X.K X.mg X.base CX k f fd ps sp) (hr : Room (k + 1) X.A) (hg : Gl X x) (hm : X.mg x = some (.ref C)) (hb : Binds X.K fd ps ds) (hd : Vals dvs ds) (hx : Passes CX X E)
    (hdb : (x == ("__debug__" : Str)) = false := by decide) : PE X (.Call (.Name x p) [] [] pos) (tMake C sp dvs E tNil) := by
  intro pins s σ H Q I h
  refine wpAny_Call_Name_kw (ld_glob I hg hm ?_ hdb)
  exact PySem.W.callWith_K0 I.kIn M.kp (run_make (us := []) M F hr hb hd hx I .nil h)
end

/-! ### keywords -/
section
variable {X : Cx} {CX : CXT} {k : Nat} {f C : Addr} {fd : FuncData} {ps ks : List Str} {sp : Sp} {E : XK} {x m : Str} {p pos apos kpos : Pos} {e o : Expr} {es : List Expr} {kws : List Keyword} {te ta : TE} {t tk : TA} {nm : Option Str}
/-- how a call with keywords binds: g puts the positional values us and the keywords' values ws (names ks) in the parameters' order, defaults among them -/
structure KBinds (K : PySem.W.Frag) (fd : FuncData) (ps ks : List Str) (g : List Value → List Value → List Value) (gV : List V → List V → List V) : Prop where
  to : ∀ (s : Shared) (us ws : List Value), K.In s.heap → (g us ws).length = ps.length → BindsTo s fd ⟨us, ks.zip ws⟩ (ps.zip (g us ws))
  rel : ∀ {vs : List V} {us : List Value} {zs : List V} {ws : List Value}, Vals vs us → Vals zs ws → Vals (gV vs zs) (g us ws)
variable {g : List Value → List Value → List Value} {gV : List V → List V → List V}
end

/-! ### a def's body keeps its promise -/
/-- names: the parameters first -/
structure FnScope (N P : List Str) (sc : Scope) : Prop where
  kind : sc.kind = .function
  co : sc.isCoroutine = false
  gen : sc.isGenerator = false
  nd : N.Nodup
  pre : N.take P.length = P
  par : ∀ x ∈ P, sc.names.lookup x = some .local ∨ sc.names.lookup x = some .cell
  nofree : ∀ y ∈ sc.names, y.2 ≠ .free

theorem bindL_out {kindOf : Str → Option NameKind} {x : Str} : ∀ {binds : List (Str × Value)} {m : Str → Option Value}, (∀ v, (x, v) ∉ binds) → bindL kindOf binds m x = m x
  | [], _, _ => rfl
  | (n, v) :: r, m, h => by
    unfold bindL
    rw [bindL_out fun w hw => h w (List.mem_cons_of_mem _ hw)]
    split
    · have : x ≠ n := by rintro rfl; exact h v List.mem_cons_self
      simp [this]
    · rfl
theorem bindC_out {kindOf : Str → Option NameKind} {x : Str} : ∀ {binds : List (Str × Value)} {m : Str → Option Value}, (∀ v, (x, v) ∉ binds) → bindC kindOf binds m x = m x
  | [], _, _ => rfl
  | (n, v) :: r, m, h => by
    unfold bindC
    rw [bindC_out fun w hw => h w (List.mem_cons_of_mem _ hw)]
    split
    · rfl
    · have : x ≠ n := by rintro rfl; exact h v List.mem_cons_self
      simp [this]
theorem bindL_get {kindOf : Str → Option NameKind} {x : Str} {v : Value} : ∀ {P : List Str} {vs : List Value} {i : Nat} {m : Str → Option Value}, P.Nodup → P[i]? = some x → vs[i]? = some v → kindOf x = some .local →
    bindL kindOf (P.zip vs) m x = some v
  | [], _, _, _, _, h, _, _ => by simp at h
  | _ :: _, [], _, _, _, _, h, _ => by simp at h
  | p :: P, w :: vs, 0, m, nd, h1, h2, hk => by
    simp at h1 h2; subst h1; subst h2
    show bindL kindOf ((p, w) :: P.zip vs) m p = _
    unfold bindL
    rw [bindL_out fun v hv => (List.nodup_cons.mp nd).1 (List.of_mem_zip hv).1, if_pos hk]
    simp
  | p :: P, w :: vs, i + 1, m, nd, h1, h2, hk => by
    show bindL kindOf ((p, w) :: P.zip vs) m x = _
    unfold bindL
    exact bindL_get (i := i) (List.nodup_cons.mp nd).2 (by simpa using h1) (by simpa using h2) hk
theorem bindC_get {kindOf : Str → Option NameKind} {x : Str} {v : Value} : ∀ {P : List Str} {vs : List Value} {i : Nat} {m : Str → Option Value}, P.Nodup → P[i]? = some x → vs[i]? = some v → kindOf x ≠ some .local →
    bindC kindOf (P.zip vs) m x = some v
  | [], _, _, _, _, h, _, _ => by simp at h
  | _ :: _, [], _, _, _, _, h, _ => by simp at h
  | p :: P, w :: vs, 0, m, nd, h1, h2, hk => by
    simp at h1 h2; subst h1; subst h2
    show bindC kindOf ((p, w) :: P.zip vs) m p = _
    unfold bindC
    rw [bindC_out fun v hv => (List.nodup_cons.mp nd).1 (List.of_mem_zip hv).1, if_neg hk]
    simp
  | p :: P, w :: vs, i + 1, m, nd, h1, h2, hk => by
    show bindC kindOf ((p, w) :: P.zip vs) m x = _
    unfold bindC
    exact bindC_get (i := i) (List.nodup_cons.mp nd).2 (by simpa using h1) (by simpa using h2) hk

/-- the names' values at the entry -/
noncomputable def start (N : List Str) (vs : List V) : St := vs.map some ++ List.replicate (N.length - vs.length) none

/-- the context of a def's body, at its entry; an exception leaves the frame, then lies as CX says -/
noncomputable def cxOf (CX : CXT) (P : Program) (w : World) (K : PySem.W.Frag) (mg : Str → Option Value) (base : Heap) (N : List Str) (qual : Str) (scope : Scope) (f : Addr) (cd : Value) (A : Around) (outer : List Env) (s : Shared) (H : Hp) (E : XK) : Cx where
  prog := P
  w := w
  K := K
  mg := mg
  base := base
  A := A.deeper (envOfC qual scope s.heap.objs.size f cd)
  N := N
  s_0 := s
  H_0 := H
  env := envOfC qual scope s.heap.objs.size f cd
  outer := outer
  stack := envOfC qual scope s.heap.objs.size f cd :: outer
  ex := []
  calm := true
  fn := fun _ => true
  pn := []
  xe := fun e s' => wpAny (model P w) (A.deeper (envOfC qual scope s.heap.objs.size f cd)) (leaving (envOfC qual scope s.heap.objs.size f cd) e) (fun _ s'' => CX outer H s E e s'') (fun e' s'' => CX outer H s E e' s'') s'

theorem cell_has {sc : Scope} {n : Nat} {x : Str} (h : sc.names.lookup x = some .cell) : ∃ c, (cellsFrom n sc.names []).lookup x = some c := by
  have q := PySem.W.cellsFrom_some sc.names n [] (.inl h)
  exact Option.isSome_iff_exists.mp q

theorem inv_start {CX : CXT} {P : Program} {w : World} {K : PySem.W.Frag} {mg : Str → Option Value} {base : Heap} {N ps : List Str} {qual : Str} {scope : Scope} {f : Addr} {cd : Value} {A : Around} {outer : List Env} {s s1 : Shared} {H : Hp} {E : XK} {us : List Value} {vs : List V}
    (S : FnScope N ps scope) (hd : A.handled = none) (e0 : Env0 P w K mg base A outer s H) (hl : vs.length = ps.length) (r : Vals vs us)
    (x : InCallC s s.heap.objs.size (bindL (envOfC qual scope s.heap.objs.size f cd).kindOf (ps.zip us) fun _ => none) (cellsFrom (s.heap.objs.size + 1) scope.names []) (bindC (envOfC qual scope s.heap.objs.size f cd).kindOf (ps.zip us) fun _ => none) s1) :
    Inv (cxOf CX P w K mg base N qual scope f cd A outer s H E) [] (start N vs) H s1 := by
  have hpl : ps.length ≤ N.length := by have := congrArg List.length S.pre; rw [List.length_take] at this; (first | lia | omega)
  obtain ⟨h1, tk, rfl, hk⟩ := x.done
  have noA : ∀ b : Addr, b ∉ (cxOf CX P w K mg base N qual scope f cd A outer s H E).ex := fun b z => absurd (show b ∈ ([] : List Addr) from z) (by simp)
  refine ⟨⟨e0.mod, S.kind, rfl, rfl, Nat.le_refl _, fun y z c h1 h2 => ?_, fun y hy => ?_, fun y c _ h => ?_, fun _ => hd, Around.frames_deeper e0.frames, .inr ⟨rfl, rfl⟩, fun b z => absurd z (noA b), e0.bs, e0.bsz, fun b _ _ => noA b, fun b z => absurd z (noA b), e0.funs, e0.frf⟩,
    rfl, e0.bare, Un.kept hk, ⟨_, x.toInCall.ns, fun i y v h1 h2 h3 => ?_⟩, fun y c h => ⟨_, x.cell y c h⟩, e0.hok.fresh (Nat.le_refl _), fun y c h => ?_, fun p hp => absurd (show p ∈ ([] : List (Addr × Obj)) from hp) (by simp), e0.hok.kept hk, ?_⟩
  · exact name_of_addr x.apart (PySem.mem_of_lookup h1) (PySem.mem_of_lookup h2)
  · have hy : scope.names.lookup y = some .cell ∨ scope.names.lookup y = some .free := hy
    rcases hy with hy | hy
    · exact cell_has hy
    · exact absurd rfl (S.nofree _ (PySem.mem_of_lookup hy))
  · exact Nat.le_of_lt (x.above y c (PySem.mem_of_lookup h))
  · have hi : i < vs.length := by
      unfold start at h2
      by_cases hi : i < vs.length
      · exact hi
      · rw [List.getElem?_append_right (by simpa using hi)] at h2
        rw [List.getElem?_replicate] at h2
        split at h2 <;> cases h2
    have ha : vs[i]? = some v := by
      unfold start at h2
      rw [List.getElem?_append_left (by simpa using hi), List.getElem?_map] at h2
      cases e : vs[i]? with
      | none => rw [e] at h2; cases h2
      | some a => rw [e] at h2; cases h2; rfl
    obtain ⟨u, hu, rv⟩ := r.get ha
    have hp : ps[i]? = some y := by
      rw [← S.pre, List.getElem?_take_of_lt (by (first | lia | omega))]; exact h1
    have ndP : ps.Nodup := by rw [← S.pre]; exact S.nd.sublist (List.take_sublist _ _)
    refine ⟨u, rv, ?_⟩
    rcases S.par y (List.mem_of_getElem? hp) with k | k
    · exact .inl ⟨k, bindL_get ndP hp hu k⟩
    · obtain ⟨c, e⟩ := cell_has (n := s.heap.objs.size + 1) k
      refine .inr ⟨.inl k, c, e, ?_⟩
      have q := x.cell y c e
      rw [bindC_get ndP hp hu (by show scope.names.lookup y ≠ _; rw [k]; decide)] at q
      exact q
  · exact e0.hok.fresh (Nat.le_of_lt (x.above y c (PySem.mem_of_lookup h)))
  · unfold start
    show _ = N.length
    rw [List.length_append, List.length_map, List.length_replicate]
    (first | lia | omega)

/-- THE RULE: a def (or a method) of the text, by its body. The body's reading t is chosen for each entry; it is run at the parameters' values -/
theorem fn_of {CX : CXT} {P : Program} {w : World} {K : PySem.W.Frag} {mg : Str → Option Value} {base : Heap} {k : Nat} {f : Addr} {name qual : Str} {params : Arguments} {body : List Stmt} {scope : Scope} {dV kV doc pm cdv ct oc : Value} {an od : Option Addr}
    {osl : Array (Option Value)} {N ps : List Str} {sp : Sp} (lk : K.lookup f = some ⟨oc, od, .func (PySem.W.fnOf name qual params body scope dV kV doc pm an cdv ct), osl⟩) (hcd : PySem.W.codeIn K cdv qual = true) (S : FnScope N ps scope)
    (len : ∀ vs H Q E, sp vs H Q E → vs.length = ps.length)
    (hbody : ∀ (A : Around) (outer : List Env) (s : Shared) (H : Hp) (vs : List V) (Q : VK) (E : XK), Room k (A.deeper (envOfC qual scope s.heap.objs.size f cdv)) → sp vs H Q E →
      ∃ t, PSs (cxOf CX P w K mg base N qual scope f cdv A outer s H E) body t ∧ t { nx := fun _ H' => Q .non H', rt := Q } (start N vs) H) :
    FnOk P w K mg base CX (k + 1) f (PySem.W.fnOf name qual params body scope dV kV doc pm an cdv ct) ps sp := by
  refine ⟨len, fun A outer s H args us vs Q E hr e0 hb r hsp => ?_⟩
  have hl := len _ _ _ _ hsp
  have KX : K.In s.heap := e0.mod.kin.keeps fun b o e => (e0.bs b o e).1
  have lim : s.heap.NoLimit := e0.mod.nolimit.keeps fun b o e => (e0.bs b o e).1
  have hkind : ∀ y ∈ ps.zip us, scope.names.lookup y.1 = some .local ∨ (scope.names.lookup y.1 = some .cell ∧ ((cellsFrom (s.heap.objs.size + 1) scope.names []).lookup y.1).isSome = true) := fun ⟨n, v⟩ hy => by
    rcases S.par n (List.of_mem_zip hy).1 with q | q
    · exact .inl q
    · exact .inr ⟨q, PySem.W.cellsFrom_some _ _ _ (.inl q)⟩
  refine codeAny_call_function hr.depth (KX _ _ lk) rfl S.co S.gen rfl (PySem.W.codeRec_of KX hcd) (hb _ _ _ _ ?_)
  refine wpAny_newFunctionEnv_cells S.kind hkind fun env he s1 x => ?_
  subst he
  refine ⟨lim.keeps x.toInCall.keep, codeAny_func ?_⟩
  obtain ⟨t, ht, hq⟩ := hbody A outer s H vs Q E (hr.deeper _) hsp
  have I : Inv (cxOf CX P w K mg base N qual scope f cdv A outer s H E) [] (start N vs) H s1 := inv_start S hr.hd e0 hl r x
  refine wpAny_mono (ht [] s1 (start N vs) H _ I hq) (fun fl s' hs => ?_) fun e s' hs => hs
  have fin : ∀ {σ' : St} {H' : Hp} {v : V} {u : Value}, Inv (cxOf CX P w K mg base N qual scope f cdv A outer s H E) [] σ' H' s' → RelV v u → Q v H' → CE outer P w H s Q u s' :=
    fun {σ' H' v u} J rv q => ⟨v, H', J.os, J.bare, J.base, J.hok, rv, q⟩
  cases fl with
  | ret u =>
    obtain ⟨v, σ', H', J, rv, q⟩ := hs
    exact fin J rv q
  | next =>
    obtain ⟨σ', H', J, q⟩ := hs
    exact fin (v := V.non) (u := Value.none) J rfl q
  | brk =>
    obtain ⟨_, _, _, q⟩ := hs
    exact False.elim q
  | cont =>
    obtain ⟨_, _, _, q⟩ := hs
    exact False.elim q
end L2

namespace L2
open PySem PySem.Spec PyProof.Rows
section
variable {X : Cx} {x : Str} {p pos : Pos} {e : Expr} {es : List Expr} {t : TA} {id T : String} {r : List V → Hp → VK → Prop}

noncomputable def tCB (r : List V → Hp → VK → Prop) (t : TA) : TE := fun σ H Q => t σ H fun vs H1 => r vs H1 Q
/-- f(e, ..), f a built-in function -/
theorem pe_callB (hc : CallR X (.builtin id) r) (hg : Gl X x) (hm : X.mg x = none) (hv : bootBuiltins x = some (.builtin id)) (ha : PA X (e :: es) t) (hn : x ≠ "__name__" := by decide) (hdb : (x == ("__debug__" : Str)) = false := by decide)
    (he : starEach (e :: es) X.env = (false, eval e X.env) :: starEach es X.env := by rfl) (hpl : (backTo pos (starEach es X.env)).any (·.1) = false := by rfl) : PE X (.Call (.Name x p) (e :: es) [] pos) (tCB r t) := by
  intro pins s σ H Q I h
  refine wpAny_Call_Name_kw (ld_blt I hg hm hv ?_ hn hdb)
  exact PyProof.Rows.callWith_builtin1 (thn (ha pos pins s σ H _ I h) fun us s1 ⟨vs, H1, I1, r1, q1⟩ => hc pins s1 σ H1 vs us Q I1 r1 q1) he hpl
end
end L2

namespace HT
open PySem PyProof.Rows

section
open PySem.SeqAt
open PySem.AutoSeq1 (wpAny_loadPart')
open PySem.MeetsSeq PySem.MeetsSeq2 PySem.MeetsSeq3

end

section
variable {prog : Program} {w : World} {A : Around} {E : Value → Shared → Prop} {s : Shared}

/-! ### t[a:b], not the whole -/
/-- a slice's bound as a place among n (d where it is left out) -/
noncomputable def sIx (n d : Nat) : Option Int → Nat
  | none => d
  | some v => if v < 0 then (v + (n : Int)).toNat else min v.toNat n
theorem sIx_nat (n d k : Nat) : sIx n d (some (k : Int)) = min k n := by
  show (if (k : Int) < 0 then ((k : Int) + (n : Int)).toNat else min (k : Int).toNat n) = min k n
  rw [if_neg (by (first | lia | omega)), Int.toNat_natCast]
end
end HT

namespace L2
open PySem PySem.Spec PyProof.Rows

/-! ### the parts of a slice -/
noncomputable abbrev TO := St → Hp → (Option Int → Hp → Prop) → Prop
/-- a slice's part (left out, or an int) -/
noncomputable def PO (X : Cx) (e : Option Expr) (t : TO) : Prop :=
  ∀ (pins : List (Addr × Obj)) (s : Shared) (σ : St) (H : Hp) (Q : Option Int → Hp → Prop), Inv X pins σ H s → t σ H Q →
    wpAny (model X.prog X.w) X.A (evalPart e X.env) (fun u s' => ∃ o H', Inv X pins σ H' s' ∧ IsPart u o ∧ Q o H') X.xe s
noncomputable def tNoPart : TO := fun _ H Q => Q none H
section
variable {X : Cx} {e : Expr} {te : TE} {lo hi : Option Expr} {tl th : TO} {pos p2 : Pos}

theorem po_none : PO X none tNoPart := by
  intro pins s σ H Q I h
  rw [evalPart_none]
  exact wpAny_pure ⟨none, H, I, .none, h⟩
/-- what a slice of a value is, by values: the slice object stands at sl -/
noncomputable def SlR (X : Cx) (r : V → Option Int → Option Int → Hp → VK → Prop) : Prop :=
  ∀ (pins : List (Addr × Obj)) (s : Shared) (σ : St) (H : Hp) (x : V) (v vl vu : Value) (lo hi : Option Int) (sl : Addr) (Q : VK), Inv X pins σ H s → RelV x v → s.heap.IsSliceOf sl vl vu .none → IsPart vl lo → IsPart vu hi → r x lo hi H Q →
    ∃ T id, typeLookup (.type T) "__getitem__" = pure (some (.builtin id)) ∧ s.TypeIs v T ∧ wpAny (model X.prog X.w) X.A (getItem v (.ref sl)) (EP X pins σ Q) X.xe s
noncomputable def tSl (r : V → Option Int → Option Int → Hp → VK → Prop) (te : TE) (tl th : TO) : TE := fun σ H Q => te σ H fun x H1 => tl σ H1 fun l H2 => th σ H2 fun u H3 => r x l u H3 Q
/-- a[lo:hi], any a -/
theorem pe_slice {r : V → Option Int → Option Int → Hp → VK → Prop} (hr : SlR X r) (he : PE X e te) (hl : PO X lo tl) (hu : PO X hi th) : PE X (.Subscript e (.Slice lo hi none p2) pos) (tSl r te tl th) := by
  intro pins s σ H Q I h
  refine Subscript_ (thn (he pins s σ H _ I h) fun v s1 ⟨x, H1, I1, r1, q1⟩ => ?_)
  refine wpAny_Slice (thn (hl pins s1 σ H1 _ I1 q1) fun vl s2 ⟨l, H2, I2, pl, q2⟩ => thn (hu pins s2 σ H2 _ I2 q2) fun vu s3 ⟨u, H3, I3, pu, q3⟩ => ?_)
  rw [evalPart_none]
  refine wpAny_pure ?_
  have I4 : Inv X pins σ H3 { s3 with heap := s3.heap.push { cls := .type "slice", data := .fields #[vl, vu, .none] } } := I3.kept (t' := s3.toks) fun b ob q => Heap.get?_push_of_some _ q
  obtain ⟨T, id, hT, ht, hg⟩ := hr pins { s3 with heap := s3.heap.push { cls := .type "slice", data := .fields #[vl, vu, .none] } } σ H3 x v vl vu l u s3.heap.objs.size Q I4 r1 (Heap.IsSliceOf.new ..) pl pu q3
  show wpAny (model X.prog X.w) X.A (subscriptTail e (.Slice lo hi none p2) v (.ref s3.heap.objs.size)) (EP X pins σ Q) X.xe { s3 with heap := s3.heap.push { cls := .type "slice", data := .fields #[vl, vu, .none] } }
  exact tail_any (ops := [.ref s3.heap.objs.size, v]) ht hT hg (by with_unfolding_all rfl)

/-- the items of xs[lo:hi] -/
noncomputable def cutV (xs : List V) (lo hi : Option Int) : List V := (xs.drop (HT.sIx xs.length 0 lo)).take (HT.sIx xs.length xs.length hi - HT.sIx xs.length 0 lo)
theorem cutV_length (xs : List V) (lo hi : Option Int) : (cutV xs lo hi).length ≤ xs.length := by
  unfold cutV
  rw [List.length_take, List.length_drop]
  (first | lia | omega)
/-! ### t < u, t + u -/
end
end L2

namespace L2
open PySem PySem.Spec PyProof.Rows

/-! ### places -/
/-- the place that an index of any sign means -/
noncomputable def ixN (n : Nat) (i : Int) : Option Nat := if 0 ≤ i then (if i < n then some i.toNat else none) else if -(n : Int) ≤ i then some (i + n).toNat else none
noncomputable def atI {α : Type} (xs : List α) (i : Int) : Option α := (ixN xs.length i).bind fun j => xs[j]?
theorem ixN_seq {n : Nat} {i : Int} {j : Nat} (h : ixN n i = some j) : seqIndex? i n = some j ∧ j < n ∧ -(n : Int) ≤ i ∧ i < n := by
  unfold ixN at h
  by_cases h0 : 0 ≤ i
  · rw [if_pos h0] at h
    by_cases h1 : i < n
    · rw [if_pos h1] at h
      have e : i.toNat = j := Option.some.inj h
      exact ⟨by rw [seqIndex_of h0 h1, e], by (first | lia | omega), by (first | lia | omega), h1⟩
    · rw [if_neg h1] at h; cases h
  · rw [if_neg h0] at h
    by_cases h1 : -(n : Int) ≤ i
    · rw [if_pos h1] at h
      have e : (i + n).toNat = j := Option.some.inj h
      exact ⟨by rw [seqIndex_neg (by (first | lia | omega)) h1, e], by (first | lia | omega), h1, by (first | lia | omega)⟩
    · rw [if_neg h1] at h; cases h
theorem atI_get {α : Type} {xs : List α} {i : Int} {v : α} (h : atI xs i = some v) : ∃ j, seqIndex? i xs.length = some j ∧ xs[j]? = some v ∧ j < xs.length ∧ -(xs.length : Int) ≤ i ∧ i < xs.length := by
  unfold atI at h
  cases e : ixN xs.length i with
  | none => rw [e] at h; cases h
  | some j =>
    rw [e] at h
    obtain ⟨h1, h2, h3, h4⟩ := ixN_seq e
    exact ⟨j, h1, h, h2, h3, h4⟩
theorem atI_nat {α : Type} {xs : List α} {j : Nat} {v : α} (h : xs[j]? = some v) : atI xs (j : Int) = some v := by
  have hj : j < xs.length := (List.getElem?_eq_some_iff.mp h).1
  have e : ixN xs.length (j : Int) = some j := by
    unfold ixN
    rw [if_pos (by (first | lia | omega)), if_pos (by (first | lia | omega))]; simp
  unfold atI; rw [e]; exact h
/-! ### what may be subscripted -/
/-- what stands as an index of a plain subscript -/
noncomputable def PlainIx (b : Expr) : Prop := ∀ o i, subscripted b false o i = operate [o, i] (getItem o i)
/-- a subscript by values -/
noncomputable def IxR (X : Cx) (r : R2) : Prop :=
  ∀ (value slice : Expr) (pins : List (Addr × Obj)) (s : Shared) (σ : St) (H : Hp) (x y : V) (v u : Value) (Q : VK), Inv X pins σ H s → RelV x v → RelV y u → r x y H Q →
    subscripted slice false v u = operate [v, u] (getItem v u) → wpAny (model X.prog X.w) X.A (subscriptTail value slice v u) (EP X pins σ Q) X.xe s
/-- a call of a builtin's method by values: the receiver, the arguments -/
noncomputable def MtR (X : Cx) (id : String) (r : V → List V → Hp → VK → Prop) : Prop :=
  ∀ (pins : List (Addr × Obj)) (s : Shared) (σ : St) (H : Hp) (x : V) (xs : List V) (v : Value) (us : List Value) (Q : VK), Inv X pins σ H s → RelV x v → Vals xs us → r x xs H Q →
    wpAny (model X.prog X.w) X.A (call (.builtin id) (v :: us)) (EP X pins σ Q) X.xe s
section
variable {X : Cx} {a b : Expr} {ta tb : TE} {pos : Pos}
/-- a[b] -/
theorem pe_ix {r : R2} (hr : IxR X r) (ha : PE X a ta) (hb : PE X b tb) (hs : PlainIx b) : PE X (.Subscript a b pos) (tOp r ta tb) := by
  intro pins s σ H Q I h
  exact Subscript_ (binT ha hb I h fun v u s2 x y H2 I2 rx ry q => hr a b pins s2 σ H2 x y v u Q I2 rx ry q (hs _ _))

noncomputable def rIxL (K : PySem.W.Frag) : R2 := fun x y H Q => ∃ p xs i v, x = .ref p ∧ y = .int i ∧ SqL K H p xs ∧ atI xs i = some v ∧ Q v H
noncomputable def rIxT (K : PySem.W.Frag) : R2 := fun x y H Q => ∃ p xs i v, x = .ref p ∧ y = .int i ∧ SqT K H p xs ∧ atI xs i = some v ∧ Q v H
theorem ix_list : IxR X (rIxL X.K) := by
  intro value slice pins s σ H x y v u Q I rx ry h hs
  obtain ⟨p, xs, i, z, rfl, rfl, hq, he, q⟩ := h
  cases rx
  obtain ⟨t, rfl⟩ := ry
  obtain ⟨its, r, pl, hz⟩ := I.list hq
  obtain ⟨j, h1, h2, h3, h4, h5⟩ := atI_get he
  obtain ⟨w, ew, rw'⟩ := r.get h2
  have hl := r.length
  have hn := line63
  have fin : EP X pins σ Q w s := ⟨z, H, I, rw', q⟩
  by_cases h0 : 0 ≤ i
  · have hj : i.toNat = j := by
      rw [seqIndex_of h0 h5] at h1
      exact Option.some.inj h1
    exact item_listR pl.isList h0 (by (first | lia | omega)) (by rw [hj]; simpa using ew) fin hs
  · have hj : (i + (its.toArray.size : Int)).toNat = j := by
      rw [seqIndex_neg (by (first | lia | omega)) h4] at h1
      rw [List.size_toArray, ← hl]
      exact Option.some.inj h1
    exact subscriptTail_builtinR (x := w) pl.isList.typeIs slot_list_getitem.lookup
      (wpAny_getItem_list_neg (Q := fun r s' => r = w ∧ EP X pins σ Q r s') pl.isList (by (first | lia | omega)) (by rw [List.size_toArray] <;> (first | lia | omega)) (by (first | lia | omega)) (by rw [hj]; simpa using ew) ⟨rfl, fin⟩) hs
theorem ix_tup : IxR X (rIxT X.K) := by
  intro value slice pins s σ H x y v u Q I rx ry h hs
  obtain ⟨p, xs, i, z, rfl, rfl, hq, he, q⟩ := h
  cases rx
  obtain ⟨t, rfl⟩ := ry
  obtain ⟨its, r, pl, hz⟩ := I.tuple hq
  obtain ⟨j, h1, h2, h3, h4, h5⟩ := atI_get he
  obtain ⟨w, ew, rw'⟩ := r.get h2
  have hl := r.length
  have hn := line63
  have fin : EP X pins σ Q w s := ⟨z, H, I, rw', q⟩
  exact subscriptTail_builtinR (x := w) pl.typeIs slot_tuple_getitem.lookup
    (getItem_tuple (j := j) (Q := fun r s' => r = w ∧ EP X pins σ Q r s') pl (by (first | lia | omega)) (by (first | lia | omega)) (by rw [List.size_toArray, ← hl]; exact h1) (by simpa using ew) ⟨rfl, fin⟩) hs
/-! ### xs[i] = v, any sign -/
/-! ### slices -/
theorem slice_bounds (lo hi : Option Int) (n : Nat) : (sliceBounds lo hi none n).1 = ((HT.sIx n 0 lo : Nat) : Int) ∧ (sliceBounds lo hi none n).2.1 = ((HT.sIx n n hi : Nat) : Int) ∧ (sliceBounds lo hi none n).2.2 = 1 := by
  refine ⟨?_, ?_, rfl⟩
  · cases lo with
    | none => simp [sliceBounds, HT.sIx]
    | some i =>
      simp only [sliceBounds, HT.sIx, Option.getD_none, show (1 : Int) > 0 by decide, if_true]
      by_cases h : i < 0
      · simp only [h, if_true] <;> (first | lia | omega)
      · simp only [h, if_false] <;> (first | lia | omega)
  · cases hi with
    | none => simp [sliceBounds, HT.sIx]
    | some i =>
      simp only [sliceBounds, HT.sIx, Option.getD_none, show (1 : Int) > 0 by decide, if_true]
      by_cases h : i < 0
      · simp only [h, if_true] <;> (first | lia | omega)
      · simp only [h, if_false] <;> (first | lia | omega)
theorem slicePick_cut (its : List Value) (lo hi : Option Int) : slicePick its.toArray lo hi none = ((its.drop (HT.sIx its.length 0 lo)).take (HT.sIx its.length its.length hi - HT.sIx its.length 0 lo)).toArray := by
  obtain ⟨h1, h2, h3⟩ := slice_bounds lo hi its.toArray.size
  unfold slicePick
  rw [h1, h2, h3]
  simp only [sliceRange_one, pick_run, List.size_toArray] <;> rfl
/-- xs[lo:hi] of a list: a new list -/
noncomputable def rSlL (K : PySem.W.Frag) : V → Option Int → Option Int → Hp → VK → Prop := fun x lo hi H Q => ∃ a xs, x = .ref a ∧ SqL K H a xs ∧ ∀ p, H p = none → Q (.ref p) (upd H p (.lst (cutV xs lo hi)))
theorem sl_list : SlR X (rSlL X.K) := by
  intro pins s σ H x v vl vu lo hi sl Q I rx hs pl pu h
  obtain ⟨a, xs, rfl, hx, q⟩ := h
  cases rx
  obtain ⟨its, r, ht, hz⟩ := I.list hx
  have hlen := r.length
  refine ⟨"list", _, slot_list_getitem.lookup, ht.isList.typeIs, ?_⟩
  refine wpAny_getItem_list_slice ht.isList hs pl pu .none (by simp) ?_ (by rw [List.size_toArray] <;> (first | lia | omega))
  rw [slicePick_cut, ← hlen]
  refine ⟨.ref s.heap.objs.size, _, I.laid (t' := s.toks) (o := .lst (cutV xs lo hi)) (fun b ob q => Heap.get?_push_of_some _ q) (Nat.le_refl _) ?_, rfl, q _ (I.hok.fresh (Nat.le_refl _))⟩
  exact ⟨Nat.le_trans (cutV_length xs lo hi) hz, _, 0, (r.drop (HT.sIx xs.length 0 lo)).take (HT.sIx xs.length xs.length hi - HT.sIx xs.length 0 lo), Heap.get?_push_size _ rfl⟩

/-! ### in, not in: flat items -/
noncomputable def flatV : V → Bool
  | .non => true
  | .bl _ => true
  | .int _ => true
  | .str _ => true
  | _ => false
/-- == of flat values -/
noncomputable def eqV : V → V → Bool
  | .non, .non => true
  | .bl a, .bl b => a == b
  | .bl a, .int b => (if a then 1 else 0) == b
  | .int a, .bl b => a == (if b then 1 else 0)
  | .int a, .int b => a == b
  | .str a, .str b => a == b
  | _, _ => false
theorem eqAt_V {A : Around} {s : Shared} {y x : V} {u v : Value} (ry : RelV y u) (rx : RelV x v) (fy : flatV y = true) (fx : flatV x = true) : SeqAt.EqAt A s u v (eqV y x) := by
  cases y with
  | non =>
    cases ry
    cases x with
    | non => cases rx; exact SeqAt.EqAt.same _
    | bl b => cases rx; exact SeqAt.EqAt.none_bool b
    | int b => obtain ⟨t, rfl⟩ := rx; exact SeqAt.EqAt.none_int b t
    | str b => obtain ⟨t, rfl⟩ := rx; exact SeqAt.EqAt.none_str b t
    | _ => exact absurd (show false = true from fx) Bool.false_ne_true
  | bl a =>
    cases ry
    cases x with
    | non => cases rx; exact SeqAt.EqAt.bool_none a
    | bl b => cases rx; exact SeqAt.EqAt.bool_bool a b
    | int b => obtain ⟨t, rfl⟩ := rx; exact SeqAt.EqAt.bool_int a b t
    | str b => obtain ⟨t, rfl⟩ := rx; exact SeqAt.EqAt.bool_str a b t
    | _ => exact absurd (show false = true from fx) Bool.false_ne_true
  | int a =>
    obtain ⟨t', rfl⟩ := ry
    cases x with
    | non => cases rx; exact SeqAt.EqAt.int_none a t'
    | bl b => cases rx; exact SeqAt.EqAt.int_bool a t' b
    | int b => obtain ⟨t, rfl⟩ := rx; exact SeqAt.EqAt.int_int a t' b t
    | str b => obtain ⟨t, rfl⟩ := rx; exact SeqAt.EqAt.int_str a t' b t
    | _ => exact absurd (show false = true from fx) Bool.false_ne_true
  | str a =>
    obtain ⟨t', rfl⟩ := ry
    cases x with
    | non => cases rx; exact SeqAt.EqAt.str_none a t'
    | bl b => cases rx; exact SeqAt.EqAt.str_bool a t' b
    | int b => obtain ⟨t, rfl⟩ := rx; exact SeqAt.EqAt.str_int a t' b t
    | str b => obtain ⟨t, rfl⟩ := rx; exact SeqAt.EqAt.str_str a t' b t
    | _ => exact absurd (show false = true from fx) Bool.false_ne_true
  | _ => exact absurd (show false = true from fy) Bool.false_ne_true
/-- the items' answers, read off the values (a value's own answer does not lean on its token) -/
noncomputable def eqU (x : V) (u : Value) : Bool := match u with
  | .none => eqV .non x
  | .bool b => eqV (.bl b) x
  | .int i _ => eqV (.int i) x
  | .str z _ => eqV (.str z) x
  | _ => false
theorem eqU_of {x y : V} {u : Value} (r : RelV y u) (f : flatV y = true) : eqU x u = eqV y x := by
  cases y with
  | non => cases r; rfl
  | bl b => cases r; rfl
  | int i => obtain ⟨t, rfl⟩ := r; rfl
  | str z => obtain ⟨t, rfl⟩ := r; rfl
  | _ => exact absurd (show false = true from f) Bool.false_ne_true
theorem any_eqU {x : V} : ∀ {xs : List V} {us : List Value}, Vals xs us → xs.all flatV = true → us.any (eqU x) = xs.any fun y => eqV y x
  | _, _, .nil, _ => rfl
  | y :: xs, u :: us, .cons r t, f => by
    rw [List.all_cons, Bool.and_eq_true] at f
    rw [List.any_cons, List.any_cons, eqU_of r f.1, any_eqU t f.2]
theorem mem_eqAt {A : Around} {s : Shared} {x : V} {v : Value} (rx : RelV x v) (fx : flatV x = true) : ∀ {xs : List V} {us : List Value}, Vals xs us → xs.all flatV = true → ∀ u ∈ us, SeqAt.EqAt A s u v (eqU x u)
  | _, _, .nil, _ => fun u hu => by cases hu
  | y :: xs, u :: us, .cons r t, f => fun u' hu => by
    rw [List.all_cons, Bool.and_eq_true] at f
    rcases List.mem_cons.mp hu with rfl | hu
    · rw [eqU_of r f.1]; exact eqAt_V r rx f.1 fx
    · exact mem_eqAt rx fx t f.2 u' hu
noncomputable def inV (x : V) (xs : List V) : Bool := xs.any fun y => eqV y x
/-- x in a list or tuple of flat items -/
noncomputable def rIn (K : PySem.W.Frag) (neg : Bool) : R2 := fun x y H Q => ∃ p xs, y = .ref p ∧ (SqL K H p xs ∨ SqT K H p xs) ∧ flatV x = true ∧ xs.all flatV = true ∧ Q (.bl (if neg then !inV x xs else inV x xs)) H
theorem op_notIn_seq : OpR X (compareOp .NotIn) (rIn X.K true) := by
  intro pins s σ H x y v u Q I rx ry h
  obtain ⟨p, xs, rfl, hq, fx, fs, q⟩ := h
  cases ry
  rcases hq with hq | hq
  · obtain ⟨its, r, pl, hz⟩ := I.list hq
    refine SeqAt.notIn_listAt (eqU x) pl.isList (fun w hw => mem_eqAt rx fx r fs w (by simpa using hw)) ⟨.bl _, H, I, rfl, ?_⟩
    rw [show its.toArray.any (eqU x) = its.any (eqU x) by simp, any_eqU r fs]
    exact q
  · obtain ⟨its, r, pl, hz⟩ := I.tuple hq
    refine SeqAt.notIn_tupleAt (eqU x) pl (fun w hw => mem_eqAt rx fx r fs w (by simpa using hw)) ⟨.bl _, H, I, rfl, ?_⟩
    rw [show its.toArray.any (eqU x) = its.any (eqU x) by simp, any_eqU r fs]
    exact q
/-! ### len, list(x), tuple(x) of any list or tuple that is read -/
theorem call_len_seq : CallR X (.builtin "len") (fun xs H Q => ∃ p ys, xs = [.ref p] ∧ (SqL X.K H p ys ∨ SqT X.K H p ys) ∧ Q (.int ys.length) H) := by
  intro pins s σ H xs us Q I r h
  obtain ⟨p, ys, rfl, hq, q⟩ := h
  obtain ⟨u, rfl, rx⟩ := vals1 r
  cases rx
  have hn := line63
  rcases hq with hq | hq
  · obtain ⟨its, r', pl, hz⟩ := I.list hq
    have hlen := r'.length
    exact Calls.call_len_list pl.isList (by simp only [List.size_toArray] <;> (first | lia | omega)) ⟨.int ys.length, H, I.tok _, ⟨s.toks + 1, by rw [List.size_toArray, hlen]⟩, q⟩
  · obtain ⟨its, r', pl, hz⟩ := I.tuple hq
    have hlen := r'.length
    exact len_tuple pl (by simp only [List.size_toArray] <;> (first | lia | omega)) ⟨.int ys.length, H, I.tok _, ⟨s.toks + 1, by rw [List.size_toArray, hlen]⟩, q⟩
/-! ### the call of a builtin's method: o.m(..) -/
/-- the value is of that builtin type -/
noncomputable def tyV (K : PySem.W.Frag) (T : String) (x : V) (H : Hp) : Prop := match x with
  | .str _ => T = "str"
  | .int _ => T = "int"
  | .ref p => (T = "list" ∧ ∃ xs, SqL K H p xs) ∨ (T = "tuple" ∧ ∃ o, K.lookup p = some o ∧ o.cls = .type "tuple" ∧ o.dict = none) ∨
      (T = "dict" ∧ ((∃ kvs, H p = some (.dK kvs)) ∨ ∃ kvs, H p = some (.dT kvs))) ∨ (T = "set" ∧ ∃ S n, H p = some (.set S n))
  | _ => False
theorem tyV_is {pins : List (Addr × Obj)} {σ : St} {H : Hp} {s : Shared} {T : String} {x : V} {v : Value} (I : Inv X pins σ H s) (r : RelV x v) (ty : tyV X.K T x H) :
    s.TypeIs v T ∧ ∀ a, v = .ref a → ∃ ob, s.heap.get? a = some ob ∧ ob.dict = none := by
  cases x with
  | str z =>
    obtain ⟨t, rfl⟩ := r
    cases (show T = "str" from ty)
    exact ⟨typeIs_str s z t, fun _ e => nomatch e⟩
  | int i =>
    obtain ⟨t, rfl⟩ := r
    cases (show T = "int" from ty)
    exact ⟨typeIs_int s i t, fun _ e => nomatch e⟩
  | ref p =>
    cases r
    rcases ty with ⟨rfl, xs, hq⟩ | ⟨rfl, o, hk, hc, hd⟩ | ⟨rfl, hk⟩ | ⟨rfl, S, n, hk⟩
    · obtain ⟨its, _, pl, _⟩ := I.list hq
      refine ⟨pl.isList.typeIs, fun a e => ?_⟩
      cases e
      obtain ⟨o, n, e, c, hd, _⟩ := pl
      exact ⟨o, e, hd⟩
    · refine ⟨⟨o, I.kIn p o hk, hc⟩, fun a e => ?_⟩
      cases e
      exact ⟨o, I.kIn _ o hk, hd⟩
    · have z : ∃ o, s.heap.get? p = some o ∧ o.ExactDict := by
        rcases hk with ⟨kvs, hk⟩ | ⟨kvs, hk⟩
        · obtain ⟨_, _, _, _, o, _, _, e, ex, _⟩ := I.hok p _ hk
          exact ⟨o, e, ex⟩
        · obtain ⟨_, _, _, _, o, _, _, e, ex, _⟩ := I.hok p _ hk
          exact ⟨o, e, ex⟩
      obtain ⟨o, e, ex⟩ := z
      refine ⟨⟨o, e, ex.1⟩, fun a e2 => ?_⟩
      cases e2
      exact ⟨o, e, ex.2.1⟩
    · obtain ⟨o, _, _, _, e, ex, _⟩ := I.hok p _ hk
      refine ⟨⟨o, e, ex.1⟩, fun a e2 => ?_⟩
      cases e2
      exact ⟨o, e, ex.2.1⟩
  | _ => exact False.elim ty
noncomputable def tBM (K : PySem.W.Frag) (T : String) (r : V → List V → Hp → VK → Prop) (to : TE) (t : TA) : TE := fun σ H Q => to σ H fun x H1 => tyV K T x H1 ∧ t σ H1 fun xs H2 => r x xs H2 Q
variable {o e : Expr} {es : List Expr} {to : TE} {t : TA} {name : Str} {apos cpos : Pos} {T id : String} {r : V → List V → Hp → VK → Prop}
theorem pe_bm (pa : PlainAttrs T) (slot : Slot T name id) (hty : typeOf (.builtin id) = pure (.type "method_descriptor")) (hm : MtR X id r) (ho : PE X o to) (ha : PA X (e :: es) t)
    (hbase : attributeBase o name X.env (eval o X.env) = eval o X.env := by rfl)
    (hfew : ((backTo cpos (starEach (e :: es) X.env)).all (fun x => !x.1) && (backToKw cpos (keywordEach [] X.env)).all (fun x => x.1.isSome)
      && decide ((e :: es).length + ([] : List Keyword).length + (if ([] : List Keyword).isEmpty then 0 else 1) < 30)) = true := by rfl)
    (hline : (apos.endLine == cpos.line) = true := by rfl) (hs : starEach (e :: es) X.env = (false, eval e X.env) :: starEach es X.env := by rfl) (hplain : (backTo cpos (starEach es X.env)).any (·.1) = false := by rfl) :
    PE X (.Call (.Attribute o name apos) (e :: es) [] cpos) (tBM X.K T r to t) := by
  intro pins s σ H Q I h
  refine wpAny_Call_method_late hbase hfew hline rfl (thn (ho pins s σ H _ I h) fun v s1 ⟨x, H1, I1, r1, ty, q1⟩ => ?_)
  obtain ⟨h1, h2⟩ := tyV_is I1 r1 ty
  refine ⟨T, id, pa, slot, hty, h1, h2, ?_⟩
  have hA := ha cpos pins s1 σ H1 _ I1 q1
  rw [hs] at hA ⊢
  refine Calls.callWith_builtin (by show (false || (backTo cpos (starEach es X.env)).any (·.1)) = false; rw [hplain] <;> rfl) (Calls.evalArgs_plain ?_)
  exact thn hA fun us s2 ⟨vs, H2, I2, r2, q2⟩ => hm pins s2 σ H2 x vs v us Q I2 r1 r2 q2
/- xs.append(e), list.index on a module's tuple .. are MtR facts of 06m -/
end
end L2

namespace L2
open PySem PySem.Spec PyProof.Rows

noncomputable def MtM (X : Cx) (id : String) (r : V → List V → Hp → VK → Prop) : Prop :=
  ∀ (pins : List (Addr × Obj)) (s : Shared) (σ : St) (H : Hp) (x : V) (xs : List V) (v : Value) (us : List Value) (Q : VK), Inv X pins σ H s → RelV x v → Vals xs us → r x xs H Q →
    wpAny (model X.prog X.w) X.A (call (.builtin id) (v :: us)) (EP X pins σ Q) X.xe s

/-! ### lists of values -/
theorem Vals.one : ∀ {x : V} {us : List Value}, Vals [x] us → ∃ u, us = [u] ∧ RelV x u
  | _, _, .cons r .nil => ⟨_, rfl, r⟩
theorem Vals.zero : ∀ {us : List Value}, Vals [] us → us = []
  | _, .nil => rfl
section
variable {X : Cx} {pins : List (Addr × Obj)} {σ : St} {H : Hp} {s : Shared} {l b : Addr} {xs ys zs : List V}

/-! ### the two steps: a tracked list is rewritten, a new list is laid -/
theorem Inv.lset {its its' : List Value} {n : Nat} {f : Array Value → Array Value} {t' : Nat} (I : Inv X pins σ H s) (hH : H l = some (.lst xs))
    (e : s.heap.get? l = some { cls := .type "list", data := .seq its.toArray n }) (hf : f its.toArray = its'.toArray) (hv : Vals ys its') (hz : ys.length ≤ sizeLine) :
    Inv X pins σ (upd H l (.lst ys)) { s with heap := s.heap.update l (Obj.mapSeq f), toks := t' } := by
  have q := PySem.IsL.update e f
  rw [hf] at q
  refine I.write (x := l) (e := l) (by rw [hH]; exact trivial) (.inl rfl) (fun b' u hb hu => (Heap.get?_update_other s.heap (Obj.mapSeq f) (Ne.symm hb)).trans hu) ⟨_, q⟩ ?_
  exact ⟨hz, its', _, hv, q⟩
theorem Inv.lstM (I : Inv X pins σ H s) (hH : H l = some (.lst xs)) : xs.length ≤ sizeLine ∧ ∃ (its : List Value) (n : Nat), Vals xs its ∧ xs.length = its.length ∧ s.heap.get? l = some { cls := .type "list", data := .seq its.toArray n } := by
  obtain ⟨z, its, n, r, e⟩ := I.hok l _ hH
  exact ⟨z, its, n, r, r.length, e⟩

theorem notLongL {n : Nat} (h : n ≤ sizeLine) : Builtin.List.listTooLong n = false := by
  unfold Builtin.List.listTooLong
  exact decide_eq_false (by (first | lia | omega))
end

section
variable {X : Cx}

/-! ### methods -/
noncomputable def rAppend : V → List V → Hp → VK → Prop := fun x vs H Q => ∃ l xs y, x = .ref l ∧ vs = [y] ∧ H l = some (.lst xs) ∧ xs.length < sizeLine ∧ Q .non (upd H l (.lst (xs ++ [y])))
theorem mt_append : MtM X "list.append" rAppend := by
  intro pins s σ H x vs v us Q I rx rv h
  obtain ⟨l, xs, y, rfl, rfl, hH, hz, q⟩ := h
  cases rx
  obtain ⟨u, rfl, ru⟩ := rv.one
  obtain ⟨z, its, n, r, hl, e⟩ := I.lstM hH
  refine call_meets F.slot_list_append ⟨_, e, rfl⟩ F.entry_list_append (F.args_list_append_2 _ _) (PySem.list_append l its.toArray n u (by rw [List.size_toArray]; (first | lia | omega))) ⟨e, ?_⟩
  refine ⟨.non, _, I.lset (its' := its ++ [u]) hH e (by simp) (r.append (.cons ru .nil)) ?_, rfl, q⟩
  rw [List.length_append, List.length_singleton]
  (first | lia | omega)

noncomputable def rExtend : V → List V → Hp → VK → Prop := fun x vs H Q => ∃ l b xs zs, x = .ref l ∧ vs = [.ref b] ∧ H l = some (.lst xs) ∧ H b = some (.lst zs) ∧ xs.length + zs.length ≤ sizeLine ∧ Q .non (upd H l (.lst (xs ++ zs)))
theorem mt_extend : MtM X "list.extend" rExtend := by
  intro pins s σ H x vs v us Q I rx rv h
  obtain ⟨l, b, xs, zs, rfl, rfl, hH, hB, hz, q⟩ := h
  cases rx
  obtain ⟨u, rfl, ru⟩ := rv.one
  cases ru
  obtain ⟨z, its, n, r, hl, e⟩ := I.lstM hH
  obtain ⟨z2, its2, n2, r2, hl2, e2⟩ := I.lstM hB
  have hsz : its.toArray.size + its2.toArray.size ≤ sizeLine := by rw [List.size_toArray, List.size_toArray]; (first | lia | omega)
  have hlong : ¬ (!its.toArray.isEmpty && Builtin.List.listTooLong (its.toArray.size + its2.toArray.size)) = true := by
    rw [notLongL hsz, Bool.and_false]
    exact Bool.false_ne_true
  refine call_meets F.slot_list_extend ⟨_, e, rfl⟩ F.entry_list_extend (F.args_list_extend_2 _ _)
    (AutoSeq1.list_extend_list_list_0 l its.toArray n b its2.toArray n2 hlong (by rw [List.size_toArray]; (first | lia | omega)) (by (first | lia | omega))) ⟨e, e2, ?_⟩
  refine ⟨.non, _, I.lset (its' := its ++ its2) hH e (by simp) (r.append r2) ?_, rfl, q⟩
  rw [List.length_append]
  (first | lia | omega)

/-! ### list + list, list += list, list * int -/
/-! ### del xs[i] -/
end

/-! ### xs[a:b] = ys -/
section
variable {prog : Program} {w : World} {A : Around} {E : Value → Shared → Prop} {s : Shared}
set_option maxRecDepth 100000 in
end

section
variable {X : Cx}
end
end L2

namespace Att
open PySem PySem.W PySem.Calls PyProof.Rows

/-! ### the script -/
/-! ### the attachment: holds_open's last premise (the goal 'hc' behind k_head) from a wpAny of the law's body -/
/-! ### rules over ANY heap (no ledger) from facts about the written part K: the library's own take a ledger (News) for what they write -/
section
variable {prog : Program} {w : World} {A : Around} {E : Value → Shared → Prop} {s : Shared} {K : Frag}

/-! the whole heap as the ledger: makes every rule that writes through a ledger a rule over any heap -/
end
end Att

namespace L2
open PySem PySem.Spec PyProof.Rows

end L2

namespace L2
open PySem PySem.Spec PyProof.Rows

noncomputable abbrev KOf {K : PySem.W.Frag} {h : Heap} (_ : K.In h) : PySem.W.Frag := K

end L2

/- THE LAST THEOREM (shape; LID, My.* are yours):
   My.Adr: a structure of the addresses that your layer names (classes, functions); My.Txt K t: a structure (Prop) of the equations over K;
   My.txt_mk : {K} {implicit addresses ..} (e1 : nsIn K mainGlobals "law" = some (some (.ref f))) (e2 : K.lookup f = some ⟨oc, od, .func (fnOf "law" "law" params body scope dV kV doc pm an cdv ct), sl⟩) (e3 : codeIn K cdv "law" = true) .. : ∃ t, My.Txt K t

set_option maxRecDepth 100000 in
set_option maxHeartbeats 0 in
theorem PySem.Challenge.cw_LID_holds : PySem.Challenge.rw_LID.Holds := by
  w_on; o_law; k_head; (case hw => w_witness2)
  k_fill
  refine L2.walk_of (l := PySem.Challenge.rw_LID) (n := 63) (k := 40) (x := "script") (CX := fun w => ..) (sp := fun _ => My.sp_law) rfl (by decide) rfl ⟨rfl, by decide, by decide⟩ (fun w h Y => PySem.W.kIn_of Y) ?F ?S ?C
  case F =>
    intro w mg fa h KX G hmg
    have T : ∃ t, My.Txt (L2.KOf KX) t := by
      dsimp only [L2.KOf]                          -- K must stand as «<heap const> w.params» for k_is
      refine' My.txt_mk ?e1 ?e2 ?e3 ..
      (case e1 => PySem.W.k_is)                    -- in the order: a name -> its address -> its object -> its parts
      (case e2 => PySem.W.k_is)
      ..
    obtain ⟨t, T⟩ := T
    have e0 := hmg.symm.trans (PySem.W.mg_of KX G T.law)
    cases e0                                       -- fa is the law's own address
    exact ⟨_, fun s u => .of_eq rfl, fun base kb nb => My.law_fn T kb nb⟩     -- if «.of_eq rfl» comes too early: refine' ⟨_, ?b, fun base kb nb => My.law_fn T kb nb⟩; exact fun s u => .of_eq rfl
  case S => exact fun w H a ns hl hO hS => ..
  case C => exact ..
(the tactic k_is has no namespace: write k_is) -/

/-! SHORT WORDS over the layer: a def of the text, its body, what a loop and a test want. -/
namespace L2
open PySem PySem.Spec PyProof.Rows

/-! ### the text by places -/
/-- the j-th statement of a class's body -/
noncomputable def inClass (s : Stmt) (j : Nat) : Stmt := match s with
  | .ClassDef _ _ _ body _ _ _ _ _ _ _ => body.getD j (.Pass ⟨0, 0, 0, 0⟩)
  | _ => .Pass ⟨0, 0, 0, 0⟩
noncomputable def defArgs (s : Stmt) : Arguments := match s with
  | .FunctionDef _ a _ _ _ _ _ _ _ _ => a
  | _ => { posonlyargs := [], args := [], vararg := none, kwonlyargs := [], kw_defaults := [], kwarg := none, defaults := [] }
noncomputable def defBody (s : Stmt) : List Stmt := match s with
  | .FunctionDef _ _ b _ _ _ _ _ _ _ => b
  | _ => []
noncomputable def defScope (s : Stmt) : Scope := match s with
  | .FunctionDef _ _ _ _ _ _ sc _ _ _ => sc
  | _ => { kind := .function, names := [], isGenerator := false, isCoroutine := false }

/-! ### no exception leaves a def -/
noncomputable abbrev CX0 : CXT := fun _ _ _ _ _ _ => False
noncomputable abbrev E0 : XK := fun _ _ _ => False
theorem pass0 {X : Cx} : Passes CX0 X E0 := fun _ _ _ _ _ _ _ h => h.elim

/-! ### a def (or method) of the text as it stands behind the top -/
structure Fun (K : PySem.W.Frag) (x qual : Str) (st : Stmt) (f : Addr) (fd : FuncData) : Prop where
  ex : ∃ (oc : Value) (od : Option Addr) (kV doc pm : Value) (an : Option Addr) (cdv ct : Value) (osl : Array (Option Value)),
    fd = PySem.W.fnOf x qual (defArgs st) (defBody st) (defScope st) .none kV doc pm an cdv ct ∧ K.lookup f = some ⟨oc, od, .func fd, osl⟩ ∧ PySem.W.codeIn K cdv qual = true
  kp : PySem.W.keepIn K (.ref f) = true
section
variable {P : Program} {w : World} {K : PySem.W.Frag} {mg : Str → Option Value} {base : Heap}
/-- THE RULE for a def: its body as a term of rules, and the reading of that term -/
theorem Fun.ok {x qual : Str} {st : Stmt} {f : Addr} {fd : FuncData} {N ps : List Str} {k : Nat} {sp : Sp} (F : Fun K x qual st f fd) (S : FnScope N ps (defScope st)) (len : ∀ vs H Q E, sp vs H Q E → vs.length = ps.length)
    (hbody : ∀ (cdv : Value) (A : Around) (outer : List Env) (s : Shared) (H : Hp) (vs : List V) (Q : VK) (E : XK), Room k (A.deeper (envOfC qual (defScope st) s.heap.objs.size f cdv)) → sp vs H Q E →
      ∃ t, PSs (cxOf CX0 P w K mg base N qual (defScope st) f cdv A outer s H E).nox (defBody st) t ∧ t { nx := fun _ H' => Q .non H', rt := Q } (start N vs) H) : FnOk P w K mg base CX0 (k + 1) f fd ps sp := by
  obtain ⟨oc, od, kV, doc, pm, an, cdv, ct, osl, rfl, lk, hcd⟩ := F.ex
  refine fn_of lk hcd S len fun A outer s H vs Q E hr hsp => ?_
  obtain ⟨t, h, q⟩ := hbody cdv A outer s H vs Q E hr hsp
  exact ⟨t, h.nox, q⟩
/-- how its arguments bind (no defaults): h is «fun _ _ _ _ _ _ us hl => match us, hl with | [_, _], _ => rfl», one _ a parameter -/
theorem Fun.binds {x qual : Str} {st : Stmt} {f : Addr} {fd : FuncData} {ps : List Str} (F : Fun K x qual st f fd)
    (h : ∀ (kV doc pm : Value) (an : Option Addr) (cdv ct : Value) (us : List Value), us.length = ps.length → bindArgs (PySem.W.fnOf x qual (defArgs st) (defBody st) (defScope st) .none kV doc pm an cdv ct) ⟨us, []⟩ = pure (ps.zip us)) : Binds K fd ps [] := by
  obtain ⟨oc, od, kV, doc, pm, an, cdv, ct, osl, rfl, lk, hcd⟩ := F.ex
  exact .all (h kV doc pm an cdv ct)
theorem fun_mk {x qual : Str} {st : Stmt} {f : Addr} {oc : Value} {od an : Option Addr} {osl : Array (Option Value)} {kV doc pm cdv ct : Value} (l : K.lookup f = some ⟨oc, od, .func (PySem.W.fnOf x qual (defArgs st) (defBody st) (defScope st) .none kV doc pm an cdv ct), osl⟩)
    (c : PySem.W.codeIn K cdv qual = true) (k : PySem.W.keepIn K (.ref f) = true) : Fun K x qual st f (PySem.W.fnOf x qual (defArgs st) (defBody st) (defScope st) .none kV doc pm an cdv ct) := ⟨⟨oc, od, kV, doc, pm, an, cdv, ct, osl, rfl, l, c⟩, k⟩
end
/-! ### expressions in short: the name that stands in the i-th slot -/
section
variable {X : Cx}
theorem pv (i : Nat) {x : Str} {pos : Pos} (hN : X.N[i]? = some x := by rfl) (hv : Vis X.env.scope x := by first | exact Or.inl rfl | exact Or.inr (Or.inl rfl) | exact Or.inr (Or.inr rfl)) (hd : (x == ("__debug__" : Str)) = false := by decide)
    (hcd : (x == ("__classdict__" : Str)) = false := by decide) : PE X (.Name x pos) (tVar i) := pe_var hN hv hd hcd
end

/-! ### tests -/
/-! ### heaps -/
/-- all that was tracked is as it was -/
noncomputable def Same (H H' : Hp) : Prop := ∀ b o, H b = some o → H' b = some o
theorem Same.refl (H : Hp) : Same H H := fun _ _ h => h
theorem Same.trans {H H1 H2 : Hp} (a : Same H H1) (b : Same H1 H2) : Same H H2 := fun c o h => b c o (a c o h)
theorem Same.free {H H' : Hp} (e : Same H H') {l : Addr} (h : H' l = Option.none) : H l = Option.none := by
  cases q : H l with
  | none => rfl
  | some o =>
    rw [e l o q] at h
    cases h
theorem Same.seq {K : PySem.W.Frag} {H H' : Hp} {a : Addr} {xs : List V} (e : Same H H') (h : SqL K H a xs) : SqL K H' a xs := by
  rcases h with (h | ⟨o, h⟩) | h
  · exact .inl (.inl (e _ _ h))
  · exact .inl (.inr ⟨o, e _ _ h⟩)
  · exact .inr h

/-! ### lists -/
theorem at_of {xs : List V} {z : Int} {j : Nat} {v : V} (e : z = (j : Int)) (h : xs[j]? = some v) : atI xs z = some v := by
  rw [e]
  exact atI_nat h
/-- a new instance and its __init__ leave all that was tracked as it was -/
theorem Same.made {H H1 : Hp} {x dx C : Addr} (nx : H x = Option.none) (nd : H dx = Option.none) (k : ∀ b o, (upd (upd H dx (.own x)) x (.ins C dx [])) b = some o → b ≠ x → H1 b = some o) : Same H H1 := fun b o e =>
  k b o (by rw [upd_ne (ne_of_none e nx), upd_ne (ne_of_none e nd)]; exact e) (ne_of_none e nx)
end L2

section
set_option Elab.async false
set_option linter.all false
set_option maxRecDepth 100000
set_option maxHeartbeats 2000000
namespace L2
open PySem PySem.Spec PyProof.Rows
open PySem.W (WData Codec OpenSpec Well WellAll ReadsW ReadsAllW)
/-! ### an answer as data -/
mutual
/-- x stands for the datum d, lists and tuples all the way -/
inductive Dw (K : PySem.W.Frag) (H : Hp) : V → WData → Prop
  | non : Dw K H .non .none
  | bl (b : Bool) : Dw K H (.bl b) (.bool b)
  | int (i : Int) : Dw K H (.int i) (.int i)
  | str (x : Str) : Dw K H (.str x) (.str x)
  | byt (b : Array UInt8) : Dw K H (.byt b) (.bytes b.toList)
  | lst {a : Addr} {xs : List V} {ds : List WData} : SqL K H a xs → DwAll K H xs ds → Dw K H (.ref a) (.list ds)
  | tup {a : Addr} {xs : List V} {ds : List WData} : SqT K H a xs → DwAll K H xs ds → Dw K H (.ref a) (.tuple ds)
inductive DwAll (K : PySem.W.Frag) (H : Hp) : List V → List WData → Prop
  | nil : DwAll K H [] []
  | cons {v : V} {vs : List V} {d : WData} {ds : List WData} : Dw K H v d → DwAll K H vs ds → DwAll K H (v :: vs) (d :: ds)
end
theorem dw_ints {K : PySem.W.Frag} {H : Hp} : ∀ ns : List Int, DwAll K H (ns.map V.int) (ns.map WData.int)
  | [] => .nil
  | n :: r => .cons (.int n) (dw_ints r)
theorem ints_dw {K : PySem.W.Frag} {H : Hp} : ∀ (ns : List Int) (xs : List V), DwAll K H xs (ns.map WData.int) → xs = ns.map V.int
  | [], xs, h => by
    cases h
    rfl
  | n :: r, xs, h => by
    cases h with
    | cons h1 h2 =>
      cases h1
      rw [ints_dw r _ h2] <;> rfl
section
variable {P : Program} {w : World} {K : PySem.W.Frag} {H : Hp} {h : Heap} {R : PySem.W.WRecords} {cl : Str → Option Addr}
theorem sqL_at {a : Addr} {xs : List V} (hok : HOk P w H h) (KX : K.In h) (q : SqL K H a xs) : ∃ (its : List Value) (o : Obj) (n : Nat), Vals xs its ∧ h.get? a = some o ∧ o.cls = .type "list" ∧ o.data = .seq its.toArray n := by
  rcases q with q | ⟨o, its, n, e, hc, _, hd, _, hv⟩
  · obtain ⟨_, its, n, hv, e⟩ := (show ObjOk P w H h a (.lst xs) from q.ok hok)
    exact ⟨its, _, n, hv, e, rfl, rfl⟩
  · exact ⟨its.toList, o, n, hv, KX _ _ e, hc, by simp [hd]⟩
theorem sqT_at {a : Addr} {xs : List V} (hok : HOk P w H h) (KX : K.In h) (q : SqT K H a xs) : ∃ (its : List Value) (o : Obj) (n : Nat), Vals xs its ∧ h.get? a = some o ∧ o.cls = .type "tuple" ∧ o.data = .seq its.toArray n := by
  rcases q with q | ⟨o, its, n, e, hc, hd, _, hv⟩
  · obtain ⟨_, its, hv, o, e, hc, n, hd⟩ := (show ObjOk P w H h a (.tup xs) from q.ok hok)
    exact ⟨its, o, n, hv, e, hc, hd⟩
  · exact ⟨its.toList, o, n, hv, KX _ _ e, hc, by simp [hd]⟩
mutual
theorem Dw.reads (hok : HOk P w H h) (KX : K.In h) : ∀ (d : WData) (v : V) (u : Value), Dw K H v d → RelV v u → ∃ as, ReadsW R cl h u d as
  | .none, _, _, x, r => by
    cases x
    cases r
    exact ⟨_, ReadsW.none⟩
  | .bool b, _, _, x, r => by
    cases x
    cases r
    exact ⟨_, ReadsW.bool b⟩
  | .int i, _, _, x, r => by
    cases x
    obtain ⟨t, rfl⟩ := r
    exact ⟨_, ReadsW.int i t⟩
  | .str s, _, _, x, r => by
    cases x
    obtain ⟨t, rfl⟩ := r
    exact ⟨_, ReadsW.str s t⟩
  | .bytes b, _, _, x, r => by
    cases x
    obtain ⟨t, rfl⟩ := r
    exact ⟨_, ReadsW.bytes _ t⟩
  | .list ds, _, _, x, r => by
    cases x with
    | lst hs ha =>
      cases r
      obtain ⟨its, o, n, rv, ho, hc, hd⟩ := sqL_at hok KX hs
      obtain ⟨as, hr⟩ := Dw.readsAll hok KX ds _ its ha rv
      exact ⟨_, ReadsW.list ho hc hd hr⟩
  | .tuple ds, _, _, x, r => by
    cases x with
    | tup hs ha =>
      cases r
      obtain ⟨its, o, n, rv, ho, hc, hd⟩ := sqT_at hok KX hs
      obtain ⟨as, hr⟩ := Dw.readsAll hok KX ds _ its ha rv
      exact ⟨_, ReadsW.tuple ho hc hd hr⟩
  | .float _, _, _, x, _ => by cases x
  | .dict _, _, _, x, _ => by cases x
  | .bytearray _, _, _, x, _ => by cases x
  | .set _, _, _, x, _ => by cases x
  | .frozenset _, _, _, x, _ => by cases x
  | .obj _ _, _, _, x, _ => by cases x
theorem Dw.readsAll (hok : HOk P w H h) (KX : K.In h) : ∀ (ds : List WData) (vs : List V) (us : List Value), DwAll K H vs ds → Vals vs us → ∃ as, ReadsAllW R cl h us ds as
  | [], _, _, x, r => by
    cases x
    cases r
    exact ⟨_, ReadsAllW.nil⟩
  | d :: ds, _, _, x, r => by
    cases x with
    | cons h1 h2 =>
      cases r with
      | cons r1 r2 =>
        obtain ⟨as, q1⟩ := Dw.reads hok KX d _ _ h1 r1
        obtain ⟨bs, q2⟩ := Dw.readsAll hok KX ds _ _ h2 r2
        exact ⟨_, ReadsAllW.cons q1 q2⟩
end
end
/-! ### the arguments -/
mutual
/-- data that a codec tells -/
noncomputable def plW : WData → Bool
  | .none => true
  | .bool _ => true
  | .int _ => true
  | .str _ => true
  | .bytes _ => true
  | .list xs => plWs xs
  | .tuple xs => plWs xs
  | _ => false
noncomputable def plWs : List WData → Bool
  | [] => true
  | x :: r => plW x && plWs r
end
theorem plWs_map {α : Type} {f : α → WData} (h : ∀ a, plW (f a) = true) : ∀ l : List α, plWs (l.map f) = true
  | [] => rfl
  | x :: r => by
    show (plW (f x) && plWs (r.map f)) = true
    rw [h x, plWs_map h r] <;> rfl
theorem pl_enc : ∀ (c : Codec) (a : c.denote), plW (c.enc a) = true
  | .unit, _ => rfl
  | .bool, _ => rfl
  | .int _ _, _ => rfl
  | .nat _ _, _ => rfl
  | .u8, _ => rfl
  | .bytes _ _, _ => rfl
  | .text _ _ _ _, _ => rfl
  | .list _ _ c, a => plWs_map (fun x => pl_enc c x) a
  | .pair c d, a => by
    show (plW (c.enc a.1) && (plW (d.enc a.2) && true)) = true
    rw [pl_enc c a.1, pl_enc d a.2] <;> rfl
  | .triple c d e, a => by
    show (plW (c.enc a.1) && (plW (d.enc a.2.1) && (plW (e.enc a.2.2) && true))) = true
    rw [pl_enc c a.1, pl_enc d a.2.1, pl_enc e a.2.2] <;> rfl
  | .option c, none => rfl
  | .option c, some x => pl_enc c x
theorem pl_encAll : ∀ (cs : List Codec) (a : Codec.denoteAll cs), plWs (Codec.encAll cs a) = true
  | [], _ => rfl
  | c :: cs, a => by
    show (plW (c.enc a.1) && plWs (Codec.encAll cs a.2)) = true
    rw [pl_enc c a.1, pl_encAll cs a.2] <;> rfl
theorem weight_mem : ∀ {xs : List WData} {d : WData}, d ∈ xs → d.weight ≤ WData.weightAll xs
  | [], d, h => absurd h (by simp)
  | x :: r, d, h => by
    show d.weight ≤ x.weight + 1 + WData.weightAll r
    rcases List.mem_cons.mp h with e | m
    · rw [e]
      (first | lia | omega)
    · have z := weight_mem m
      (first | lia | omega)
noncomputable def toV : Value → V
  | .none => .non
  | .bool b => .bl b
  | .int i _ => .int i
  | .str x _ => .str x
  | .bytes b _ => .byt b
  | .ref a => .ref a
  | _ => .non
/-- a value of the arguments, its objects among A -/
noncomputable def OkU (A : List Addr) : Value → Prop
  | .none => True
  | .bool _ => True
  | .int _ _ => True
  | .str _ _ => True
  | .bytes _ _ => True
  | .ref a => a ∈ A
  | _ => False
theorem OkU.mono {A B : List Addr} (h : ∀ a ∈ A, a ∈ B) : ∀ {u : Value}, OkU A u → OkU B u := fun {u} x => by
  cases u with
  | ref a => exact h a x
  | none => trivial
  | bool b => trivial
  | int i t => trivial
  | str s t => trivial
  | bytes b t => trivial
  | _ => exact False.elim x
theorem relV_toV {A : List Addr} {u : Value} (x : OkU A u) : RelV (toV u) u := by
  cases u with
  | ref a => rfl
  | none => rfl
  | bool b => rfl
  | int i t => exact ⟨t, rfl⟩
  | str s t => exact ⟨t, rfl⟩
  | bytes b t => exact ⟨t, rfl⟩
  | _ => exact False.elim x
theorem vals_toV {A : List Addr} : ∀ {vs : List Value}, (∀ u ∈ vs, OkU A u) → Vals (vs.map toV) vs
  | [], _ => .nil
  | u :: r, h => .cons (relV_toV (h u (List.mem_cons_self ..))) (vals_toV fun x hx => h x (List.mem_cons_of_mem _ hx))
/-- an object of the arguments -/
noncomputable def ArgOb (h : Heap) (A : List Addr) (a : Addr) : Prop := ∃ vs : List Value, vs.length ≤ sizeLine ∧ (∀ u ∈ vs, OkU A u) ∧
  (h.get? a = some { cls := .type "list", data := .seq vs.toArray } ∨ h.get? a = some { cls := .type "tuple", data := .seq vs.toArray })
theorem ArgOb.mono {h : Heap} {A B : List Addr} {a : Addr} (k : ∀ a ∈ A, a ∈ B) (x : ArgOb h A a) : ArgOb h B a := by
  obtain ⟨vs, h1, h2, h3⟩ := x
  exact ⟨vs, h1, fun u hu => (h2 u hu).mono k, h3⟩
theorem wellAll_len {P : Params} {h : Heap} : ∀ {vs : List Value} {ds : List WData}, WellAll P h vs ds → vs.length = ds.length
  | _, _, .nil => rfl
  | _, _, .cons _ b => by
    show _ + 1 = _ + 1
    rw [wellAll_len b]
theorem well_list {P : Params} {h : Heap} {v : Value} {ds : List WData} (x : Well P h v (.list ds)) : ∃ (a : Addr) (vs : List Value), v = .ref a ∧ h.get? a = some { cls := .type "list", data := .seq vs.toArray } ∧ WellAll P h vs ds := by
  cases x with
  | list ho hall => exact ⟨_, _, rfl, ho, hall⟩
theorem well_tuple {P : Params} {h : Heap} {v : Value} {ds : List WData} (x : Well P h v (.tuple ds)) : ∃ (a : Addr) (vs : List Value), v = .ref a ∧ h.get? a = some { cls := .type "tuple", data := .seq vs.toArray } ∧ WellAll P h vs ds := by
  cases x with
  | tuple ho hall => exact ⟨_, _, rfl, ho, hall⟩
theorem well_cons {P : Params} {h : Heap} {us : List Value} {d : WData} {ds : List WData} (x : WellAll P h us (d :: ds)) : ∃ (v : Value) (vs : List Value), us = v :: vs ∧ Well P h v d ∧ WellAll P h vs ds := by
  cases x with
  | cons a b => exact ⟨_, _, rfl, a, b⟩
theorem line_of {n : Nat} (h : n ≤ 1048576) : n ≤ sizeLine := Nat.le_trans h (by decide)
section
variable {P : Params} {h : Heap}
mutual
theorem area_one : ∀ (d : WData) (v : Value), Well P h v d → plW d = true → d.weight ≤ 1048576 → ∃ A : List Addr, OkU A v ∧ ∀ a ∈ A, ArgOb h A a
  | .none, _, x, _, _ => by
    cases x
    exact ⟨[], trivial, fun a m => absurd m (by simp)⟩
  | .bool b, _, x, _, _ => by
    cases x
    exact ⟨[], trivial, fun a m => absurd m (by simp)⟩
  | .int i, _, x, _, _ => by
    cases x
    exact ⟨[], trivial, fun a m => absurd m (by simp)⟩
  | .str s, _, x, _, _ => by
    cases x
    exact ⟨[], trivial, fun a m => absurd m (by simp)⟩
  | .bytes b, _, x, _, _ => by
    cases x
    exact ⟨[], trivial, fun a m => absurd m (by simp)⟩
  | .list ds, _, x, p, z => by
    obtain ⟨a, vs, rfl, ho, hall⟩ := well_list x
    have z2 : WData.weightAll ds ≤ 1048576 := z
    obtain ⟨A, h1, h2⟩ := area_all ds _ hall p fun d hd => Nat.le_trans (weight_mem hd) z2
    have k : ∀ b ∈ A, b ∈ a :: A := fun b hb => List.mem_cons_of_mem _ hb
    refine ⟨a :: A, List.mem_cons_self .., fun b hb => ?_⟩
    rcases List.mem_cons.mp hb with e | m
    · rw [e]
      exact ⟨vs, line_of (by rw [wellAll_len hall]; exact Nat.le_trans (PySem.W.length_le_weightAllW ds) z2), fun u hu => (h1 u hu).mono k, .inl ho⟩
    · exact (h2 b m).mono k
  | .tuple ds, _, x, p, z => by
    obtain ⟨a, vs, rfl, ho, hall⟩ := well_tuple x
    have z2 : WData.weightAll ds ≤ 1048576 := z
    obtain ⟨A, h1, h2⟩ := area_all ds _ hall p fun d hd => Nat.le_trans (weight_mem hd) z2
    have k : ∀ b ∈ A, b ∈ a :: A := fun b hb => List.mem_cons_of_mem _ hb
    refine ⟨a :: A, List.mem_cons_self .., fun b hb => ?_⟩
    rcases List.mem_cons.mp hb with e | m
    · rw [e]
      exact ⟨vs, line_of (by rw [wellAll_len hall]; exact Nat.le_trans (PySem.W.length_le_weightAllW ds) z2), fun u hu => (h1 u hu).mono k, .inr ho⟩
    · exact (h2 b m).mono k
  | .float _, _, _, p, _ => Bool.noConfusion (show false = true from p)
  | .dict _, _, _, p, _ => Bool.noConfusion (show false = true from p)
  | .bytearray _, _, _, p, _ => Bool.noConfusion (show false = true from p)
  | .set _, _, _, p, _ => Bool.noConfusion (show false = true from p)
  | .frozenset _, _, _, p, _ => Bool.noConfusion (show false = true from p)
  | .obj _ _, _, _, p, _ => Bool.noConfusion (show false = true from p)
theorem area_all : ∀ (ds : List WData) (vs : List Value), WellAll P h vs ds → plWs ds = true → (∀ d ∈ ds, d.weight ≤ 1048576) → ∃ A : List Addr, (∀ u ∈ vs, OkU A u) ∧ ∀ a ∈ A, ArgOb h A a
  | [], _, x, _, _ => by
    cases x
    exact ⟨[], fun u m => absurd m (by simp), fun a m => absurd m (by simp)⟩
  | d :: ds, _, x, p, z => by
    obtain ⟨v, vs, rfl, x1, x2⟩ := well_cons x
    have q : plW d = true ∧ plWs ds = true := Bool.and_eq_true_iff.mp p
    obtain ⟨A, a1, a2⟩ := area_one d v x1 q.1 (z d (List.mem_cons_self ..))
    obtain ⟨B, b1, b2⟩ := area_all ds vs x2 q.2 fun e he => z e (List.mem_cons_of_mem _ he)
    have kA : ∀ b ∈ A, b ∈ A ++ B := fun b hb => List.mem_append.mpr (.inl hb)
    have kB : ∀ b ∈ B, b ∈ A ++ B := fun b hb => List.mem_append.mpr (.inr hb)
    refine ⟨A ++ B, fun u hu => ?_, fun b hb => ?_⟩
    · rcases List.mem_cons.mp hu with e | m
      · rw [e]
        exact a1.mono kA
      · exact (b1 u m).mono kB
    · rcases List.mem_append.mp hb with m | m
      · exact (a2 b m).mono kA
      · exact (b2 b m).mono kB
end
end
/-- what is tracked of an argument's object -/
noncomputable def hoOf (o : Obj) : Option HO := match o.data with
  | .seq vs _ => if (o.cls == Value.type "list") = true then some (.frz o (.lst (vs.toList.map toV))) else some (.frz o (.tup (vs.toList.map toV)))
  | _ => none
noncomputable def argH (K : PySem.W.Frag) (h : Heap) (A : List Addr) : Hp := fun b => if b ∈ A then (if (K.lookup b).isNone = true then (h.get? b).bind hoOf else none) else none
/-- nothing is tracked but what is known to the object -/
noncomputable def OnlyF (H : Hp) : Prop := ∀ b, H b = none ∨ ∃ o u, H b = some (.frz o u)
theorem hoOf_lst (vs : List Value) : hoOf { cls := .type "list", data := .seq vs.toArray } = some (.frz { cls := .type "list", data := .seq vs.toArray } (.lst (vs.map toV))) := by
  show (if (Value.type "list" == Value.type "list") = true then some (HO.frz { cls := .type "list", data := .seq vs.toArray } (.lst (vs.toArray.toList.map toV))) else some (HO.frz { cls := .type "list", data := .seq vs.toArray } (.tup (vs.toArray.toList.map toV)))) = _
  rw [if_pos (beq_self_eq_true _)]
theorem hoOf_tup (vs : List Value) : hoOf { cls := .type "tuple", data := .seq vs.toArray } = some (.frz { cls := .type "tuple", data := .seq vs.toArray } (.tup (vs.map toV))) := by
  show (if (Value.type "tuple" == Value.type "list") = true then some (HO.frz { cls := .type "tuple", data := .seq vs.toArray } (.lst (vs.toArray.toList.map toV))) else some (HO.frz { cls := .type "tuple", data := .seq vs.toArray } (.tup (vs.toArray.toList.map toV)))) = _
  rw [if_neg (by decide)]
section
variable {P : Program} {w : World} {K : PySem.W.Frag} {h : Heap} {A : List Addr}
theorem argH_at {b : Addr} {o : Obj} (hb : b ∈ A) (hk : K.lookup b = none) (e : h.get? b = some o) : argH K h A b = hoOf o := by
  unfold argH
  rw [if_pos hb, hk, if_pos (show (none : Option Obj).isNone = true from rfl), e] <;> rfl
theorem of_argH {b : Addr} {u : HO} (q : argH K h A b = some u) : b ∈ A ∧ K.lookup b = none := by
  unfold argH at q
  by_cases hb : b ∈ A
  · rw [if_pos hb] at q
    cases hk : K.lookup b with
    | none => exact ⟨hb, rfl⟩
    | some o =>
      rw [hk, if_neg (by simp)] at q
      cases q
  · rw [if_neg hb] at q
    cases q
/-- what stands tracked -/
theorem argH_is (ar : ∀ a ∈ A, ArgOb h A a) {b : Addr} {u : HO} (q : argH K h A b = some u) : K.lookup b = none ∧ ∃ vs : List Value, vs.length ≤ sizeLine ∧ (∀ u ∈ vs, OkU A u) ∧
    ((h.get? b = some { cls := .type "list", data := .seq vs.toArray } ∧ u = .frz { cls := .type "list", data := .seq vs.toArray } (.lst (vs.map toV))) ∨
     (h.get? b = some { cls := .type "tuple", data := .seq vs.toArray } ∧ u = .frz { cls := .type "tuple", data := .seq vs.toArray } (.tup (vs.map toV)))) := by
  obtain ⟨hb, hk⟩ := of_argH q
  obtain ⟨vs, h1, h2, h3⟩ := ar b hb
  refine ⟨hk, vs, h1, h2, ?_⟩
  rcases h3 with e | e
  · rw [argH_at hb hk e, hoOf_lst] at q
    exact .inl ⟨e, (Option.some.inj q).symm⟩
  · rw [argH_at hb hk e, hoOf_tup] at q
    exact .inr ⟨e, (Option.some.inj q).symm⟩
theorem argH_only (ar : ∀ a ∈ A, ArgOb h A a) : OnlyF (argH K h A) := fun b => by
  cases q : argH K h A b with
  | none => exact .inl rfl
  | some u =>
    obtain ⟨_, vs, _, _, ⟨_, e⟩ | ⟨_, e⟩⟩ := argH_is ar q
    · exact .inr ⟨_, _, by rw [e]⟩
    · exact .inr ⟨_, _, by rw [e]⟩
theorem argH_ok (ar : ∀ a ∈ A, ArgOb h A a) : HOk P w (argH K h A) h := fun b u q => by
  obtain ⟨_, vs, h1, h2, ⟨e, rfl⟩ | ⟨e, rfl⟩⟩ := argH_is ar q
  · exact ⟨e, by rw [List.length_map]; exact h1, vs, _, vals_toV h2, e⟩
  · exact ⟨e, by rw [List.length_map]; exact h1, vs, vals_toV h2, _, e, rfl, _, rfl⟩
theorem seq_inj {c c' : Value} {vs us : List Value} (e : (some { cls := c, data := .seq vs.toArray } : Option Obj) = some { cls := c', data := .seq us.toArray }) : c = c' ∧ vs = us := by
  have e1 := Option.some.inj e
  have e2 : c = c' := congrArg Obj.cls e1
  have e3 : Data.seq vs.toArray = Data.seq us.toArray := congrArg Obj.data e1
  injection e3 with e4
  refine ⟨e2, ?_⟩
  have e5 := congrArg Array.toList e4
  simpa using e5
/-- a list argument -/
theorem argL (KX : K.In h) (ar : ∀ a ∈ A, ArgOb h A a) {a : Addr} {vs : List Value} (ha : a ∈ A) (e : h.get? a = some { cls := .type "list", data := .seq vs.toArray }) : (∀ u ∈ vs, OkU A u) ∧ SqL K (argH K h A) a (vs.map toV) := by
  obtain ⟨us, h1, h2, h3⟩ := ar a ha
  have hu : us = vs := by
    rcases h3 with q | q
    · rw [e] at q
      exact (seq_inj q).2.symm
    · rw [e] at q
      exact absurd (Value.type.inj (seq_inj q).1) (by decide)
  subst hu
  refine ⟨h2, ?_⟩
  cases hk : K.lookup a with
  | none => exact .inl (.inr ⟨_, by rw [argH_at ha hk e, hoOf_lst]⟩)
  | some o =>
    have e2 := KX a o hk
    rw [e] at e2
    obtain rfl := Option.some.inj e2
    exact .inr ⟨_, us.toArray, _, hk, rfl, rfl, rfl, by rw [List.size_toArray]; exact h1, by simpa using vals_toV h2⟩
theorem argT (KX : K.In h) (ar : ∀ a ∈ A, ArgOb h A a) {a : Addr} {vs : List Value} (ha : a ∈ A) (e : h.get? a = some { cls := .type "tuple", data := .seq vs.toArray }) : (∀ u ∈ vs, OkU A u) ∧ SqT K (argH K h A) a (vs.map toV) := by
  obtain ⟨us, h1, h2, h3⟩ := ar a ha
  have hu : us = vs := by
    rcases h3 with q | q
    · rw [e] at q
      exact absurd (Value.type.inj (seq_inj q).1) (by decide)
    · rw [e] at q
      exact (seq_inj q).2.symm
  subst hu
  refine ⟨h2, ?_⟩
  cases hk : K.lookup a with
  | none => exact .inl (.inr ⟨_, by rw [argH_at ha hk e, hoOf_tup]⟩)
  | some o =>
    have e2 := KX a o hk
    rw [e] at e2
    obtain rfl := Option.some.inj e2
    exact .inr ⟨_, us.toArray, _, hk, rfl, rfl, by rw [List.size_toArray]; exact h1, by simpa using vals_toV h2⟩
mutual
theorem dw_one {Pm : Params} (KX : K.In h) (ar : ∀ a ∈ A, ArgOb h A a) : ∀ (d : WData) (v : Value), Well Pm h v d → plW d = true → OkU A v → Dw K (argH K h A) (toV v) d
  | .none, _, x, _, _ => by
    cases x
    exact .non
  | .bool b, _, x, _, _ => by
    cases x
    exact .bl b
  | .int i, _, x, _, _ => by
    cases x
    exact .int i
  | .str s, _, x, _, _ => by
    cases x
    exact .str s
  | .bytes b, _, x, _, _ => by
    cases x
    have z := Dw.byt (K := K) (H := argH K h A) b.toArray
    exact z
  | .list ds, _, x, p, hu => by
    obtain ⟨a, vs, rfl, ho, hall⟩ := well_list x
    obtain ⟨h2, hs⟩ := argL KX ar hu ho
    exact .lst hs (dw_all KX ar ds _ hall p h2)
  | .tuple ds, _, x, p, hu => by
    obtain ⟨a, vs, rfl, ho, hall⟩ := well_tuple x
    obtain ⟨h2, hs⟩ := argT KX ar hu ho
    exact .tup hs (dw_all KX ar ds _ hall p h2)
  | .float _, _, _, p, _ => Bool.noConfusion (show false = true from p)
  | .dict _, _, _, p, _ => Bool.noConfusion (show false = true from p)
  | .bytearray _, _, _, p, _ => Bool.noConfusion (show false = true from p)
  | .set _, _, _, p, _ => Bool.noConfusion (show false = true from p)
  | .frozenset _, _, _, p, _ => Bool.noConfusion (show false = true from p)
  | .obj _ _, _, _, p, _ => Bool.noConfusion (show false = true from p)
theorem dw_all {Pm : Params} (KX : K.In h) (ar : ∀ a ∈ A, ArgOb h A a) : ∀ (ds : List WData) (vs : List Value), WellAll Pm h vs ds → plWs ds = true → (∀ u ∈ vs, OkU A u) → DwAll K (argH K h A) (vs.map toV) ds
  | [], _, x, _, _ => by
    cases x
    exact .nil
  | d :: ds, _, x, p, hu => by
    obtain ⟨v, vs, rfl, x1, x2⟩ := well_cons x
    have q : plW d = true ∧ plWs ds = true := Bool.and_eq_true_iff.mp p
    exact .cons (dw_one KX ar d v x1 q.1 (hu _ (List.mem_cons_self ..))) (dw_all KX ar ds vs x2 q.2 fun u m => hu u (List.mem_cons_of_mem _ m))
end
end
/-! ### the call -/
theorem spec_call {P : Program} {w : World} {K : PySem.W.Frag} {mg mb : Str → Option Value} {CX : CXT} {k : Nat} {fa : Addr} {fd : FuncData} {ps : List Str} {sp : Sp} {s₁ : Shared} {vals : List Value} {ds : List WData} {R : PySem.W.WRecords} {cl : Str → Option Addr} {d0 : WData}
    (KX : K.In s₁.heap) (hns : s₁.heap.Ns mainGlobals mg) (hb : s₁.heap.Ns builtinsNs mb) (hbb : ∀ x : Str, x ≠ "__name__" → mb x = bootBuiltins x) (hlim : s₁.heap.NoLimit) (hg : s₁.gens = #[])
    (hwl : WellAll w.params s₁.heap vals ds) (hpl : plWs ds = true) (hwt : ∀ d ∈ ds, d.weight ≤ 1048576) (hr : Room k callerA)
    (F : ∀ base : Heap, K.In base → base.Ns mainGlobals mg → FnOk P w K mg base CX k fa fd ps sp) (hbind : ∀ (s : Shared) (us : List Value), us.length = ps.length → BindsTo s fd ⟨us, []⟩ (ps.zip us)) (hlen : ds.length = ps.length)
    (hsp : ∀ (H : Hp) (xs : List V), OnlyF H → DwAll K H xs ds → sp xs H (fun v H' => Dw K H' v d0) fun _ _ _ => False)
    (hCX : ∀ H e s', CX [] H s₁ (fun _ _ _ => False) e s' → False) :
    codeAny (model P w) callerA (.call (.ref fa) ⟨vals, []⟩) (fun r s' => ∃ u as, r = .ok (.ret u) ∧ ReadsW R cl s'.heap u d0 as ∧ OldK s₁.heap s'.heap ∧ s'.os = s₁.os ∧ AllBare s'.gens) s₁ := by
  obtain ⟨A, ho, ar⟩ := area_all ds vals hwl hpl hwt
  have hO : OnlyF (argH K s₁.heap A) := argH_only ar
  have hok : HOk P w (argH K s₁.heap A) s₁.heap := argH_ok ar
  have hS := dw_all KX ar ds vals hwl hpl ho
  have hV := vals_toV ho
  have hK : ∀ b u, argH K s₁.heap A b = some u → K.lookup b = none := fun b u q => (argH_is ar q).1
  have noA : ∀ {b : Addr} {o : Obj} {es : Array DictEntry} {ep : Nat}, s₁.heap.get? b = some o → o.data = .dict es ep → argH K s₁.heap A b = none := fun {b o es ep} e d => by
    cases q : argH K s₁.heap A b with
    | none => rfl
    | some u =>
      obtain ⟨_, vs, _, _, ⟨e2, _⟩ | ⟨e2, _⟩⟩ := argH_is ar q
      · rw [e2] at e
        cases e
        have d' : Data.seq vs.toArray _ = Data.dict es ep := d
        cases d'
      · rw [e2] at e
        cases e
        have d' : Data.seq vs.toArray _ = Data.dict es ep := d
        cases d'
  generalize argH K s₁.heap A = H at hO hok hS hK noA
  have base_of : ∀ {b : Addr} {o : Obj}, s₁.heap.get? b = some o → H b = none → (hidT s₁.heap H).get? b = some o := fun e n => hidT_get e n
  have nsK : ∀ {b : Addr} {m : Str → Option Value}, s₁.heap.Ns b m → (hidT s₁.heap H).Ns b m := fun {b m} ⟨o, es, ep, e, d, r⟩ => ⟨o, es, ep, base_of e (noA e d), d, r⟩
  have nK : ∀ b o, K.lookup b = some o → H b = none := fun b o e => by
    cases q : H b with
    | none => rfl
    | some u =>
      rw [hK b u q] at e
      cases e
  have hKb : K.In (hidT s₁.heap H) := fun b o e => base_of (KX b o e) (nK b o e)
  have hM : Mod K mg (hidT s₁.heap H) := ⟨hKb, nsK hns, ⟨mb, nsK hb, hbb⟩, let ⟨mc, h1, h2⟩ := hlim; ⟨mc, nsK h1, h2⟩⟩
  have e0 : Env0 P w K mg (hidT s₁.heap H) callerA [] s₁ H := ⟨rfl, hM, fun b o e => of_hidT e, Nat.le_of_eq (hidT_size _ _), trivial, fun b hb => absurd (show b ∈ ([] : List Addr) from hb) (by simp), hok, .of_eq hg⟩
  have hl : vals.length = ps.length := by rw [wellAll_len hwl]; exact hlen
  refine codeAny_mono ((F _ hKb (nsK hns)).run callerA [] s₁ H ⟨vals, []⟩ vals (vals.map toV) _ _ hr e0 (hbind s₁ vals hl) hV (hsp H _ hO hS)) fun r s' x => ?_
  cases r with
  | error e => exact (hCX H e s' x).elim
  | ok fl =>
    cases fl with
    | next => exact False.elim x
    | brk => exact False.elim x
    | cont => exact False.elim x
    | ret u =>
      obtain ⟨v, H', os, bare, un, hok', r', q⟩ := x
      have kept : ∀ b o, s₁.heap.get? b = some o → s'.heap.get? b = some o := fun b o e => by
        cases q2 : H b with
        | none => exact un.keep b o e q2 (by intro z; exact absurd (show b ∈ ([] : List Addr) from z) (by simp)) (by simp)
        | some u2 =>
          rcases hO b with z | ⟨ob, u3, z⟩
          · rw [q2] at z
            cases z
          · have z2 := un.frzs b ob _ z
            obtain ⟨e1, _⟩ := hok b _ z
            obtain ⟨e2, _⟩ := hok' b _ z2
            rw [e] at e1
            cases e1
            exact e2
      have KX' : K.In s'.heap := fun b o e => kept b o (KX b o e)
      obtain ⟨as, hrd⟩ := Dw.reads (R := R) (cl := cl) hok' KX' d0 v u q r'
      exact ⟨u, as, rfl, hrd, OldK.of_keep kept, os, bare⟩
/-! ### the row -/
theorem layable_weight {ds : List WData} (h : WData.layableAll ds = true) : ∀ d ∈ ds, d.weight ≤ 1048576 := fun d hd =>
  (PySem.W.layableW_iff.mp (List.all_eq_true.mp h d hd)).2.2
theorem encAll_len : ∀ (cs : List Codec) (a : Codec.denoteAll cs), (Codec.encAll cs a).length = cs.length
  | [], _ => rfl
  | c :: cs, a => by
    show (Codec.encAll cs a.2).length + 1 = cs.length + 1
    rw [encAll_len cs a.2]
/-- the goal that k_headS leaves (case hc), from the promise of the row's def: whatever the arguments that the codecs let and the row asks for, the def gives what stands for enc (f ..) -/
theorem walk_spec {r : OpenSpec} {k : Nat} {q : Program} {loose : List Str} {XP : (Str → Option Value) → Heap → Prop} {YP : World → Heap → Prop} {d : DefRec} {K : Params → PySem.W.Frag} {CX : World → CXT} {ps : List Str} {sp : World → Sp}
    (hwell : r.wellSaid = true) (hdf : d.params.defaults = []) (hlen : r.args.length = ps.length) (hr : Room k callerA)
    (hY : ∀ (w : World) (h : Heap), YP w h → (K w.params).In h)
    (F : ∀ (w : World) (mg : Str → Option Value) (fa : Addr) (h : Heap), YP w h → (K w.params).In h → h.Ns mainGlobals mg → mg d.name = some (.ref fa) →
      ∃ fd : FuncData, (∀ (s : Shared) (us : List Value), us.length = ps.length → BindsTo s fd ⟨us, []⟩ (ps.zip us)) ∧
        ∀ base : Heap, (K w.params).In base → base.Ns mainGlobals mg → FnOk r.prog w (K w.params) mg base (CX w) k fa fd ps (sp w))
    (hsp : ∀ (w : World) (H : Hp) (xs : List V) (a : Codec.denoteAll r.args), OnlyF H → Codec.withinAll r.args a = true → Codec.app r.args r.asked a = true → DwAll (K w.params) H xs (Codec.encAll r.args a) →
      sp w xs H (fun v H' => Dw (K w.params) H' v (r.ret.enc (Codec.app r.args r.f a))) fun _ _ _ => False)
    (hCX : ∀ (w : World) (H : Hp) (s : Shared) (e : Value) (s' : Shared), CX w [] H s (fun _ _ _ => False) e s' → False) :
    PySem.W.WalkOS q loose XP YP r d [] (fun f vs => PySem.call f vs) := by
  intro w s_0 s₁ mg mb G Y fa o pm cd doc dV kV ho hd hcd hD hmg hg args vals as hpre hlay hrd hwl hlo
  obtain ⟨a, e1, e2⟩ := PySem.W.os_pre_some hpre
  obtain ⟨e3, hwi⟩ := Codec.encAll_of_decAll r.args args a e1
  subst e3
  have KX := hY w _ Y
  obtain ⟨fd, hb, hF⟩ := F w mg fa _ Y KX G.T.g hmg
  refine PySem.W.enter_call (codeAny_mono (spec_call (R := []) (cl := classAt s_0.heap) (d0 := r.ret.enc (Codec.app r.args r.f a)) KX G.T.g G.T.b G.T.builtins G.T.nolimit hg hwl (pl_encAll _ _) (layable_weight hlay) hr hF hb (by rw [encAll_len]; exact hlen)
    (fun H xs hO hS => hsp w H xs a hO hwi e2 hS) fun H e s' => hCX w H s₁ e s') fun r' s' hq => ?_)
  obtain ⟨u, as', rfl, h1, h2, h3, h4⟩ := hq
  exact ⟨.inl ⟨u, _, as', rfl, fun _ => rfl, h1, (OpenSpec.post_iff hwell hwi _ _).mpr rfl, fun z => Bool.noConfusion (show false = true from z)⟩, h2, h3, h4⟩
/-- the same where the promise hangs on the written part alone -/
theorem walk_specK {r : OpenSpec} {k : Nat} {q : Program} {loose : List Str} {XP : (Str → Option Value) → Heap → Prop} {YP : World → Heap → Prop} {d : DefRec} {K : Params → PySem.W.Frag} {CX : CXT} {ps : List Str} {sp : PySem.W.Frag → Sp}
    (hwell : r.wellSaid = true) (hdf : d.params.defaults = []) (hlen : r.args.length = ps.length) (hr : Room k callerA)
    (hY : ∀ (w : World) (h : Heap), YP w h → (K w.params).In h)
    (F : ∀ (w : World) (mg : Str → Option Value) (fa : Addr) (h : Heap), YP w h → (K w.params).In h → h.Ns mainGlobals mg → mg d.name = some (.ref fa) →
      ∃ fd : FuncData, (∀ (s : Shared) (us : List Value), us.length = ps.length → BindsTo s fd ⟨us, []⟩ (ps.zip us)) ∧
        ∀ base : Heap, (K w.params).In base → base.Ns mainGlobals mg → FnOk r.prog w (K w.params) mg base CX k fa fd ps (sp (K w.params)))
    (hsp : ∀ (K : PySem.W.Frag) (H : Hp) (xs : List V) (a : Codec.denoteAll r.args), OnlyF H → Codec.withinAll r.args a = true → Codec.app r.args r.asked a = true → DwAll K H xs (Codec.encAll r.args a) →
      sp K xs H (fun v H' => Dw K H' v (r.ret.enc (Codec.app r.args r.f a))) fun _ _ _ => False)
    (hCX : ∀ (H : Hp) (s : Shared) (e : Value) (s' : Shared), CX [] H s (fun _ _ _ => False) e s' → False) :
    PySem.W.WalkOS q loose XP YP r d [] (fun f vs => PySem.call f vs) :=
  walk_spec (K := K) (CX := fun _ => CX) (sp := fun w => sp (K w.params)) hwell hdf hlen hr hY F (fun w H xs a h1 h2 h3 h4 => hsp (K w.params) H xs a h1 h2 h3 h4) fun _ H s e s' => hCX H s e s'
end L2
-- rests on (row put in by the clerk, for the bench that shows a file only what it spells): KE.SpHead KE.OsShapes
end
namespace L2
open PySem PySem.Spec PyProof.Rows
theorem Vals.ints : ∀ {ns : List Int} {us : List Value}, Vals (ns.map V.int) us → IntsAre us ns
  | [], us, h => by
    rw [List.map_nil] at h
    cases h
    exact IntsAre.nil
  | n :: ns, us, h => by
    rw [List.map_cons] at h
    cases h with
    | cons r t =>
      obtain ⟨k, rfl⟩ := r
      exact IntsAre.cons n k (Vals.ints t)
theorem Vals.ref1 {a : Addr} {us : List Value} (r : Vals [V.ref a] us) : us = [Value.ref a] := by
  cases r with
  | cons r t =>
    cases t
    cases r
    rfl
section
variable {prog : Program} {w : World} {A : Around} {E : Value → Shared → Prop} {s : Shared} {l : Addr} {its : List Value} {ns : List Int} {Q : Value → Shared → Prop}
theorem max_raw (hh : A.handled = none) (hl : s.heap.IsList l its.toArray) (hi : IntsAre its ns) (hne : 0 < ns.length)
    (h : ∀ h' tk M t', (∀ b o, s.heap.get? b = some o → h'.get? b = some o) → M ∈ ns → (∀ a, a ∈ ns → a ≤ M) → Q (.int M t') { s with heap := h', toks := tk }) : wpAny (model prog w) A (call (.builtin "max") [.ref l]) Q E s := by
  obtain ⟨xs, e⟩ := hi.allInts.items
  have hn : numsOf (intItems xs).toList = ns := by rw [← e]; exact hi.numsOf
  rw [nums_intItems] at hn
  subst hn
  rw [e] at hl
  have hsz : 0 < xs.size := by simpa using hne
  refine PySem.max_intList hh hl hsz fun v h' tk hv hk => ?_
  obtain ⟨t, rfl⟩ := intItems_at hv
  obtain ⟨h1, h2⟩ := argBest_gt (numAt xs) (xs.size - 1)
  refine h h' tk _ t hk ?_ fun a ha => ?_
  · rw [numAt_eq]; exact PySem.getD_mem (by rw [List.length_map, Array.length_toList]; (first | lia | omega))
  · obtain ⟨j, hj, rfl⟩ := mem_getD ha
    rw [List.length_map, Array.length_toList] at hj
    rw [← numAt_eq]; exact h2 j (by (first | lia | omega))
end
noncomputable def rMax (K : PySem.W.Frag) : List V → Hp → VK → Prop := fun vs H Q => ∃ (a : Addr) (ns : List Int), vs = [V.ref a] ∧ SqL K H a (ns.map V.int) ∧ 0 < ns.length ∧ ∀ m, m ∈ ns → (∀ y, y ∈ ns → y ≤ m) → Q (.int m) H
section
variable {X : Cx}
theorem cr_max (hc : X.calm = true) : CallR X (.builtin "max") (rMax X.K) := by
  intro pins s σ H vs us Q I r h
  obtain ⟨a, ns, rfl, hs, hne, q⟩ := h
  obtain ⟨its, rv, hl, _⟩ := I.list hs
  rw [Vals.ref1 r]
  exact max_raw (I.ok.hd hc) hl.isList rv.ints hne fun h' tk m t' hk h1 h2 => ⟨.int _, H, I.kept hk, ⟨_, rfl⟩, q m h1 h2⟩
end
theorem bitAnd_mask {x : Int} (k : Nat) (hx : 0 ≤ x) : Builtin.bitAnd x (2 ^ k - 1) = x % 2 ^ k := by
  obtain ⟨n, rfl⟩ := Int.eq_ofNat_of_zero_le hx
  have hp : 0 < 2 ^ k := Nat.two_pow_pos k
  rw [two_pow_cast]
  have e : ((2 ^ k : Nat) : Int) - 1 = ((2 ^ k - 1 : Nat) : Int) := by
    generalize (2 : Nat) ^ k = m at hp
    (first | lia | omega)
  rw [e, bitAnd_pp (by (first | lia | omega)) (by (first | lia | omega)), Int.toNat_natCast, Int.toNat_natCast, Nat.and_two_pow_sub_one_eq_mod]
  first
    | rfl
    | exact Int.natCast_emod _ _
    | simp

end L2




set_option Elab.async false
set_option linter.all false
set_option maxRecDepth 100000
namespace L2
open PySem PySem.Spec PyProof.Rows
section
variable {X : Cx}
/-! ### ints of any size -/
noncomputable def CShl (i j : Int) : Prop := 0 ≤ j ∧ j ≤ 1000000 ∧ Builtin.Int.intBits i ≤ 1000000
noncomputable def CDivB (i j : Int) : Prop := 0 < j ∧ j.natAbs.log2 < 9000
noncomputable def CMulB (i j : Int) : Prop := Builtin.Int.intBits i ≤ 1000000 ∧ Builtin.Int.intBits j ≤ 1000000
theorem CMulB.ok {i j : Int} (h : CMulB i j) : IntMulOk i j := by
  obtain ⟨h1, h2⟩ := h
  unfold IntMulOk
  have : Builtin.Int.intTooBig ((Builtin.Int.intBits i : Int) + (Builtin.Int.intBits j : Int)) = false := by
    unfold Builtin.Int.intTooBig
    refine decide_eq_false (Int.not_lt.mpr ?_)
    show _ ≤ (2 : Int) ^ 27
    (first | lia | omega)
  simp [this]
theorem op_shlB : OpR X (binaryOp .LShift) (rI CShl fun i j => .int (i * 2 ^ j.toNat)) := opI fun i j _ _ _ _ _ hc q =>
  lshift_int hc.1 (by have := hc.2.1; have := hc.2.2; (first | lia | omega)) q
theorem op_fdivB : OpR X (binaryOp .FloorDiv) (rI CDivB fun i j => .int (i / j)) := opI fun i j _ _ _ _ _ hc q => by
  have h1 : (0 : Int) < j := hc.1
  exact floordiv_int (by (first | lia | omega)) (by rw [Int.fdiv_eq_ediv_of_nonneg i (by (first | lia | omega))]; exact q) (.inl (PyProof.noPylong_of_log2 hc.2))
theorem op_mulB : OpR X (binaryOp .Mult) (rI CMulB fun i j => .int (i * j)) := opI fun _ _ _ _ _ _ _ hc q => mul_int q hc.ok
theorem mt_bitlen : MtR X "int.bit_length" (fun x xs H Q => ∃ i, x = .int i ∧ xs = [] ∧ Q (.int (Builtin.Int.intBits i)) H) := by
  intro pins s σ H x xs v us Q I rx rs h
  obtain ⟨i, rfl, rfl, q⟩ := h
  obtain ⟨t, rfl⟩ := rx
  rw [Vals.zero rs]
  exact call_int_bit_length ⟨.int _, H, I.tok _, ⟨_, rfl⟩, q⟩
/-! ### globals, defs, classes, methods that are known by their promises -/
structure Kn (P : Program) (w : World) (K : PySem.W.Frag) (mg : Str → Option Value) (base : Heap) (x : Str) (k : Nat) (ps : List Str) (sp : Sp) : Prop where
  ex : ∃ (f : Addr) (fd : FuncData), mg x = some (.ref f) ∧ PySem.W.keepIn K (.ref f) = true ∧ Binds K fd ps [] ∧ FnOk P w K mg base CX0 k f fd ps sp
structure KnC (P : Program) (w : World) (K : PySem.W.Frag) (mg : Str → Option Value) (base : Heap) (x : Str) (C : Addr) (k : Nat) (ps : List Str) (sp : Sp) : Prop where
  mgC : mg x = some (.ref C)
  ex : ∃ (f : Addr) (fd : FuncData), Mk K C f ∧ Binds K fd ps [] ∧ FnOk P w K mg base CX0 k f fd ps sp
structure KnM (P : Program) (w : World) (K : PySem.W.Frag) (mg : Str → Option Value) (base : Heap) (C : Addr) (m : Str) (k : Nat) (ps : List Str) (sp : Sp) : Prop where
  cl : Cls K C
  ex : ∃ (f : Addr) (fd : FuncData), Meth K C m f ∧ Binds K fd ps [] ∧ FnOk P w K mg base CX0 k f fd ps sp
noncomputable def GlobV (mg : Str → Option Value) (x : Str) (v : V) : Prop := ∃ u, mg x = some u ∧ RelV v u
variable {x : Str} {v : V} {p pos apos : Pos} {e o : Expr} {es : List Expr} {t : TA} {ta : TE} {k : Nat} {ps : List Str} {sp : Sp} {C : Addr} {m : Str}
theorem pe_globN (h : GlobV X.mg x v) (hg : Gl X x) (hd : (x == ("__debug__" : Str)) = false := by decide) : PE X (.Name x pos) (tC v) := by
  obtain ⟨u, h1, h2⟩ := h
  exact pe_glob hg h1 h2 hd
theorem pe_callN (h : Kn X.prog X.w X.K X.mg X.base x k ps sp) (hr : Room k X.A) (hg : Gl X x) (ha : PA X (e :: es) t) (hdb : (x == ("__debug__" : Str)) = false := by decide)
    (he : starEach (e :: es) X.env = (false, eval e X.env) :: starEach es X.env := by rfl) (hpl : (backTo pos (starEach es X.env)).any (·.1) = false := by rfl) :
    PE X (.Call (.Name x p) (e :: es) [] pos) (tCall sp [] E0 t) := by
  obtain ⟨f, fd, h1, h2, h3, h4⟩ := h.ex
  exact pe_call h4 hr hg h1 h2 h3 .nil pass0 ha hdb he hpl
theorem pe_callN0 (h : Kn X.prog X.w X.K X.mg X.base x k ps sp) (hr : Room k X.A) (hg : Gl X x) (hdb : (x == ("__debug__" : Str)) = false := by decide) :
    PE X (.Call (.Name x p) [] [] pos) (tCall sp [] E0 tNil) := by
  obtain ⟨f, fd, h1, h2, h3, h4⟩ := h.ex
  exact pe_call0 h4 hr hg h1 h2 h3 .nil pass0 hdb
theorem pe_makeN (h : KnC X.prog X.w X.K X.mg X.base x C k ps sp) (hr : Room (k + 1) X.A) (hg : Gl X x) (ha : PA X (e :: es) t) (hdb : (x == ("__debug__" : Str)) = false := by decide)
    (he : starEach (e :: es) X.env = (false, eval e X.env) :: starEach es X.env := by rfl) (hpl : (backTo pos (starEach es X.env)).any (·.1) = false := by rfl) :
    PE X (.Call (.Name x p) (e :: es) [] pos) (tMake C sp [] E0 t) := by
  obtain ⟨f, fd, h1, h2, h3⟩ := h.ex
  exact pe_make h1 h3 hr hg h.mgC h2 .nil pass0 ha hdb he hpl
theorem pe_makeN0 (h : KnC X.prog X.w X.K X.mg X.base x C k ps sp) (hr : Room (k + 1) X.A) (hg : Gl X x) (hdb : (x == ("__debug__" : Str)) = false := by decide) :
    PE X (.Call (.Name x p) [] [] pos) (tMake C sp [] E0 tNil) := by
  obtain ⟨f, fd, h1, h2, h3⟩ := h.ex
  exact pe_make0 h1 h3 hr hg h.mgC h2 .nil pass0 hdb
end
/-! ### readings that compute: by the values' shapes, with no existential where none is wanted -/
section
variable {X : Cx}
theorem OpR.imp {f : Value → Value → Sem Value} {r r' : R2} (h : OpR X f r) (hi : ∀ x y H Q, r' x y H Q → r x y H Q) : OpR X f r' := fun pins s σ H x y v u Q I rx ry q => h pins s σ H x y v u Q I rx ry (hi _ _ _ _ q)
theorem UnR.imp {f : Value → Sem Value} {r r' : V → Hp → VK → Prop} (h : UnR X f r) (hi : ∀ x H Q, r' x H Q → r x H Q) : UnR X f r' := fun pins s σ H x v Q I rx q => h pins s σ H x v Q I rx (hi _ _ _ q)
theorem CallR.imp {f : Value} {r r' : List V → Hp → VK → Prop} (h : CallR X f r) (hi : ∀ x H Q, r' x H Q → r x H Q) : CallR X f r' := fun pins s σ H x v Q I rx q => h pins s σ H x v Q I rx (hi _ _ _ q)
theorem PE.imp {e : Expr} {t t' : TE} (h : PE X e t) (hi : ∀ σ H Q, t' σ H Q → t σ H Q) : PE X e t' := fun pins s σ H Q I q => h pins s σ H Q I (hi _ _ _ q)
theorem d_map1 {α β : Type} (f : α → β) (a : α) (l : List α) : List.map f (a :: l) = f a :: List.map f l := rfl
theorem d_map0 {α β : Type} (f : α → β) : List.map f [] = [] := rfl
theorem d_app1 {α : Type} (a : α) (l r : List α) : a :: l ++ r = a :: (l ++ r) := rfl
theorem d_app0 {α : Type} (r : List α) : [] ++ r = r := rfl
theorem d_set0 {α : Type} (a b : α) (l : List α) : (a :: l).set 0 b = b :: l := rfl
theorem d_set1 {α : Type} (a b : α) (l : List α) (n : Nat) : (a :: l).set (n + 1) b = a :: l.set n b := rfl
theorem d_get0 {α : Type} (a : α) (l : List α) : (a :: l)[0]? = some a := rfl
theorem d_get1 {α : Type} (a : α) (l : List α) (n : Nat) : (a :: l)[n + 1]? = l[n]? := rfl
theorem d_len1 {α : Type} (a : α) (l : List α) : (a :: l).length = l.length + 1 := rfl
theorem d_len0 {α : Type} : ([] : List α).length = 0 := rfl
theorem d_rep0 {α : Type} (a : α) : List.replicate 0 a = [] := rfl
theorem d_rep1 {α : Type} (a : α) (n : Nat) : List.replicate (n + 1) a = a :: List.replicate n a := rfl
theorem d_nt : (!true) = false := rfl
theorem d_nf : (!false) = true := rfl
theorem mtt (A B : Prop) : (if true = true then A else B) = A := rfl
theorem mff (A B : Prop) : (if false = true then A else B) = B := rfl
/-- two ints -/
noncomputable def mI (C : Int → Int → Prop) (g : Int → Int → V) : R2 := fun x y H Q => match x with
  | .int i => (match y with
    | .int j => C i j ∧ Q (g i j) H
    | _ => False)
  | _ => False
noncomputable def mI0 (g : Int → Int → V) : R2 := fun x y H Q => match x with
  | .int i => (match y with
    | .int j => Q (g i j) H
    | _ => False)
  | _ => False
noncomputable def mU (g : Int → V) : V → Hp → VK → Prop := fun x H Q => match x with
  | .int i => Q (g i) H
  | _ => False
theorem two_ints {P : V → V → Prop} {F : Int → Int → Prop} (h : ∀ i j, F i j → P (.int i) (.int j)) : ∀ x y : V, (match x with | .int i => (match y with | .int j => F i j | _ => False) | _ => False) → P x y := by
  intro x y q
  cases x with
  | int i =>
    cases y with
    | int j => exact h _ _ q
    | _ => exact q.elim
  | _ => exact q.elim
theorem mI_imp {C : Int → Int → Prop} {g : Int → Int → V} (x y : V) (H : Hp) (Q : VK) (h : mI C g x y H Q) : rI C g x y H Q := two_ints (P := fun x y => rI C g x y H Q) (F := fun i j => C i j ∧ Q (g i j) H) (fun i j q => ⟨i, j, rfl, rfl, q⟩) x y h
theorem mI0_imp {g : Int → Int → V} (x y : V) (H : Hp) (Q : VK) (h : mI0 g x y H Q) : rI0 g x y H Q := two_ints (P := fun x y => rI0 g x y H Q) (F := fun i j => Q (g i j) H) (fun i j q => ⟨i, j, rfl, rfl, q⟩) x y h
theorem mU_imp {g : Int → V} (x : V) (H : Hp) (Q : VK) (h : mU g x H Q) : rU g x H Q := by
  cases x with
  | int i => exact ⟨i, rfl, h⟩
  | _ => exact h.elim
theorem m_add : OpR X (binaryOp .Add) (mI0 fun i j => .int (i + j)) := op_add.imp mI0_imp
theorem m_sub : OpR X (binaryOp .Sub) (mI0 fun i j => .int (i - j)) := op_sub.imp mI0_imp
theorem m_mul : OpR X (binaryOp .Mult) (mI CMulB fun i j => .int (i * j)) := op_mulB.imp mI_imp
theorem m_fdiv : OpR X (binaryOp .FloorDiv) (mI CDivB fun i j => .int (i / j)) := op_fdivB.imp mI_imp
theorem m_mod : OpR X (binaryOp .Mod) (mI (fun _ j => 0 < j) fun i j => .int (i % j)) := op_mod.imp mI_imp
theorem m_shl : OpR X (binaryOp .LShift) (mI CShl fun i j => .int (i * 2 ^ j.toNat)) := op_shlB.imp mI_imp
theorem m_shr : OpR X (binaryOp .RShift) (mI (fun _ j => 0 ≤ j) fun i j => .int (i / 2 ^ j.toNat)) := op_shr.imp mI_imp
theorem m_and : OpR X (binaryOp .BitAnd) (mI0 fun i j => .int (Builtin.bitAnd i j)) := op_and.imp mI0_imp
theorem m_xor : OpR X (binaryOp .BitXor) (mI0 fun i j => .int (Builtin.bitXor i j)) := op_xor.imp mI0_imp
theorem m_neg : UnR X (unaryOp .USub) (mU fun i => .int (-i)) := un_neg.imp mU_imp
theorem m_le : OpR X (compareOp .LtE) (mI0 fun i j => .bl (decide (i ≤ j))) := op_le.imp mI0_imp
theorem m_lt : OpR X (compareOp .Lt) (mI0 fun i j => .bl (decide (i < j))) := op_lt.imp mI0_imp
theorem m_eq : OpR X (compareOp .Eq) (mI0 fun i j => .bl (decide (i = j))) := op_eq.imp fun x y H Q h => two_ints (P := fun x y => rEq x y H Q) (F := fun i j => Q (.bl (decide (i = j))) H) (fun i j q => ⟨rfl, by
  have e : decide (V.int i = V.int j) = decide (i = j) := by
    rw [decide_eq_decide]
    exact ⟨V.int.inj, congrArg V.int⟩
  rw [e]
  exact q⟩) x y h
/-- a comparison as a test -/
noncomputable def CtR (X : Cx) (op : CmpOp) (rt : V → V → Hp → (Bool → Hp → Prop) → Prop) : Prop := ∃ r, OpR X (compareOp op) r ∧ ∀ x y H Q, rt x y H Q → r x y H fun z H' => ∃ k, z = .bl k ∧ Q k H'
noncomputable def mCT (r : V → V → Hp → (Bool → Hp → Prop) → Prop) (ta tb : TE) : TT := fun σ H Q => ta σ H fun x H1 => tb σ H1 fun y H2 => r x y H2 Q
theorem pt_cmpM {a b : Expr} {ta tb : TE} {pos : Pos} {op : CmpOp} {r : V → V → Hp → (Bool → Hp → Prop) → Prop} (hc : CtR X op r) (ha : PE X a ta) (hb : PE X b tb) (hm : behindInMarks op b = false) : PT X (.Compare a [op] [b] pos) (mCT r ta tb) := by
  obtain ⟨r', ho, hi⟩ := hc
  intro pins s σ H Q I h
  refine wpAny_isTrue_Compare1 (thn (ha pins s σ H _ I h) fun v s1 ⟨x, H1, I1, r1, q1⟩ => thn (hb pins s1 σ H1 _ I1 q1) fun u s2 ⟨y, H2, I2, r2, q2⟩ =>
    thn (ho pins s2 σ H2 x y v u _ I2 r1 r2 (hi _ _ _ _ q2)) fun c s3 ⟨z, H3, I3, r3, k, e, q3⟩ => ?_) hm
  subst e
  cases r3
  exact wpAny_truthy_bool ⟨H3, I3, q3⟩
noncomputable def mC (p : Int → Int → Prop) [∀ i j, Decidable (p i j)] : V → V → Hp → (Bool → Hp → Prop) → Prop := fun x y H Q => match x with
  | .int i => (match y with
    | .int j => if p i j then Q true H else Q false H
    | _ => False)
  | _ => False
theorem of_ite {p : Prop} [Decidable p] {A : Bool → Prop} (h : if p then A true else A false) : A (decide p) := by
  by_cases q : p
  · rw [if_pos q] at h
    rw [decide_eq_true q]
    exact h
  · rw [if_neg q] at h
    rw [decide_eq_false q]
    exact h
theorem mC_imp {p : Int → Int → Prop} [∀ i j, Decidable (p i j)] (x y : V) (H : Hp) (Q : Bool → Hp → Prop) (h : mC p x y H Q) : rI0 (fun i j => .bl (decide (p i j))) x y H fun z H' => ∃ k, z = .bl k ∧ Q k H' :=
  two_ints (P := fun x y => rI0 (fun i j => .bl (decide (p i j))) x y H fun z H' => ∃ k, z = .bl k ∧ Q k H') (F := fun i j => if p i j then Q true H else Q false H) (fun i j q => ⟨i, j, rfl, rfl, _, rfl, of_ite (A := fun b => Q b H) q⟩) x y h
theorem c_lt : CtR X .Lt (mC fun i j => i < j) := ⟨_, op_lt, mC_imp⟩
theorem c_le : CtR X .LtE (mC fun i j => i ≤ j) := ⟨_, op_le, mC_imp⟩
theorem c_gt : CtR X .Gt (mC fun i j => j < i) := ⟨_, op_gt, mC_imp (p := fun i j => j < i)⟩
theorem c_ge : CtR X .GtE (mC fun i j => j ≤ i) := ⟨_, op_ge, mC_imp (p := fun i j => j ≤ i)⟩
theorem c_eq : CtR X .Eq (mC fun i j => i = j) := ⟨_, op_eq, fun x y H Q h => two_ints (P := fun x y => rEq x y H fun z H' => ∃ k, z = .bl k ∧ Q k H') (F := fun i j => if i = j then Q true H else Q false H) (fun i j q => ⟨rfl, _, rfl, by
  have e : decide (V.int i = V.int j) = decide (i = j) := by
    rw [decide_eq_decide]
    exact ⟨V.int.inj, congrArg V.int⟩
  rw [e]
  exact of_ite (A := fun b => Q b H) q⟩) x y h⟩
noncomputable def mIsN : V → V → Hp → (Bool → Hp → Prop) → Prop := fun x y H Q => match y with
  | .non => (match x with
    | .non => Q true H
    | .ref _ => Q false H
    | _ => False)
  | _ => False
noncomputable def mNotN : V → V → Hp → (Bool → Hp → Prop) → Prop := fun x y H Q => match y with
  | .non => (match x with
    | .non => Q false H
    | .ref _ => Q true H
    | _ => False)
  | _ => False
theorem c_isN : CtR X .Is mIsN := ⟨_, op_isN, fun x y H Q h => by
  cases y with
  | non =>
    cases x with
    | non => exact ⟨rfl, _, rfl, h⟩
    | ref a => exact ⟨rfl, _, rfl, h⟩
    | _ => exact h.elim
  | _ => exact h.elim⟩
theorem c_notN : CtR X .IsNot mNotN := ⟨_, op_notN, fun x y H Q h => by
  cases y with
  | non =>
    cases x with
    | non => exact ⟨rfl, _, rfl, h⟩
    | ref a => exact ⟨rfl, _, rfl, h⟩
    | _ => exact h.elim
  | _ => exact h.elim⟩
/-- in, not in -/
noncomputable def mNotIn (K : PySem.W.Frag) : V → V → Hp → (Bool → Hp → Prop) → Prop := fun x y H Q => match y with
  | .ref p => ∃ xs, ((SqL K H p xs ∨ SqT K H p xs) ∧ flatV x = true ∧ xs.all flatV = true) ∧ Q (!inV x xs) H
  | _ => False
theorem c_notIn : CtR X .NotIn (mNotIn X.K) := ⟨_, op_notIn_seq, fun x y H Q h => by
  cases y with
  | ref p =>
    obtain ⟨xs, ⟨h1, h2, h3⟩, q⟩ := h
    exact ⟨_, xs, rfl, h1, h2, h3, _, rfl, q⟩
  | _ => exact h.elim⟩
/-- a local name -/
noncomputable def mVar (i : Nat) : TE := fun σ H Q => match σ[i]? with
  | some (some v) => Q v H
  | _ => False
theorem mv (i : Nat) {x : Str} {pos : Pos} (hN : X.N[i]? = some x := by rfl) (hv : Vis X.env.scope x := by first | exact Or.inl rfl | exact Or.inr (Or.inl rfl) | exact Or.inr (Or.inr rfl)) (hd : (x == ("__debug__" : Str)) = false := by decide)
    (hcd : (x == ("__classdict__" : Str)) = false := by decide) : PE X (.Name x pos) (mVar i) := (pv i hN hv hd hcd).imp fun σ H Q h => by
  unfold mVar at h
  cases e : σ[i]? with
  | none =>
    rw [e] at h
    exact h.elim
  | some o =>
    rw [e] at h
    cases o with
    | none => exact h.elim
    | some v => exact ⟨v, e, h⟩
/-- a field of an object -/
noncomputable def FldAt (K : PySem.W.Frag) (H : Hp) (a : Addr) (f : Str) (v : V) : Prop := ∃ C dx fs, H a = some (.ins C dx fs) ∧ Cls K C ∧ NoAttr K C f ∧ fs.lookup f = some v
noncomputable def mFld (K : PySem.W.Frag) (ta : TE) (f : Str) : TE := fun σ H Q => ta σ H fun x H1 => match x with
  | .ref a => ∃ v, FldAt K H1 a f v ∧ Q v H1
  | _ => False
theorem me_fld {e : Expr} {f : Str} {pos : Pos} {ta : TE} (he : PE X e ta) (hb : attributeBase e f X.env (eval e X.env) = eval e X.env) : PE X (.Attribute e f pos) (mFld X.K ta f) := by
  intro pins s σ H Q I h
  refine attr_of hb (thn (he pins s σ H _ I h) fun u s1 ⟨x, H1, I1, rx, q⟩ => ?_)
  cases x with
  | ref a =>
    obtain ⟨v, ⟨C, dx, fs, ea, c, n, l⟩, q⟩ := q
    obtain rfl : u = Value.ref _ := rx
    exact getattr_ok I1 ea c n l fun u' s2 I2 ru => ⟨v, H1, I2, ru, q⟩
  | _ => exact False.elim q
noncomputable def mFldI (K : PySem.W.Frag) (ta : TE) (f : Str) : TE := fun σ H Q => ta σ H fun x H1 => match x with
  | .ref a => ∃ i : Int, FldAt K H1 a f (.int i) ∧ Q (.int i) H1
  | _ => False
theorem me_fldI {e : Expr} {f : Str} {pos : Pos} {ta : TE} (he : PE X e ta) (hb : attributeBase e f X.env (eval e X.env) = eval e X.env) : PE X (.Attribute e f pos) (mFldI X.K ta f) := by
  intro pins s σ H Q I h
  refine attr_of hb (thn (he pins s σ H _ I h) fun u s1 ⟨x, H1, I1, rx, q⟩ => ?_)
  cases x with
  | ref a =>
    obtain ⟨v, ⟨C, dx, fs, ea, c, n, l⟩, q⟩ := q
    obtain rfl : u = Value.ref _ := rx
    exact getattr_ok I1 ea c n l fun u' s2 I2 ru => ⟨.int v, H1, I2, ru, q⟩
  | _ => exact False.elim q
/-- one item -/
noncomputable def mIxI (K : PySem.W.Frag) : R2 := fun x y H Q => match x with
  | .ref p => match y with
    | .int i => ∃ v : Int, (∃ xs, SqL K H p xs ∧ atI xs i = some (.int v)) ∧ Q (.int v) H
    | _ => False
  | _ => False
theorem m_ixI : IxR X (mIxI X.K) := fun a b pins s σ H x y v u Q I rx ry q hs => ix_list a b pins s σ H x y v u Q I rx ry (by
  cases x with
  | ref p =>
    cases y with
    | int i =>
     obtain ⟨v, ⟨xs, h1, h2⟩, q⟩ := q
     exact ⟨_, xs, _, .int v, rfl, rfl, h1, h2, q⟩
    | _ => exact q.elim
  | _ => exact q.elim) hs
noncomputable def mIxL (K : PySem.W.Frag) : R2 := fun x y H Q => match x with
  | .ref p => match y with
    | .int i => ∃ v, (∃ xs, SqL K H p xs ∧ atI xs i = some v) ∧ Q v H
    | _ => False
  | _ => False
noncomputable def mIxT (K : PySem.W.Frag) : R2 := fun x y H Q => match x with
  | .ref p => match y with
    | .int i => ∃ v, (∃ xs, SqT K H p xs ∧ atI xs i = some v) ∧ Q v H
    | _ => False
  | _ => False
theorem m_ixL : IxR X (mIxL X.K) := fun a b pins s σ H x y v u Q I rx ry q hs => ix_list a b pins s σ H x y v u Q I rx ry (by
  cases x with
  | ref p =>
    cases y with
    | int i =>
     obtain ⟨v, ⟨xs, h1, h2⟩, q⟩ := q
     exact ⟨_, xs, _, v, rfl, rfl, h1, h2, q⟩
    | _ => exact q.elim
  | _ => exact q.elim) hs
theorem m_ixT : IxR X (mIxT X.K) := fun a b pins s σ H x y v u Q I rx ry q hs => ix_tup a b pins s σ H x y v u Q I rx ry (by
  cases x with
  | ref p =>
    cases y with
    | int i =>
     obtain ⟨v, ⟨xs, h1, h2⟩, q⟩ := q
     exact ⟨_, xs, _, v, rfl, rfl, h1, h2, q⟩
    | _ => exact q.elim
  | _ => exact q.elim) hs
/-- builtins of ints -/
noncomputable def mMin : List V → Hp → VK → Prop := fun xs H Q => match xs with
  | [x, y] => mI0 (fun i j => .int (min i j)) x y H Q
  | _ => False
noncomputable def mMax : List V → Hp → VK → Prop := fun xs H Q => match xs with
  | [x, y] => mI0 (fun i j => .int (max i j)) x y H Q
  | _ => False
noncomputable def mAbs : List V → Hp → VK → Prop := fun xs H Q => match xs with
  | [x] => mU (fun i => .int (i.natAbs : Int)) x H Q
  | _ => False
theorem m_min (hc : X.calm = true) : CallR X (.builtin "min") mMin := (call_min2 hc).imp fun xs H Q h => match xs, h with
  | [x, y], h => by
    obtain ⟨i, j, rfl, rfl, q⟩ := mI0_imp x y H Q h
    refine ⟨i, j, rfl, ?_⟩
    rw [show (if j < i then j else i) = min i j by split <;> (first | lia | omega)]
    exact q
  | [], h => False.elim h
  | [_], h => False.elim h
  | _ :: _ :: _ :: _, h => False.elim h
theorem m_max (hc : X.calm = true) : CallR X (.builtin "max") mMax := (call_max2 hc).imp fun xs H Q h => match xs, h with
  | [x, y], h => by
    obtain ⟨i, j, rfl, rfl, q⟩ := mI0_imp x y H Q h
    refine ⟨i, j, rfl, ?_⟩
    rw [show (if j > i then j else i) = max i j by split <;> (first | lia | omega)]
    exact q
  | [], h => False.elim h
  | [_], h => False.elim h
  | _ :: _ :: _ :: _, h => False.elim h
theorem m_abs : CallR X (.builtin "abs") mAbs := call_abs.imp fun xs H Q h => match xs, h with
  | [x], h => by
    obtain ⟨i, rfl, q⟩ := mU_imp x H Q h
    refine ⟨i, rfl, ?_⟩
    rw [show (if i < 0 then -i else i) = (i.natAbs : Int) by split <;> (first | lia | omega)]
    exact q
  | [], h => False.elim h
  | _ :: _ :: _, h => False.elim h
noncomputable def mLen (K : PySem.W.Frag) : List V → Hp → VK → Prop := fun xs H Q => match xs with
  | [x] => (match x with
    | .ref p => ∃ ys, (SqL K H p ys ∨ SqT K H p ys) ∧ Q (.int ys.length) H
    | _ => False)
  | _ => False
theorem m_len : CallR X (.builtin "len") (mLen X.K) := call_len_seq.imp fun xs H Q h => match xs, h with
  | [x], h => by
    cases x with
    | ref p =>
      obtain ⟨ys, h1, q⟩ := h
      exact ⟨_, ys, rfl, h1, q⟩
    | _ => exact False.elim h
  | [], h => False.elim h
  | _ :: _ :: _, h => False.elim h
/-- bit_length -/
noncomputable def mBL (ta : TE) : TE := fun σ H Q => ta σ H fun x H1 => match x with
  | .int i => Q (.int (Builtin.Int.intBits i)) H1
  | _ => False
/-- a method of an own class -/
noncomputable def mMeth (C : Addr) (m : Str) (sp : Sp) (ta : TE) (t : TA) : TE := fun σ H Q => ta σ H fun x H1 => match x with
  | .ref a => (∃ dx fs, H1 a = some (.ins C dx fs) ∧ fs.lookup m = none) ∧ t σ H1 fun vs H2 => sp (.ref a :: vs) H2 Q E0
  | _ => False
/-- a part of a slice -/
noncomputable def mPart (t : TE) : TO := fun σ H Q => t σ H fun x H1 => match x with
  | .int i => Q (some i) H1
  | _ => False
theorem mpo_some {e : Expr} {te : TE} (h : PE X e te) : PO X (some e) (mPart te) := by
  intro pins s σ H Q I hw
  rw [evalPart_some]
  refine thn (h pins s σ H _ I hw) fun u s1 ⟨x, H1, I1, r1, q1⟩ => ?_
  cases x with
  | int i =>
    obtain ⟨t, rfl⟩ := r1
    exact ⟨some _, H1, I1, .int _ t, q1⟩
  | _ => exact False.elim q1
noncomputable def mSlL (K : PySem.W.Frag) : V → Option Int → Option Int → Hp → VK → Prop := fun x lo hi H Q => match x with
  | .ref a => ∃ xs, SqL K H a xs ∧ ∀ p, H p = none → Q (.ref p) (upd H p (.lst (cutV xs lo hi)))
  | _ => False
theorem m_slL : SlR X (mSlL X.K) := fun pins s σ H x v vl vu lo hi sl Q I rx hs pl pu q => sl_list pins s σ H x v vl vu lo hi sl Q I rx hs pl pu (by
  cases x with
  | ref a =>
    obtain ⟨xs, h1, q⟩ := q
    exact ⟨_, xs, rfl, h1, q⟩
  | _ => exact False.elim q)
theorem me_bitlen {o : Expr} {to : TE} {apos cpos : Pos} (ho : PE X o to)
    (hbase : attributeBase o "bit_length" X.env (eval o X.env) = eval o X.env := by rfl) (hline : (apos.endLine == cpos.line) = true := by rfl) : PE X (.Call (.Attribute o "bit_length" apos) [] [] cpos) (mBL to) := by
  intro pins s σ H Q I h
  refine wpAny_Call_method0_late hbase hline (thn (ho pins s σ H _ I h) fun v s1 ⟨x, H1, I1, r1, q1⟩ => ?_)
  cases x with
  | int i =>
    obtain ⟨h1, h2⟩ := tyV_is (T := "int") I1 r1 rfl
    exact ⟨"int", "int.bit_length", PySem.F.plainAttrs_int, PySem.F.slot_int_bit_length, PySem.F.type_int_bit_length, h1, h2, Calls.callWith_builtin rfl (PySem.evalArgs_none (mt_bitlen pins s1 σ H1 _ [] v [] Q I1 r1 .nil ⟨i, rfl, rfl, q1⟩))⟩
  | _ => exact False.elim q1
/-- a value as a test -/
noncomputable def mB (t : TE) : TT := fun σ H Q => t σ H fun x H1 => match x with
  | .bl c => Q c H1
  | _ => False
theorem mt_val {e : Expr} {t : TE} (h : PE X e t) (he : ∀ whole, isTrue e X.env whole = (do let v ← whole; standAt e.pos; holding [v] (truthy v)) := by intro _; rfl) : PT X e (mB t) := by
  intro pins s σ H Q I hw
  refine isTrue_plain (thn (h pins s σ H _ I hw) fun v s1 ⟨x, H1, I1, r1, q1⟩ => ?_) (he _)
  cases x with
  | bl c =>
    cases r1
    exact wpAny_truthy_bool ⟨H1, I1, q1⟩
  | _ => exact False.elim q1
/-- a call of a function that a local name holds -/
noncomputable def mCallV (X : Cx) (tn : TE) (t : TA) : TE := fun σ H Q => tn σ H fun v H1 => ∃ sp : Sp, (∃ (f : Addr) (fd : FuncData) (ps : List Str) (k : Nat), v = .ref f ∧ FnOk X.prog X.w X.K X.mg X.base CX0 k f fd ps sp ∧ Room k X.A ∧ PySem.W.keepIn X.K (.ref f) = true ∧ Binds X.K fd ps []) ∧ t σ H1 fun vs H2 => sp vs H2 Q E0
theorem me_callv {x : Str} {p pos : Pos} {e : Expr} {es : List Expr} {tn : TE} {t : TA} (hn : PE X (.Name x p) tn) (ha : PA X (e :: es) t)
    (he : starEach (e :: es) X.env = (false, eval e X.env) :: starEach es X.env := by rfl) (hpl : (backTo pos (starEach es X.env)).any (·.1) = false := by rfl) :
    PE X (.Call (.Name x p) (e :: es) [] pos) (mCallV X tn t) := by
  intro pins s σ H Q I h
  refine wpAny_Call_Name_kw (thn (hn pins s σ H _ I h) fun u s1 ⟨v, H1, I1, rv, sp, ⟨f, fd, ps, k, ev, F, hr, hk, hb⟩, q⟩ => ?_)
  subst ev
  obtain rfl : u = Value.ref f := rv
  refine PySem.W.callWith_K (h₀ := X.base) I.ok.mod.kin hk (thn (ha pos pins s1 σ H1 _ I1 q) fun us s2 ⟨vs, H2, I2, r, q2⟩ => ⟨I2.kIn, ?_⟩) he hpl
  exact run_fn (dvs := []) (ds := []) F hr hb .nil pass0 I2 r (by rw [List.append_nil]; exact q2)
theorem me_methN {pos apos : Pos} {o e : Expr} {es : List Expr} {ta : TE} {t : TA} {C : Addr} {m : Str} {k : Nat} {ps : List Str} {sp : Sp} {pl : Sem Bool} (h : KnM X.prog X.w X.K X.mg X.base C m k ps sp) (hr : Room k X.A) (ho : PE X o ta) (ha : PA X (e :: es) t)
    (hst : starEach (e :: es) X.env = (false, eval e X.env) :: starEach es X.env := by rfl) (hpl : (backTo pos (starEach es X.env)).any (·.1) = false := by rfl)
    (ht : eval (.Call (.Attribute o m apos) (e :: es) [] pos) X.env = (do
      let ov ← eval o X.env
      standAt apos.atName
      let (f, first) ← holding [ov] (getMethod ov m pl)
      callWith pos f first (backTo pos (starEach (e :: es) X.env)) (backToKw pos (keywordEach [] X.env))) := by rfl) :
    PE X (.Call (.Attribute o m apos) (e :: es) [] pos) (mMeth C m sp ta t) := by
  obtain ⟨f, fd, hm, hb, F⟩ := h.ex
  intro pins s σ H Q I hq
  refine PySem.W.methodCall_KW (pl := pl) (thn (ho pins s σ H _ I hq) fun u s1 ⟨x, H1, I1, rx, q⟩ => ?_) ht
  cases x with
  | ref a =>
    obtain ⟨⟨dx, fs, ea, l⟩, q⟩ := q
    obtain rfl : u = Value.ref _ := rx
    refine getmeth_ok I1 ea h.cl hm l ?_
    refine PySem.W.callWith_K (first := [.ref _]) (h₀ := X.base) I.ok.mod.kin hm.kp (thn (ha pos pins s1 σ H1 _ I1 q) fun us s2 ⟨vs, H2, I2, r, q2⟩ => ⟨I2.kIn, ?_⟩) hst hpl
    exact run_fn (us := .ref _ :: us) (vs := .ref _ :: vs) F hr hb .nil pass0 I2 (.cons rfl r) (by rw [List.append_nil]; exact q2)
  | _ => exact False.elim q
end
theorem mVar_mono {i : Nat} {σ : St} {H : Hp} {Q1 Q2 : VK} (hq : ∀ v H, Q1 v H → Q2 v H) (q : mVar i σ H Q1) : mVar i σ H Q2 := by
  unfold mVar at q ⊢
  cases e : σ[i]? with
  | none =>
    rw [e] at q
    exact q.elim
  | some o =>
    rw [e] at q
    cases o with
    | none => exact q.elim
    | some v => exact hq _ _ q
theorem mC_mono {p : Int → Int → Prop} [∀ i j, Decidable (p i j)] {x y : V} {H : Hp} {Q1 Q2 : Bool → Hp → Prop} (hq : ∀ b H, Q1 b H → Q2 b H) (q : mC p x y H Q1) : mC p x y H Q2 := by
  cases x with
  | int i =>
    cases y with
    | int j =>
      have q' : if p i j then Q1 true H else Q1 false H := q
      show if p i j then Q2 true H else Q2 false H
      by_cases h : p i j
      · rw [if_pos h] at q' ⊢
        exact hq _ _ q'
      · rw [if_neg h] at q' ⊢
        exact hq _ _ q'
    | _ => exact False.elim q
  | _ => exact False.elim q
theorem mLen_mono {K : PySem.W.Frag} {xs : List V} {H : Hp} {Q1 Q2 : VK} (hq : ∀ v H, Q1 v H → Q2 v H) (q : mLen K xs H Q1) : mLen K xs H Q2 := match xs, q with
  | [x], q => by
    cases x with
    | ref p =>
      obtain ⟨ys, h, q⟩ := q
      exact ⟨ys, h, hq _ _ q⟩
    | _ => exact False.elim q
  | [], q => False.elim q
  | _ :: _ :: _, q => False.elim q
theorem by0 {P : List Value → Prop} (h : P []) (us : List Value) (hl : us.length = 0) : P us := by
  cases us with
  | nil => exact h
  | cons a r => exact absurd hl (Nat.succ_ne_zero _)
theorem by1 {P : List Value → Prop} (h : ∀ a, P [a]) (us : List Value) (hl : us.length = 1) : P us := by
  cases us with
  | nil => exact absurd hl.symm (Nat.succ_ne_zero _)
  | cons a r => exact by0 (P := fun r => P (a :: r)) (h a) r (Nat.succ.inj hl)
theorem by2 {P : List Value → Prop} (h : ∀ a b, P [a, b]) (us : List Value) (hl : us.length = 2) : P us := by
  cases us with
  | nil => exact absurd hl.symm (Nat.succ_ne_zero _)
  | cons a r => exact by1 (P := fun r => P (a :: r)) (h a) r (Nat.succ.inj hl)
theorem by3 {P : List Value → Prop} (h : ∀ a b c, P [a, b, c]) (us : List Value) (hl : us.length = 3) : P us := by
  cases us with
  | nil => exact absurd hl.symm (Nat.succ_ne_zero _)
  | cons a r => exact by2 (P := fun r => P (a :: r)) (h a) r (Nat.succ.inj hl)
/-- a def that stands in the text and is kept: its promise, ready to be called -/
theorem kn_of {P : Program} {w : World} {K : PySem.W.Frag} {mg : Str → Option Value} {base : Heap} {x qual : Str} {st : Stmt} {f : Addr} {fd : FuncData} {k : Nat} {ps : List Str} {sp : Sp} (F : Fun K x qual st f fd) (hm : mg x = some (.ref f)) (hb : Binds K fd ps [])
    (h : FnOk P w K mg base CX0 k f fd ps sp) : Kn P w K mg base x k ps sp := ⟨f, fd, hm, F.kp, hb, h⟩
end L2


namespace Tap
open Si06

/-! ### powers of two and the value of a fraction -/
noncomputable def p2 (s : Int) : Rat := (2 : Rat) ^ s
theorem p2_add (a b : Int) : p2 (a + b) = p2 a * p2 b := Rat.zpow_add (by decide) a b
theorem p2_pos (a : Int) : 0 < p2 a := Rat.zpow_pos (by decide)
theorem p2_nat (n : Nat) : p2 (n : Int) = ((2 ^ n : Nat) : Rat) := by
  unfold p2
  rw [Rat.zpow_natCast, Rat.natCast_pow]
  rfl
theorem p2_zero : p2 0 = 1 := Rat.zpow_zero 2
theorem p2_neg_mul (a : Int) : p2 (-a) * p2 a = 1 := by
  rw [← p2_add, Int.add_left_neg, p2_zero]
theorem p2_one : p2 1 = 2 := Rat.zpow_one 2
theorem p2_le {a b : Int} (h : a ≤ b) : p2 a ≤ p2 b := by
  obtain ⟨n, rfl⟩ := Int.le.dest h
  rw [p2_add, p2_nat]
  have h1 : (1 : Rat) ≤ ((2 ^ n : Nat) : Rat) := by
    have : ((1 : Nat) : Rat) ≤ ((2 ^ n : Nat) : Rat) := Rat.natCast_le_natCast.mpr Nat.one_le_two_pow
    exact this
  have := Rat.mul_le_mul_of_nonneg_left h1 (Rat.le_of_lt (p2_pos a))
  rwa [Rat.mul_one] at this
theorem p2_lt {a b : Int} (h : a < b) : p2 a < p2 b := by
  have h1 : p2 (a + 1) ≤ p2 b := p2_le h
  have h2 := p2_pos a
  rw [p2_add, p2_one] at h1
  grind

noncomputable def val (x : Q) : Rat := (x.n : Rat) / (x.d : Rat)

theorem val_scaled (n s : Int) : val (Q.scaled n s) = (n : Rat) * p2 s := by
  unfold Q.scaled val
  split
  · rename_i h
    obtain ⟨k, rfl⟩ := Int.eq_ofNat_of_zero_le h
    rw [p2_nat]
    simp only [Int.toNat_natCast, Rat.intCast_mul, Rat.intCast_pow]
    rw [Rat.natCast_pow]
    grind
  · rename_i h
    have e : s = -(((-s).toNat : Nat) : Int) := by (first | lia | omega)
    generalize (-s).toNat = k at *
    subst e
    have h1 := p2_neg_mul (k : Int)
    rw [p2_nat] at h1
    have h3 : (0 : Rat) < ((2 ^ k : Nat) : Rat) := Rat.natCast_pos.mpr (Nat.two_pow_pos k)
    show (n : Rat) / ((2 ^ k : Nat) : Rat) = _
    grind

theorem val_ofInt (z : Int) : val (Q.ofInt z) = z := by
  unfold val Q.ofInt
  grind
theorem val_add {x y : Q} (hx : 0 < x.d) (hy : 0 < y.d) : val (x.add y) = val x + val y := by
  unfold val Q.add
  have h1 : (0 : Rat) < (x.d : Rat) := Rat.natCast_pos.mpr hx
  have h2 : (0 : Rat) < (y.d : Rat) := Rat.natCast_pos.mpr hy
  simp only [Rat.intCast_add, Rat.intCast_mul, Rat.natCast_mul, Rat.intCast_natCast]
  grind
theorem val_mul {x y : Q} (hx : 0 < x.d) (hy : 0 < y.d) : val (x.mul y) = val x * val y := by
  unfold val Q.mul
  have h1 : (0 : Rat) < (x.d : Rat) := Rat.natCast_pos.mpr hx
  have h2 : (0 : Rat) < (y.d : Rat) := Rat.natCast_pos.mpr hy
  simp only [Rat.intCast_mul, Rat.natCast_mul]
  grind
theorem val_neg (x : Q) : val x.neg = -val x := by
  unfold val Q.neg
  simp only [Rat.intCast_neg]
  grind
theorem val_div {x y : Q} (hx : 0 < x.d) (hy : 0 < y.d) (h : y.n ≠ 0) : val (x.div y) = val x / val y := by
  unfold val Q.div
  have h1 : (0 : Rat) < (x.d : Rat) := Rat.natCast_pos.mpr hx
  have h2 : (0 : Rat) < (y.d : Rat) := Rat.natCast_pos.mpr hy
  have h3 : (y.n : Rat) ≠ 0 := by
    intro h'
    exact h (Rat.intCast_eq_zero_iff.mp h')
  have h4 : ((y.n.natAbs : Nat) : Rat) = if y.n < 0 then -(y.n : Rat) else (y.n : Rat) := by
    rw [← Rat.intCast_natCast]
    split
    · rw [← Rat.intCast_neg]
      congr 1
      (first | lia | omega)
    · congr 1
      (first | lia | omega)
  simp only [Rat.intCast_mul, Rat.natCast_mul, Rat.intCast_natCast, h4]
  split
  · rw [Rat.intCast_neg]
    grind
  · grind

noncomputable def cmp (a b : Rat) : Ordering := if a < b then .lt else if a = b then .eq else .gt
theorem cmp_int (a b : Int) : compare a b = cmp (a : Rat) (b : Rat) := by
  unfold cmp
  simp only [Rat.intCast_lt_intCast, Rat.intCast_inj]
  rcases Int.lt_trichotomy a b with h | h | h
  · rw [if_pos h]; exact Int.compare_eq_lt.mpr h
  · rw [if_neg (by (first | lia | omega)), if_pos h]; exact Int.compare_eq_eq.mpr h
  · rw [if_neg (by (first | lia | omega)), if_neg (by (first | lia | omega))]; exact Int.compare_eq_gt.mpr h
theorem cmp_scale {a b c : Rat} (h : 0 < c) : cmp (a * c) (b * c) = cmp a b := by
  unfold cmp
  have : (a * c = b * c) ↔ (a = b) := by
    constructor
    · intro h'
      have hc : c ≠ 0 := fun e => by rw [e] at h; exact Rat.lt_irrefl h
      grind
    · intro h'; rw [h']
  simp only [this, Rat.mul_lt_mul_right h]
theorem order_cmp {x y : Q} (hx : 0 < x.d) (hy : 0 < y.d) : x.order y = cmp (val x) (val y) := by
  unfold Q.order
  rw [cmp_int]
  have h1 : (0 : Rat) < (x.d : Rat) := Rat.natCast_pos.mpr hx
  have h2 : (0 : Rat) < (y.d : Rat) := Rat.natCast_pos.mpr hy
  have h3 : (0 : Rat) < (x.d : Rat) * (y.d : Rat) := Rat.mul_pos h1 h2
  rw [← cmp_scale (a := val x) (b := val y) h3]
  unfold val
  simp only [Rat.intCast_mul, Rat.intCast_natCast]
  congr 1 <;> grind
theorem scaled_pos (n s : Int) : 0 < (Q.scaled n s).d := by
  unfold Q.scaled
  split
  · exact Nat.one_pos
  · exact Nat.two_pow_pos _
end Tap


namespace Tap
open Si06

/-! ### what a pattern says, by its run -/
theorem tw_len (f : Nat → Bool) : ∀ (n s k : Nat), k ≤ n → (∀ i, i < k → f (s + i) = true) → (k < n → f (s + k) = false) →
    ((List.range' s n).takeWhile f).length = k
  | 0, s, k, h, _, _ => by
    have : k = 0 := by (first | lia | omega)
    subst this; rfl
  | n + 1, s, 0, _, _, h => by
    have h0 := h (by (first | lia | omega))
    rw [List.range'_succ, List.takeWhile_cons, if_neg (by rw [Nat.add_zero] at h0; rw [h0]; decide)]
    rfl
  | n + 1, s, k + 1, h, h1, h2 => by
    have h0 := h1 0 (by (first | lia | omega))
    rw [List.range'_succ, List.takeWhile_cons, if_pos (by rwa [Nat.add_zero] at h0), List.length_cons,
      tw_len f n (s + 1) k (by (first | lia | omega)) (fun i hi => by
        have := h1 (i + 1) (by (first | lia | omega))
        rwa [show s + 1 + i = s + (i + 1) by (first | lia | omega)]) (fun hk => by
        have := h2 (by (first | lia | omega))
        rwa [show s + 1 + k = s + (k + 1) by (first | lia | omega)])]

/-- what the run's value, the bits left and these bits come to -/
noncomputable def mk (r : Int) (left m : Nat) : Q :=
  let e : Nat := if 2 ≤ left then m / 2 ^ (left - 2) else if left = 1 then 2 * m else 0
  let F := left - 2
  let f := if 2 ≤ left then m % 2 ^ F else 0
  Q.scaled ((2 ^ F + f : Nat) : Int) (4 * r + e - F)

theorem above_run (w p k : Nat) (b : Nat) (hk : k ≤ w - 1) (hb : p / 2 ^ (w - 1 - 1 - 0) % 2 = b)
    (h1 : ∀ i, i < k → p / 2 ^ (w - 1 - 1 - i) % 2 = b) (h2 : k < w - 1 → p / 2 ^ (w - 1 - 1 - k) % 2 ≠ b) :
    above w p = mk (if b = 1 then (k : Int) - 1 else -(k : Int)) (w - 1 - k - 1) (p % 2 ^ (w - 1 - k - 1)) := by
  have hl : ((List.range (w - 1)).takeWhile fun i => p / 2 ^ (w - 1 - 1 - i) % 2 == p / 2 ^ (w - 1 - 1 - 0) % 2).length = k := by
    rw [List.range_eq_range']
    apply tw_len _ _ _ _ hk
    · intro i hi
      have := h1 i hi
      simp only [Nat.zero_add]
      rw [hb, this]
      exact beq_self_eq_true _
    · intro hi
      have := h2 hi
      simp only [Nat.zero_add]
      rw [hb]
      exact beq_false_of_ne this
  unfold above
  simp only [hl]
  rw [hb]
  rfl

theorem above_neg (w left p : Nat) (hp : 2 ^ left ≤ p) (hp2 : p < 2 ^ (left + 1)) (hw : left + 3 ≤ w) :
    above w p = mk (left + 2 - w) left (p - 2 ^ left) := by
  have hz : ∀ j, left < j → p / 2 ^ j % 2 = 0 := by
    intro j hj
    have : 2 ^ (left + 1) ≤ 2 ^ j := Nat.pow_le_pow_right (by (first | lia | omega)) hj
    rw [Nat.div_eq_of_lt (by (first | lia | omega))]
  have hm : p % 2 ^ left = p - 2 ^ left := by
    rw [Nat.mod_eq_sub_mod hp, Nat.mod_eq_of_lt]
    rw [Nat.pow_succ] at hp2
    (first | lia | omega)
  have h := above_run w p (w - 2 - left) 0 (by (first | lia | omega)) (hz _ (by (first | lia | omega))) (fun i hi => hz _ (by (first | lia | omega))) (fun _ => by
    have e : w - 1 - 1 - (w - 2 - left) = left := by (first | lia | omega)
    have : p / 2 ^ left = 1 := by
      rw [Nat.pow_succ] at hp2
      exact Nat.div_eq_of_lt_le (by (first | lia | omega)) (by (first | lia | omega))
    rw [e, this]
    decide)
  rw [h]
  have e : w - 1 - (w - 2 - left) - 1 = left := by (first | lia | omega)
  rw [e, hm]
  congr 1
  rw [if_neg (by decide)]
  (first | lia | omega)

theorem above_pos (w left p : Nat) (hp : 2 ^ (w - 1) ≤ p + 2 ^ (left + 1)) (hp2 : p + 2 ^ left < 2 ^ (w - 1)) (hw : left + 3 ≤ w) :
    above w p = mk (w - 3 - left) left (p + 2 ^ (left + 1) - 2 ^ (w - 1)) := by
  obtain ⟨k, rfl⟩ : ∃ k, w = left + 3 + k := ⟨w - (left + 3), by (first | lia | omega)⟩
  have el : left + 3 + k - 1 = left + 2 + k := by (first | lia | omega)
  rw [el] at hp hp2
  have hz : ∀ j, left < j → j < left + 2 + k → p / 2 ^ j % 2 = 1 := by
    intro j hj hj2
    obtain ⟨i, hi⟩ : ∃ i, left + 2 + k = i + 1 + j := ⟨left + 1 + k - j, by (first | lia | omega)⟩
    rw [hi] at hp hp2
    have h1 : 2 ^ (left + 1) ≤ 2 ^ j := Nat.pow_le_pow_right (by (first | lia | omega)) hj
    have h2 : 2 ^ (i + 1 + j) = 2 ^ (i + 1) * 2 ^ j := Nat.pow_add ..
    have h3 : 2 ^ (i + 1) = 2 * 2 ^ i := by rw [Nat.pow_succ]; (first | lia | omega)
    have h4 : 0 < 2 ^ i := Nat.two_pow_pos _
    have h5 : 0 < 2 ^ left := Nat.two_pow_pos _
    have : p / 2 ^ j = 2 * 2 ^ i - 1 := by
      apply Nat.div_eq_of_lt_le
      · rw [Nat.sub_mul, Nat.one_mul, ← h3, ← h2]
        (first | lia | omega)
      · rw [show 2 * 2 ^ i - 1 + 1 = 2 ^ (i + 1) by (first | lia | omega), ← h2]
        (first | lia | omega)
    rw [this]
    (first | lia | omega)
  have h5 : 0 < 2 ^ left := Nat.two_pow_pos _
  have h6 : 2 ^ (left + 1) = 2 * 2 ^ left := by rw [Nat.pow_succ]; (first | lia | omega)
  have h7 : 2 ^ (left + 2 + k) = 2 ^ (k + 2) * 2 ^ left := by rw [← Nat.pow_add]; congr 1; (first | lia | omega)
  have h8 : 2 ^ (k + 2) = 4 * 2 ^ k := by rw [Nat.pow_add]; (first | lia | omega)
  have h9 : 0 < 2 ^ k := Nat.two_pow_pos _
  have hd : p / 2 ^ left = 4 * 2 ^ k - 2 := by
    apply Nat.div_eq_of_lt_le
    · rw [Nat.sub_mul, ← h8, ← h7]
      (first | lia | omega)
    · rw [show 4 * 2 ^ k - 2 + 1 = 2 ^ (k + 2) - 1 by (first | lia | omega), Nat.sub_mul, Nat.one_mul, ← h7]
      (first | lia | omega)
  have hm : p % 2 ^ left = p + 2 ^ (left + 1) - 2 ^ (left + 2 + k) := by
    have := Nat.div_add_mod p (2 ^ left)
    rw [hd, Nat.mul_sub, Nat.mul_comm _ (4 * 2 ^ k), ← h8, ← h7] at this
    have h10 : 2 ^ (left + 1) ≤ 2 ^ (left + 2 + k) := Nat.pow_le_pow_right (by (first | lia | omega)) (by (first | lia | omega))
    clear h7 h8 h9 hd hz el hw
    generalize 2 ^ (left + 2 + k) = X at *
    (first | lia | omega)
  have h := above_run (left + 3 + k) p (k + 1) 1 (by (first | lia | omega)) (hz _ (by (first | lia | omega)) (by (first | lia | omega))) (fun i hi => hz _ (by (first | lia | omega)) (by (first | lia | omega))) (fun _ => by
    have e : left + 3 + k - 1 - 1 - (k + 1) = left := by (first | lia | omega)
    rw [e, hd]
    (first | lia | omega))
  rw [h]
  have e : left + 3 + k - 1 - (k + 1) - 1 = left := by (first | lia | omega)
  rw [e, hm, if_pos rfl, el]
  congr 1
  (first | lia | omega)

theorem above_top (w : Nat) (hw : 2 ≤ w) : above w (2 ^ (w - 1) - 1) = mk (w - 2) 0 0 := by
  have hz : ∀ j, j < w - 1 → (2 ^ (w - 1) - 1) / 2 ^ j % 2 = 1 := by
    intro j hj
    obtain ⟨i, hi⟩ : ∃ i, w - 1 = i + 1 + j := ⟨w - 2 - j, by (first | lia | omega)⟩
    rw [hi]
    have h2 : 2 ^ (i + 1 + j) = 2 ^ (i + 1) * 2 ^ j := Nat.pow_add ..
    have h3 : 2 ^ (i + 1) = 2 * 2 ^ i := by rw [Nat.pow_succ]; (first | lia | omega)
    have h4 : 0 < 2 ^ i := Nat.two_pow_pos _
    have h5 : 0 < 2 ^ j := Nat.two_pow_pos _
    have h6 : 0 < 2 ^ (i + 1 + j) := Nat.two_pow_pos _
    have : (2 ^ (i + 1 + j) - 1) / 2 ^ j = 2 * 2 ^ i - 1 := by
      apply Nat.div_eq_of_lt_le
      · rw [Nat.sub_mul, Nat.one_mul, ← h3, ← h2]
        (first | lia | omega)
      · rw [show 2 * 2 ^ i - 1 + 1 = 2 ^ (i + 1) by (first | lia | omega), ← h2]
        (first | lia | omega)
    rw [this]
    (first | lia | omega)
  have h := above_run w (2 ^ (w - 1) - 1) (w - 1) 1 (by (first | lia | omega)) (hz _ (by (first | lia | omega))) (fun i hi => hz _ (by (first | lia | omega))) (fun h => by (first | lia | omega))
  rw [h]
  have e : w - 1 - (w - 1) - 1 = 0 := by (first | lia | omega)
  rw [e, if_pos rfl, Nat.pow_zero, Nat.mod_one]
  congr 1
  (first | lia | omega)

theorem mk_widen (r : Int) (left m : Nat) (hm : m < 2 ^ left) : val (mk r (left + 1) (2 * m)) = val (mk r left m) := by
  unfold mk
  rw [val_scaled, val_scaled]
  by_cases h2 : 2 ≤ left
  · obtain ⟨F, rfl⟩ : ∃ F, left = F + 2 := ⟨left - 2, by (first | lia | omega)⟩
    rw [if_pos (by (first | lia | omega)), if_pos (by (first | lia | omega)), if_pos h2, if_pos h2]
    have e1 : F + 2 - 2 = F := by (first | lia | omega)
    have e2 : F + 2 + 1 - 2 = F + 1 := by (first | lia | omega)
    have e3 : 2 ^ (F + 1) = 2 * 2 ^ F := by rw [Nat.pow_succ]; (first | lia | omega)
    have e4 : 2 * m / (2 * 2 ^ F) = m / 2 ^ F := Nat.mul_div_mul_left _ _ (by (first | lia | omega))
    have e5 : 2 * m % (2 * 2 ^ F) = 2 * (m % 2 ^ F) := Nat.mul_mod_mul_left ..
    rw [e1, e2, e3, e4, e5]
    have e6 : ((2 * 2 ^ F + 2 * (m % 2 ^ F) : Nat) : Int) = 2 * ((2 ^ F + m % 2 ^ F : Nat) : Int) := by (first | lia | omega)
    have e7 : (4 * r + ((m / 2 ^ F : Nat) : Int) - (F : Int)) = (4 * r + ((m / 2 ^ F : Nat) : Int) - ((F + 1 : Nat) : Int)) + 1 := by (first | lia | omega)
    rw [e6, e7, p2_add, p2_one, Rat.intCast_mul]
    have : ((2 : Int) : Rat) = 2 := rfl
    grind
  · have : left = 0 ∨ left = 1 := by (first | lia | omega)
    rcases this with rfl | rfl
    · have : m = 0 := by simpa using hm
      subst this
      rfl
    · have : m = 0 ∨ m = 1 := by (first | lia | omega)
      rcases this with rfl | rfl <;> rfl

/-- the cases of a pattern above 0 -/
theorem cases_of (w p : Nat) (h1 : 1 ≤ p) (h2 : p < 2 ^ (w - 1)) (hw : 3 ≤ w) :
    (∃ left, 2 ^ left ≤ p ∧ p < 2 ^ (left + 1) ∧ left + 3 ≤ w) ∨
    (∃ left, 2 ^ (w - 1) ≤ p + 2 ^ (left + 1) ∧ p + 2 ^ left < 2 ^ (w - 1) ∧ left + 3 ≤ w) ∨ p = 2 ^ (w - 1) - 1 := by
  obtain ⟨l, rfl⟩ : ∃ l, w = l + 2 := ⟨w - 2, by (first | lia | omega)⟩
  rw [show l + 2 - 1 = l + 1 by (first | lia | omega)] at *
  have h3 : 2 ^ (l + 1) = 2 * 2 ^ l := by rw [Nat.pow_succ]; (first | lia | omega)
  by_cases hp : p < 2 ^ l
  · left
    refine ⟨p.log2, Nat.log2_self_le (by (first | lia | omega)), Nat.lt_log2_self, ?_⟩
    have := (Nat.log2_lt (by (first | lia | omega) : p ≠ 0)).mpr hp
    (first | lia | omega)
  · right
    by_cases ht : p = 2 ^ (l + 1) - 1
    · right; exact ht
    · left
      have hq : 2 ^ (l + 1) - p - 1 ≠ 0 := by (first | lia | omega)
      have a1 := Nat.log2_self_le hq
      have a2 : 2 ^ (l + 1) - p - 1 < 2 ^ ((2 ^ (l + 1) - p - 1).log2 + 1) := Nat.lt_log2_self
      have a3 := (Nat.log2_lt hq).mpr (show 2 ^ (l + 1) - p - 1 < 2 ^ l by (first | lia | omega))
      generalize (2 ^ (l + 1) - p - 1).log2 = t at *
      exact ⟨t, by (first | lia | omega), by (first | lia | omega), by (first | lia | omega)⟩

/-- one more bit, a 0 -/
theorem above_widen (w p : Nat) (h1 : 1 ≤ p) (h2 : p < 2 ^ (w - 1)) (hw : 3 ≤ w) : val (above (w + 1) (2 * p)) = val (above w p) := by
  have e : w + 1 - 1 = w - 1 + 1 := by (first | lia | omega)
  have e1 : 2 ^ (w + 1 - 1) = 2 * 2 ^ (w - 1) := by rw [e, Nat.pow_succ]; (first | lia | omega)
  rcases cases_of w p h1 h2 hw with ⟨t, a, b, c⟩ | ⟨t, a, b, c⟩ | h
  · have h3 : 2 ^ (t + 1) = 2 * 2 ^ t := by rw [Nat.pow_succ]; (first | lia | omega)
    have h4 : 2 ^ (t + 1 + 1) = 2 * 2 ^ (t + 1) := by rw [Nat.pow_succ 2 (t + 1)]; (first | lia | omega)
    rw [above_neg w t p a b c, above_neg (w + 1) (t + 1) (2 * p) (by (first | lia | omega)) (by (first | lia | omega)) (by (first | lia | omega))]
    rw [show 2 * p - 2 ^ (t + 1) = 2 * (p - 2 ^ t) by (first | lia | omega)]
    rw [show ((t + 1 : Nat) : Int) + 2 - ((w + 1 : Nat) : Int) = (t : Int) + 2 - w by (first | lia | omega)]
    exact mk_widen _ _ _ (by (first | lia | omega))
  · have h3 : 2 ^ (t + 1) = 2 * 2 ^ t := by rw [Nat.pow_succ]; (first | lia | omega)
    have h4 : 2 ^ (t + 1 + 1) = 2 * 2 ^ (t + 1) := by rw [Nat.pow_succ 2 (t + 1)]; (first | lia | omega)
    rw [above_pos w t p a b c, above_pos (w + 1) (t + 1) (2 * p) (by (first | lia | omega)) (by (first | lia | omega)) (by (first | lia | omega))]
    rw [show 2 * p + 2 ^ (t + 1 + 1) - 2 ^ (w + 1 - 1) = 2 * (p + 2 ^ (t + 1) - 2 ^ (w - 1)) by (first | lia | omega)]
    rw [show ((w + 1 : Nat) : Int) - 3 - ((t + 1 : Nat) : Int) = (w : Int) - 3 - t by (first | lia | omega)]
    exact mk_widen _ _ _ (by (first | lia | omega))
  · have h3 : 2 ≤ 2 ^ (w - 1) := by
      have : 2 ^ 1 ≤ 2 ^ (w - 1) := Nat.pow_le_pow_right (by (first | lia | omega)) (by (first | lia | omega))
      exact this
    rw [h, above_top w (by (first | lia | omega)), above_pos (w + 1) 0 (2 * (2 ^ (w - 1) - 1)) (by rw [e1]; (first | lia | omega)) (by rw [e1]; (first | lia | omega)) (by (first | lia | omega))]
    rw [show 2 * (2 ^ (w - 1) - 1) + 2 ^ (0 + 1) - 2 ^ (w + 1 - 1) = 0 by (first | lia | omega)]
    congr 2
    (first | lia | omega)
theorem above_widen_by (w p : Nat) (h1 : 1 ≤ p) (h2 : p < 2 ^ (w - 1)) (hw : 3 ≤ w) :
    ∀ j, val (above (w + j) (p * 2 ^ j)) = val (above w p)
  | 0 => by rw [Nat.pow_zero, Nat.mul_one, Nat.add_zero]
  | j + 1 => by
    have hp : 1 ≤ p * 2 ^ j := Nat.mul_pos h1 (Nat.two_pow_pos j)
    have hl : p * 2 ^ j < 2 ^ (w + j - 1) := by
      rw [show w + j - 1 = (w - 1) + j by (first | lia | omega), Nat.pow_add]
      exact Nat.mul_lt_mul_of_pos_right h2 (Nat.two_pow_pos j)
    rw [← above_widen_by w p h1 h2 hw j, ← above_widen (w + j) (p * 2 ^ j) hp hl (by (first | lia | omega))]
    rw [show p * 2 ^ (j + 1) = 2 * (p * 2 ^ j) by rw [Nat.pow_succ, ← Nat.mul_assoc]; (first | lia | omega)]
    rfl
end Tap


namespace Tap
open Si06

/-- a pattern P of W bits with all its parts there: the scale s, F places f -/
noncomputable def Deep (W P : Nat) (s : Int) (F f : Nat) : Prop :=
  f < 2 ^ F ∧ ((∃ k e, 1 ≤ k ∧ e < 4 ∧ W = F + 4 + k ∧ P = 2 ^ (F + 2) + e * 2 ^ F + f ∧ s = -4 * (k : Int) + e) ∨
    (∃ r e, e < 4 ∧ W = F + 5 + r ∧ P + 2 ^ (F + 3) = 2 ^ (F + 4 + r) + e * 2 ^ F + f ∧ s = 4 * (r : Int) + e))

theorem mk_deep (r : Int) (F e f : Nat) (hf : f < 2 ^ F) : mk r (F + 2) (e * 2 ^ F + f) = Q.scaled ((2 ^ F + f : Nat) : Int) (4 * r + e - F) := by
  unfold mk
  dsimp only
  have e1 : F + 2 - 2 = F := by (first | lia | omega)
  have e2 : (e * 2 ^ F + f) / 2 ^ F = e := by
    rw [Nat.add_comm, Nat.add_mul_div_right _ _ (Nat.two_pow_pos F), Nat.div_eq_of_lt hf]
    (first | lia | omega)
  have e3 : (e * 2 ^ F + f) % 2 ^ F = f := by
    rw [Nat.add_comm, Nat.add_mul_mod_self_right, Nat.mod_eq_of_lt hf]
  rw [if_pos (by (first | lia | omega)), if_pos (by (first | lia | omega)), e1, e2, e3]

theorem pow_s (F : Nat) : 2 ^ (F + 1) = 2 * 2 ^ F := by rw [Nat.pow_succ]; (first | lia | omega)
theorem pow_s2 (F : Nat) : 2 ^ (F + 2) = 4 * 2 ^ F := by rw [Nat.pow_add]; (first | lia | omega)
theorem pow_s3 (F : Nat) : 2 ^ (F + 3) = 8 * 2 ^ F := by rw [Nat.pow_add]; (first | lia | omega)

theorem lt4 {e f X : Nat} (he : e < 4) (hf : f < X) : e * X + f < 4 * X := by
  have : e = 0 ∨ e = 1 ∨ e = 2 ∨ e = 3 := by (first | lia | omega)
  rcases this with rfl | rfl | rfl | rfl <;> (first | lia | omega)

theorem deep_above {W P : Nat} {s : Int} {F f : Nat} (h : Deep W P s F f) : above W P = Q.scaled ((2 ^ F + f : Nat) : Int) (s - F) := by
  obtain ⟨hf, ⟨k, e, hk, he, hW, hP, hs⟩ | ⟨r, e, he, hW, hP, hs⟩⟩ := h
  · have a1 := pow_s2 F
    have a2 := pow_s3 F
    have a3 := lt4 he hf
    rw [above_neg W (F + 2) P (by (first | lia | omega)) (by (first | lia | omega)) (by (first | lia | omega)), show P - 2 ^ (F + 2) = e * 2 ^ F + f by (first | lia | omega), mk_deep _ _ _ _ hf]
    congr 1
    (first | lia | omega)
  · have a1 := pow_s2 F
    have a2 := pow_s3 F
    have a3 := lt4 he hf
    have a4 : W - 1 = F + 4 + r := by (first | lia | omega)
    have a5 : 2 ^ (F + 3) ≤ 2 ^ (F + 4 + r) := Nat.pow_le_pow_right (by (first | lia | omega)) (by (first | lia | omega))
    have h6 := above_pos W (F + 2) P (by rw [a4]; (first | lia | omega)) (by rw [a4]; generalize 2 ^ (F + 4 + r) = X at *; (first | lia | omega)) (by (first | lia | omega))
    rw [h6, a4, show P + 2 ^ (F + 2 + 1) - 2 ^ (F + 4 + r) = e * 2 ^ F + f by rw [show F + 2 + 1 = F + 3 by (first | lia | omega)]; generalize 2 ^ (F + 4 + r) = X at *; (first | lia | omega), mk_deep _ _ _ _ hf]
    congr 1
    (first | lia | omega)

theorem split4 (m F : Nat) (h : m < 4 * 2 ^ F) : ∃ e f, e < 4 ∧ f < 2 ^ F ∧ m = e * 2 ^ F + f := by
  refine ⟨m / 2 ^ F, m % 2 ^ F, ?_, Nat.mod_lt _ (Nat.two_pow_pos F), ?_⟩
  · exact (Nat.div_lt_iff_lt_mul (Nat.two_pow_pos F)).mpr h
  · have := Nat.div_add_mod m (2 ^ F)
    rw [Nat.mul_comm] at this
    (first | lia | omega)

theorem deep_exists (W P : Nat) (hW : 3 ≤ W) (h4 : 4 ≤ P) (h5 : P + 5 ≤ 2 ^ (W - 1)) : ∃ s F f, Deep W P s F f := by
  rcases cases_of W P (by (first | lia | omega)) (by (first | lia | omega)) hW with ⟨t, a, b, c⟩ | ⟨t, a, b, c⟩ | h
  · have ht : 2 ≤ t := by
      by_cases ht : 2 ≤ t
      · exact ht
      · have : 2 ^ (t + 1) ≤ 2 ^ 2 := Nat.pow_le_pow_right (by (first | lia | omega)) (by (first | lia | omega))
        (first | lia | omega)
    obtain ⟨F, rfl⟩ : ∃ F, t = F + 2 := ⟨t - 2, by (first | lia | omega)⟩
    have a1 := pow_s2 F
    have a2 := pow_s3 F
    obtain ⟨e, f, he, hf, hm⟩ := split4 (P - 2 ^ (F + 2)) F (by rw [show F + 2 + 1 = F + 3 by (first | lia | omega)] at b; (first | lia | omega))
    exact ⟨_, F, f, hf, Or.inl ⟨W - (F + 4), e, by (first | lia | omega), he, by (first | lia | omega), by (first | lia | omega), rfl⟩⟩
  · have ht : 2 ≤ t := by
      by_cases ht : 2 ≤ t
      · exact ht
      · have : 2 ^ (t + 1) ≤ 2 ^ 2 := Nat.pow_le_pow_right (by (first | lia | omega)) (by (first | lia | omega))
        (first | lia | omega)
    obtain ⟨F, rfl⟩ : ∃ F, t = F + 2 := ⟨t - 2, by (first | lia | omega)⟩
    have a1 := pow_s2 F
    have a2 := pow_s3 F
    rw [show F + 2 + 1 = F + 3 by (first | lia | omega)] at a
    obtain ⟨e, f, he, hf, hm⟩ := split4 (P + 2 ^ (F + 3) - 2 ^ (W - 1)) F (by (first | lia | omega))
    exact ⟨_, F, f, hf, Or.inr ⟨W - (F + 5), e, he, by (first | lia | omega), by rw [show F + 4 + (W - (F + 5)) = W - 1 by (first | lia | omega)]; (first | lia | omega), rfl⟩⟩
  · (first | lia | omega)

theorem val_deep (s : Int) (F f : Nat) (hf : f < 2 ^ F) : p2 s ≤ val (Q.scaled ((2 ^ F + f : Nat) : Int) (s - F)) ∧ val (Q.scaled ((2 ^ F + f : Nat) : Int) (s - F)) < p2 (s + 1) := by
  rw [val_scaled]
  have h1 : p2 s = p2 (F : Int) * p2 (s - F) := by rw [← p2_add]; congr 1; (first | lia | omega)
  have h2 : p2 (s + 1) = 2 * p2 (F : Int) * p2 (s - F) := by rw [p2_add, p2_one, h1]; grind
  have h3 := p2_pos (s - F)
  rw [h2, h1, p2_nat]
  generalize p2 (s - F) = y at *
  have h4 : ((2 ^ F : Nat) : Rat) ≤ ((2 ^ F + f : Nat) : Rat) := Rat.natCast_le_natCast.mpr (by (first | lia | omega))
  have h5 : ((2 ^ F + f : Nat) : Rat) < ((2 * 2 ^ F : Nat) : Rat) := Rat.natCast_lt_natCast.mpr (by (first | lia | omega))
  rw [Rat.natCast_mul] at h5
  rw [Rat.intCast_natCast]
  constructor
  · exact Rat.mul_le_mul_of_nonneg_right h4 (Rat.le_of_lt h3)
  · exact Rat.mul_lt_mul_of_pos_right h5 h3

theorem lex4 {e f e' f' X : Nat} (_ : f < X) (hf' : f' < X) (h : e * X + f < e' * X + f') : e < e' ∨ (e = e' ∧ f < f') := by
  rcases Nat.lt_trichotomy e e' with h1 | h1 | h1
  · exact Or.inl h1
  · subst h1
    exact Or.inr ⟨rfl, by (first | lia | omega)⟩
  · have := Nat.mul_le_mul_right X h1
    rw [Nat.succ_mul] at this
    (first | lia | omega)

theorem deep_lt {W P P' : Nat} {s s' : Int} {F F' f f' : Nat} (h : Deep W P s F f) (h' : Deep W P' s' F' f') (hl : P < P') :
    s < s' ∨ (s = s' ∧ F = F' ∧ f < f') := by
  obtain ⟨hf, ⟨k, e, hk, he, hW, hP, hs⟩ | ⟨r, e, he, hW, hP, hs⟩⟩ := h
  · obtain ⟨hf', ⟨k', e', hk', he', hW', hP', hs'⟩ | ⟨r', e', he', hW', hP', hs'⟩⟩ := h'
    · by_cases hF : F < F'
      · left; (first | lia | omega)
      · by_cases hF2 : F = F'
        · subst hF2
          rcases lex4 (e := e) (f := f) (e' := e') (f' := f') hf hf' (by (first | lia | omega)) with h | ⟨h, h2⟩
          · left; (first | lia | omega)
          · right; exact ⟨by (first | lia | omega), rfl, h2⟩
        · exfalso
          have a1 := pow_s2 F'
          have a2 := pow_s3 F'
          have a3 := lt4 he' hf'
          have a4 : 2 ^ (F' + 3) ≤ 2 ^ (F + 2) := Nat.pow_le_pow_right (by (first | lia | omega)) (by (first | lia | omega))
          generalize 2 ^ (F + 2) = X at *
          (first | lia | omega)
    · left; (first | lia | omega)
  · obtain ⟨hf', ⟨k', e', hk', he', hW', hP', hs'⟩ | ⟨r', e', he', hW', hP', hs'⟩⟩ := h'
    · exfalso
      have a1 := pow_s2 F'
      have a2 := pow_s3 F'
      have a3 := lt4 he' hf'
      have a4 : 2 ^ (F' + 3) ≤ 2 ^ (F + 3 + r) := Nat.pow_le_pow_right (by (first | lia | omega)) (by (first | lia | omega))
      have a5 : 2 ^ (F + 4 + r) = 2 * 2 ^ (F + 3 + r) := by rw [← pow_s]; congr 1; (first | lia | omega)
      have a6 : 2 ^ (F + 3) ≤ 2 ^ (F + 3 + r) := Nat.pow_le_pow_right (by (first | lia | omega)) (by (first | lia | omega))
      generalize 2 ^ (F + 3 + r) = X at *
      (first | lia | omega)
    · have e1 : F + 4 + r = F' + 4 + r' := by (first | lia | omega)
      rw [e1] at hP
      by_cases hr : r < r'
      · left; (first | lia | omega)
      · by_cases hr2 : r = r'
        · subst hr2
          have : F = F' := by (first | lia | omega)
          subst this
          rcases lex4 (e := e) (f := f) (e' := e') (f' := f') hf hf' (by (first | lia | omega)) with h | ⟨h, h2⟩
          · left; (first | lia | omega)
          · right; exact ⟨by (first | lia | omega), rfl, h2⟩
        · exfalso
          have a1 := pow_s2 F'
          have a2 := pow_s3 F'
          have a3 := lt4 he' hf'
          have b1 := pow_s2 F
          have b2 := pow_s3 F
          have a4 : 2 ^ (F + 3) ≤ 2 ^ (F' + 2) := Nat.pow_le_pow_right (by (first | lia | omega)) (by (first | lia | omega))
          generalize 2 ^ (F' + 4 + r') = X at *
          (first | lia | omega)

theorem deep_val_lt {W P P' : Nat} {s s' : Int} {F F' f f' : Nat} (h : Deep W P s F f) (h' : Deep W P' s' F' f') (hl : P < P') :
    val (above W P) < val (above W P') := by
  rw [deep_above h, deep_above h']
  rcases deep_lt h h' hl with h1 | ⟨rfl, rfl, h1⟩
  · have a := (val_deep s F f h.1).2
    have b := (val_deep s' F' f' h'.1).1
    have c := p2_le (show s + 1 ≤ s' by (first | lia | omega))
    grind
  · rw [val_scaled, val_scaled]
    apply Rat.mul_lt_mul_of_pos_right _ (p2_pos _)
    rw [Rat.intCast_lt_intCast]
    (first | lia | omega)

/-- **the patterns rise** -/
theorem above_lt (w p q : Nat) (hw : 3 ≤ w) (h1 : 1 ≤ p) (h2 : p < q) (h3 : q < 2 ^ (w - 1)) : val (above w p) < val (above w q) := by
  rw [← above_widen_by w p h1 (by (first | lia | omega)) hw 3, ← above_widen_by w q (by (first | lia | omega)) h3 hw 3]
  have e : 2 ^ (w + 3 - 1) = 8 * 2 ^ (w - 1) := by rw [← pow_s3]; congr 1; (first | lia | omega)
  obtain ⟨s, F, f, h⟩ := deep_exists (w + 3) (p * 2 ^ 3) (by (first | lia | omega)) (by (first | lia | omega)) (by (first | lia | omega))
  obtain ⟨s', F', f', h'⟩ := deep_exists (w + 3) (q * 2 ^ 3) (by (first | lia | omega)) (by (first | lia | omega)) (by (first | lia | omega))
  exact deep_val_lt h h' (by (first | lia | omega))

theorem cmp_lt {a b : Rat} (h : a < b) : cmp a b = .lt := by unfold cmp; rw [if_pos h]
theorem cmp_self (a : Rat) : cmp a a = .eq := by unfold cmp; rw [if_neg Rat.lt_irrefl, if_pos rfl]
theorem cmp_gt {a b : Rat} (h : b < a) : cmp a b = .gt := by
  unfold cmp
  rw [if_neg (by grind), if_neg (by grind)]

theorem above_cmp (w p q : Nat) (hw : 3 ≤ w) (h1 : 1 ≤ p) (h1' : 1 ≤ q) (h2 : p < 2 ^ (w - 1)) (h3 : q < 2 ^ (w - 1)) :
    cmp (val (above w p)) (val (above w q)) = compare p q := by
  rcases Nat.lt_trichotomy p q with h | h | h
  · rw [cmp_lt (above_lt w p q hw h1 h h3), Nat.compare_eq_lt.mpr h]
  · subst h
    rw [cmp_self, Nat.compare_eq_eq.mpr rfl]
  · rw [cmp_gt (above_lt w q p hw h1' h h2), Nat.compare_eq_gt.mpr h]
end Tap


namespace Tap
open Si06

/-! ### the whole number next to one over a power of two -/
noncomputable def nev (n p : Int) : Int :=
  if 0 ≤ p then n * 2 ^ p.toNat
  else if 2 ^ ((-p).toNat - 1) < n - n / 2 ^ (-p).toNat * 2 ^ (-p).toNat ∨
      (n - n / 2 ^ (-p).toNat * 2 ^ (-p).toNat = 2 ^ ((-p).toNat - 1) ∧ n / 2 ^ (-p).toNat % 2 = 1) then n / 2 ^ (-p).toNat + 1
  else n / 2 ^ (-p).toNat

theorem ipow_pos (k : Nat) : (0 : Int) < 2 ^ k := Int.pow_pos (by decide)

theorem nev_neg (n : Int) (k : Nat) : nev n (-((k + 1 : Nat) : Int)) =
    if 2 ^ k < n % 2 ^ (k + 1) ∨ (n % 2 ^ (k + 1) = 2 ^ k ∧ n / 2 ^ (k + 1) % 2 = 1) then n / 2 ^ (k + 1) + 1 else n / 2 ^ (k + 1) := by
  unfold nev
  rw [if_neg (by (first | lia | omega))]
  have e : (-(-((k + 1 : Nat) : Int))).toNat = k + 1 := by (first | lia | omega)
  rw [e]
  have e2 : n - n / 2 ^ (k + 1) * 2 ^ (k + 1) = n % 2 ^ (k + 1) := by
    have := Int.mul_ediv_add_emod n (2 ^ (k + 1))
    rw [Int.mul_comm] at this
    (first | lia | omega)
  rw [e2, Nat.add_sub_cancel]

theorem nev_nonneg (n : Int) (k : Nat) : nev n (k : Int) = n * 2 ^ k := by
  unfold nev
  rw [if_pos (by (first | lia | omega)), Int.toNat_natCast]

theorem nev_scale (n : Int) (a : Nat) (p : Int) : nev (n * 2 ^ a) (p - a) = nev n p := by
  by_cases h : 0 ≤ p
  · obtain ⟨k, rfl⟩ := Int.eq_ofNat_of_zero_le h
    rw [nev_nonneg]
    by_cases h2 : a ≤ k
    · rw [show (k : Int) - a = ((k - a : Nat) : Int) by (first | lia | omega), nev_nonneg, Int.mul_assoc, ← Int.pow_add]
      congr 2
      (first | lia | omega)
    · obtain ⟨j, rfl⟩ : ∃ j, a = k + (j + 1) := ⟨a - k - 1, by (first | lia | omega)⟩
      rw [show (k : Int) - ((k + (j + 1) : Nat) : Int) = -((j + 1 : Nat) : Int) by (first | lia | omega), nev_neg, Int.pow_add, ← Int.mul_assoc]
      have h1 := ipow_pos (j + 1)
      rw [Int.mul_emod_left, Int.mul_ediv_cancel _ (by (first | lia | omega))]
      have h2 := ipow_pos j
      rw [if_neg (by (first | lia | omega))]
  · obtain ⟨k, rfl⟩ : ∃ k : Nat, p = -((k + 1 : Nat) : Int) := ⟨(-p).toNat - 1, by (first | lia | omega)⟩
    rw [show -((k + 1 : Nat) : Int) - (a : Int) = -((k + a + 1 : Nat) : Int) by (first | lia | omega), nev_neg, nev_neg]
    have h1 := ipow_pos a
    have e1 : (2 : Int) ^ (k + a + 1) = 2 ^ (k + 1) * 2 ^ a := by rw [← Int.pow_add]; congr 1; (first | lia | omega)
    have e2 : n * 2 ^ a / 2 ^ (k + a + 1) = n / 2 ^ (k + 1) := by rw [e1, Int.mul_ediv_mul_of_pos_left _ _ h1]
    have e3 : n * 2 ^ a % 2 ^ (k + a + 1) = n % 2 ^ (k + 1) * 2 ^ a := by rw [e1, Int.mul_comm n, Int.mul_comm (2 ^ (k + 1)), Int.mul_emod_mul_of_pos _ _ h1, Int.mul_comm]
    rw [e2, e3, Int.pow_add 2 k a]
    have e4 : (2 ^ k * 2 ^ a < n % 2 ^ (k + 1) * 2 ^ a) ↔ (2 ^ k < n % 2 ^ (k + 1)) := Int.mul_lt_mul_right h1
    have e5 : (n % 2 ^ (k + 1) * 2 ^ a = 2 ^ k * 2 ^ a) ↔ (n % 2 ^ (k + 1) = 2 ^ k) := Int.mul_eq_mul_right_iff (by (first | lia | omega))
    simp only [e4, e5]

/-! ### the search -/
theorem halve_eq (f : Nat → Bool) (U : Nat) : ∀ k lo hi, lo ≤ U → U < hi → (∀ m, lo ≤ m → m < hi → f m = decide (m ≤ U)) → hi ≤ lo + 2 ^ k →
    halve f k lo hi = U
  | 0, lo, hi, h1, h2, _, h4 => by
    unfold halve
    (first | lia | omega)
  | k + 1, lo, hi, h1, h2, h3, h4 => by
    unfold halve
    rw [pow_s] at h4
    by_cases h : hi ≤ lo + 1
    · rw [if_pos h]
      (first | lia | omega)
    · rw [if_neg h]
      have := h3 ((lo + hi) / 2) (by (first | lia | omega)) (by (first | lia | omega))
      by_cases hu : (lo + hi) / 2 ≤ U
      · rw [if_pos (by rw [this]; exact decide_eq_true hu)]
        exact halve_eq f U k _ _ hu h2 (fun m a b => h3 m (by (first | lia | omega)) b) (by (first | lia | omega))
      · rw [if_neg (by rw [this]; simp; (first | lia | omega))]
        exact halve_eq f U k _ _ h1 (by (first | lia | omega)) (fun m a b => h3 m a (by (first | lia | omega))) (by (first | lia | omega))

theorem cmpN_lt {a b : Nat} (h : a < b) : compare a b = .lt := Nat.compare_eq_lt.mpr h
theorem cmpN_gt {a b : Nat} (h : b < a) : compare a b = .gt := Nat.compare_eq_gt.mpr h

theorem round_end (u r X Y : Nat) (hX : 0 < X) :
    ((if compare (Y + r) Y = .eq then u else match compare (Y + r) (Y + X) with
      | .lt => u
      | .gt => u + 1
      | .eq => if u % 2 = 0 then u else u + 1 : Nat) : Int) =
    if (X : Int) < (r : Int) ∨ ((r : Int) = (X : Int) ∧ (u : Int) % 2 = 1) then (u : Int) + 1 else (u : Int) := by
  by_cases hr0 : r = 0
  · rw [if_pos (Nat.compare_eq_eq.mpr (by (first | lia | omega))), if_neg (by (first | lia | omega))]
  · rw [show compare (Y + r) Y = .gt from cmpN_gt (by (first | lia | omega)), if_neg (show ¬ Ordering.gt = Ordering.eq by decide)]
    rcases Nat.lt_trichotomy r X with h | h | h
    · rw [show compare (Y + r) (Y + X) = .lt from cmpN_lt (by (first | lia | omega))]
      dsimp only
      split <;> (first | lia | omega)
    · rw [show compare (Y + r) (Y + X) = .eq from Nat.compare_eq_eq.mpr (by (first | lia | omega))]
      dsimp only
      split <;> split <;> (first | lia | omega)
    · rw [show compare (Y + r) (Y + X) = .gt from cmpN_gt (by (first | lia | omega))]
      dsimp only
      split <;> (first | lia | omega)

theorem roundAbove_nev (w b T : Nat) (x : Real) (hw : 3 ≤ w) (hw2 : w ≤ 70)
    (hx : ∀ u, 1 ≤ u → u < 2 ^ (w - 1) → x (above w u) = compare T (u * 2 ^ (b + 1)))
    (hx1 : ∀ u, 1 ≤ u → u < 2 ^ (w - 1) - 1 → x (above (w + 1) (2 * u + 1)) = compare T ((2 * u + 1) * 2 ^ b)) :
    (roundAbove w x : Int) = if (2 ^ (w - 1) - 1) * 2 ^ (b + 1) ≤ T then 2 ^ (w - 1) - 1 else if T ≤ 2 ^ (b + 1) then 1 else nev T (-((b + 1 : Nat) : Int)) := by
  unfold roundAbove NONE
  have hp : 4 ≤ 2 ^ (w - 1) := by
    have : 2 ^ 2 ≤ 2 ^ (w - 1) := Nat.pow_le_pow_right (by (first | lia | omega)) (by (first | lia | omega))
    exact this
  have hc : ((2 ^ (w - 1) - 1 : Nat) : Int) = 2 ^ (w - 1) - 1 := by
    rw [Int.ofNat_sub (by (first | lia | omega)), Int.natCast_pow]
    rfl
  rw [hx _ (by (first | lia | omega)) (by (first | lia | omega))]
  by_cases h1 : (2 ^ (w - 1) - 1) * 2 ^ (b + 1) ≤ T
  · rw [if_pos h1, if_pos, hc]
    exact fun h => absurd (Nat.compare_eq_lt.mp h) (by (first | lia | omega))
  · rw [if_neg h1, if_neg (by rw [cmpN_lt (by (first | lia | omega))]; decide)]
    rw [hx _ (by (first | lia | omega)) (by (first | lia | omega)), Nat.one_mul]
    by_cases h2 : T ≤ 2 ^ (b + 1)
    · rw [if_pos h2, if_pos]
      · rfl
      · exact fun h => absurd (Nat.compare_eq_gt.mp h) (by (first | lia | omega))
    · rw [if_neg h2, if_neg (by rw [cmpN_gt (by (first | lia | omega))]; decide)]
      have hb : 0 < 2 ^ (b + 1) := Nat.two_pow_pos _
      have hu1 : 1 ≤ T / 2 ^ (b + 1) := (Nat.le_div_iff_mul_le hb).mpr (by (first | lia | omega))
      have hu2 : T / 2 ^ (b + 1) < 2 ^ (w - 1) - 1 := (Nat.div_lt_iff_lt_mul hb).mpr (by (first | lia | omega))
      have hh : halve (fun m => x (above w m) != .lt) 70 1 (2 ^ (w - 1) - 1) = T / 2 ^ (b + 1) := by
        apply halve_eq _ _ _ _ _ hu1 hu2
        · intro m a c
          simp only [hx m a (by (first | lia | omega))]
          have hd : m ≤ T / 2 ^ (b + 1) ↔ m * 2 ^ (b + 1) ≤ T := Nat.le_div_iff_mul_le hb
          by_cases hm : m * 2 ^ (b + 1) ≤ T
          · rw [decide_eq_true (hd.mpr hm)]
            have : compare T (m * 2 ^ (b + 1)) ≠ .lt := fun h => absurd (Nat.compare_eq_lt.mp h) (by (first | lia | omega))
            exact bne_iff_ne.mpr this
          · rw [cmpN_lt (by (first | lia | omega)), decide_eq_false (fun h => hm (hd.mp h))]
            rfl
        · have : 2 ^ (w - 1) ≤ 2 ^ 70 := Nat.pow_le_pow_right (by (first | lia | omega)) (by (first | lia | omega))
          (first | lia | omega)
      rw [hh]
      rw [nev_neg]
      have hr := Nat.div_add_mod T (2 ^ (b + 1))
      have hrl := Nat.mod_lt T hb
      have c1 : (T : Int) % 2 ^ (b + 1) = ((T % 2 ^ (b + 1) : Nat) : Int) := by rw [Int.natCast_emod, Int.natCast_pow]; rfl
      have c2 : (T : Int) / 2 ^ (b + 1) = ((T / 2 ^ (b + 1) : Nat) : Int) := by rw [Int.natCast_ediv, Int.natCast_pow]; rfl
      have c3 : (2 : Int) ^ b = ((2 ^ b : Nat) : Int) := by rw [Int.natCast_pow]; rfl
      rw [c1, c2, c3]
      dsimp only
      rw [hx _ hu1 (by (first | lia | omega)), hx1 _ hu1 hu2]
      have e1 : (2 * (T / 2 ^ (b + 1)) + 1) * 2 ^ b = 2 ^ (b + 1) * (T / 2 ^ (b + 1)) + 2 ^ b := by
        rw [pow_s, Nat.add_mul, Nat.one_mul, Nat.mul_assoc 2, Nat.mul_assoc 2, Nat.mul_comm (T / _)]
      rw [e1, Nat.mul_comm (T / 2 ^ (b + 1))]
      have e2 := pow_s b
      generalize T / 2 ^ (b + 1) = u at *
      generalize T % 2 ^ (b + 1) = r at *
      generalize 2 ^ (b + 1) * u = Y at *
      generalize hX : 2 ^ b = X at *
      have hX0 : 0 < X := by rw [← hX]; exact Nat.two_pow_pos _
      subst hr
      exact round_end u r X Y hX0

/-! ### the pattern that a number gets, as the program reckons it -/
noncomputable def patAbove (m : Nat) (p : Int) (w : Nat) : Int :=
  let t := m.log2
  let s := p + t
  let r := s / 4
  if (w : Int) - 2 ≤ r then 2 ^ (w - 1) - 1
  else if r < 2 - (w : Int) then 1
  else
    let rb := if 0 ≤ r then r + 2 else 1 - r
    let run := if 0 ≤ r then 2 ^ rb.toNat - 2 else 1
    nev ((run * 4 + s % 4) * 2 ^ t + m - 2 ^ t) (w - 1 - (rb + 2 + t))

/-- the bits of a number, no bit left out: the pattern of W bits -/
theorem enc_deep (m : Nat) (p : Int) (hm : 1 ≤ m) : ∃ W B : Nat, Deep W B (p + m.log2) m.log2 (m - 2 ^ m.log2) ∧
    (W : Int) - 1 = (if 0 ≤ (p + m.log2) / 4 then (p + m.log2) / 4 + 2 else 1 - (p + m.log2) / 4) + 2 + m.log2 ∧
    (B : Int) = ((if 0 ≤ (p + m.log2) / 4 then 2 ^ (if 0 ≤ (p + m.log2) / 4 then (p + m.log2) / 4 + 2 else 1 - (p + m.log2) / 4).toNat - 2 else 1) * 4 + (p + m.log2) % 4) * 2 ^ m.log2 + m - 2 ^ m.log2 := by
  have h1 := Nat.log2_self_le (by (first | lia | omega) : m ≠ 0)
  have h2 : m < 2 ^ (m.log2 + 1) := Nat.lt_log2_self
  generalize m.log2 = t at *
  generalize hs : p + (t : Int) = s at *
  rw [pow_s] at h2
  have hmod := Int.emod_nonneg s (show (4 : Int) ≠ 0 by decide)
  have hmod2 := Int.emod_lt_of_pos s (show (0 : Int) < 4 by decide)
  have hdm := Int.mul_ediv_add_emod s 4
  obtain ⟨e, he⟩ := Int.eq_ofNat_of_zero_le hmod
  rw [he] at hmod2 hdm ⊢
  have cX : ((2 ^ t : Nat) : Int) = 2 ^ t := by rw [Int.natCast_pow]; rfl
  by_cases hr : 0 ≤ s / 4
  · obtain ⟨r, hr'⟩ := Int.eq_ofNat_of_zero_le hr
    rw [hr'] at hdm ⊢
    simp only [if_pos (Int.natCast_nonneg r)]
    have e0 : ((r : Int) + 2).toNat = r + 2 := by (first | lia | omega)
    have e1 : 2 ^ (t + 4 + r) = 2 ^ (r + 2) * 4 * 2 ^ t := by
      rw [show (4 : Nat) = 2 ^ 2 from rfl, ← Nat.pow_add, ← Nat.pow_add]
      congr 1
      (first | lia | omega)
    have e2 : 2 ^ (t + 3) ≤ 2 ^ (t + 4 + r) := Nat.pow_le_pow_right (by (first | lia | omega)) (by (first | lia | omega))
    have e3 := pow_s3 t
    refine ⟨t + 5 + r, 2 ^ (t + 4 + r) - 2 ^ (t + 3) + e * 2 ^ t + (m - 2 ^ t), ⟨by (first | lia | omega), Or.inr ⟨r, e, by (first | lia | omega), rfl, by generalize 2 ^ (t + 4 + r) = X at *; (first | lia | omega), by (first | lia | omega)⟩⟩, by (first | lia | omega), ?_⟩
    rw [e0]
    have c1 : ((2 ^ (t + 4 + r) - 2 ^ (t + 3) + e * 2 ^ t + (m - 2 ^ t) : Nat) : Int) =
        ((2 ^ (t + 4 + r) : Nat) : Int) - ((2 ^ (t + 3) : Nat) : Int) + ((e * 2 ^ t : Nat) : Int) + ((m : Int) - ((2 ^ t : Nat) : Int)) := by
      (first | lia | omega)
    have c2 : ((2 ^ (r + 2) : Nat) : Int) = 2 ^ (r + 2) := by rw [Int.natCast_pow]; rfl
    rw [c1, e1, e3, ← cX, ← c2]
    simp only [Int.natCast_mul]
    generalize ((2 ^ (r + 2) : Nat) : Int) = A at *
    generalize ((2 ^ t : Nat) : Int) = X at *
    have : ((4 : Nat) : Int) = 4 := rfl
    have : ((8 : Nat) : Int) = 8 := rfl
    grind
  · obtain ⟨k, hk⟩ : ∃ k : Nat, s / 4 = -((k + 1 : Nat) : Int) := ⟨(-(s / 4)).toNat - 1, by (first | lia | omega)⟩
    rw [hk] at hdm ⊢
    simp only [if_neg (show ¬ (0 : Int) ≤ -((k + 1 : Nat) : Int) by (first | lia | omega))]
    refine ⟨t + 4 + (k + 1), 2 ^ (t + 2) + e * 2 ^ t + (m - 2 ^ t), ⟨by (first | lia | omega), Or.inl ⟨k + 1, e, by (first | lia | omega), by (first | lia | omega), rfl, by (first | lia | omega), by (first | lia | omega)⟩⟩, by (first | lia | omega), ?_⟩
    have e3 := pow_s2 t
    have c1 : ((2 ^ (t + 2) + e * 2 ^ t + (m - 2 ^ t) : Nat) : Int) =
        ((2 ^ (t + 2) : Nat) : Int) + ((e * 2 ^ t : Nat) : Int) + ((m : Int) - ((2 ^ t : Nat) : Int)) := by
      (first | lia | omega)
    rw [c1, e3, ← cX]
    simp only [Int.natCast_mul]
    generalize ((2 ^ t : Nat) : Int) = X at *
    have : ((4 : Nat) : Int) = 4 := rfl
    grind
end Tap


namespace Tap
open Si06

theorem deep_range {W P : Nat} {s : Int} {F f : Nat} (h : Deep W P s F f) : 5 ≤ W ∧ 1 ≤ P ∧ P < 2 ^ (W - 1) := by
  obtain ⟨hf, ⟨k, e, hk, he, hW, hP, hs⟩ | ⟨r, e, he, hW, hP, hs⟩⟩ := h
  · have a1 := pow_s2 F
    have a2 := pow_s3 F
    have a3 := lt4 he hf
    have a4 : 2 ^ (F + 3) ≤ 2 ^ (W - 1) := Nat.pow_le_pow_right (by (first | lia | omega)) (by (first | lia | omega))
    have a5 := Nat.two_pow_pos F
    generalize 2 ^ (W - 1) = X at *
    (first | lia | omega)
  · have a1 := pow_s2 F
    have a2 := pow_s3 F
    have a3 := lt4 he hf
    have a4 : W - 1 = F + 4 + r := by (first | lia | omega)
    have a5 : 2 ^ (F + 4) ≤ 2 ^ (F + 4 + r) := Nat.pow_le_pow_right (by (first | lia | omega)) (by (first | lia | omega))
    have a6 := Nat.two_pow_pos F
    have a7 : 2 ^ (F + 4) = 16 * 2 ^ F := by rw [Nat.pow_add]; (first | lia | omega)
    rw [a4]
    generalize 2 ^ (F + 4 + r) = X at *
    (first | lia | omega)

theorem val_top (w : Nat) (hw : 3 ≤ w) : val (above w (2 ^ (w - 1) - 1)) = p2 (4 * (w - 2)) := by
  rw [above_top w (by (first | lia | omega))]
  unfold mk
  dsimp only
  rw [if_neg (by decide), if_neg (by decide), if_neg (by decide), val_scaled]
  have : (((2 ^ (0 - 2) + 0 : Nat) : Int) : Rat) = 1 := rfl
  rw [this, Rat.one_mul]
  congr 1
  (first | lia | omega)
theorem val_least (w : Nat) (hw : 3 ≤ w) : val (above w 1) = p2 (4 * (2 - w)) := by
  rw [above_neg w 0 1 (by decide) (by decide) (by (first | lia | omega))]
  unfold mk
  dsimp only
  rw [if_neg (by decide), if_neg (by decide), if_neg (by decide), val_scaled]
  have : (((2 ^ (0 - 2) + 0 : Nat) : Int) : Rat) = 1 := rfl
  rw [this, Rat.one_mul]
  congr 1
  (first | lia | omega)

theorem cmp_eq_lt {a b : Rat} : cmp a b = .lt ↔ a < b := by
  constructor
  · intro h
    unfold cmp at h
    split at h
    · assumption
    · split at h <;> cases h
  · exact cmp_lt
theorem cmp_eq_gt {a b : Rat} : cmp a b = .gt ↔ b < a := by
  constructor
  · intro h
    unfold cmp at h
    split at h
    · cases h
    · split at h
      · cases h
      · grind
  · exact cmp_gt

theorem size_of (m : Nat) (p : Int) (hm : 1 ≤ m) : p2 (p + m.log2) ≤ ((m : Int) : Rat) * p2 p ∧ ((m : Int) : Rat) * p2 p < p2 (p + m.log2 + 1) := by
  have h1 := Nat.log2_self_le (by (first | lia | omega) : m ≠ 0)
  have h2 : m < 2 ^ (m.log2 + 1) := Nat.lt_log2_self
  rw [pow_s] at h2
  have h := val_deep (p + m.log2) m.log2 (m - 2 ^ m.log2) (by (first | lia | omega))
  rw [val_scaled, show 2 ^ m.log2 + (m - 2 ^ m.log2) = m by (first | lia | omega), show p + (m.log2 : Int) - m.log2 = p by (first | lia | omega)] at h
  exact h

theorem round_main (w m : Nat) (p : Int) (x : Real) (hw : 3 ≤ w) (hw2 : w ≤ 70) (hm : 1 ≤ m)
    (hx : ∀ w' u, (w' = w ∨ w' = w + 1) → 1 ≤ u → u < 2 ^ (w' - 1) → x (above w' u) = cmp (((m : Int) : Rat) * p2 p) (val (above w' u))) :
    (roundAbove w x : Int) = patAbove m p w := by
  obtain ⟨W0, B, hd, hW, hB⟩ := enc_deep m p hm
  obtain ⟨r1, r2, r3⟩ := deep_range hd
  have h1 := Nat.log2_self_le (by (first | lia | omega) : m ≠ 0)
  have hv : val (above W0 B) = ((m : Int) : Rat) * p2 p := by
    rw [deep_above hd, val_scaled, show 2 ^ m.log2 + (m - 2 ^ m.log2) = m by (first | lia | omega), show p + (m.log2 : Int) - m.log2 = p by (first | lia | omega)]
  obtain ⟨a, b, hab⟩ : ∃ a b, W0 + a = w + (b + 1) := ⟨w + 1 - W0, W0 - (w + 1), by (first | lia | omega)⟩
  have hT1 : 1 ≤ B * 2 ^ a := Nat.mul_pos r2 (Nat.two_pow_pos a)
  have hT2 : B * 2 ^ a < 2 ^ (w + (b + 1) - 1) := by
    rw [← hab, show W0 + a - 1 = (W0 - 1) + a by (first | lia | omega), Nat.pow_add]
    exact Nat.mul_lt_mul_of_pos_right r3 (Nat.two_pow_pos a)
  have hv2 : val (above (w + (b + 1)) (B * 2 ^ a)) = ((m : Int) : Rat) * p2 p := by
    rw [← hab, above_widen_by W0 B r2 r3 (by (first | lia | omega)) a, hv]
  have key : ∀ u, 1 ≤ u → u < 2 ^ (w - 1) → cmp (((m : Int) : Rat) * p2 p) (val (above w u)) = compare (B * 2 ^ a) (u * 2 ^ (b + 1)) := by
    intro u h1 h2
    rw [← hv2, ← above_widen_by w u h1 h2 hw (b + 1)]
    refine above_cmp _ _ _ (by (first | lia | omega)) hT1 (Nat.mul_pos h1 (Nat.two_pow_pos _)) hT2 ?_
    rw [show w + (b + 1) - 1 = (w - 1) + (b + 1) by (first | lia | omega), Nat.pow_add 2 (w - 1) (b + 1)]
    exact Nat.mul_lt_mul_of_pos_right h2 (Nat.two_pow_pos _)
  rw [roundAbove_nev w b (B * 2 ^ a) x hw hw2 (fun u h1 h2 => by rw [hx w u (Or.inl rfl) h1 h2, key u h1 h2]) (fun u h1 h2 => by
    have h3 : 2 * u + 1 < 2 ^ (w + 1 - 1) := by
      rw [show w + 1 - 1 = (w - 1) + 1 by (first | lia | omega), pow_s]
      (first | lia | omega)
    rw [hx (w + 1) (2 * u + 1) (Or.inr rfl) (by (first | lia | omega)) h3, ← hv2, ← above_widen_by (w + 1) (2 * u + 1) (by (first | lia | omega)) h3 (by (first | lia | omega)) b]
    rw [show w + 1 + b = w + (b + 1) by (first | lia | omega)]
    refine above_cmp _ _ _ (by (first | lia | omega)) hT1 (Nat.mul_pos (by (first | lia | omega)) (Nat.two_pow_pos _)) hT2 ?_
    rw [show w + (b + 1) - 1 = (w + 1 - 1) + b by (first | lia | omega), Nat.pow_add]
    exact Nat.mul_lt_mul_of_pos_right h3 (Nat.two_pow_pos _))]
  have hp : 4 ≤ 2 ^ (w - 1) := by
    have : 2 ^ 2 ≤ 2 ^ (w - 1) := Nat.pow_le_pow_right (by (first | lia | omega)) (by (first | lia | omega))
    exact this
  have kt := key (2 ^ (w - 1) - 1) (by (first | lia | omega)) (by (first | lia | omega))
  have kl := key 1 (by (first | lia | omega)) (by (first | lia | omega))
  rw [val_top w hw] at kt
  rw [val_least w hw, Nat.one_mul] at kl
  obtain ⟨s1, s2⟩ := size_of m p hm
  have hdm := Int.mul_ediv_add_emod (p + m.log2) 4
  have hmod := Int.emod_nonneg (p + m.log2) (show (4 : Int) ≠ 0 by decide)
  have hmod2 := Int.emod_lt_of_pos (p + m.log2) (show (0 : Int) < 4 by decide)
  unfold patAbove
  dsimp only
  rw [← hB]
  have e4 : ((w : Int) - 1 - ((if 0 ≤ (p + m.log2) / 4 then (p + m.log2) / 4 + 2 else 1 - (p + m.log2) / 4) + 2 + m.log2)) = -((b + 1 : Nat) : Int) + a := by
    rw [← hW]
    (first | lia | omega)
  rw [e4]
  have e5 : nev (B : Int) (-((b + 1 : Nat) : Int) + a) = nev ((B * 2 ^ a : Nat) : Int) (-((b + 1 : Nat) : Int)) := by
    rw [← nev_scale (B : Int) a, Int.natCast_mul, Int.natCast_pow, show (-((b + 1 : Nat) : Int) + a - a) = -((b + 1 : Nat) : Int) by (first | lia | omega)]
    rfl
  rw [e5]
  generalize B * 2 ^ a = T at *
  generalize (p + (m.log2 : Int)) = s at *
  generalize ((m : Int) : Rat) * p2 p = v at *
  have c1 : (2 ^ (w - 1) - 1) * 2 ^ (b + 1) ≤ T ↔ (w : Int) - 2 ≤ s / 4 := by
    constructor
    · intro h
      have : ¬ v < p2 (4 * (w - 2)) := fun h' => by
        rw [cmp_lt h'] at kt
        have := Nat.compare_eq_lt.mp kt.symm
        (first | lia | omega)
      have h3 : ¬ s + 1 ≤ 4 * ((w : Int) - 2) := fun h' => by
        have := p2_le h'
        grind
      (first | lia | omega)
    · intro h
      have := p2_le (show 4 * ((w : Int) - 2) ≤ s by (first | lia | omega))
      have h2 : ¬ v < p2 (4 * (w - 2)) := by grind
      have h3 : ¬ T < (2 ^ (w - 1) - 1) * 2 ^ (b + 1) := fun h' => by
        rw [cmpN_lt h'] at kt
        exact h2 (cmp_eq_lt.mp kt)
      (first | lia | omega)
  have c2 : T < 2 ^ (b + 1) ↔ s / 4 < 2 - (w : Int) := by
    constructor
    · intro h
      rw [cmpN_lt h] at kl
      have h2 := cmp_eq_lt.mp kl
      have h3 : ¬ 4 * (2 - (w : Int)) ≤ s := fun h' => by
        have := p2_le h'
        grind
      (first | lia | omega)
    · intro h
      have := p2_le (show s + 1 ≤ 4 * (2 - (w : Int)) by (first | lia | omega))
      have h2 : v < p2 (4 * (2 - w)) := by grind
      rw [cmp_lt h2] at kl
      exact Nat.compare_eq_lt.mp kl.symm
  by_cases h1 : (2 ^ (w - 1) - 1) * 2 ^ (b + 1) ≤ T
  · rw [if_pos h1, if_pos (c1.mp h1)]
  · rw [if_neg h1, if_neg (fun h => h1 (c1.mpr h))]
    by_cases h2 : T < 2 ^ (b + 1)
    · rw [if_pos (by (first | lia | omega)), if_pos (c2.mp h2)]
    · rw [if_neg (fun h => h2 (c2.mpr h))]
      by_cases h3 : T ≤ 2 ^ (b + 1)
      · rw [if_pos h3]
        have : T = 2 ^ (b + 1) := by (first | lia | omega)
        have e : (T : Int) = 1 * 2 ^ (b + 1) := by rw [this, Int.natCast_pow, Int.one_mul]; rfl
        have := nev_scale 1 (b + 1) 0
        rw [e, show -((b + 1 : Nat) : Int) = 0 - ((b + 1 : Nat) : Int) by (first | lia | omega), this]
        rfl
      · rw [if_neg h3]
end Tap


namespace Tap
open Si06

/-- the pattern of m times 2^p, m with its sign -/
noncomputable def patOf (m p : Int) (w : Nat) : Int :=
  if m = 0 then 0 else if m < 0 then 2 ^ w - patAbove (-m).toNat p w else patAbove m.toNat p w

/-- a real number that compares with all that rounding asks as m times 2^p does -/
structure Like (w : Nat) (x : Real) (m p : Int) : Prop where
  zero : x (Q.ofInt 0) = compare m 0
  pos : 0 < m → ∀ w' u, (w' = w ∨ w' = w + 1) → 1 ≤ u → u < 2 ^ (w' - 1) → x (above w' u) = cmp ((m : Rat) * p2 p) (val (above w' u))
  neg : m < 0 → ∀ w' u, (w' = w ∨ w' = w + 1) → 1 ≤ u → u < 2 ^ (w' - 1) → x (above w' u).neg = cmp ((m : Rat) * p2 p) (-val (above w' u))

theorem cmp_neg (a b : Rat) : (cmp a (-b)).swap = cmp (-a) b := by
  unfold cmp
  rcases Rat.le_total (a := a) (b := -b) with h | h
  · by_cases h2 : a = -b
    · subst h2
      rw [if_neg Rat.lt_irrefl, if_pos rfl, if_neg (by grind), if_pos (by grind)]
      rfl
    · rw [if_pos (by grind), if_neg (by grind), if_neg (by grind)]
      rfl
  · by_cases h2 : a = -b
    · subst h2
      rw [if_neg Rat.lt_irrefl, if_pos rfl, if_neg (by grind), if_pos (by grind)]
      rfl
    · rw [if_neg (by grind), if_neg h2, if_pos (by grind)]
      rfl

theorem halve_range (f : Nat → Bool) : ∀ k lo hi, lo < hi → lo ≤ halve f k lo hi ∧ halve f k lo hi < hi
  | 0, lo, hi, h => by unfold halve; (first | lia | omega)
  | k + 1, lo, hi, h => by
    unfold halve
    split
    · (first | lia | omega)
    · split
      · have := halve_range f k ((lo + hi) / 2) hi (by (first | lia | omega))
        (first | lia | omega)
      · have := halve_range f k lo ((lo + hi) / 2) (by (first | lia | omega))
        (first | lia | omega)

theorem roundAbove_range (w : Nat) (x : Real) (hw : 3 ≤ w) : 1 ≤ roundAbove w x ∧ roundAbove w x < 2 ^ (w - 1) := by
  have hp : 4 ≤ 2 ^ (w - 1) := by
    have : 2 ^ 2 ≤ 2 ^ (w - 1) := Nat.pow_le_pow_right (by (first | lia | omega)) (by (first | lia | omega))
    exact this
  unfold roundAbove NONE
  split
  · (first | lia | omega)
  · split
    · (first | lia | omega)
    · dsimp only
      have := halve_range (fun m => x (above w m) != .lt) 70 1 (2 ^ (w - 1) - 1) (by (first | lia | omega))
      generalize halve (fun m => x (above w m) != .lt) 70 1 (2 ^ (w - 1) - 1) = u at *
      split
      · (first | lia | omega)
      · split
        · (first | lia | omega)
        · (first | lia | omega)
        · split <;> (first | lia | omega)

theorem like_round {w : Nat} {x : Real} {m p : Int} (hw : 3 ≤ w) (hw2 : w ≤ 70) (h : Like w x m p) : (roundOf w x : Int) = patOf m p w := by
  unfold roundOf patOf
  rw [h.zero]
  rcases Int.lt_trichotomy m 0 with h0 | h0 | h0
  · rw [Int.compare_eq_lt.mpr h0, if_neg (by (first | lia | omega)), if_pos h0]
    dsimp only
    obtain ⟨n, hn⟩ : ∃ n : Nat, -m = n := ⟨(-m).toNat, by (first | lia | omega)⟩
    have hm : (m : Rat) = -((n : Int) : Rat) := by rw [← Rat.intCast_neg]; congr 1; (first | lia | omega)
    have := round_main w n p (opposite x) hw hw2 (by (first | lia | omega)) (fun w' u a b c => by
      unfold opposite
      rw [h.neg h0 w' u a b c, cmp_neg, hm]
      congr 1
      grind)
    have hr := roundAbove_range w (opposite x) hw
    have h2 : 2 ^ (w - 1) ≤ 2 ^ w := Nat.pow_le_pow_right (by (first | lia | omega)) (by (first | lia | omega))
    rw [hn, Int.toNat_natCast, ← this, Int.ofNat_sub (by (first | lia | omega)), Int.natCast_pow]
    rfl
  · subst h0
    rw [if_pos rfl]
    rfl
  · rw [Int.compare_eq_gt.mpr h0, if_neg (by (first | lia | omega)), if_neg (by (first | lia | omega))]
    dsimp only
    obtain ⟨n, rfl⟩ := Int.eq_ofNat_of_zero_le (Int.le_of_lt h0)
    rw [Int.toNat_natCast]
    exact round_main w n p x hw hw2 (by (first | lia | omega)) (h.pos h0)

/-! ### fractions -/
theorem above_pos_d (w p : Nat) : 0 < (above w p).d := by
  unfold above
  exact scaled_pos _ _
theorem neg_pos_d {x : Q} (h : 0 < x.d) : 0 < x.neg.d := h
theorem val_zero : val (Q.ofInt 0) = 0 := by rw [val_ofInt]; rfl

theorem like_real (w : Nat) (q : Q) (m p : Int) (hd : 0 < q.d) (hv : val q = (m : Rat) * p2 p) : Like w q.real m p where
  zero := by
    unfold Q.real
    rw [order_cmp hd (by decide), val_zero, hv, cmp_int]
    have := cmp_scale (a := (m : Rat)) (b := 0) (p2_pos p)
    rw [Rat.zero_mul] at this
    rw [this]
    rfl
  pos := fun _ w' u _ _ _ => by
    unfold Q.real
    rw [order_cmp hd (above_pos_d _ _), hv]
  neg := fun _ w' u _ _ _ => by
    unfold Q.real
    rw [order_cmp hd (neg_pos_d (above_pos_d _ _)), hv, val_neg]

theorem give_real {w : Nat} {q : Q} {m p : Int} (hw : 3 ≤ w) (hw2 : w ≤ 70) (hd : 0 < q.d) (hv : val q = (m : Rat) * p2 p) :
    (roundOf w q.real : Int) = patOf m p w := like_round hw hw2 (like_real w q m p hd hv)

/-! ### what is cut off -/
theorem above_form (w u : Nat) (hw : 3 ≤ w) (hw2 : w ≤ 65) (h1 : 1 ≤ u) (h2 : u < 2 ^ (w - 1)) :
    ∃ (n : Nat) (k : Int), 1 ≤ n ∧ n < 2 ^ 62 ∧ val (above w u) = ((n : Int) : Rat) * p2 k := by
  have key : ∀ (r : Int) (left m : Nat), left ≤ 62 → ∃ (n : Nat) (k : Int), 1 ≤ n ∧ n < 2 ^ 62 ∧ val (mk r left m) = ((n : Int) : Rat) * p2 k := by
    intro r left m hl
    unfold mk
    dsimp only
    rw [val_scaled]
    refine ⟨_, _, ?_, ?_, rfl⟩
    · have := Nat.two_pow_pos (left - 2)
      (first | lia | omega)
    · have h3 : 2 ^ (left - 2) ≤ 2 ^ 60 := Nat.pow_le_pow_right (by (first | lia | omega)) (by (first | lia | omega))
      have h4 : m % 2 ^ (left - 2) < 2 ^ (left - 2) := Nat.mod_lt _ (Nat.two_pow_pos _)
      have h5 : 0 < 2 ^ (left - 2) := Nat.two_pow_pos _
      generalize 2 ^ (left - 2) = X at *
      split <;> (first | lia | omega)
  rcases cases_of w u h1 h2 hw with ⟨t, a, b, c⟩ | ⟨t, a, b, c⟩ | h
  · rw [above_neg w t u a b c]
    exact key _ _ _ (by (first | lia | omega))
  · rw [above_pos w t u a b c]
    exact key _ _ _ (by (first | lia | omega))
  · rw [h, above_top w (by (first | lia | omega))]
    exact key _ _ _ (by (first | lia | omega))

/-- a number between q and q + 1 (times 2^j) is as good as one with one 1 for all that is cut off, beside numbers of fewer bits -/
theorem sticky (o : Ordering) (q st n : Nat) (j k : Int) (hn : n < 2 ^ 62) (hq : 2 ^ 62 ≤ q) (hst : st ≤ 1)
    (H1 : ((n : Int) : Rat) * p2 k < ((q : Int) : Rat) * p2 j → o = .gt)
    (H2 : ∀ C : Nat, ((n : Int) : Rat) * p2 k = ((C : Int) : Rat) * p2 j → q ≤ C → o = if C = q then (if st = 0 then .eq else .gt) else .lt) :
    o = cmp (((2 * q + st : Nat) : Int) * p2 (j - 1)) (((n : Int) : Rat) * p2 k) := by
  have hj := p2_pos j
  have hj1 : p2 j = 2 * p2 (j - 1) := by
    have : p2 j = p2 (j - 1 + 1) := by congr 1; (first | lia | omega)
    rw [this, p2_add, p2_one]
    grind
  have hm : (((2 * q + st : Nat) : Int) : Rat) * p2 (j - 1) = ((q : Int) : Rat) * p2 j + ((st : Int) : Rat) * p2 (j - 1) := by
    rw [hj1, show (((2 * q + st : Nat) : Int)) = 2 * (q : Int) + (st : Int) by (first | lia | omega), Rat.intCast_add, Rat.intCast_mul]
    have : ((2 : Int) : Rat) = 2 := rfl
    grind
  have hst0 : (0 : Rat) ≤ ((st : Int) : Rat) := Rat.intCast_nonneg.mpr (by (first | lia | omega))
  have hst1 : ((st : Int) : Rat) ≤ 1 := Rat.intCast_le_intCast.mpr (show (st : Int) ≤ 1 by (first | lia | omega))
  have hj2 := p2_pos (j - 1)
  by_cases h : ((n : Int) : Rat) * p2 k < ((q : Int) : Rat) * p2 j
  · rw [H1 h, hm, cmp_gt]
    have := Rat.mul_nonneg hst0 (Rat.le_of_lt hj2)
    grind
  · have hk : j ≤ k := by
      by_cases hk : j ≤ k
      · exact hk
      · exfalso
        apply h
        have h1 : p2 k ≤ p2 j := p2_le (by (first | lia | omega))
        have h2 : ((n : Int) : Rat) < ((q : Int) : Rat) := Rat.intCast_lt_intCast.mpr (by (first | lia | omega))
        have h3 : (0 : Rat) ≤ ((n : Int) : Rat) := Rat.intCast_nonneg.mpr (by (first | lia | omega))
        have h4 := Rat.mul_le_mul_of_nonneg_left h1 h3
        have h5 := Rat.mul_lt_mul_of_pos_right h2 hj
        grind
    obtain ⟨d, rfl⟩ := Int.le.dest hk
    have hC : ((n : Int) : Rat) * p2 (j + d) = (((n * 2 ^ d : Nat) : Int) : Rat) * p2 j := by
      rw [p2_add, p2_nat, Int.natCast_mul, Rat.intCast_mul, Rat.intCast_natCast (2 ^ d)]
      grind
    rw [hC] at h ⊢
    generalize n * 2 ^ d = C at *
    have hqC : q ≤ C := by
      by_cases h1 : q ≤ C
      · exact h1
      · exfalso
        apply h
        exact Rat.mul_lt_mul_of_pos_right (Rat.intCast_lt_intCast.mpr (by (first | lia | omega))) hj
    rw [H2 C hC hqC, hm]
    by_cases hc : C = q
    · subst hc
      rw [if_pos rfl]
      by_cases hs : st = 0
      · subst hs
        rw [if_pos rfl, show (((0 : Nat) : Int) : Rat) = 0 from rfl, Rat.zero_mul, Rat.add_zero, cmp_self]
      · rw [if_neg hs, cmp_gt]
        have : ((st : Int) : Rat) = 1 := by
          have : st = 1 := by (first | lia | omega)
          rw [this]; rfl
        rw [this]
        grind
    · rw [if_neg hc, cmp_lt]
      have h1 : (((q + 1 : Nat) : Int) : Rat) ≤ ((C : Int) : Rat) := Rat.intCast_le_intCast.mpr (by (first | lia | omega))
      have h2 := Rat.mul_le_mul_of_nonneg_right h1 (Rat.le_of_lt hj)
      rw [show (((q + 1 : Nat) : Int) : Rat) = ((q : Int) : Rat) + 1 by rw [Int.natCast_add, Rat.intCast_add]; rfl] at h2
      have h3 := Rat.mul_le_mul_of_nonneg_right hst1 (Rat.le_of_lt hj2)
      grind
end Tap


namespace Tap
open Si06

theorem cmp_neg_neg (a b : Rat) : cmp (-a) (-b) = (cmp a b).swap := by
  have := cmp_neg a (-b)
  rw [Rat.neg_neg] at this
  exact this.symm

theorem cmp_nat (a b : Nat) : cmp ((a : Int) : Rat) ((b : Int) : Rat) = compare a b := by
  rw [← cmp_int]
  rcases Nat.lt_trichotomy a b with h | h | h
  · rw [cmpN_lt h, Int.compare_eq_lt.mpr (by (first | lia | omega))]
  · rw [Nat.compare_eq_eq.mpr h, Int.compare_eq_eq.mpr (by (first | lia | omega))]
  · rw [cmpN_gt h, Int.compare_eq_gt.mpr (by (first | lia | omega))]

theorem div_core (A D sh n : Nat) (e k : Int) (hD : 1 ≤ D) (hq : 2 ^ 62 ≤ A * 2 ^ sh / D) (hn : n < 2 ^ 62) :
    cmp (((A : Int) : Rat) / ((D : Int) : Rat) * p2 e) (((n : Int) : Rat) * p2 k) =
    cmp (((2 * (A * 2 ^ sh / D) + (if 0 < A * 2 ^ sh % D then 1 else 0) : Nat) : Int) * p2 (e - sh - 1)) (((n : Int) : Rat) * p2 k) := by
  have hD' : (0 : Rat) < ((D : Int) : Rat) := Rat.intCast_pos.mpr (by (first | lia | omega))
  have hDn : ((D : Int) : Rat) ≠ 0 := fun h => by rw [h] at hD'; exact Rat.lt_irrefl hD'
  have he : p2 e = ((2 ^ sh : Nat) : Rat) * p2 (e - sh) := by
    rw [← p2_nat, ← p2_add]
    congr 1
    (first | lia | omega)
  have hV : ((A : Int) : Rat) / ((D : Int) : Rat) * p2 e = ((A * 2 ^ sh : Nat) : Int) / ((D : Int) : Rat) * p2 (e - sh) := by
    rw [he, Int.natCast_mul, Rat.intCast_mul, Rat.intCast_natCast (2 ^ sh)]
    grind
  have hj := p2_pos (e - sh)
  have hdm := Nat.div_add_mod (A * 2 ^ sh) D
  have hml := Nat.mod_lt (A * 2 ^ sh) (show 0 < D by (first | lia | omega))
  rw [hV]
  generalize A * 2 ^ sh = N at *
  generalize hq' : N / D = q at *
  generalize N % D = r at *
  apply sticky _ q _ n (e - sh) k hn hq (by split <;> (first | lia | omega))
  · intro h
    apply cmp_gt
    have h1 : ((q : Int) : Rat) ≤ (N : Int) / ((D : Int) : Rat) := by
      have h2 : (((q * D : Nat) : Int) : Rat) ≤ ((N : Int) : Rat) := Rat.intCast_le_intCast.mpr (by rw [Nat.mul_comm]; (first | lia | omega))
      rw [Int.natCast_mul, Rat.intCast_mul] at h2
      have h3 : ¬ ((N : Int) : Rat) / ((D : Int) : Rat) < ((q : Int) : Rat) := fun h' => by
        have := (Rat.div_lt_iff hD').mp h'
        grind
      exact Rat.not_lt.mp h3
    have h2 := Rat.mul_le_mul_of_nonneg_right h1 (Rat.le_of_lt hj)
    grind
  · intro C hC hqC
    rw [hC, cmp_scale hj, ← cmp_scale hD']
    have e1 : ((N : Int) : Rat) / ((D : Int) : Rat) * ((D : Int) : Rat) = ((N : Int) : Rat) := Rat.div_mul_cancel hDn
    rw [e1, ← Rat.intCast_mul, ← Int.natCast_mul, cmp_nat]
    by_cases hc : C = q
    · subst hc
      rw [if_pos rfl]
      rw [Nat.mul_comm] at hdm
      by_cases hr : 0 < r
      · rw [if_neg (by rw [if_pos hr]; decide), cmpN_gt (by (first | lia | omega))]
      · rw [if_pos (by rw [if_neg hr]), Nat.compare_eq_eq.mpr (by (first | lia | omega))]
    · rw [if_neg hc, cmpN_lt]
      have : (q + 1) * D ≤ C * D := Nat.mul_le_mul_right D (by (first | lia | omega))
      rw [Nat.add_mul, Nat.one_mul, Nat.mul_comm q D] at this
      (first | lia | omega)

/-- m with the sign of a quotient -/
noncomputable def divM (ma mb : Int) (sh : Nat) : Int :=
  let M : Int := 2 * ((ma.natAbs * 2 ^ sh / mb.natAbs : Nat) : Int) + (if 0 < ma.natAbs * 2 ^ sh % mb.natAbs then 1 else 0)
  if (ma < 0) = (mb < 0) then M else -M

theorem natAbs_rat (a : Int) : ((a.natAbs : Int) : Rat) = if a < 0 then -(a : Rat) else (a : Rat) := by
  split
  · rw [← Rat.intCast_neg]; congr 1; (first | lia | omega)
  · congr 1; (first | lia | omega)

theorem cmp_zero_pos {a : Rat} (h : 0 < a) : cmp a 0 = .gt := cmp_gt h

theorem div_q (A D sh : Nat) (hA : 1 ≤ A) (hD : 1 ≤ D) (hsh : D.log2 + 63 ≤ sh) : 2 ^ 62 ≤ A * 2 ^ sh / D := by
  rw [Nat.le_div_iff_mul_le (by (first | lia | omega))]
  have h1 : D < 2 ^ (D.log2 + 1) := Nat.lt_log2_self
  have h2 : 2 ^ (D.log2 + 1) * 2 ^ 62 ≤ 2 ^ sh := by
    rw [← Nat.pow_add]
    exact Nat.pow_le_pow_right (by (first | lia | omega)) (by (first | lia | omega))
  have h3 : 2 ^ sh ≤ A * 2 ^ sh := Nat.le_mul_of_pos_left _ hA
  have h4 : D * 2 ^ 62 ≤ 2 ^ (D.log2 + 1) * 2 ^ 62 := Nat.mul_le_mul_right _ (by (first | lia | omega))
  rw [Nat.mul_comm]
  exact Nat.le_trans h4 (Nat.le_trans h2 h3)

theorem like_div (w : Nat) (hw : 3 ≤ w) (hw2 : w ≤ 64) (x y : Q) (hx : 0 < x.d) (hy : 0 < y.d) (ma pa mb pb : Int) (sh : Nat)
    (hvx : val x = (ma : Rat) * p2 pa) (hvy : val y = (mb : Rat) * p2 pb) (hb : mb ≠ 0) (hsh : mb.natAbs.log2 + 63 ≤ sh) :
    Like w (x.div y).real (divM ma mb sh) (pa - pb - sh - 1) := by
  have hpb := p2_pos pb
  have hbr : (mb : Rat) ≠ 0 := fun h => hb (Rat.intCast_eq_zero_iff.mp h)
  have hyn : y.n ≠ 0 := by
    intro h
    have : val y = 0 := by
      unfold val
      rw [h]
      show (0 : Rat) / _ = 0
      rw [Rat.div_def, Rat.zero_mul]
    rw [this] at hvy
    rcases Rat.mul_eq_zero.mp hvy.symm with h | h
    · exact hbr h
    · rw [h] at hpb; exact Rat.lt_irrefl hpb
  have hd : 0 < (x.div y).d := Nat.mul_pos hx (Int.natAbs_pos.mpr hyn)
  have hpe : p2 pa = p2 (pa - pb) * p2 pb := by
    rw [← p2_add]
    congr 1
    (first | lia | omega)
  have hvq : val (x.div y) = (ma : Rat) / (mb : Rat) * p2 (pa - pb) := by
    rw [val_div hx hy hyn, hvx, hvy, hpe]
    have : p2 pb ≠ 0 := fun h => by rw [h] at hpb; exact Rat.lt_irrefl hpb
    grind
  by_cases ha : ma = 0
  · subst ha
    have hm0 : divM 0 mb sh = 0 := by
      unfold divM
      simp
    rw [hm0]
    apply like_real w _ 0 _ hd
    rw [hvq, show ((0 : Int) : Rat) = 0 from rfl, Rat.div_def, Rat.zero_mul, Rat.zero_mul, Rat.zero_mul]
  · have hA : 1 ≤ ma.natAbs := Int.natAbs_pos.mpr ha
    have hD : 1 ≤ mb.natAbs := Int.natAbs_pos.mpr hb
    have hq := div_q ma.natAbs mb.natAbs sh hA hD hsh
    have hDr : (0 : Rat) < ((mb.natAbs : Int) : Rat) := Rat.intCast_pos.mpr (by (first | lia | omega))
    have hAr : (0 : Rat) < ((ma.natAbs : Int) : Rat) := Rat.intCast_pos.mpr (by (first | lia | omega))
    have hj := p2_pos (pa - pb)
    have hVpos : 0 < ((ma.natAbs : Int) : Rat) / ((mb.natAbs : Int) : Rat) * p2 (pa - pb) := by
      rw [Rat.div_def]
      exact Rat.mul_pos (Rat.mul_pos hAr (Rat.inv_pos.mpr hDr)) hj
    have hM : ((2 * (ma.natAbs * 2 ^ sh / mb.natAbs) + (if 0 < ma.natAbs * 2 ^ sh % mb.natAbs then 1 else 0) : Nat) : Int) = 2 * ((ma.natAbs * 2 ^ sh / mb.natAbs : Nat) : Int) + (if 0 < ma.natAbs * 2 ^ sh % mb.natAbs then 1 else 0) := by
      split <;> (first | lia | omega)
    have hsame : ∀ c : Q, 0 < c.d → (∃ (n : Nat) (k : Int), 1 ≤ n ∧ n < 2 ^ 62 ∧ val c = ((n : Int) : Rat) * p2 k) →
        cmp (((ma.natAbs : Int) : Rat) / ((mb.natAbs : Int) : Rat) * p2 (pa - pb)) (val c) =
        cmp (((2 * ((ma.natAbs * 2 ^ sh / mb.natAbs : Nat) : Int) + (if 0 < ma.natAbs * 2 ^ sh % mb.natAbs then 1 else 0) : Int) : Rat) * p2 (pa - pb - sh - 1)) (val c) := by
      intro c hc ⟨n, k, _, h2, h3⟩
      rw [h3, div_core _ _ sh n (pa - pb) k hD hq h2, hM]
    unfold divM
    dsimp only
    generalize hMM : (2 * ((ma.natAbs * 2 ^ sh / mb.natAbs : Nat) : Int) + (if 0 < ma.natAbs * 2 ^ sh % mb.natAbs then 1 else 0)) = M at *
    have hMpos : 0 < M := by
      rw [← hMM]
      have : 0 < ma.natAbs * 2 ^ sh / mb.natAbs := by (first | lia | omega)
      split <;> (first | lia | omega)
    by_cases hs : (ma < 0) = (mb < 0)
    · have hvv : val (x.div y) = ((ma.natAbs : Int) : Rat) / ((mb.natAbs : Int) : Rat) * p2 (pa - pb) := by
        rw [hvq, natAbs_rat, natAbs_rat]
        by_cases h0 : ma < 0
        · rw [if_pos h0, if_pos (by rw [← hs]; exact h0)]
          grind
        · rw [if_neg h0, if_neg (by rw [← hs]; exact h0)]
      rw [if_pos hs]
      refine ⟨?_, fun _ w' u a b c => ?_, fun h => absurd h (by (first | lia | omega))⟩
      · unfold Q.real
        rw [order_cmp hd (by decide), val_zero, hvv, cmp_zero_pos hVpos, Int.compare_eq_gt.mpr hMpos]
      · unfold Q.real
        rw [order_cmp hd (above_pos_d _ _), hvv]
        exact hsame _ (above_pos_d _ _) (above_form w' u (by (first | lia | omega)) (by (first | lia | omega)) b c)
    · have hvv : val (x.div y) = -(((ma.natAbs : Int) : Rat) / ((mb.natAbs : Int) : Rat) * p2 (pa - pb)) := by
        rw [hvq, natAbs_rat, natAbs_rat]
        by_cases h0 : ma < 0
        · rw [if_pos h0, if_neg (fun h => hs (by rw [eq_iff_iff]; exact ⟨fun _ => h, fun _ => h0⟩))]
          grind
        · rw [if_neg h0, if_pos (by
            by_cases h1 : mb < 0
            · exact h1
            · exact absurd (by rw [eq_iff_iff]; exact ⟨fun h => absurd h h0, fun h => absurd h h1⟩) hs)]
          grind
      rw [if_neg hs]
      refine ⟨?_, fun h => absurd h (by (first | lia | omega)), fun _ w' u a b c => ?_⟩
      · unfold Q.real
        rw [order_cmp hd (by decide), val_zero, hvv, cmp_lt (by grind), Int.compare_eq_lt.mpr (by (first | lia | omega))]
      · unfold Q.real
        rw [order_cmp hd (neg_pos_d (above_pos_d _ _)), hvv, val_neg, cmp_neg_neg, hsame _ (above_pos_d _ _) (above_form w' u (by (first | lia | omega)) (by (first | lia | omega)) b c), ← cmp_neg_neg, Rat.intCast_neg]
        congr 1
        grind

/-! ### the root -/
theorem sq_lt {a b : Rat} (h0 : 0 ≤ a) (h : a < b) : a * a < b * b := by
  have hb : 0 < b := by grind
  have h1 := Rat.mul_le_mul_of_nonneg_left (Rat.le_of_lt h) h0
  have h2 := Rat.mul_lt_mul_of_pos_right h hb
  grind

theorem like_root (w : Nat) (hw : 3 ≤ w) (hw2 : w ≤ 64) (x : Q) (hx : 0 < x.d) (m : Nat) (p : Int) (hm : 1 ≤ m) (hv : val x = ((m : Int) : Rat) * p2 p)
    (sh found : Nat) (j : Int) (hj : p - sh = 2 * j) (hf : found * found ≤ m * 2 ^ sh) (hf2 : m * 2 ^ sh < (found + 1) * (found + 1)) (hq : 2 ^ 62 ≤ found) :
    Like w (root x) (2 * (found : Int) + (if found * found < m * 2 ^ sh then 1 else 0)) (j - 1) := by
  have hxr : (0 : Rat) < (x.d : Rat) := Rat.natCast_pos.mpr hx
  have hmr : (0 : Rat) < ((m : Int) : Rat) := Rat.intCast_pos.mpr (by (first | lia | omega))
  have hxv : 0 < val x := by rw [hv]; exact Rat.mul_pos hmr (p2_pos p)
  have hxn : 0 < x.n := by
    have h1 : (x.n : Rat) = val x * (x.d : Rat) := by
      unfold val
      have : (x.d : Rat) ≠ 0 := fun h => by rw [h] at hxr; exact Rat.lt_irrefl hxr
      rw [Rat.div_mul_cancel this]
    have h2 : (0 : Rat) < (x.n : Rat) := by rw [h1]; exact Rat.mul_pos hxv hxr
    exact Rat.intCast_pos.mp h2
  have hMpos : (0 : Int) < 2 * (found : Int) + (if found * found < m * 2 ^ sh then 1 else 0) := by split <;> (first | lia | omega)
  refine ⟨?_, fun _ w' u a b c => ?_, fun h => absurd h (by (first | lia | omega))⟩
  · unfold root Q.ofInt
    dsimp only
    rw [if_neg (by decide), Int.compare_eq_gt.mpr hMpos, Int.compare_eq_gt.mpr (by (first | lia | omega))]
  · obtain ⟨n, k, hn1, hn2, hc⟩ := above_form w' u (by (first | lia | omega)) (by (first | lia | omega)) b c
    have hcd := above_pos_d w' u
    generalize above w' u = cc at *
    have hnr : (0 : Rat) < ((n : Int) : Rat) := Rat.intCast_pos.mpr (by (first | lia | omega))
    have hcv : 0 < val cc := by rw [hc]; exact Rat.mul_pos hnr (p2_pos k)
    have hcr : (0 : Rat) < (cc.d : Rat) := Rat.natCast_pos.mpr hcd
    have hcnn : (cc.d : Rat) ≠ 0 := fun h => by rw [h] at hcr; exact Rat.lt_irrefl hcr
    have hxnn : (x.d : Rat) ≠ 0 := fun h => by rw [h] at hxr; exact Rat.lt_irrefl hxr
    have hcn : 0 < cc.n := by
      have h1 : (cc.n : Rat) = val cc * (cc.d : Rat) := by
        unfold val
        rw [Rat.div_mul_cancel hcnn]
      have h2 : (0 : Rat) < (cc.n : Rat) := by rw [h1]; exact Rat.mul_pos hcv hcr
      exact Rat.intCast_pos.mp h2
    have hroot : root x cc = cmp (val x) (val cc * val cc) := by
      unfold root
      rw [if_neg (by (first | lia | omega)), cmp_int]
      have h3 : (0 : Rat) < (x.d : Rat) * ((cc.d : Rat) * (cc.d : Rat)) := Rat.mul_pos hxr (Rat.mul_pos hcr hcr)
      rw [← cmp_scale (a := val x) (b := val cc * val cc) h3]
      unfold val
      simp only [Rat.intCast_mul, Rat.intCast_natCast, Rat.natCast_mul]
      congr 1 <;> grind
    have hp2 : p2 p = ((2 ^ sh : Nat) : Rat) * (p2 j * p2 j) := by
      rw [← p2_nat, ← p2_add, ← p2_add]
      congr 1
      (first | lia | omega)
    have hxs : val x = (((m * 2 ^ sh : Nat) : Int) : Rat) * (p2 j * p2 j) := by
      rw [hv, hp2, Int.natCast_mul, Rat.intCast_mul, Rat.intCast_natCast (2 ^ sh)]
      grind
    have hjp := p2_pos j
    have hjj := Rat.mul_pos hjp hjp
    rw [hroot, hxs, hc]
    generalize m * 2 ^ sh = S at *
    have hM : ((2 * found + (if found * found < S then 1 else 0) : Nat) : Int) = 2 * (found : Int) + (if found * found < S then 1 else 0) := by
      split <;> (first | lia | omega)
    rw [← hM]
    apply sticky _ found _ n j k hn2 hq (by split <;> (first | lia | omega))
    · intro h
      apply cmp_gt
      have h0 : (0 : Rat) ≤ ((n : Int) : Rat) * p2 k := Rat.le_of_lt (Rat.mul_pos hnr (p2_pos k))
      have h1 := sq_lt h0 h
      have h2 : (((found * found : Nat) : Int) : Rat) ≤ ((S : Int) : Rat) := Rat.intCast_le_intCast.mpr (by (first | lia | omega))
      have h3 := Rat.mul_le_mul_of_nonneg_right h2 (Rat.le_of_lt hjj)
      rw [Int.natCast_mul, Rat.intCast_mul] at h3
      grind
    · intro C hC hqC
      rw [hC]
      have e1 : ((C : Int) : Rat) * p2 j * (((C : Int) : Rat) * p2 j) = (((C * C : Nat) : Int) : Rat) * (p2 j * p2 j) := by
        rw [Int.natCast_mul, Rat.intCast_mul]
        grind
      rw [e1, cmp_scale hjj, cmp_nat]
      by_cases hc : C = found
      · subst hc
        rw [if_pos rfl]
        by_cases hr : C * C < S
        · rw [if_neg (by rw [if_pos hr]; decide), cmpN_gt hr]
        · rw [if_pos (by rw [if_neg hr]), Nat.compare_eq_eq.mpr (by (first | lia | omega))]
      · rw [if_neg hc, cmpN_lt]
        have : (found + 1) * (found + 1) ≤ C * C := Nat.mul_le_mul (by (first | lia | omega)) (by (first | lia | omega))
        (first | lia | omega)
end Tap


namespace Tap
open Si06

/-! ### a pattern's number, as the program reads it -/
noncomputable def bl (n : Nat) : Nat := if n = 0 then 0 else n.log2 + 1
noncomputable def runN (w p : Nat) : Nat := if 2 ^ (w - 2) ≤ p then (w - 1) - bl (2 ^ (w - 1) - 1 - p) else (w - 1) - bl p
noncomputable def runR (w p : Nat) : Int := if 2 ^ (w - 2) ≤ p then (runN w p : Int) - 1 else -(runN w p : Int)
noncomputable def leftN (w p : Nat) : Nat := (w - 1) - runN w p - 1
noncomputable def tailN (w p : Nat) : Nat := p % 2 ^ leftN w p
noncomputable def mantN (w p : Nat) : Nat := 2 ^ (leftN w p - 2) + tailN w p % 2 ^ (leftN w p - 2)
noncomputable def powN (w p : Nat) : Int := 4 * runR w p + ((tailN w p * 4 / 2 ^ leftN w p : Nat) : Int) - ((leftN w p - 2 : Nat) : Int)

theorem bl_of {n t : Nat} (h1 : 2 ^ t ≤ n) (h2 : n < 2 ^ (t + 1)) : bl n = t + 1 := by
  have h0 : n ≠ 0 := by have := Nat.two_pow_pos t; (first | lia | omega)
  unfold bl
  rw [if_neg h0]
  have a := Nat.log2_self_le h0
  have b : n < 2 ^ (n.log2 + 1) := Nat.lt_log2_self
  have c : n.log2 < t + 1 := (Nat.pow_lt_pow_iff_right (a := 2) (by (first | lia | omega))).mp (by (first | lia | omega))
  have d : t < n.log2 + 1 := (Nat.pow_lt_pow_iff_right (a := 2) (by (first | lia | omega))).mp (by (first | lia | omega))
  (first | lia | omega)

theorem mk_code (r : Int) (t m : Nat) (hm : m < 2 ^ t) :
    mk r t m = Q.scaled ((2 ^ (t - 2) + m % 2 ^ (t - 2) : Nat) : Int) (4 * r + ((m * 4 / 2 ^ t : Nat) : Int) - ((t - 2 : Nat) : Int)) := by
  unfold mk
  dsimp only
  by_cases h2 : 2 ≤ t
  · rw [if_pos h2, if_pos h2]
    obtain ⟨F, rfl⟩ : ∃ F, t = F + 2 := ⟨t - 2, by (first | lia | omega)⟩
    have e : m * 4 / 2 ^ (F + 2) = m / 2 ^ F := by
      rw [pow_s2, Nat.mul_comm 4, Nat.mul_div_mul_right _ _ (by (first | lia | omega))]
    rw [show F + 2 - 2 = F by (first | lia | omega), e]
  · have : t = 0 ∨ t = 1 := by (first | lia | omega)
    rcases this with rfl | rfl
    · have : m = 0 := by simpa using hm
      subst this
      rfl
    · have : m = 0 ∨ m = 1 := by (first | lia | omega)
      rcases this with rfl | rfl <;> rfl

theorem pos_tail (w t p : Nat) (a : 2 ^ (w - 1) ≤ p + 2 ^ (t + 1)) (b : p + 2 ^ t < 2 ^ (w - 1)) (c : t + 3 ≤ w) :
    p % 2 ^ t = p + 2 ^ (t + 1) - 2 ^ (w - 1) := by
  have e : 2 ^ (w - 1) = 2 ^ t * 2 ^ (w - 1 - t) := by rw [← Nat.pow_add]; congr 1; (first | lia | omega)
  have h1 := pow_s t
  have h2 : 2 ^ (w - 1 - t) = 4 * 2 ^ (w - 3 - t) := by rw [← pow_s2]; congr 1; (first | lia | omega)
  have h3 := Nat.two_pow_pos (w - 3 - t)
  generalize 2 ^ (w - 3 - t) = Z at *
  rw [h2] at e
  have h4 : 2 ^ t * (4 * Z) = 2 ^ t * (4 * Z - 2) + 2 * 2 ^ t := by
    have : 4 * Z = (4 * Z - 2) + 2 := by (first | lia | omega)
    rw [this, Nat.mul_add, Nat.mul_comm (2 ^ t) 2, Nat.add_sub_cancel]
  have h5 : p = (p + 2 ^ (t + 1) - 2 ^ (w - 1)) + 2 ^ t * (4 * Z - 2) := by
    generalize 2 ^ t * (4 * Z - 2) = Y at *
    (first | lia | omega)
  have h6 : p + 2 ^ (t + 1) - 2 ^ (w - 1) < 2 ^ t := by (first | lia | omega)
  generalize p + 2 ^ (t + 1) - 2 ^ (w - 1) = m at *
  rw [h5, Nat.add_mul_mod_self_left, Nat.mod_eq_of_lt h6]

/-- **the program's reading of a pattern above 0** -/
theorem above_code (w p : Nat) (h1 : 1 ≤ p) (h2 : p < 2 ^ (w - 1)) (hw : 3 ≤ w) : above w p = Q.scaled (mantN w p : Int) (powN w p) := by
  have hh : 2 ^ (w - 1) = 2 * 2 ^ (w - 2) := by rw [← pow_s]; congr 1; (first | lia | omega)
  rcases cases_of w p h1 h2 hw with ⟨t, a, b, c⟩ | ⟨t, a, b, c⟩ | h
  · have hlt : p < 2 ^ (w - 2) := by
      have : 2 ^ (t + 1) ≤ 2 ^ (w - 2) := Nat.pow_le_pow_right (by (first | lia | omega)) (by (first | lia | omega))
      (first | lia | omega)
    have e1 : runN w p = w - 2 - t := by unfold runN; rw [if_neg (by (first | lia | omega)), bl_of a b]; (first | lia | omega)
    have e2 : runR w p = (t : Int) + 2 - w := by unfold runR; rw [if_neg (by (first | lia | omega)), e1]; (first | lia | omega)
    have e3 : leftN w p = t := by unfold leftN; rw [e1]; (first | lia | omega)
    have e4 : tailN w p = p - 2 ^ t := by
      unfold tailN
      rw [e3, Nat.mod_eq_sub_mod a, Nat.mod_eq_of_lt]
      rw [Nat.pow_succ] at b
      (first | lia | omega)
    rw [above_neg w t p a b c, mk_code _ _ _ (by rw [Nat.pow_succ] at b; (first | lia | omega))]
    unfold mantN powN
    rw [e2, e3, e4]
  · have hlt : 2 ^ (w - 2) ≤ p := by
      have : 2 ^ (t + 1) ≤ 2 ^ (w - 2) := Nat.pow_le_pow_right (by (first | lia | omega)) (by (first | lia | omega))
      (first | lia | omega)
    have hs := pow_s t
    have e0 : bl (2 ^ (w - 1) - 1 - p) = t + 1 := bl_of (by (first | lia | omega)) (by (first | lia | omega))
    have e1 : runN w p = w - 2 - t := by unfold runN; rw [if_pos hlt, e0]; (first | lia | omega)
    have e2 : runR w p = (w : Int) - 3 - t := by unfold runR; rw [if_pos hlt, e1]; (first | lia | omega)
    have e3 : leftN w p = t := by unfold leftN; rw [e1]; (first | lia | omega)
    have e4 : tailN w p = p + 2 ^ (t + 1) - 2 ^ (w - 1) := by
      unfold tailN
      rw [e3]
      exact pos_tail w t p a b c
    rw [above_pos w t p a b c, mk_code _ _ _ (by (first | lia | omega))]
    unfold mantN powN
    rw [e2, e3, e4]
  · have hlt : 2 ^ (w - 2) ≤ p := by
      have : 1 ≤ 2 ^ (w - 2) := Nat.two_pow_pos _
      (first | lia | omega)
    have e0 : bl (2 ^ (w - 1) - 1 - p) = 0 := by
      rw [show 2 ^ (w - 1) - 1 - p = 0 by (first | lia | omega)]
      rfl
    have e1 : runN w p = w - 1 := by unfold runN; rw [if_pos hlt, e0]; (first | lia | omega)
    have e2 : runR w p = (w : Int) - 2 := by unfold runR; rw [if_pos hlt, e1]; (first | lia | omega)
    have e3 : leftN w p = 0 := by unfold leftN; rw [e1]; (first | lia | omega)
    have e4 : tailN w p = 0 := by unfold tailN; rw [e3, Nat.pow_zero, Nat.mod_one]
    have e5 : above w p = mk (w - 2) 0 0 := by rw [h]; exact above_top w (by (first | lia | omega))
    rw [e5, mk_code _ _ _ (by decide)]
    unfold mantN powN
    rw [e2, e3, e4]

theorem runN_le (w p : Nat) : runN w p ≤ w - 1 := by unfold runN; split <;> (first | lia | omega)
theorem mantN_pos (w p : Nat) : 1 ≤ mantN w p := by
  unfold mantN
  have := Nat.two_pow_pos (leftN w p - 2)
  (first | lia | omega)
theorem leftN_le (w p : Nat) (h1 : 1 ≤ p) (h2 : p < 2 ^ (w - 1)) (hw : 3 ≤ w) : leftN w p + 3 ≤ w := by
  unfold leftN
  have hr : 1 ≤ runN w p := by
    have hh : 2 ^ (w - 1) = 2 * 2 ^ (w - 2) := by rw [← pow_s]; congr 1; (first | lia | omega)
    unfold runN
    have key : ∀ n, n < 2 ^ (w - 2) → bl n ≤ w - 2 := by
      intro n hn
      unfold bl
      split
      · (first | lia | omega)
      · rename_i h0
        have := (Nat.log2_lt h0).mpr hn
        (first | lia | omega)
    split
    · have := key (2 ^ (w - 1) - 1 - p) (by (first | lia | omega))
      (first | lia | omega)
    · have := key p (by (first | lia | omega))
      (first | lia | omega)
  (first | lia | omega)
theorem mantN_lt (w p : Nat) (h1 : 1 ≤ p) (h2 : p < 2 ^ (w - 1)) (hw : 3 ≤ w) (hw2 : w ≤ 64) : mantN w p < 2 ^ 61 := by
  have hl := leftN_le w p h1 h2 hw
  unfold mantN
  have h3 : 2 ^ (leftN w p - 2) ≤ 2 ^ 59 := Nat.pow_le_pow_right (by (first | lia | omega)) (by (first | lia | omega))
  have h4 : tailN w p % 2 ^ (leftN w p - 2) < 2 ^ (leftN w p - 2) := Nat.mod_lt _ (Nat.two_pow_pos _)
  generalize 2 ^ (leftN w p - 2) = X at *
  generalize tailN w p % X = y at *
  have : (2 : Nat) ^ 61 = 4 * 2 ^ 59 := rfl
  (first | lia | omega)
theorem powN_le (w p : Nat) (h1 : 1 ≤ p) (h2 : p < 2 ^ (w - 1)) (hw : 3 ≤ w) (hw2 : w ≤ 64) : -320 ≤ powN w p ∧ powN w p ≤ 320 := by
  have hl := leftN_le w p h1 h2 hw
  have hr := runN_le w p
  have he : tailN w p * 4 / 2 ^ leftN w p < 4 := by
    have : tailN w p < 2 ^ leftN w p := Nat.mod_lt _ (Nat.two_pow_pos _)
    apply (Nat.div_lt_iff_lt_mul (Nat.two_pow_pos _)).mpr
    rw [Nat.mul_comm]
    exact Nat.mul_lt_mul_of_pos_left this (by decide)
  unfold powN runR
  generalize tailN w p * 4 / 2 ^ leftN w p = e at *
  split <;> (first | lia | omega)

/-! ### with a sign; no number -/
theorem scaled_neg (n s : Int) : (Q.scaled n s).neg = Q.scaled (-n) s := by
  unfold Q.scaled Q.neg
  split
  · dsimp only
    rw [Int.neg_mul]
  · rfl
noncomputable def mantS (w p : Nat) : Int := if p = 0 then 0 else if p < 2 ^ (w - 1) then mantN w p else -(mantN w (2 ^ w - p) : Int)
noncomputable def powS (w p : Nat) : Int := if p = 0 then 0 else if p < 2 ^ (w - 1) then powN w p else powN w (2 ^ w - p)
theorem says_code (w p : Nat) (hp : p < 2 ^ w) (hw : 3 ≤ w) : says w p = if p = 2 ^ (w - 1) then none else some (Q.scaled (mantS w p) (powS w p)) := by
  have hh : 2 ^ w = 2 * 2 ^ (w - 1) := by rw [← pow_s]; congr 1; (first | lia | omega)
  have h0 := Nat.two_pow_pos (w - 1)
  unfold says NONE mantS powS
  by_cases hz : p = 0
  · subst hz
    rw [if_pos rfl, if_neg (by (first | lia | omega)), if_pos rfl, if_pos rfl]
    rfl
  · rw [if_neg hz, if_neg hz, if_neg hz]
    by_cases hn : p = 2 ^ (w - 1)
    · rw [if_pos hn, if_pos hn]
    · rw [if_neg hn, if_neg hn]
      by_cases hl : p < 2 ^ (w - 1)
      · rw [if_pos hl, if_pos hl, if_pos hl, above_code w p (by (first | lia | omega)) hl hw]
      · rw [if_neg hl, if_neg hl, if_neg hl, above_code w (2 ^ w - p) (by (first | lia | omega)) (by (first | lia | omega)) hw, scaled_neg]

/-! ### the whole number next to one -/
theorem whole_scaled (m p : Int) : (Q.scaled m p).whole = nev m p := by
  unfold Q.scaled Q.whole nev
  by_cases h : 0 ≤ p
  · rw [if_pos h, if_pos h]
    dsimp only
    have e : ((1 : Nat) : Int) = 1 := rfl
    rw [e, Int.ediv_one, Int.mul_one, Int.sub_self, if_pos (by decide)]
  · rw [if_neg h, if_neg h]
    dsimp only
    obtain ⟨k, hk⟩ : ∃ k, (-p).toNat = k + 1 := ⟨(-p).toNat - 1, by (first | lia | omega)⟩
    rw [hk, Nat.add_sub_cancel]
    have e1 : ((2 ^ (k + 1) : Nat) : Int) = 2 ^ (k + 1) := by rw [Int.natCast_pow]; rfl
    have e2 : (2 : Int) ^ (k + 1) = 2 * 2 ^ k := by rw [Int.pow_succ, Int.mul_comm]
    rw [e1]
    generalize m / 2 ^ (k + 1) = f at *
    rw [e2]
    generalize hX : (2 : Int) ^ k = X at *
    generalize hr : m - f * (2 * X) = r at *
    by_cases h1 : 2 * r < 2 * X
    · rw [if_pos h1, if_neg (by (first | lia | omega))]
    · rw [if_neg h1]
      by_cases h2 : 2 * X < 2 * r
      · rw [if_pos h2, if_pos (by (first | lia | omega))]
      · rw [if_neg h2]
        by_cases h3 : f % 2 = 0
        · rw [if_pos h3, if_neg (by (first | lia | omega))]
        · rw [if_neg h3, if_pos (by (first | lia | omega))]

/-! ### sums -/
theorem reduced_val (x : Q) (h : 0 < x.d) : val (reduced x) = val x ∧ 0 < (reduced x).d := by
  have hg : 0 < Nat.gcd x.n.natAbs x.d := Nat.gcd_pos_of_pos_right _ h
  have hd : Nat.gcd x.n.natAbs x.d ∣ x.d := Nat.gcd_dvd_right ..
  have hn : ((Nat.gcd x.n.natAbs x.d : Nat) : Int) ∣ x.n := by
    rw [← Int.dvd_natAbs]
    exact Int.natCast_dvd_natCast.mpr (Nat.gcd_dvd_left ..)
  unfold reduced val
  dsimp only
  generalize Nat.gcd x.n.natAbs x.d = g at *
  obtain ⟨a, ha⟩ := hd
  obtain ⟨b, hb⟩ := hn
  have ha0 : 0 < a := by
    rcases Nat.eq_zero_or_pos a with h0 | h0
    · subst h0; (first | lia | omega)
    · exact h0
  rw [ha, hb, Nat.mul_div_cancel_left _ hg, Int.mul_ediv_cancel_left _ (by (first | lia | omega))]
  refine ⟨?_, ha0⟩
  have h1 : (0 : Rat) < (g : Rat) := Rat.natCast_pos.mpr hg
  have h2 : (0 : Rat) < (a : Rat) := Rat.natCast_pos.mpr ha0
  have h1' : (g : Rat) ≠ 0 := fun e => by rw [e] at h1; exact Rat.lt_irrefl h1
  have h2' : (a : Rat) ≠ 0 := fun e => by rw [e] at h2; exact Rat.lt_irrefl h2
  rw [Rat.intCast_mul, Rat.natCast_mul, Rat.intCast_natCast]
  grind

/-- a sum of two numbers, brought to the lower power -/
theorem add_val (m p n q : Int) : (((m * 2 ^ (p - min p q).toNat + n * 2 ^ (q - min p q).toNat : Int)) : Rat) * p2 (min p q) = (m : Rat) * p2 p + (n : Rat) * p2 q := by
  have key : ∀ (x r l : Int), l ≤ r → (((x * 2 ^ (r - l).toNat : Int)) : Rat) * p2 l = (x : Rat) * p2 r := by
    intro x r l h
    obtain ⟨k, rfl⟩ := Int.le.dest h
    rw [show (l + (k : Int) - l).toNat = k by (first | lia | omega), p2_add, p2_nat, Rat.intCast_mul, Rat.intCast_pow, Rat.natCast_pow]
    have : ((2 : Int) : Rat) = 2 := rfl
    have : ((2 : Nat) : Rat) = 2 := rfl
    grind
  rw [Rat.intCast_add, Rat.add_mul, key m p (min p q) (by (first | lia | omega)), key n q (min p q) (by (first | lia | omega))]
theorem mul_val (m p n q : Int) : ((m * n : Int) : Rat) * p2 (p + q) = (m : Rat) * p2 p * ((n : Rat) * p2 q) := by
  rw [p2_add, Rat.intCast_mul]
  grind

/-! ### the root by Newton's steps -/
theorem newton_above (n g : Nat) (hg : 0 < g) : n < ((g + n / g) / 2 + 1) * ((g + n / g) / 2 + 1) := by
  have h1 := Nat.div_add_mod n g
  have h2 := Nat.mod_lt n hg
  generalize n / g = a at *
  generalize n % g = r at *
  have h3 : g + a + 1 ≤ 2 * ((g + a) / 2 + 1) := by (first | lia | omega)
  generalize (g + a) / 2 + 1 = b at *
  have h4 : (g + a + 1) * (g + a + 1) ≤ 2 * b * (2 * b) := Nat.mul_le_mul h3 h3
  have h5 : 4 * (g * (a + 1)) ≤ (g + (a + 1)) * (g + (a + 1)) := by
    generalize a + 1 = c
    rcases Nat.le_total g c with h | h
    · obtain ⟨d, rfl⟩ := Nat.le.dest h
      have e : (g + (g + d)) * (g + (g + d)) = 4 * (g * (g + d)) + d * d := by
        simp only [Nat.mul_add, Nat.add_mul]
        have : d * g = g * d := Nat.mul_comm ..
        (first | lia | omega)
      (first | lia | omega)
    · obtain ⟨d, rfl⟩ := Nat.le.dest h
      have e : (c + d + c) * (c + d + c) = 4 * ((c + d) * c) + d * d := by
        simp only [Nat.mul_add, Nat.add_mul]
        have : d * c = c * d := Nat.mul_comm ..
        (first | lia | omega)
      (first | lia | omega)
  have h6 : 2 * b * (2 * b) = 4 * (b * b) := by
    rw [Nat.mul_assoc, Nat.mul_left_comm b 2 b, ← Nat.mul_assoc]
  have h7 : g * (a + 1) = g * a + g := by rw [Nat.mul_add, Nat.mul_one]
  rw [show g + a + 1 = g + (a + 1) by (first | lia | omega)] at h4
  (first | lia | omega)
theorem newton_end (n g : Nat) (hg : 0 < g) (h : g ≤ (g + n / g) / 2) : g * g ≤ n := by
  have h1 : g ≤ n / g := by (first | lia | omega)
  exact (Nat.le_div_iff_mul_le hg).mp h1
theorem newton_start (n : Nat) : n < (2 ^ ((bl n + 1) / 2) + 1) * (2 ^ ((bl n + 1) / 2) + 1) := by
  have h1 : n < 2 ^ bl n := by
    unfold bl
    split
    · (first | lia | omega)
    · exact Nat.lt_log2_self
  have h2 : 2 ^ bl n ≤ 2 ^ ((bl n + 1) / 2) * 2 ^ ((bl n + 1) / 2) := by
    rw [← Nat.pow_add]
    exact Nat.pow_le_pow_right (by (first | lia | omega)) (by (first | lia | omega))
  generalize 2 ^ ((bl n + 1) / 2) = g at *
  have : g * g ≤ (g + 1) * (g + 1) := Nat.mul_le_mul (by (first | lia | omega)) (by (first | lia | omega))
  (first | lia | omega)
end Tap


namespace Tap
open Si06

/-! ### doubles -/
noncomputable def dm (b : Nat) : Nat := if b / 2 ^ 52 = 0 then b % 2 ^ 52 else 2 ^ 52 + b % 2 ^ 52
noncomputable def dp (b : Nat) : Int := if b / 2 ^ 52 = 0 then -1074 else ((b / 2 ^ 52 : Nat) : Int) - 1075

theorem ofDouble_code (b : Nat) (h : b < 2047 * 2 ^ 52) : ofDouble b = some (Q.scaled (dm b : Int) (dp b)) := by
  have h1 : b / 2 ^ 52 < 2047 := (Nat.div_lt_iff_lt_mul (by decide)).mpr h
  have h2 : b / 2 ^ 52 % 2048 = b / 2 ^ 52 := Nat.mod_eq_of_lt (by (first | lia | omega))
  unfold ofDouble dm dp
  dsimp only
  rw [h2, if_neg (show ¬ b / 2 ^ 52 = 2047 by (first | lia | omega)), if_neg (show ¬ 2 ^ 63 ≤ b by (first | lia | omega))]
  by_cases h0 : b / 2 ^ 52 = 0
  · rw [if_pos h0, if_pos h0, if_pos h0]
  · rw [if_neg h0, if_neg h0, if_neg h0]

noncomputable def dval (b : Nat) : Rat := ((dm b : Int) : Rat) * p2 (dp b)

theorem dval_lt (b : Nat) : dval b < p2 ((b / 2 ^ 52 : Nat) - 1022) := by
  unfold dval dm dp
  have hm : b % 2 ^ 52 < 2 ^ 52 := Nat.mod_lt _ (by decide)
  generalize b % 2 ^ 52 = f at *
  generalize b / 2 ^ 52 = e at *
  split
  · rename_i h
    subst h
    have e1 : p2 (((0 : Nat) : Int) - 1022) = ((2 ^ 52 : Nat) : Rat) * p2 (-1074) := by rw [← p2_nat, ← p2_add]; rfl
    rw [e1, Rat.intCast_natCast]
    exact Rat.mul_lt_mul_of_pos_right (Rat.natCast_lt_natCast.mpr hm) (p2_pos _)
  · have e1 : p2 ((e : Int) - 1022) = ((2 ^ 53 : Nat) : Rat) * p2 ((e : Int) - 1075) := by rw [← p2_nat, ← p2_add]; congr 1; (first | lia | omega)
    rw [e1, Rat.intCast_natCast]
    exact Rat.mul_lt_mul_of_pos_right (Rat.natCast_lt_natCast.mpr (by (first | lia | omega))) (p2_pos _)
theorem dval_ge (b : Nat) (h : b / 2 ^ 52 ≠ 0) : p2 ((b / 2 ^ 52 : Nat) - 1023) ≤ dval b := by
  unfold dval dm dp
  generalize b % 2 ^ 52 = f at *
  generalize b / 2 ^ 52 = e at *
  rw [if_neg h, if_neg h]
  have e1 : p2 ((e : Int) - 1023) = ((2 ^ 52 : Nat) : Rat) * p2 ((e : Int) - 1075) := by rw [← p2_nat, ← p2_add]; congr 1; (first | lia | omega)
  rw [e1, Rat.intCast_natCast]
  exact Rat.mul_le_mul_of_nonneg_right (Rat.natCast_le_natCast.mpr (by (first | lia | omega))) (Rat.le_of_lt (p2_pos _))

/-- the double of a number of that size, as bits with all that lies behind them -/
noncomputable def dbits (m : Nat) (p : Int) : Nat := (p + m.log2 + 1023).toNat * 2 ^ m.log2 + (m - 2 ^ m.log2)

theorem cmpN_add (k a b : Nat) : compare (k + a) (k + b) = compare a b := by
  rcases Nat.lt_trichotomy a b with h | h | h
  · rw [cmpN_lt h, cmpN_lt (by (first | lia | omega))]
  · rw [Nat.compare_eq_eq.mpr h, Nat.compare_eq_eq.mpr (by (first | lia | omega))]
  · rw [cmpN_gt h, cmpN_gt (by (first | lia | omega))]

theorem dval_cmp (m : Nat) (p : Int) (b : Nat) (hm : 1 ≤ m) (hE : -1022 ≤ p + m.log2) (a c : Nat) (hac : m.log2 + a = 52 + c) :
    cmp (dval b) (((m : Int) : Rat) * p2 p) = compare (b * 2 ^ c) (dbits m p * 2 ^ a) := by
  obtain ⟨s1, s2⟩ := size_of m p hm
  have g1 := Nat.log2_self_le (by (first | lia | omega) : m ≠ 0)
  have g2 : m < 2 ^ (m.log2 + 1) := Nat.lt_log2_self
  rw [pow_s] at g2
  unfold dbits
  generalize m.log2 = t at *
  obtain ⟨e, he⟩ : ∃ e : Nat, p + (t : Int) + 1023 = e := ⟨(p + t + 1023).toNat, by (first | lia | omega)⟩
  rw [he, Int.toNat_natCast]
  have hb1 := Nat.div_add_mod b (2 ^ 52)
  have hb2 := Nat.mod_lt b (show 0 < 2 ^ 52 by decide)
  have hW : 2 ^ t * 2 ^ a = 2 ^ 52 * 2 ^ c := by rw [← Nat.pow_add, ← Nat.pow_add]; congr 1
  have ha := Nat.two_pow_pos a
  have hc := Nat.two_pow_pos c
  have hbc : b * 2 ^ c = b / 2 ^ 52 * (2 ^ 52 * 2 ^ c) + b % 2 ^ 52 * 2 ^ c := by
    rw [← Nat.mul_assoc, ← Nat.add_mul]
    congr 1
    (first | lia | omega)
  have hBa : (e * 2 ^ t + (m - 2 ^ t)) * 2 ^ a = e * (2 ^ 52 * 2 ^ c) + (m - 2 ^ t) * 2 ^ a := by
    rw [Nat.add_mul, Nat.mul_assoc, hW]
  have hfc : b % 2 ^ 52 * 2 ^ c < 2 ^ 52 * 2 ^ c := Nat.mul_lt_mul_of_pos_right hb2 hc
  have hgc : (m - 2 ^ t) * 2 ^ a < 2 ^ 52 * 2 ^ c := by rw [← hW]; exact Nat.mul_lt_mul_of_pos_right (by (first | lia | omega)) ha
  rw [hbc, hBa]
  rcases Nat.lt_trichotomy (b / 2 ^ 52) e with h | h | h
  · have l1 := dval_lt b
    have l2 := p2_le (show (((b / 2 ^ 52 : Nat) : Int) - 1022) ≤ p + t by (first | lia | omega))
    rw [cmp_lt (by grind), cmpN_lt]
    have := Nat.mul_le_mul_right (2 ^ 52 * 2 ^ c) (show b / 2 ^ 52 + 1 ≤ e from h)
    rw [Nat.add_mul, Nat.one_mul] at this
    generalize 2 ^ 52 * 2 ^ c = W at *
    generalize b / 2 ^ 52 * W = Y at *
    generalize e * W = Z at *
    (first | lia | omega)
  · have hd : dval b = (((2 ^ 52 + b % 2 ^ 52 : Nat) : Int) : Rat) * p2 ((e : Int) - 1075) := by
      unfold dval dm dp
      rw [h, if_neg (by (first | lia | omega)), if_neg (by (first | lia | omega))]
    have hp1 : p2 ((e : Int) - 1075) = ((2 ^ c : Nat) : Rat) * p2 (p - a) := by rw [← p2_nat, ← p2_add]; congr 1; (first | lia | omega)
    have hp2 : p2 p = ((2 ^ a : Nat) : Rat) * p2 (p - a) := by rw [← p2_nat, ← p2_add]; congr 1; (first | lia | omega)
    have e1 : dval b = ((((2 ^ 52 + b % 2 ^ 52) * 2 ^ c : Nat) : Int) : Rat) * p2 (p - a) := by
      rw [hd, hp1, Int.natCast_mul, Rat.intCast_mul, Rat.intCast_natCast (2 ^ c)]
      grind
    have e2 : ((m : Int) : Rat) * p2 p = (((m * 2 ^ a : Nat) : Int) : Rat) * p2 (p - a) := by
      rw [hp2, Int.natCast_mul, Rat.intCast_mul, Rat.intCast_natCast (2 ^ a)]
      grind
    rw [e1, e2, cmp_scale (p2_pos _), cmp_nat, h, cmpN_add, Nat.add_mul]
    have e3 : m * 2 ^ a = 2 ^ 52 * 2 ^ c + (m - 2 ^ t) * 2 ^ a := by
      rw [← hW, ← Nat.add_mul]
      congr 1
      (first | lia | omega)
    rw [e3, cmpN_add]
  · have l1 := dval_ge b (by (first | lia | omega))
    have l2 := p2_le (show p + (t : Int) + 1 ≤ ((b / 2 ^ 52 : Nat) : Int) - 1023 by (first | lia | omega))
    rw [cmp_gt (by grind), cmpN_gt]
    have := Nat.mul_le_mul_right (2 ^ 52 * 2 ^ c) (show e + 1 ≤ b / 2 ^ 52 from h)
    rw [Nat.add_mul, Nat.one_mul] at this
    generalize 2 ^ 52 * 2 ^ c = W at *
    generalize b / 2 ^ 52 * W = Y at *
    generalize e * W = Z at *
    (first | lia | omega)

/-- the place between two neighbours, in the block of the number's size -/
theorem dval_mid (m : Nat) (p : Int) (u : Nat) (hm : 1 ≤ m) (hE : -1022 ≤ p + m.log2) (a c : Nat) (hac : m.log2 + a = 52 + (c + 1))
    (hu : u = dbits m p * 2 ^ a / 2 ^ (c + 1)) :
    cmp (((m : Int) : Rat) * p2 p * 2) (dval u + dval (u + 1)) = compare (dbits m p * 2 ^ a) ((2 * u + 1) * 2 ^ c) := by
  have g1 := Nat.log2_self_le (by (first | lia | omega) : m ≠ 0)
  have g2 : m < 2 ^ (m.log2 + 1) := Nat.lt_log2_self
  rw [pow_s] at g2
  unfold dbits at *
  generalize m.log2 = t at *
  obtain ⟨e, he⟩ : ∃ e : Nat, p + (t : Int) + 1023 = e := ⟨(p + t + 1023).toNat, by (first | lia | omega)⟩
  rw [he, Int.toNat_natCast] at hu ⊢
  have hW : 2 ^ t * 2 ^ a = 2 ^ 52 * 2 ^ (c + 1) := by rw [← Nat.pow_add, ← Nat.pow_add]; congr 1
  have ha := Nat.two_pow_pos a
  have hc := Nat.two_pow_pos (c + 1)
  have hBa : (e * 2 ^ t + (m - 2 ^ t)) * 2 ^ a = e * 2 ^ 52 * 2 ^ (c + 1) + (m - 2 ^ t) * 2 ^ a := by
    rw [Nat.add_mul, Nat.mul_assoc, hW, Nat.mul_assoc]
  have hgc : (m - 2 ^ t) * 2 ^ a < 2 ^ 52 * 2 ^ (c + 1) := by rw [← hW]; exact Nat.mul_lt_mul_of_pos_right (by (first | lia | omega)) ha
  have hf : (m - 2 ^ t) * 2 ^ a / 2 ^ (c + 1) < 2 ^ 52 := (Nat.div_lt_iff_lt_mul hc).mpr hgc
  rw [hBa, Nat.add_comm, Nat.add_mul_div_right _ _ hc] at hu
  generalize (m - 2 ^ t) * 2 ^ a / 2 ^ (c + 1) = f at *
  have hu1 : u / 2 ^ 52 = e := by rw [hu, Nat.add_mul_div_right _ _ (by decide), Nat.div_eq_of_lt hf]; (first | lia | omega)
  have hu2 : u % 2 ^ 52 = f := by rw [hu, Nat.add_mul_mod_self_right, Nat.mod_eq_of_lt hf]
  have hd : dval u = (((2 ^ 52 + f : Nat) : Int) : Rat) * p2 ((e : Int) - 1075) := by
    unfold dval dm dp
    rw [hu1, hu2, if_neg (by (first | lia | omega)), if_neg (by (first | lia | omega))]
  have hd2 : dval (u + 1) = (((2 ^ 52 + (f + 1) : Nat) : Int) : Rat) * p2 ((e : Int) - 1075) := by
    by_cases h : f + 1 < 2 ^ 52
    · have k1 : (u + 1) / 2 ^ 52 = e := by
        rw [hu, show f + e * 2 ^ 52 + 1 = f + 1 + e * 2 ^ 52 by (first | lia | omega), Nat.add_mul_div_right _ _ (by decide), Nat.div_eq_of_lt h]; (first | lia | omega)
      have k2 : (u + 1) % 2 ^ 52 = f + 1 := by
        rw [hu, show f + e * 2 ^ 52 + 1 = f + 1 + e * 2 ^ 52 by (first | lia | omega), Nat.add_mul_mod_self_right, Nat.mod_eq_of_lt h]
      unfold dval dm dp
      rw [k1, k2, if_neg (by (first | lia | omega)), if_neg (by (first | lia | omega))]
    · have hfe : f + 1 = 2 ^ 52 := by (first | lia | omega)
      have k0 : u + 1 = (e + 1) * 2 ^ 52 := by rw [hu, Nat.add_mul]; (first | lia | omega)
      have k1 : (u + 1) / 2 ^ 52 = e + 1 := by rw [k0, Nat.mul_div_cancel _ (by decide)]
      have k2 : (u + 1) % 2 ^ 52 = 0 := by rw [k0, Nat.mul_mod_left]
      unfold dval dm dp
      rw [k1, k2, if_neg (by (first | lia | omega)), if_neg (by (first | lia | omega)), hfe]
      have q1 : p2 (((e + 1 : Nat) : Int) - 1075) = 2 * p2 ((e : Int) - 1075) := by
        rw [show (((e + 1 : Nat) : Int) - 1075) = 1 + ((e : Int) - 1075) by (first | lia | omega), p2_add, p2_one]
      rw [q1]
      have q2 : (((2 ^ 52 + 2 ^ 52 : Nat) : Int) : Rat) = (((2 ^ 52 + 0 : Nat) : Int) : Rat) * 2 := by
        rw [show ((2 ^ 52 + 2 ^ 52 : Nat) : Int) = ((2 ^ 52 + 0 : Nat) : Int) * 2 by (first | lia | omega), Rat.intCast_mul]
        rfl
      rw [q2]
      grind
  have hp1 : p2 ((e : Int) - 1075) = ((2 ^ c : Nat) : Rat) * (2 * p2 (p - a)) := by
    rw [← p2_nat, ← p2_one, ← p2_add, ← p2_add]
    congr 1
    (first | lia | omega)
  have hp2 : p2 p = ((2 ^ a : Nat) : Rat) * p2 (p - a) := by rw [← p2_nat, ← p2_add]; congr 1; (first | lia | omega)
  have e1 : dval u + dval (u + 1) = ((((2 * (2 ^ 52 + f) + 1) * 2 ^ c : Nat) : Int) : Rat) * (2 * p2 (p - a)) := by
    rw [hd, hd2, hp1, Int.natCast_mul, Rat.intCast_mul, Rat.intCast_natCast (2 ^ c)]
    have q3 : (((2 * (2 ^ 52 + f) + 1 : Nat) : Int) : Rat) = (((2 ^ 52 + f : Nat) : Int) : Rat) + (((2 ^ 52 + (f + 1) : Nat) : Int) : Rat) := by
      rw [← Rat.intCast_add]
      congr 1
      (first | lia | omega)
    rw [q3]
    grind
  have e2 : ((m : Int) : Rat) * p2 p * 2 = (((m * 2 ^ a : Nat) : Int) : Rat) * (2 * p2 (p - a)) := by
    rw [hp2, Int.natCast_mul, Rat.intCast_mul, Rat.intCast_natCast (2 ^ a)]
    grind
  rw [e1, e2, cmp_scale (Rat.mul_pos (by decide) (p2_pos _)), cmp_nat, hBa]
  have e3 : m * 2 ^ a = 2 ^ 52 * 2 ^ (c + 1) + (m - 2 ^ t) * 2 ^ a := by
    rw [← hW, ← Nat.add_mul]
    congr 1
    (first | lia | omega)
  have e4 : (2 * (2 ^ 52 + f) + 1) * 2 ^ c = 2 ^ 52 * 2 ^ (c + 1) + (2 * f + 1) * 2 ^ c := by
    rw [pow_s c, ← Nat.mul_assoc, ← Nat.add_mul]
    congr 1
    (first | lia | omega)
  have e5 : (2 * u + 1) * 2 ^ c = e * 2 ^ 52 * 2 ^ (c + 1) + (2 * f + 1) * 2 ^ c := by
    rw [pow_s c, ← Nat.mul_assoc, ← Nat.add_mul, hu]
    congr 1
    (first | lia | omega)
  rw [e3, e4, e5, cmpN_add, cmpN_add]

theorem round_end2 (u r X Y : Nat) :
    ((match compare (Y + r) (Y + X) with
      | .lt => u
      | .gt => u + 1
      | .eq => if u % 2 = 0 then u else u + 1 : Nat) : Int) =
    if (X : Int) < (r : Int) ∨ ((r : Int) = (X : Int) ∧ (u : Int) % 2 = 1) then (u : Int) + 1 else (u : Int) := by
  rcases Nat.lt_trichotomy r X with h | h | h
  · rw [show compare (Y + r) (Y + X) = .lt from cmpN_lt (by (first | lia | omega))]
    dsimp only
    split <;> (first | lia | omega)
  · rw [show compare (Y + r) (Y + X) = .eq from Nat.compare_eq_eq.mpr (by (first | lia | omega))]
    dsimp only
    split <;> split <;> (first | lia | omega)
  · rw [show compare (Y + r) (Y + X) = .gt from cmpN_gt (by (first | lia | omega))]
    dsimp only
    split <;> (first | lia | omega)

theorem double_main (x : Q) (hd : 0 < x.d) (m : Nat) (p : Int) (hm : 1 ≤ m) (hv : val x = ((m : Int) : Rat) * p2 p)
    (hE : -1022 ≤ p + m.log2) (hE2 : p + m.log2 ≤ 1000) :
    (doubleAbove x : Int) = nev (dbits m p : Int) (52 - (m.log2 : Int)) := by
  obtain ⟨a, c, hac⟩ : ∃ a c, m.log2 + a = 52 + (c + 1) := ⟨53 - m.log2, m.log2 - 53, by (first | lia | omega)⟩
  have g1 := Nat.log2_self_le (by (first | lia | omega) : m ≠ 0)
  have g2 : m < 2 ^ (m.log2 + 1) := Nat.lt_log2_self
  rw [pow_s] at g2
  have hc := Nat.two_pow_pos (c + 1)
  have hB : dbits m p * 2 ^ a < 2024 * 2 ^ 52 * 2 ^ (c + 1) := by
    have h1 : dbits m p < 2024 * 2 ^ m.log2 := by
      unfold dbits
      have : (p + m.log2 + 1023).toNat ≤ 2023 := by (first | lia | omega)
      have := Nat.mul_le_mul_right (2 ^ m.log2) this
      (first | lia | omega)
    have h2 := Nat.mul_lt_mul_of_pos_right h1 (Nat.two_pow_pos a)
    rw [Nat.mul_assoc 2024, ← Nat.pow_add, hac, Nat.pow_add, ← Nat.mul_assoc] at h2
    exact h2
  have hU : dbits m p * 2 ^ a / 2 ^ (c + 1) < 2024 * 2 ^ 52 := (Nat.div_lt_iff_lt_mul hc).mpr hB
  have hhal : halve (fun b => ((ofDouble b).getD (Q.ofInt 0)).order x != .gt) 70 0 (2047 * 2 ^ 52 - 1) = dbits m p * 2 ^ a / 2 ^ (c + 1) := by
    apply halve_eq _ _ _ _ _ (Nat.zero_le _) (by (first | lia | omega))
    · intro b _ hb
      rw [ofDouble_code b (by (first | lia | omega))]
      show ((Q.scaled (dm b : Int) (dp b)).order x != .gt) = _
      rw [order_cmp (scaled_pos _ _) hd, val_scaled, hv]
      have := dval_cmp m p b hm hE a (c + 1) hac
      unfold dval at this
      rw [this]
      have hd : b ≤ dbits m p * 2 ^ a / 2 ^ (c + 1) ↔ b * 2 ^ (c + 1) ≤ dbits m p * 2 ^ a := Nat.le_div_iff_mul_le hc
      by_cases h : b * 2 ^ (c + 1) ≤ dbits m p * 2 ^ a
      · rw [decide_eq_true (hd.mpr h)]
        have : compare (b * 2 ^ (c + 1)) (dbits m p * 2 ^ a) ≠ .gt := fun h' => absurd (Nat.compare_eq_gt.mp h') (by (first | lia | omega))
        exact bne_iff_ne.mpr this
      · rw [cmpN_gt (by (first | lia | omega)), decide_eq_false (fun h' => h (hd.mp h'))]
        rfl
    · decide
  unfold doubleAbove
  dsimp only
  rw [hhal]
  have hmid := dval_mid m p (dbits m p * 2 ^ a / 2 ^ (c + 1)) hm hE a c hac rfl
  have hnev : nev (dbits m p : Int) (52 - (m.log2 : Int)) = nev ((dbits m p * 2 ^ a : Nat) : Int) (-((c + 1 : Nat) : Int)) := by
    rw [← nev_scale (dbits m p : Int) a, Int.natCast_mul, Int.natCast_pow, show (52 - (m.log2 : Int) - (a : Int)) = -((c + 1 : Nat) : Int) by (first | lia | omega)]
    rfl
  rw [hnev, nev_neg]
  generalize dbits m p * 2 ^ a = T at *
  have hr := Nat.div_add_mod T (2 ^ (c + 1))
  have hu3 : T / 2 ^ (c + 1) + 1 < 2047 * 2 ^ 52 := by (first | lia | omega)
  rw [ofDouble_code _ (show T / 2 ^ (c + 1) < 2047 * 2 ^ 52 by (first | lia | omega)), ofDouble_code _ hu3]
  have hcmp : (x.mul (Q.ofInt 2)).order (((some (Q.scaled (dm (T / 2 ^ (c + 1)) : Int) (dp (T / 2 ^ (c + 1))))).getD (Q.ofInt 0)).add ((some (Q.scaled (dm (T / 2 ^ (c + 1) + 1) : Int) (dp (T / 2 ^ (c + 1) + 1)))).getD (Q.ofInt 0))) = compare T ((2 * (T / 2 ^ (c + 1)) + 1) * 2 ^ c) := by
    show (x.mul (Q.ofInt 2)).order ((Q.scaled (dm (T / 2 ^ (c + 1)) : Int) (dp (T / 2 ^ (c + 1)))).add (Q.scaled (dm (T / 2 ^ (c + 1) + 1) : Int) (dp (T / 2 ^ (c + 1) + 1)))) = _
    rw [order_cmp (Nat.mul_pos hd (by decide)) (Nat.mul_pos (scaled_pos _ _) (scaled_pos _ _)), val_mul hd (by decide), val_add (scaled_pos _ _) (scaled_pos _ _), val_scaled, val_scaled, hv, val_ofInt]
    exact hmid
  rw [hcmp]
  have c1 : (T : Int) % 2 ^ (c + 1) = ((T % 2 ^ (c + 1) : Nat) : Int) := by rw [Int.natCast_emod, Int.natCast_pow]; rfl
  have c2 : (T : Int) / 2 ^ (c + 1) = ((T / 2 ^ (c + 1) : Nat) : Int) := by rw [Int.natCast_ediv, Int.natCast_pow]; rfl
  have c3 : (2 : Int) ^ c = ((2 ^ c : Nat) : Int) := by rw [Int.natCast_pow]; rfl
  rw [c1, c2, c3]
  have e1 : (2 * (T / 2 ^ (c + 1)) + 1) * 2 ^ c = 2 ^ (c + 1) * (T / 2 ^ (c + 1)) + 2 ^ c := by
    rw [pow_s, Nat.add_mul, Nat.one_mul, Nat.mul_assoc 2, Nat.mul_assoc 2, Nat.mul_comm (T / _)]
  rw [e1]
  have hX := Nat.two_pow_pos c
  clear hmid hcmp hnev hhal c1 c2 c3 e1 hu3 hU hB
  generalize T / 2 ^ (c + 1) = u at *
  generalize T % 2 ^ (c + 1) = r at *
  generalize 2 ^ (c + 1) * u = Y at *
  subst hr
  exact round_end2 u r _ Y
end Tap


namespace Tap
open Si06

/-! ### bits -/
noncomputable def bi (x : Int) : Nat := bl x.natAbs
theorem bl_le {n k : Nat} : bl n ≤ k ↔ n < 2 ^ k := by
  unfold bl
  by_cases h : n = 0
  · rw [if_pos h]
    have := Nat.two_pow_pos k
    (first | lia | omega)
  · rw [if_neg h]
    exact Nat.log2_lt h
theorem bi_le {x : Int} {k : Nat} : bi x ≤ k ↔ x.natAbs < 2 ^ k := bl_le
theorem lt_bi (x : Int) : x.natAbs < 2 ^ bi x := bi_le.mp (Nat.le_refl _)
theorem bi_nat (n : Nat) : bi (n : Int) = bl n := rfl
theorem bi_neg (x : Int) : bi (-x) = bi x := by unfold bi; rw [Int.natAbs_neg]
theorem bi_abs (x : Int) : bi (x.natAbs : Int) = bi x := rfl
theorem bi_add (x y : Int) : bi (x + y) ≤ max (bi x) (bi y) + 1 := by
  rw [bi_le]
  have h1 : x.natAbs < 2 ^ max (bi x) (bi y) := bi_le.mp (Nat.le_max_left ..)
  have h2 : y.natAbs < 2 ^ max (bi x) (bi y) := bi_le.mp (Nat.le_max_right ..)
  have h3 := Int.natAbs_add_le x y
  rw [pow_s]
  (first | lia | omega)
theorem bi_sub (x y : Int) : bi (x - y) ≤ max (bi x) (bi y) + 1 := by
  have := bi_add x (-y)
  rw [bi_neg] at this
  rwa [Int.sub_eq_add_neg]
theorem bi_mul (x y : Int) : bi (x * y) ≤ bi x + bi y := by
  rw [bi_le, Int.natAbs_mul, Nat.pow_add]
  exact Nat.mul_lt_mul_of_lt_of_lt (lt_bi x) (lt_bi y)
theorem bi_shl (x : Int) (k : Nat) : bi (x * 2 ^ k) ≤ bi x + k := by
  rw [bi_le, Int.natAbs_mul, Nat.pow_add, Int.natAbs_pow]
  exact Nat.mul_lt_mul_of_pos_right (lt_bi x) (Nat.two_pow_pos k)
theorem bi_ediv (x d : Int) (h : 0 < d) : bi (x / d) ≤ bi x := by
  rw [bi_le]
  have h2 : (x / d).natAbs ≤ x.natAbs := by
    rcases Int.le_total 0 x with h0 | h0
    · have h1 := Int.ediv_nonneg h0 (Int.le_of_lt h)
      have h2 := Int.ediv_le_self d h0
      (first | lia | omega)
    · have h1 : x ≤ x / d := by
        apply (Int.le_ediv_iff_mul_le h).mpr
        have := Int.mul_le_mul_of_nonpos_left h0 (show (1 : Int) ≤ d by (first | lia | omega))
        rw [Int.mul_one] at this
        exact this
      have h3 : x / d ≤ 0 := Int.ediv_nonpos_of_nonpos_of_neg h0 (by (first | lia | omega))
      (first | lia | omega)
  have := lt_bi x
  (first | lia | omega)
theorem bi_pow (k : Nat) : bi (2 ^ k) = k + 1 := by
  have e : ((2 ^ k : Nat) : Int) = 2 ^ k := by rw [Int.natCast_pow]; rfl
  rw [← e, bi_nat]
  have := pow_s k
  have := Nat.two_pow_pos k
  exact bl_of (by (first | lia | omega)) (by (first | lia | omega))

/-! ### the whole root -/
noncomputable def isqG (n : Nat) : Nat → Nat
  | 0 => 0
  | g + 1 => if (g + 1) * (g + 1) ≤ n then g + 1 else isqG n g
noncomputable def isq (n : Nat) : Nat := isqG n n
theorem isqG_of (n r : Nat) (h1 : r * r ≤ n) (h2 : n < (r + 1) * (r + 1)) : ∀ g, r ≤ g → isqG n g = r
  | 0, h => by
    unfold isqG
    (first | lia | omega)
  | g + 1, h => by
    unfold isqG
    by_cases e : r = g + 1
    · subst e
      rw [if_pos h1]
    · have : (r + 1) * (r + 1) ≤ (g + 1) * (g + 1) := Nat.mul_le_mul (by (first | lia | omega)) (by (first | lia | omega))
      rw [if_neg (by (first | lia | omega))]
      exact isqG_of n r h1 h2 g (by (first | lia | omega))
theorem isq_of {n r : Nat} (h1 : r * r ≤ n) (h2 : n < (r + 1) * (r + 1)) : isq n = r := by
  apply isqG_of n r h1 h2
  rcases Nat.eq_zero_or_pos r with h | h
  · (first | lia | omega)
  · exact Nat.le_trans (Nat.le_mul_of_pos_left r h) h1
theorem isqG_spec (n : Nat) : ∀ g, n < (g + 1) * (g + 1) → isqG n g * isqG n g ≤ n ∧ n < (isqG n g + 1) * (isqG n g + 1)
  | 0, h => by
    unfold isqG
    (first | lia | omega)
  | g + 1, h => by
    unfold isqG
    by_cases e : (g + 1) * (g + 1) ≤ n
    · rw [if_pos e]
      exact ⟨e, h⟩
    · rw [if_neg e]
      exact isqG_spec n g (by (first | lia | omega))
theorem isq_spec (n : Nat) : isq n * isq n ≤ n ∧ n < (isq n + 1) * (isq n + 1) := by
  apply isqG_spec
  have : n + 1 ≤ (n + 1) * (n + 1) := Nat.le_mul_of_pos_left _ (by (first | lia | omega))
  (first | lia | omega)
theorem isq_ge {n k : Nat} (h : 2 ^ (2 * k) ≤ n) : 2 ^ k ≤ isq n := by
  obtain ⟨_, h2⟩ := isq_spec n
  by_cases e : 2 ^ k ≤ isq n
  · exact e
  · have : (isq n + 1) * (isq n + 1) ≤ 2 ^ k * 2 ^ k := Nat.mul_le_mul (by (first | lia | omega)) (by (first | lia | omega))
    rw [← Nat.pow_add, show k + k = 2 * k by (first | lia | omega)] at this
    (first | lia | omega)

/-! ### the mirror: numbers as (m, p), m times 2^p; none: no number -/
noncomputable abbrev E := Int × Int
noncomputable def num (w p : Nat) : Option E := if p = 2 ^ (w - 1) then none else some (mantS w p, powS w p)
noncomputable def oppE (a : E) : E := (-a.1, a.2)
noncomputable def addE (a b : E) : E := (a.1 * 2 ^ (a.2 - min a.2 b.2).toNat + b.1 * 2 ^ (b.2 - min a.2 b.2).toNat, min a.2 b.2)
noncomputable def subE (a b : E) : E := addE a (oppE b)
noncomputable def mulE (a b : E) : E := (a.1 * b.1, a.2 + b.2)
noncomputable def divSh (b : E) : Nat := 72 + bl b.1.natAbs
noncomputable def divE (a b : E) : Option E := if b.1 = 0 then none else some (divM a.1 b.1 (divSh b), a.2 - b.2 - divSh b - 1)
noncomputable def rootSh (a : E) : Nat := 144 + (a.2 % 2).toNat
noncomputable def rootE (a : E) : Option E :=
  if a.1 < 0 then none else if a.1 = 0 then some a
  else some (2 * (isq (a.1.toNat * 2 ^ rootSh a) : Int) + (if isq (a.1.toNat * 2 ^ rootSh a) * isq (a.1.toNat * 2 ^ rootSh a) < a.1.toNat * 2 ^ rootSh a then 1 else 0), (a.2 - rootSh a) / 2 - 1)
noncomputable def wholeE (a : E) : E := (nev a.1 a.2, 0)
noncomputable def opM (op : Nat) (a b : Option E) : Option E := a.bind fun x =>
  if op = 4 then rootE x else if op = 5 then some (wholeE x)
  else b.bind fun y => match op with
    | 0 => some (addE x y)
    | 1 => some (subE x y)
    | 2 => some (mulE x y)
    | _ => divE x y
noncomputable def patOpt (o : Option E) (w : Nat) : Int := match o with
  | none => 2 ^ (w - 1)
  | some a => patOf a.1 a.2 w
noncomputable def fmaM (a b c : Option E) : Option E := a.bind fun x => b.bind fun y => c.map fun z => addE (mulE x y) z

/-! ### the mirror gives what the document asks -/
theorem says_num (w p : Nat) (hp : p < 2 ^ w) (hw : 3 ≤ w) : says w p = (num w p).map fun a => Q.scaled a.1 a.2 := by
  rw [says_code w p hp hw]
  unfold num
  split <;> rfl
theorem scaled_n_neg (m p : Int) : (Q.scaled m p).n < 0 ↔ m < 0 := by
  unfold Q.scaled
  split
  · show m * 2 ^ p.toNat < 0 ↔ m < 0
    have h := ipow_pos p.toNat
    constructor
    · intro h1
      by_cases h2 : m < 0
      · exact h2
      · have := Int.mul_nonneg (show 0 ≤ m by (first | lia | omega)) (Int.le_of_lt h)
        (first | lia | omega)
    · intro h1
      exact Int.mul_neg_of_neg_of_pos h1 h
  · rfl
theorem scaled_n_zero (m p : Int) : (Q.scaled m p).n = 0 ↔ m = 0 := by
  unfold Q.scaled
  split
  · constructor
    · intro h
      rcases Int.mul_eq_zero.mp h with h | h
      · exact h
      · have := ipow_pos p.toNat; (first | lia | omega)
    · intro h
      show m * _ = 0
      rw [h, Int.zero_mul]
  · rfl

theorem val_addE (a b : E) : val ((Q.scaled a.1 a.2).add (Q.scaled b.1 b.2)) = ((addE a b).1 : Rat) * p2 (addE a b).2 := by
  rw [val_add (scaled_pos _ _) (scaled_pos _ _), val_scaled, val_scaled]
  exact (add_val a.1 a.2 b.1 b.2).symm
theorem val_mulE (a b : E) : val ((Q.scaled a.1 a.2).mul (Q.scaled b.1 b.2)) = ((mulE a b).1 : Rat) * p2 (mulE a b).2 := by
  rw [val_mul (scaled_pos _ _) (scaled_pos _ _), val_scaled, val_scaled]
  exact (mul_val a.1 a.2 b.1 b.2).symm

theorem add_pos_d {x y : Q} (hx : 0 < x.d) (hy : 0 < y.d) : 0 < (x.add y).d := Nat.mul_pos hx hy

theorem root_like (w : Nat) (hw : 3 ≤ w) (hw2 : w ≤ 64) (a : E) (h : 0 ≤ a.1) : ∃ b, rootE a = some b ∧ Like w (root (Q.scaled a.1 a.2)) b.1 b.2 := by
  unfold rootE
  rw [if_neg (by (first | lia | omega))]
  by_cases h0 : a.1 = 0
  · rw [if_pos h0]
    refine ⟨a, rfl, ?_, fun h => absurd h (by (first | lia | omega)), fun h => absurd h (by (first | lia | omega))⟩
    have hn := (scaled_n_zero a.1 a.2).mpr h0
    unfold root Q.ofInt
    dsimp only
    rw [if_neg (by decide), hn, h0, Int.zero_mul, Int.zero_mul, Int.zero_mul]
  · rw [if_neg h0]
    refine ⟨_, rfl, ?_⟩
    obtain ⟨m, hm⟩ := Int.eq_ofNat_of_zero_le h
    obtain ⟨h1, h2⟩ := isq_spec (a.1.toNat * 2 ^ rootSh a)
    have hsh : 144 ≤ rootSh a := by unfold rootSh; (first | lia | omega)
    have hq : 2 ^ 62 ≤ isq (a.1.toNat * 2 ^ rootSh a) := by
      apply isq_ge
      have e1 : 2 ^ (2 * 62) ≤ 2 ^ rootSh a := Nat.pow_le_pow_right (by (first | lia | omega)) (by (first | lia | omega))
      exact Nat.le_trans e1 (Nat.le_mul_of_pos_left _ (by (first | lia | omega)))
    have hj : a.2 - rootSh a = 2 * ((a.2 - rootSh a) / 2) := by
      unfold rootSh
      (first | lia | omega)
    have ht : a.1.toNat = m := by (first | lia | omega)
    have := like_root w hw hw2 (Q.scaled a.1 a.2) (scaled_pos _ _) a.1.toNat a.2 (by (first | lia | omega)) (by rw [val_scaled, ht, ← hm]) (rootSh a) (isq (a.1.toNat * 2 ^ rootSh a)) ((a.2 - rootSh a) / 2) hj h1 h2 hq
    exact this

theorem give_none (w : Nat) : (giveOf w none : Int) = patOpt none w := by
  show ((2 ^ (w - 1) : Nat) : Int) = 2 ^ (w - 1)
  rw [Int.natCast_pow]
  rfl
theorem give_some {w : Nat} {x : Real} {a : E} (hw : 3 ≤ w) (hw2 : w ≤ 70) (h : Like w x a.1 a.2) : (giveOf w (some x) : Int) = patOpt (some a) w := like_round hw hw2 h

theorem op_spec (t : Abs) (hw : 3 ≤ t.w) (hw2 : t.w ≤ 64) (op a b : Nat) (ho : op ≤ 5) (ha : a < 2 ^ t.w) (hb : b < 2 ^ t.w) :
    (giveOf t.w (result t op a b) : Int) = patOpt (opM op (num t.w a) (num t.w b)) t.w := by
  unfold result
  rw [says_num _ _ ha hw, says_num _ _ hb hw]
  cases num t.w a with
  | none => exact give_none _
  | some x =>
    show (giveOf t.w (if op = 4 then (if (Q.scaled x.1 x.2).n < 0 then none else some (root (Q.scaled x.1 x.2))) else if op = 5 then some (Q.ofInt (Q.scaled x.1 x.2).whole).real else _) : Int) = patOpt (if op = 4 then rootE x else if op = 5 then some (wholeE x) else _) t.w
    by_cases h4 : op = 4
    · rw [if_pos h4, if_pos h4]
      by_cases hn : x.1 < 0
      · rw [if_pos ((scaled_n_neg _ _).mpr hn)]
        unfold rootE
        rw [if_pos hn]
        exact give_none _
      · rw [if_neg (fun h => hn ((scaled_n_neg _ _).mp h))]
        obtain ⟨r, hr, hl⟩ := root_like t.w hw hw2 x (by (first | lia | omega))
        rw [hr]
        exact give_some hw (by (first | lia | omega)) hl
    · rw [if_neg h4, if_neg h4]
      by_cases h5 : op = 5
      · rw [if_pos h5, if_pos h5, whole_scaled]
        refine give_some (a := wholeE x) hw (by (first | lia | omega)) (like_real _ _ _ _ Nat.one_pos ?_)
        rw [val_ofInt]
        unfold wholeE
        rw [p2_zero, Rat.mul_one]
      · rw [if_neg h5, if_neg h5]
        cases num t.w b with
        | none => exact give_none _
        | some y =>
          have : op = 0 ∨ op = 1 ∨ op = 2 ∨ op = 3 := by (first | lia | omega)
          rcases this with rfl | rfl | rfl | rfl
          · exact give_some (a := addE x y) hw (by (first | lia | omega)) (like_real _ _ _ _ (add_pos_d (scaled_pos _ _) (scaled_pos _ _)) (val_addE x y))
          · refine give_some (a := subE x y) hw (by (first | lia | omega)) (like_real _ _ _ _ (add_pos_d (scaled_pos _ _) (scaled_pos _ _)) ?_)
            rw [scaled_neg]
            exact val_addE x (oppE y)
          · exact give_some (a := mulE x y) hw (by (first | lia | omega)) (like_real _ _ _ _ (Nat.mul_pos (scaled_pos _ _) (scaled_pos _ _)) (val_mulE x y))
          · show (giveOf t.w (if (Q.scaled y.1 y.2).n = 0 then none else some ((Q.scaled x.1 x.2).div (Q.scaled y.1 y.2)).real) : Int) = patOpt (divE x y) t.w
            unfold divE
            by_cases hy : y.1 = 0
            · rw [if_pos ((scaled_n_zero _ _).mpr hy), if_pos hy]
              exact give_none _
            · rw [if_neg (fun h => hy ((scaled_n_zero _ _).mp h)), if_neg hy]
              refine give_some (a := (divM x.1 y.1 (divSh y), x.2 - y.2 - divSh y - 1)) hw (by (first | lia | omega)) ?_
              refine like_div t.w hw hw2 _ _ (scaled_pos _ _) (scaled_pos _ _) x.1 x.2 y.1 y.2 (divSh y) (val_scaled _ _) (val_scaled _ _) hy ?_
              unfold divSh bl
              rw [if_neg (by (first | lia | omega))]
              (first | lia | omega)

theorem fma_spec (w : Nat) (hw : 3 ≤ w) (hw2 : w ≤ 64) (a b c : Nat) (ha : a < 2 ^ w) (hb : b < 2 ^ w) (hc : c < 2 ^ w) :
    (giveOf w ((says w a).bind fun x => (says w b).bind fun y => (says w c).map fun z => ((x.mul y).add z).real) : Int) = patOpt (fmaM (num w a) (num w b) (num w c)) w := by
  rw [says_num _ _ ha hw, says_num _ _ hb hw, says_num _ _ hc hw]
  cases num w a with
  | none => exact give_none _
  | some x =>
    cases num w b with
    | none => exact give_none _
    | some y =>
      cases num w c with
      | none => exact give_none _
      | some z =>
        refine give_some (a := addE (mulE x y) z) hw (by (first | lia | omega)) (like_real _ _ _ _ (add_pos_d (Nat.mul_pos (scaled_pos _ _) (scaled_pos _ _)) (scaled_pos _ _)) ?_)
        rw [val_add (Nat.mul_pos (scaled_pos _ _) (scaled_pos _ _)) (scaled_pos _ _), val_mulE, val_scaled]
        exact (add_val _ _ _ _).symm

theorem of_spec (w : Nat) (hw : 3 ≤ w) (hw2 : w ≤ 64) (z : Int) : (roundOf w (Q.ofInt z).real : Int) = patOpt (some (z, 0)) w := by
  refine give_some (a := (z, 0)) hw (by (first | lia | omega)) (like_real _ _ _ _ Nat.one_pos ?_)
  rw [val_ofInt, p2_zero, Rat.mul_one]

noncomputable def wholeM (o : Option E) : Int := match o with
  | none => 2 ^ 63
  | some a => if nev a.1 a.2 < -2 ^ 63 ∨ 2 ^ 63 ≤ nev a.1 a.2 then 2 ^ 63 else nev a.1 a.2 % 2 ^ 64
theorem whole_spec (w a : Nat) (hw : 3 ≤ w) (ha : a < 2 ^ w) : ((wordOf (match says w a with
    | none => -2 ^ 63
    | some x => if -2 ^ 63 ≤ x.whole ∧ x.whole < 2 ^ 63 then x.whole else -2 ^ 63) : Nat) : Int) = wholeM (num w a) := by
  rw [says_num _ _ ha hw]
  cases num w a with
  | none => rfl
  | some x =>
    show ((wordOf (if -2 ^ 63 ≤ (Q.scaled x.1 x.2).whole ∧ (Q.scaled x.1 x.2).whole < 2 ^ 63 then (Q.scaled x.1 x.2).whole else -2 ^ 63) : Nat) : Int) = _
    rw [whole_scaled]
    unfold wholeM wordOf
    dsimp only
    generalize nev x.1 x.2 = v
    by_cases h : -2 ^ 63 ≤ v ∧ v < 2 ^ 63
    · rw [if_pos h, if_neg (by (first | lia | omega))]
      (first | lia | omega)
    · rw [if_neg h, if_pos (by (first | lia | omega))]
      rfl
theorem pass_spec (w v a : Nat) (hw : 3 ≤ w) (hv : 3 ≤ v) (hv2 : v ≤ 64) (ha : a < 2 ^ w) : (giveOf v ((says w a).map Q.real) : Int) = patOpt (num w a) v := by
  rw [says_num _ _ ha hw]
  cases num w a with
  | none => exact give_none _
  | some x => exact give_some hv (by (first | lia | omega)) (like_real _ _ _ _ (scaled_pos _ _) (val_scaled _ _))
end Tap


namespace Tap
open Si06

/-! ### doubles, both ways -/
noncomputable def undM (b : Nat) : Int := if b / 2 ^ 52 % 2048 = 0 then ((b % 2 ^ 52 : Nat) : Int) else ((2 ^ 52 + b % 2 ^ 52 : Nat) : Int)
noncomputable def undP (b : Nat) : Int := if b / 2 ^ 52 % 2048 = 0 then -1074 else ((b / 2 ^ 52 % 2048 : Nat) : Int) - 1075
noncomputable def und (b : Nat) : Option E := if b / 2 ^ 52 % 2048 = 2047 then none else some (if 2 ^ 63 ≤ b then -undM b else undM b, undP b)
theorem ofDouble_num (b : Nat) : ofDouble b = (und b).map fun a => Q.scaled a.1 a.2 := by
  unfold ofDouble und undM undP
  dsimp only
  by_cases h : b / 2 ^ 52 % 2048 = 2047
  · rw [if_pos h, if_pos h]
    rfl
  · rw [if_neg h, if_neg h]
    show some _ = some (Q.scaled _ _)
    congr 1
    by_cases h0 : b / 2 ^ 52 % 2048 = 0
    · rw [if_pos h0, if_pos h0, if_pos h0]
      split
      · exact scaled_neg _ _
      · rfl
    · rw [if_neg h0, if_neg h0, if_neg h0]
      split
      · exact scaled_neg _ _
      · rfl
theorem undouble_spec (w b : Nat) (hw : 3 ≤ w) (hw2 : w ≤ 64) : (giveOf w ((ofDouble b).map Q.real) : Int) = patOpt (und b) w := by
  rw [ofDouble_num]
  cases und b with
  | none => exact give_none _
  | some x => exact give_some hw (by (first | lia | omega)) (like_real _ _ _ _ (scaled_pos _ _) (val_scaled _ _))

noncomputable def dblAbove (m : Nat) (p : Int) : Int := nev (dbits m p : Int) (52 - (m.log2 : Int))
noncomputable def dblM (o : Option E) : Int := match o with
  | none => 0x7FF8000000000000
  | some a => if a.1 = 0 then 0 else if 0 < a.1 then dblAbove a.1.natAbs a.2 else 2 ^ 63 + dblAbove a.1.natAbs a.2

theorem num_bounds (w p : Nat) (hp : p < 2 ^ w) (hw : 3 ≤ w) (hw2 : w ≤ 64) (a : E) (h : num w p = some a) : a.1.natAbs < 2 ^ 61 ∧ -320 ≤ a.2 ∧ a.2 ≤ 320 := by
  have hh : 2 ^ w = 2 * 2 ^ (w - 1) := by rw [← pow_s]; congr 1; (first | lia | omega)
  unfold num at h
  split at h
  · cases h
  · rename_i hn
    have e := Option.some.inj h
    subst e
    unfold mantS powS
    dsimp only
    by_cases h0 : p = 0
    · rw [if_pos h0, if_pos h0]
      decide
    · rw [if_neg h0, if_neg h0]
      by_cases hl : p < 2 ^ (w - 1)
      · rw [if_pos hl, if_pos hl]
        have a1 := mantN_lt w p (by (first | lia | omega)) hl hw hw2
        have a2 := powN_le w p (by (first | lia | omega)) hl hw hw2
        exact ⟨a1, a2⟩
      · rw [if_neg hl, if_neg hl]
        have a1 := mantN_lt w (2 ^ w - p) (by (first | lia | omega)) (by (first | lia | omega)) hw hw2
        have a2 := powN_le w (2 ^ w - p) (by (first | lia | omega)) (by (first | lia | omega)) hw hw2
        refine ⟨?_, a2⟩
        rw [Int.natAbs_neg]
        exact a1

theorem double_spec (w a : Nat) (hw : 3 ≤ w) (hw2 : w ≤ 64) (ha : a < 2 ^ w) : (doubleOf (says w a) : Int) = dblM (num w a) := by
  rw [says_num _ _ ha hw]
  cases hx : num w a with
  | none => rfl
  | some x =>
    obtain ⟨b1, b2, b3⟩ := num_bounds w a ha hw hw2 x hx
    show ((if (Q.scaled x.1 x.2).n = 0 then 0 else if 0 < (Q.scaled x.1 x.2).n then doubleAbove (Q.scaled x.1 x.2) else 2 ^ 63 + doubleAbove (Q.scaled x.1 x.2).neg : Nat) : Int) = (if x.1 = 0 then 0 else if 0 < x.1 then dblAbove x.1.natAbs x.2 else 2 ^ 63 + dblAbove x.1.natAbs x.2)
    by_cases h0 : x.1 = 0
    · rw [if_pos ((scaled_n_zero _ _).mpr h0), if_pos h0]
      rfl
    · rw [if_neg (fun h => h0 ((scaled_n_zero _ _).mp h)), if_neg h0]
      have hl : x.1.natAbs.log2 < 61 := (Nat.log2_lt (by (first | lia | omega))).mpr b1
      by_cases hn : x.1 < 0
      · have hnn := (scaled_n_neg x.1 x.2).mpr hn
        rw [if_neg (by (first | lia | omega)), if_neg (by (first | lia | omega)), scaled_neg]
        have := double_main (Q.scaled (-x.1) x.2) (scaled_pos _ _) x.1.natAbs x.2 (by (first | lia | omega)) (by rw [val_scaled]; congr 2; (first | lia | omega)) (by (first | lia | omega)) (by (first | lia | omega))
        unfold dblAbove
        rw [← this, Int.natCast_add]
        rfl
      · have hnn : ¬ (Q.scaled x.1 x.2).n < 0 := fun h => hn ((scaled_n_neg _ _).mp h)
        have hnz : ¬ (Q.scaled x.1 x.2).n = 0 := fun h => h0 ((scaled_n_zero _ _).mp h)
        rw [if_pos (by (first | lia | omega)), if_pos (by (first | lia | omega))]
        have := double_main (Q.scaled x.1 x.2) (scaled_pos _ _) x.1.natAbs x.2 (by (first | lia | omega)) (by rw [val_scaled]; congr 2; (first | lia | omega)) (by (first | lia | omega)) (by (first | lia | omega))
        unfold dblAbove
        rw [← this]

/-! ### the sum -/
/-- the sum and its mirror -/
noncomputable def SumRel : Option Q → Option E → Prop
  | none, none => True
  | some q, some a => 0 < q.d ∧ val q = (a.1 : Rat) * p2 a.2
  | _, _ => False
theorem total_spec {w : Nat} {o : Option Q} {e : Option E} (hw : 3 ≤ w) (hw2 : w ≤ 64) (h : SumRel o e) : (giveOf w (o.map Q.real) : Int) = patOpt e w := by
  cases o with
  | none =>
    cases e with
    | none => exact give_none _
    | some a => exact h.elim
  | some q =>
    cases e with
    | none => exact h.elim
    | some a => exact give_some hw (by (first | lia | omega)) (like_real _ _ _ _ h.1 h.2)
noncomputable def sumM (s a b : Option E) (minus : Bool) : Option E := s.bind fun t => a.bind fun x => b.map fun y => addE t (if minus then oppE (mulE x y) else mulE x y)
theorem sum_spec {w : Nat} {o : Option Q} {e : Option E} (hw : 3 ≤ w) (a b : Nat) (ha : a < 2 ^ w) (hb : b < 2 ^ w) (minus : Int) (h : SumRel o e) :
    SumRel (o.bind fun t => (says w a).bind fun x => (says w b).map fun y => reduced (t.add (if minus = 1 then (x.mul y).neg else x.mul y))) (sumM e (num w a) (num w b) (decide (minus = 1))) := by
  rw [says_num _ _ ha hw, says_num _ _ hb hw]
  cases o with
  | none =>
    cases e with
    | none => trivial
    | some a => exact h.elim
  | some q =>
    cases e with
    | none => exact h.elim
    | some t =>
      cases num w a with
      | none => trivial
      | some x =>
        cases num w b with
        | none => trivial
        | some y =>
          obtain ⟨h1, h2⟩ := h
          have hm : 0 < ((Q.scaled x.1 x.2).mul (Q.scaled y.1 y.2)).d := Nat.mul_pos (scaled_pos _ _) (scaled_pos _ _)
          have hd : 0 < (q.add (if minus = 1 then ((Q.scaled x.1 x.2).mul (Q.scaled y.1 y.2)).neg else (Q.scaled x.1 x.2).mul (Q.scaled y.1 y.2))).d := by
            split
            · exact Nat.mul_pos h1 hm
            · exact Nat.mul_pos h1 hm
          obtain ⟨r1, r2⟩ := reduced_val _ hd
          refine ⟨r2, ?_⟩
          show val (reduced _) = _
          rw [r1]
          by_cases hmin : minus = 1
          · rw [if_pos hmin, val_add h1 (neg_pos_d hm), h2, val_neg, val_mulE]
            show _ = ((addE t (if decide (minus = 1) = true then oppE (mulE x y) else mulE x y)).1 : Rat) * p2 (addE t (if decide (minus = 1) = true then oppE (mulE x y) else mulE x y)).2
            rw [if_pos (decide_eq_true hmin)]
            refine Eq.trans ?_ (add_val _ _ _ _).symm
            unfold oppE
            rw [Rat.intCast_neg]
            grind
          · rw [if_neg hmin, val_add h1 hm, h2, val_mulE]
            show _ = ((addE t (if decide (minus = 1) = true then oppE (mulE x y) else mulE x y)).1 : Rat) * p2 (addE t (if decide (minus = 1) = true then oppE (mulE x y) else mulE x y)).2
            rw [if_neg (by rw [decide_eq_false hmin]; decide)]
            exact (add_val _ _ _ _).symm

/-! ### the calls, out of the list -/
noncomputable def argc (p : Int) : Nat := if p = 0 then 2 else if p = 1 then 4 else if p = 2 then 4 else if p = 3 then 3 else if p = 4 then 2 else if p = 5 then 2 else if p = 6 then 3 else if p = 7 then 2 else if p = 8 then 2 else if p = 9 then 1 else if p = 10 then 4 else 1
theorem twelve {p : Int} (h0 : 0 ≤ p) (h1 : p ≤ 11) : p = 0 ∨ p = 1 ∨ p = 2 ∨ p = 3 ∨ p = 4 ∨ p = 5 ∨ p = 6 ∨ p = 7 ∨ p = 8 ∨ p = 9 ∨ p = 10 ∨ p = 11 := by
  obtain ⟨n, rfl⟩ := Int.eq_ofNat_of_zero_le h0
  have h : n < 12 := Int.ofNat_lt.mp (Int.lt_of_le_of_lt h1 (by decide))
  clear h0 h1
  revert n
  decide
theorem shape_some {p : Int} {n k : Nat} (h : PySi06.shape p = some (n, k)) : k = 0 ∧ n = argc p ∧ 0 ≤ p ∧ p ≤ 11 := by
  unfold PySi06.shape at h
  by_cases h0 : p = 0
  · rw [if_pos h0] at h
    subst h0
    cases h
    exact ⟨rfl, rfl, by decide, by decide⟩
  rw [if_neg h0] at h
  by_cases h1 : p = 1
  · rw [if_pos h1] at h
    subst h1
    cases h
    exact ⟨rfl, rfl, by decide, by decide⟩
  rw [if_neg h1] at h
  by_cases h2 : p = 2
  · rw [if_pos h2] at h
    subst h2
    cases h
    exact ⟨rfl, rfl, by decide, by decide⟩
  rw [if_neg h2] at h
  by_cases h3 : p = 3
  · rw [if_pos h3] at h
    subst h3
    cases h
    exact ⟨rfl, rfl, by decide, by decide⟩
  rw [if_neg h3] at h
  by_cases h4 : p = 4
  · rw [if_pos h4] at h
    subst h4
    cases h
    exact ⟨rfl, rfl, by decide, by decide⟩
  rw [if_neg h4] at h
  by_cases h5 : p = 5
  · rw [if_pos h5] at h
    subst h5
    cases h
    exact ⟨rfl, rfl, by decide, by decide⟩
  rw [if_neg h5] at h
  by_cases h6 : p = 6
  · rw [if_pos h6] at h
    subst h6
    cases h
    exact ⟨rfl, rfl, by decide, by decide⟩
  rw [if_neg h6] at h
  by_cases h7 : p = 7
  · rw [if_pos h7] at h
    subst h7
    cases h
    exact ⟨rfl, rfl, by decide, by decide⟩
  rw [if_neg h7] at h
  by_cases h8 : p = 8
  · rw [if_pos h8] at h
    subst h8
    cases h
    exact ⟨rfl, rfl, by decide, by decide⟩
  rw [if_neg h8] at h
  by_cases h9 : p = 9
  · rw [if_pos h9] at h
    subst h9
    cases h
    exact ⟨rfl, rfl, by decide, by decide⟩
  rw [if_neg h9] at h
  by_cases h10 : p = 10
  · rw [if_pos h10] at h
    subst h10
    cases h
    exact ⟨rfl, rfl, by decide, by decide⟩
  rw [if_neg h10] at h
  by_cases h11 : p = 11
  · rw [if_pos h11] at h
    subst h11
    cases h
    exact ⟨rfl, rfl, by decide, by decide⟩
  rw [if_neg h11] at h
  cases h
theorem calls_cons {f : Nat} {p : Int} {r : List Int} {cs : List (List (List Int))} (h : PyFlat.calls PySi06.shape f (p :: r) = some cs) :
    ∃ f' cs', f = f' + 1 ∧ 0 ≤ p ∧ p ≤ 11 ∧ argc p ≤ r.length ∧ cs = [p :: r.take (argc p)] :: cs' ∧ PyFlat.calls PySi06.shape f' (r.drop (argc p)) = some cs' := by
  cases f with
  | zero => cases h
  | succ f =>
    unfold PyFlat.calls PyFlat.call at h
    cases hs : PySi06.shape p with
    | none => simp [hs] at h
    | some nk =>
      obtain ⟨n, k⟩ := nk
      obtain ⟨rfl, rfl, h1, h2⟩ := shape_some hs
      simp only [hs] at h
      by_cases hl : r.length < argc p
      · simp [hl] at h
      · simp only [hl, if_false, PyFlat.rows] at h
        cases hc : PyFlat.calls PySi06.shape f (r.drop (argc p)) with
        | none => simp [hc] at h
        | some cs' =>
          simp only [hc] at h
          exact ⟨f, cs', rfl, h1, h2, by (first | lia | omega), (Option.some.inj h).symm, hc⟩
theorem len1 {r : List Int} (h : 1 ≤ r.length) : ∃ a t, r = a :: t := match r, h with
  | [], h => absurd h (show ¬ 1 ≤ 0 by decide)
  | a :: t, _ => ⟨a, t, rfl⟩
theorem len2 {r : List Int} (h : 2 ≤ r.length) : ∃ a b t, r = a :: b :: t := match r, h with
  | [], h => absurd h (show ¬ 2 ≤ 0 by decide)
  | [_], h => absurd h (show ¬ 2 ≤ 1 by decide)
  | a :: b :: t, _ => ⟨a, b, t, rfl⟩
theorem len3 {r : List Int} (h : 3 ≤ r.length) : ∃ a b c t, r = a :: b :: c :: t := match r, h with
  | [], h => absurd h (show ¬ 3 ≤ 0 by decide)
  | [_], h => absurd h (show ¬ 3 ≤ 1 by decide)
  | [_, _], h => absurd h (show ¬ 3 ≤ 2 by decide)
  | a :: b :: c :: t, _ => ⟨a, b, c, t, rfl⟩
theorem len4 {r : List Int} (h : 4 ≤ r.length) : ∃ a b c d t, r = a :: b :: c :: d :: t := match r, h with
  | [], h => absurd h (show ¬ 4 ≤ 0 by decide)
  | [_], h => absurd h (show ¬ 4 ≤ 1 by decide)
  | [_, _], h => absurd h (show ¬ 4 ≤ 2 by decide)
  | [_, _, _], h => absurd h (show ¬ 4 ≤ 3 by decide)
  | a :: b :: c :: d :: t, _ => ⟨a, b, c, d, t, rfl⟩
theorem whole_one {p : Int} {r : List Int} (h0 : 0 ≤ p) (h1 : p ≤ 11) (hl : argc p ≤ r.length) : PySi06.whole [p :: r.take (argc p)] = [p :: r.take (argc p)] := by
  rcases twelve h0 h1 with rfl | rfl | rfl | rfl | rfl | rfl | rfl | rfl | rfl | rfl | rfl | rfl
  · obtain ⟨a, b, t, rfl⟩ := len2 hl
    rfl
  · obtain ⟨a, b, c, d, t, rfl⟩ := len4 hl
    rfl
  · obtain ⟨a, b, c, d, t, rfl⟩ := len4 hl
    rfl
  · obtain ⟨a, b, c, t, rfl⟩ := len3 hl
    rfl
  · obtain ⟨a, b, t, rfl⟩ := len2 hl
    rfl
  · obtain ⟨a, b, t, rfl⟩ := len2 hl
    rfl
  · obtain ⟨a, b, c, t, rfl⟩ := len3 hl
    rfl
  · obtain ⟨a, b, t, rfl⟩ := len2 hl
    rfl
  · obtain ⟨a, b, t, rfl⟩ := len2 hl
    rfl
  · obtain ⟨a, t, rfl⟩ := len1 hl
    rfl
  · obtain ⟨a, b, c, d, t, rfl⟩ := len4 hl
    rfl
  · obtain ⟨a, t, rfl⟩ := len1 hl
    rfl
theorem whole_all : ∀ (f : Nat) (l : List Int) (cs : List (List (List Int))), PyFlat.calls PySi06.shape f l = some cs → cs.map PySi06.whole = cs
  | f, [], cs, h => by
    have e : cs = [] := by cases f <;> (unfold PyFlat.calls at h; exact (Option.some.inj h).symm)
    rw [e]
    rfl
  | f, p :: r, cs, h => by
    obtain ⟨f', cs', rfl, h0, h1, hl, rfl, h2⟩ := calls_cons h
    rw [List.map_cons, whole_one h0 h1 hl, whole_all f' _ cs' h2]
end Tap


namespace Tap
open Si06
open Si06Neutral (S step put asked1 opened bench begun listOf)

/-! ### one call after another -/
noncomputable def stp (s : S) (c : List (List Int)) : S × List Int := step s (c.headD [])
noncomputable def rest (s : S) (cs : List (List (List Int))) : List Int := PyFlat.told (PyFlat.played stp s cs)
theorem rest_nil (s : S) : rest s [] = [] := rfl
theorem rest_cons (s : S) (c : List Int) (cs : List (List (List Int))) : rest s ([c] :: cs) = ((step s c).2.length : Int) :: ((step s c).2 ++ rest (step s c).1 cs) := by
  show PyFlat.told ((stp s [c]).2 :: PyFlat.played stp (stp s [c]).1 cs) = _
  unfold PyFlat.told
  rw [List.flatMap_cons]
  rfl

/-- what is still to be done: the list, the benches' states, whether they are begun -/
structure Todo (l : List Int) (s : S) (cs : List (List (List Int))) : Prop where
  parse : ∃ f, PyFlat.calls PySi06.shape f l = some cs
  ok : ∀ c ∈ cs, asked1 (c.headD []) = true
  op : ∃ x y, opened x y (cs.map fun c => c.headD []) = true ∧ (x = true → s.1.isSome = true) ∧ (y = true → s.2.isSome = true)

theorem todo_start {l : List Int} (h : PySi06.answers_asked l = true) : ∃ cs, Todo l Si06Neutral.start cs ∧ cs.length ≤ 400 ∧ PySi06.answers l = rest Si06Neutral.start cs := by
  unfold PySi06.answers_asked at h
  unfold PySi06.answers
  cases hc : PySi06.calls l with
  | none => rw [hc] at h; cases h
  | some cs =>
    rw [hc] at h
    unfold PySi06.calls at hc
    cases hp : PyFlat.calls PySi06.shape l.length l with
    | none => rw [hp] at hc; cases hc
    | some ds =>
      rw [hp] at hc
      have e : ds.map PySi06.whole = ds := whole_all _ _ _ hp
      have e2 : ds = cs := by rw [← e]; exact Option.some.inj hc
      subst e2
      simp only [Bool.and_eq_true, PyFlat.atMost, decide_eq_true_eq, Si06Neutral.asked, List.all_eq_true] at h
      obtain ⟨h1, h2, _, _, h5⟩ := h
      refine ⟨ds, ⟨⟨_, hp⟩, fun c hc => h2 _ (List.mem_map_of_mem hc), ⟨false, false, h5, (fun h => by cases h), (fun h => by cases h)⟩⟩, h1, rfl⟩

theorem todo_nil {s : S} {cs : List (List (List Int))} (h : Todo [] s cs) : cs = [] := by
  obtain ⟨f, hf⟩ := h.parse
  cases f <;> (unfold PyFlat.calls at hf; exact (Option.some.inj hf).symm)

theorem isSome_put (s : S) (k : Int) (x : Option Abs) (hx : (Si06Neutral.get s k).isSome = true → x.isSome = true) : (s.1.isSome = true → (put s k x).1.isSome = true) ∧ (s.2.isSome = true → (put s k x).2.isSome = true) := by
  unfold put Si06Neutral.get at *
  by_cases h : k = 0
  · rw [if_pos h] at hx ⊢
    exact ⟨hx, fun h => h⟩
  · rw [if_neg h] at hx ⊢
    exact ⟨fun h => h, hx⟩

theorem worked_some (t : Option Abs) (q : Si06.Call) (h : t.isSome = true) : (worked t q).1.isSome = true := by
  cases t with
  | none => cases h
  | some t =>
    cases q <;> unfold worked
    · dsimp only
      split <;> rfl
    all_goals first
      | rfl
      | (dsimp only; split <;> first | rfl | (split <;> rfl))

theorem step_some (s : S) (c : List Int) : (s.1.isSome = true → (step s c).1.1.isSome = true) ∧ (s.2.isSome = true → (step s c).1.2.isSome = true) := by
  unfold step
  split
  · exact ⟨fun h => h, fun h => h⟩
  · exact isSome_put s _ _ (worked_some _ _)

theorem worked_begins (t : Option Abs) (w : Int) : worked t (.begins w) = if w ∈ widths then (some ⟨w.toNat, some (Q.ofInt 0), 0⟩, say 0) else (t, refused) := by
  cases t <;> rfl
theorem begun_some (s : S) (p : Int) (r : List Int) (hl : argc p ≤ r.length) (h : begun (p :: r.take (argc p)) = true) :
    (bench (p :: r.take (argc p)) = 0 → (step s (p :: r.take (argc p))).1.1.isSome = true) ∧ (bench (p :: r.take (argc p)) = 1 → (step s (p :: r.take (argc p))).1.2.isSome = true) := by
  unfold begun at h
  rw [Bool.and_eq_true] at h
  obtain ⟨h1, h2⟩ := h
  have hp : p = 0 := eq_of_beq h1
  subst hp
  match r, hl, h2 with
  | [], hl, _ => exact absurd hl (by decide)
  | [_], hl, _ => exact absurd (show 2 ≤ 1 from hl) (by decide)
  | k :: w :: r', _, h2 =>
    have hw : w ∈ widths := by
      have : ([8, 16, 32, 64] : List Int).contains w = true := h2
      exact List.contains_iff_mem.mp this
    have e : step s [0, k, w] = (put s k (some ⟨w.toNat, some (Q.ofInt 0), 0⟩), listOf [0, k, w] (say 0)) := by
      show (put s k (worked (Si06Neutral.get s k) (.begins w)).1, listOf [0, k, w] (worked (Si06Neutral.get s k) (.begins w)).2) = _
      rw [worked_begins, if_pos hw]
    show (k = 0 → (step s [0, k, w]).1.1.isSome = true) ∧ (k = 1 → (step s [0, k, w]).1.2.isSome = true)
    rw [e]
    unfold put
    constructor
    · intro hk
      dsimp only
      rw [if_pos hk]
      rfl
    · intro hk
      dsimp only
      rw [if_neg (by (first | lia | omega))]
      rfl

/-- the first call: its number p, its numbers; what is still to be done behind it -/
theorem todo_cons {p : Int} {r : List Int} {s : S} {cs : List (List (List Int))} (h : Todo (p :: r) s cs) :
    ∃ cs', cs = [p :: r.take (argc p)] :: cs' ∧ 0 ≤ p ∧ p ≤ 11 ∧ argc p ≤ r.length ∧ asked1 (p :: r.take (argc p)) = true ∧
      (p ≠ 0 → (Si06Neutral.get s (bench (p :: r.take (argc p)))).isSome = true) ∧ Todo (r.drop (argc p)) (step s (p :: r.take (argc p))).1 cs' := by
  obtain ⟨f, hf⟩ := h.parse
  obtain ⟨f', cs', rfl, h0, h11, hl, rfl, hp⟩ := calls_cons hf
  obtain ⟨x, y, hop, hx, hy⟩ := h.op
  have hop' : ((p :: r.take (argc p)).headD 1 == 0 || (if bench (p :: r.take (argc p)) = 0 then x else y)) = true ∧
      opened (x || (begun (p :: r.take (argc p)) && bench (p :: r.take (argc p)) == 0)) (y || (begun (p :: r.take (argc p)) && bench (p :: r.take (argc p)) == 1)) (cs'.map fun c => c.headD []) = true := by
    have : opened x y ((p :: r.take (argc p)) :: cs'.map fun c => c.headD []) = true := hop
    unfold opened at this
    rw [Bool.and_eq_true] at this
    exact this
  obtain ⟨o1, o2⟩ := hop'
  have hs := step_some s (p :: r.take (argc p))
  have ha : asked1 (p :: r.take (argc p)) = true := h.ok _ List.mem_cons_self
  refine ⟨cs', rfl, h0, h11, hl, ha, fun hne => ?_, ⟨_, hp⟩, fun c hc => h.ok c (List.mem_cons_of_mem _ hc), _, _, o2, fun hb => ?_, fun hb => ?_⟩
  · rw [Bool.or_eq_true] at o1
    rcases o1 with o1 | o1
    · exact absurd (eq_of_beq o1) hne
    · unfold Si06Neutral.get
      by_cases hk : bench (p :: r.take (argc p)) = 0
      · rw [if_pos hk] at o1 ⊢
        exact hx o1
      · rw [if_neg hk] at o1 ⊢
        exact hy o1
  · rw [Bool.or_eq_true] at hb
    rcases hb with hb | hb
    · exact hs.1 (hx hb)
    · rw [Bool.and_eq_true] at hb
      exact (begun_some s p r hl hb.1).1 (eq_of_beq hb.2)
  · rw [Bool.or_eq_true] at hb
    rcases hb with hb | hb
    · exact hs.2 (hy hb)
    · rw [Bool.and_eq_true] at hb
      exact (begun_some s p r hl hb.1).2 (eq_of_beq hb.2)

/-! ### what each call does, by the mirror -/
theorem put_get (s : S) (k : Int) : put s k (Si06Neutral.get s k) = s := by
  unfold put Si06Neutral.get
  by_cases h : k = 0
  · rw [if_pos h, if_pos h]
  · rw [if_neg h, if_neg h]
theorem natural_iff {z : Int} {b : Nat} (h : Si06Neutral.natural z b = true) : 0 ≤ z ∧ z < 2 ^ b := by
  unfold Si06Neutral.natural at h
  rw [Bool.and_eq_true, decide_eq_true_eq, decide_eq_true_eq] at h
  exact h
/-- a width that a bench may have -/
noncomputable def Wd (w : Nat) : Prop := w = 8 ∨ w = 16 ∨ w = 32 ∨ w = 64
theorem Wd.lo {w : Nat} (h : Wd w) : 3 ≤ w := by unfold Wd at h; (first | lia | omega)
theorem Wd.hi {w : Nat} (h : Wd w) : w ≤ 64 := by unfold Wd at h; (first | lia | omega)
theorem mem_widths {w : Int} : w ∈ widths ↔ w = 8 ∨ w = 16 ∨ w = 32 ∨ w = 64 := by
  unfold widths
  simp only [List.mem_cons, List.not_mem_nil, or_false]
theorem wd_of {w : Int} (h : w ∈ widths) : Wd w.toNat ∧ (w.toNat : Int) = w := by
  rw [mem_widths] at h
  unfold Wd
  (first | lia | omega)
theorem pat_iff (t : Abs) (a : Nat) : pattern t a = true ↔ a < 2 ^ t.w := decide_eq_true_iff

theorem step_begin (s : S) (k w : Int) : step s [0, k, w] = if w ∈ widths then (put s k (some ⟨w.toNat, some (Q.ofInt 0), 0⟩), [0]) else (s, [-2]) := by
  show (put s k (worked (Si06Neutral.get s k) (.begins w)).1, listOf [0, k, w] (worked (Si06Neutral.get s k) (.begins w)).2) = _
  rw [worked_begins]
  by_cases h : w ∈ widths
  · rw [if_pos h, if_pos h]
    rfl
  · rw [if_neg h, if_neg h]
    dsimp only
    rw [put_get]
    rfl
section
variable {s : S} {k : Int} {t : Abs}
theorem list_say (c : List Int) (p : Nat) (h : ([1, 2, 4, 5, 6, 7, 8, 11] : List Int).contains (c.headD 0) = true) : listOf c ⟨0, p⟩ = [0, (p : Int)] := by
  unfold listOf
  rw [if_pos ⟨rfl, h⟩]
theorem list_ref (c : List Int) : listOf c refused = [-2] := by
  unfold listOf
  rw [if_neg (fun h => absurd h.1 (by decide))]
  rfl
theorem step_op (hg : Si06Neutral.get s k = some t) (hw : Wd t.w) (p a b : Int) : step s [1, k, p, a, b] =
    (s, if 0 ≤ p ∧ p < 6 ∧ a.toNat < 2 ^ t.w ∧ b.toNat < 2 ^ t.w then [0, patOpt (opM p.toNat (num t.w a.toNat) (num t.w b.toNat)) t.w] else [-2]) := by
  show (put s k (worked (Si06Neutral.get s k) (.op p a.toNat b.toNat)).1, listOf [1, k, p, a, b] (worked (Si06Neutral.get s k) (.op p a.toNat b.toNat)).2) = _
  rw [hg]
  show (put s k (some t), listOf [1, k, p, a, b] (if 0 ≤ p ∧ p ≤ 5 ∧ pattern t a.toNat = true ∧ pattern t b.toNat = true then ⟨0, giveOf t.w (result t p.toNat a.toNat b.toNat)⟩ else refused)) = _
  rw [← hg, put_get]
  simp only [pat_iff]
  by_cases h : 0 ≤ p ∧ p < 6 ∧ a.toNat < 2 ^ t.w ∧ b.toNat < 2 ^ t.w
  · rw [if_pos h, if_pos ⟨h.1, by (first | lia | omega), h.2.2.1, h.2.2.2⟩, list_say _ _ rfl, op_spec t hw.lo hw.hi _ _ _ (by (first | lia | omega)) h.2.2.1 h.2.2.2]
  · rw [if_neg h, if_neg (fun h' => h ⟨h'.1, by (first | lia | omega), h'.2.2.1, h'.2.2.2⟩), list_ref]
theorem step_fma (hg : Si06Neutral.get s k = some t) (hw : Wd t.w) (a b c : Int) : step s [2, k, a, b, c] =
    (s, if a.toNat < 2 ^ t.w ∧ b.toNat < 2 ^ t.w ∧ c.toNat < 2 ^ t.w then [0, patOpt (fmaM (num t.w a.toNat) (num t.w b.toNat) (num t.w c.toNat)) t.w] else [-2]) := by
  show (put s k (worked (Si06Neutral.get s k) (.fma a.toNat b.toNat c.toNat)).1, listOf [2, k, a, b, c] (worked (Si06Neutral.get s k) (.fma a.toNat b.toNat c.toNat)).2) = _
  rw [hg]
  show (put s k (some t), listOf [2, k, a, b, c] (if pattern t a.toNat = true ∧ pattern t b.toNat = true ∧ pattern t c.toNat = true then ⟨0, giveOf t.w ((says t.w a.toNat).bind fun x => (says t.w b.toNat).bind fun y => (says t.w c.toNat).map fun z => ((x.mul y).add z).real)⟩ else refused)) = _
  rw [← hg, put_get]
  simp only [pat_iff]
  by_cases h : a.toNat < 2 ^ t.w ∧ b.toNat < 2 ^ t.w ∧ c.toNat < 2 ^ t.w
  · rw [if_pos h, if_pos h, list_say _ _ rfl, fma_spec t.w hw.lo hw.hi _ _ _ h.1 h.2.1 h.2.2]
  · rw [if_neg h, if_neg h, list_ref]
noncomputable def ordM (a b : Int) : Int := if a = b then 0 else if a < b then -1 else 1
theorem step_order (hg : Si06Neutral.get s k = some t) (a b : Int) : step s [3, k, a, b] =
    (s, if a.toNat < 2 ^ t.w ∧ b.toNat < 2 ^ t.w then [ordM (signed t.w a.toNat) (signed t.w b.toNat)] else [-2]) := by
  show (put s k (worked (Si06Neutral.get s k) (.order a.toNat b.toNat)).1, listOf [3, k, a, b] (worked (Si06Neutral.get s k) (.order a.toNat b.toNat)).2) = _
  rw [hg]
  show (put s k (some t), listOf [3, k, a, b] (if pattern t a.toNat = true ∧ pattern t b.toNat = true then say (match compare (signed t.w a.toNat) (signed t.w b.toNat) with
    | .lt => -1
    | .eq => 0
    | .gt => 1) else refused)) = _
  rw [← hg, put_get]
  simp only [pat_iff]
  by_cases h : a.toNat < 2 ^ t.w ∧ b.toNat < 2 ^ t.w
  · rw [if_pos h, if_pos h]
    unfold ordM
    generalize signed t.w a.toNat = x
    generalize signed t.w b.toNat = y
    rcases Int.lt_trichotomy x y with h | h | h
    · rw [Int.compare_eq_lt.mpr h, if_neg (by (first | lia | omega)), if_pos h]
      rfl
    · rw [Int.compare_eq_eq.mpr h, if_pos h]
      rfl
    · rw [Int.compare_eq_gt.mpr h, if_neg (by (first | lia | omega)), if_neg (by (first | lia | omega))]
      rfl
  · rw [if_neg h, if_neg h, list_ref]
theorem step_of (hg : Si06Neutral.get s k = some t) (hw : Wd t.w) (z : Int) : step s [4, k, z] = (s, [0, patOpt (some (z, 0)) t.w]) := by
  show (put s k (worked (Si06Neutral.get s k) (.of z)).1, listOf [4, k, z] (worked (Si06Neutral.get s k) (.of z)).2) = _
  rw [hg]
  show (put s k (some t), listOf [4, k, z] ⟨0, roundOf t.w (Q.ofInt z).real⟩) = _
  rw [← hg, put_get, list_say _ _ rfl, of_spec t.w hw.lo hw.hi]
theorem step_whole (hg : Si06Neutral.get s k = some t) (hw : Wd t.w) (a : Int) : step s [5, k, a] = (s, if a.toNat < 2 ^ t.w then [0, wholeM (num t.w a.toNat)] else [-2]) := by
  show (put s k (worked (Si06Neutral.get s k) (.whole a.toNat)).1, listOf [5, k, a] (worked (Si06Neutral.get s k) (.whole a.toNat)).2) = _
  rw [hg]
  show (put s k (some t), listOf [5, k, a] (if pattern t a.toNat = true then ⟨0, wordOf (match says t.w a.toNat with
    | none => -2 ^ 63
    | some x => if -2 ^ 63 ≤ x.whole ∧ x.whole < 2 ^ 63 then x.whole else -2 ^ 63)⟩ else refused)) = _
  rw [← hg, put_get]
  simp only [pat_iff]
  by_cases h : a.toNat < 2 ^ t.w
  · rw [if_pos h, if_pos h, list_say _ _ rfl]
    exact congrArg (fun z => (s, [0, z])) (whole_spec t.w a.toNat hw.lo h)
  · rw [if_neg h, if_neg h, list_ref]
theorem step_pass (hg : Si06Neutral.get s k = some t) (hw : Wd t.w) (v a : Int) : step s [6, k, v, a] = (s, if v ∈ widths ∧ a.toNat < 2 ^ t.w then [0, patOpt (num t.w a.toNat) v.toNat] else [-2]) := by
  show (put s k (worked (Si06Neutral.get s k) (.pass v a.toNat)).1, listOf [6, k, v, a] (worked (Si06Neutral.get s k) (.pass v a.toNat)).2) = _
  rw [hg]
  show (put s k (some t), listOf [6, k, v, a] (if v ∈ widths ∧ pattern t a.toNat = true then ⟨0, giveOf v.toNat ((says t.w a.toNat).map Q.real)⟩ else refused)) = _
  rw [← hg, put_get]
  simp only [pat_iff]
  by_cases h : v ∈ widths ∧ a.toNat < 2 ^ t.w
  · rw [if_pos h, if_pos h, list_say _ _ rfl, pass_spec t.w v.toNat _ hw.lo (wd_of h.1).1.lo (wd_of h.1).1.hi h.2]
  · rw [if_neg h, if_neg h, list_ref]
theorem step_double (hg : Si06Neutral.get s k = some t) (hw : Wd t.w) (a : Int) : step s [7, k, a] = (s, if a.toNat < 2 ^ t.w then [0, dblM (num t.w a.toNat)] else [-2]) := by
  show (put s k (worked (Si06Neutral.get s k) (.double a.toNat)).1, listOf [7, k, a] (worked (Si06Neutral.get s k) (.double a.toNat)).2) = _
  rw [hg]
  show (put s k (some t), listOf [7, k, a] (if pattern t a.toNat = true then ⟨0, doubleOf (says t.w a.toNat)⟩ else refused)) = _
  rw [← hg, put_get]
  simp only [pat_iff]
  by_cases h : a.toNat < 2 ^ t.w
  · rw [if_pos h, if_pos h, list_say _ _ rfl, double_spec t.w _ hw.lo hw.hi h]
  · rw [if_neg h, if_neg h, list_ref]
theorem step_undouble (hg : Si06Neutral.get s k = some t) (hw : Wd t.w) (b : Int) : step s [8, k, b] = (s, [0, patOpt (und b.toNat) t.w]) := by
  show (put s k (worked (Si06Neutral.get s k) (.undouble b.toNat)).1, listOf [8, k, b] (worked (Si06Neutral.get s k) (.undouble b.toNat)).2) = _
  rw [hg]
  show (put s k (some t), listOf [8, k, b] ⟨0, giveOf t.w ((ofDouble b.toNat).map Q.real)⟩) = _
  rw [← hg, put_get, list_say _ _ rfl, undouble_spec t.w _ hw.lo hw.hi]
theorem step_clear (hg : Si06Neutral.get s k = some t) : step s [9, k] = (put s k (some ⟨t.w, some (Q.ofInt 0), 0⟩), [0]) := by
  show (put s k (worked (Si06Neutral.get s k) .clear).1, listOf [9, k] (worked (Si06Neutral.get s k) .clear).2) = _
  rw [hg]
  rfl
theorem step_sum (hg : Si06Neutral.get s k = some t) (hp : t.products < MOST) (a b m : Int) : step s [10, k, a, b, m] =
    if a.toNat < 2 ^ t.w ∧ b.toNat < 2 ^ t.w ∧ (m = 0 ∨ m = 1) then
      (put s k (some ⟨t.w, t.sum.bind fun u => (says t.w a.toNat).bind fun x => (says t.w b.toNat).map fun y => reduced (u.add (if m = 1 then (x.mul y).neg else x.mul y)), t.products + 1⟩), [0])
    else (s, [-2]) := by
  show (put s k (worked (Si06Neutral.get s k) (.sum a.toNat b.toNat m)).1, listOf [10, k, a, b, m] (worked (Si06Neutral.get s k) (.sum a.toNat b.toNat m)).2) = _
  have e : worked (some t) (.sum a.toNat b.toNat m) = if pattern t a.toNat = true ∧ pattern t b.toNat = true ∧ (m = 0 ∨ m = 1) then
      (if MOST ≤ t.products then (some t, say (-1))
       else (some ⟨t.w, t.sum.bind fun u => (says t.w a.toNat).bind fun x => (says t.w b.toNat).map fun y => reduced (u.add (if m = 1 then (x.mul y).neg else x.mul y)), t.products + 1⟩, say 0))
    else (some t, refused) := rfl
  rw [hg, e]
  simp only [pat_iff]
  by_cases h : a.toNat < 2 ^ t.w ∧ b.toNat < 2 ^ t.w ∧ (m = 0 ∨ m = 1)
  · rw [if_pos h, if_pos h, if_neg (by (first | lia | omega))]
    rfl
  · rw [if_neg h, if_neg h]
    dsimp only
    rw [← hg, put_get, list_ref]
theorem step_total (hg : Si06Neutral.get s k = some t) (hw : Wd t.w) {e : Option E} (h : SumRel t.sum e) : step s [11, k] = (s, [0, patOpt e t.w]) := by
  show (put s k (worked (Si06Neutral.get s k) .total).1, listOf [11, k] (worked (Si06Neutral.get s k) .total).2) = _
  rw [hg]
  show (put s k (some t), listOf [11, k] ⟨0, giveOf t.w (t.sum.map Q.real)⟩) = _
  rw [← hg, put_get, list_say _ _ rfl, total_spec hw.lo hw.hi h]
end
end Tap


namespace Tap
open Si06
open Si06Neutral (S step put asked1 opened bench begun listOf)
/-- what a call does to its bench, and what it answers -/
noncomputable def one (o : Option Abs) (p : Int) (ns : List Int) : Option Abs × List Int := ((step (o, none) (p :: 0 :: ns)).1.1, (step (o, none) (p :: 0 :: ns)).2)
theorem ask0 {k : Int} {ns : List Int} (h : asked1 (0 :: k :: ns) = true) : ∃ a : Int, ns = [a] := match ns, h with
  | [], h => absurd (show false = true from h) (by decide)
  | [a], _ => ⟨a, rfl⟩
  | _ :: _ :: _, h => absurd (show false = true from h) (by decide)
theorem ask1 {k : Int} {ns : List Int} (h : asked1 (1 :: k :: ns) = true) : ∃ a b c : Int, ns = [a, b, c] := match ns, h with
  | [], h => absurd (show false = true from h) (by decide)
  | [_], h => absurd (show false = true from h) (by decide)
  | [_, _], h => absurd (show false = true from h) (by decide)
  | [a, b, c], _ => ⟨a, b, c, rfl⟩
  | _ :: _ :: _ :: _ :: _, h => absurd (show false = true from h) (by decide)
theorem ask2 {k : Int} {ns : List Int} (h : asked1 (2 :: k :: ns) = true) : ∃ a b c : Int, ns = [a, b, c] := match ns, h with
  | [], h => absurd (show false = true from h) (by decide)
  | [_], h => absurd (show false = true from h) (by decide)
  | [_, _], h => absurd (show false = true from h) (by decide)
  | [a, b, c], _ => ⟨a, b, c, rfl⟩
  | _ :: _ :: _ :: _ :: _, h => absurd (show false = true from h) (by decide)
theorem ask3 {k : Int} {ns : List Int} (h : asked1 (3 :: k :: ns) = true) : ∃ a b : Int, ns = [a, b] := match ns, h with
  | [], h => absurd (show false = true from h) (by decide)
  | [_], h => absurd (show false = true from h) (by decide)
  | [a, b], _ => ⟨a, b, rfl⟩
  | _ :: _ :: _ :: _, h => absurd (show false = true from h) (by decide)
theorem ask4 {k : Int} {ns : List Int} (h : asked1 (4 :: k :: ns) = true) : ∃ a : Int, ns = [a] := match ns, h with
  | [], h => absurd (show false = true from h) (by decide)
  | [a], _ => ⟨a, rfl⟩
  | _ :: _ :: _, h => absurd (show false = true from h) (by decide)
theorem ask5 {k : Int} {ns : List Int} (h : asked1 (5 :: k :: ns) = true) : ∃ a : Int, ns = [a] := match ns, h with
  | [], h => absurd (show false = true from h) (by decide)
  | [a], _ => ⟨a, rfl⟩
  | _ :: _ :: _, h => absurd (show false = true from h) (by decide)
theorem ask6 {k : Int} {ns : List Int} (h : asked1 (6 :: k :: ns) = true) : ∃ a b : Int, ns = [a, b] := match ns, h with
  | [], h => absurd (show false = true from h) (by decide)
  | [_], h => absurd (show false = true from h) (by decide)
  | [a, b], _ => ⟨a, b, rfl⟩
  | _ :: _ :: _ :: _, h => absurd (show false = true from h) (by decide)
theorem ask7 {k : Int} {ns : List Int} (h : asked1 (7 :: k :: ns) = true) : ∃ a : Int, ns = [a] := match ns, h with
  | [], h => absurd (show false = true from h) (by decide)
  | [a], _ => ⟨a, rfl⟩
  | _ :: _ :: _, h => absurd (show false = true from h) (by decide)
theorem ask8 {k : Int} {ns : List Int} (h : asked1 (8 :: k :: ns) = true) : ∃ a : Int, ns = [a] := match ns, h with
  | [], h => absurd (show false = true from h) (by decide)
  | [a], _ => ⟨a, rfl⟩
  | _ :: _ :: _, h => absurd (show false = true from h) (by decide)
theorem ask9 {k : Int} {ns : List Int} (h : asked1 (9 :: k :: ns) = true) : ns = [] := match ns, h with
  | [], _ => rfl
  | _ :: _, h => absurd (show false = true from h) (by decide)
theorem ask10 {k : Int} {ns : List Int} (h : asked1 (10 :: k :: ns) = true) : ∃ a b c : Int, ns = [a, b, c] := match ns, h with
  | [], h => absurd (show false = true from h) (by decide)
  | [_], h => absurd (show false = true from h) (by decide)
  | [_, _], h => absurd (show false = true from h) (by decide)
  | [a, b, c], _ => ⟨a, b, c, rfl⟩
  | _ :: _ :: _ :: _ :: _, h => absurd (show false = true from h) (by decide)
theorem ask11 {k : Int} {ns : List Int} (h : asked1 (11 :: k :: ns) = true) : ns = [] := match ns, h with
  | [], _ => rfl
  | _ :: _, h => absurd (show false = true from h) (by decide)
theorem step_one (s : S) (p k : Int) (ns : List Int) (h : asked1 (p :: k :: ns) = true) (hp0 : 0 ≤ p) (hp1 : p ≤ 11) :
    step s (p :: k :: ns) = (put s k (one (Si06Neutral.get s k) p ns).1, (one (Si06Neutral.get s k) p ns).2) ∧ (k = 0 ∨ k = 1) ∧ asked1 (p :: 0 :: ns) = true := by
  have key : Si06Neutral.natural k 1 = true → k = 0 ∨ k = 1 := fun h => by
    have := natural_iff h
    (first | lia | omega)
  have fin : ∀ b : Bool, (Si06Neutral.natural k 1 && b) = true → (k = 0 ∨ k = 1) ∧ (Si06Neutral.natural 0 1 && b) = true := fun b h => by
    rw [Bool.and_eq_true] at h
    refine ⟨key h.1, ?_⟩
    rw [Bool.and_eq_true]
    exact ⟨rfl, h.2⟩
  rcases twelve hp0 hp1 with rfl | rfl | rfl | rfl | rfl | rfl | rfl | rfl | rfl | rfl | rfl | rfl
  · obtain ⟨a, rfl⟩ := ask0 h
    exact ⟨rfl, fin _ h⟩
  · obtain ⟨a, b, c, rfl⟩ := ask1 h
    exact ⟨rfl, fin _ h⟩
  · obtain ⟨a, b, c, rfl⟩ := ask2 h
    exact ⟨rfl, fin _ h⟩
  · obtain ⟨a, b, rfl⟩ := ask3 h
    exact ⟨rfl, fin _ h⟩
  · obtain ⟨a, rfl⟩ := ask4 h
    exact ⟨rfl, fin _ h⟩
  · obtain ⟨a, rfl⟩ := ask5 h
    exact ⟨rfl, fin _ h⟩
  · obtain ⟨a, b, rfl⟩ := ask6 h
    exact ⟨rfl, fin _ h⟩
  · obtain ⟨a, rfl⟩ := ask7 h
    exact ⟨rfl, fin _ h⟩
  · obtain ⟨a, rfl⟩ := ask8 h
    exact ⟨rfl, fin _ h⟩
  · obtain rfl := ask9 h
    exact ⟨rfl, key h, rfl⟩
  · obtain ⟨a, b, c, rfl⟩ := ask10 h
    exact ⟨rfl, fin _ h⟩
  · obtain rfl := ask11 h
    exact ⟨rfl, key h, rfl⟩
theorem get_put_same (s : S) (k : Int) (x : Option Abs) : Si06Neutral.get (put s k x) k = x := by
  unfold Si06Neutral.get put
  by_cases h : k = 0
  · rw [if_pos h, if_pos h]
  · rw [if_neg h, if_neg h]
/-- the numbers of a call, by its kind -/
theorem andI {a b : Bool} (h : (a && b) = true) : a = true ∧ b = true := by
  rw [Bool.and_eq_true] at h
  exact h
theorem asked_op {ns : List Int} (h : asked1 (1 :: 0 :: ns) = true) : ∃ p a b, ns = [p, a, b] ∧ 0 ≤ a ∧ 0 ≤ b := by
  obtain ⟨p, a, b, rfl⟩ := ask1 h
  have h2 := andI (andI (andI (show (Si06Neutral.natural 0 1 && (Si06Neutral.whole32 p && (Si06Neutral.natural a 64 && Si06Neutral.natural b 64))) = true from h)).2).2
  exact ⟨p, a, b, rfl, (natural_iff h2.1).1, (natural_iff h2.2).1⟩
theorem asked_fma {ns : List Int} (h : asked1 (2 :: 0 :: ns) = true) : ∃ a b c, ns = [a, b, c] ∧ 0 ≤ a ∧ 0 ≤ b ∧ 0 ≤ c := by
  obtain ⟨a, b, c, rfl⟩ := ask2 h
  have h1 := andI (andI (show (Si06Neutral.natural 0 1 && (Si06Neutral.natural a 64 && (Si06Neutral.natural b 64 && Si06Neutral.natural c 64))) = true from h)).2
  have h2 := andI h1.2
  exact ⟨a, b, c, rfl, (natural_iff h1.1).1, (natural_iff h2.1).1, (natural_iff h2.2).1⟩
theorem asked_order {ns : List Int} (h : asked1 (3 :: 0 :: ns) = true) : ∃ a b, ns = [a, b] ∧ 0 ≤ a ∧ 0 ≤ b := by
  obtain ⟨a, b, rfl⟩ := ask3 h
  have h1 := andI (andI (show (Si06Neutral.natural 0 1 && (Si06Neutral.natural a 64 && Si06Neutral.natural b 64)) = true from h)).2
  exact ⟨a, b, rfl, (natural_iff h1.1).1, (natural_iff h1.2).1⟩
theorem asked_begin {ns : List Int} (h : asked1 (0 :: 0 :: ns) = true) : ∃ w, ns = [w] := ask0 h
theorem asked_of {ns : List Int} (h : asked1 (4 :: 0 :: ns) = true) : ∃ z, ns = [z] ∧ -2 ^ 63 ≤ z ∧ z < 2 ^ 63 := by
  obtain ⟨z, rfl⟩ := ask4 h
  have h1 := andI (andI (show (Si06Neutral.natural 0 1 && Si06Neutral.whole64 z) = true from h)).2
  exact ⟨z, rfl, of_decide_eq_true h1.1, of_decide_eq_true h1.2⟩
theorem asked_whole {ns : List Int} (h : asked1 (5 :: 0 :: ns) = true) : ∃ a, ns = [a] ∧ 0 ≤ a := by
  obtain ⟨a, rfl⟩ := ask5 h
  exact ⟨a, rfl, (natural_iff (andI (show (Si06Neutral.natural 0 1 && Si06Neutral.natural a 64) = true from h)).2).1⟩
theorem asked_pass {ns : List Int} (h : asked1 (6 :: 0 :: ns) = true) : ∃ v a, ns = [v, a] ∧ 0 ≤ a := by
  obtain ⟨v, a, rfl⟩ := ask6 h
  exact ⟨v, a, rfl, (natural_iff (andI (andI (show (Si06Neutral.natural 0 1 && (Si06Neutral.whole32 v && Si06Neutral.natural a 64)) = true from h)).2).2).1⟩
theorem asked_double {ns : List Int} (h : asked1 (7 :: 0 :: ns) = true) : ∃ a, ns = [a] ∧ 0 ≤ a := by
  obtain ⟨a, rfl⟩ := ask7 h
  exact ⟨a, rfl, (natural_iff (andI (show (Si06Neutral.natural 0 1 && Si06Neutral.natural a 64) = true from h)).2).1⟩
theorem asked_undouble {ns : List Int} (h : asked1 (8 :: 0 :: ns) = true) : ∃ a, ns = [a] ∧ 0 ≤ a ∧ a < 2 ^ 64 := by
  obtain ⟨a, rfl⟩ := ask8 h
  exact ⟨a, rfl, natural_iff (andI (show (Si06Neutral.natural 0 1 && Si06Neutral.natural a 64) = true from h)).2⟩
theorem asked_clear {ns : List Int} (h : asked1 (9 :: 0 :: ns) = true) : ns = [] := ask9 h
theorem asked_sum {ns : List Int} (h : asked1 (10 :: 0 :: ns) = true) : ∃ a b m, ns = [a, b, m] ∧ 0 ≤ a ∧ 0 ≤ b := by
  obtain ⟨a, b, m, rfl⟩ := ask10 h
  have h1 := andI (andI (show (Si06Neutral.natural 0 1 && (Si06Neutral.natural a 64 && (Si06Neutral.natural b 64 && Si06Neutral.whole32 m))) = true from h)).2
  exact ⟨a, b, m, rfl, (natural_iff h1.1).1, (natural_iff (andI h1.2).1).1⟩
theorem asked_total {ns : List Int} (h : asked1 (11 :: 0 :: ns) = true) : ns = [] := ask11 h
end Tap


namespace Tap
open Si06
/-! ### stage 2: a double's bits, the sum as the program keeps it -/
theorem nev_lift (k n : Int) (t : Nat) : nev (k * 2 ^ t + n) (52 - (t : Int)) = k * 2 ^ 52 + nev n (52 - (t : Int)) := by
  unfold nev
  by_cases h : (0 : Int) ≤ 52 - (t : Int)
  · rw [if_pos h, if_pos h, Int.add_mul, Int.mul_assoc, ← Int.pow_add]
    congr 3
    (first | lia | omega)
  · rw [if_neg h, if_neg h]
    have e : (2 : Int) ^ t = 2 ^ 52 * 2 ^ (-(52 - (t : Int))).toNat := by
      rw [← Int.pow_add]
      congr 1
      (first | lia | omega)
    have hp := ipow_pos (-(52 - (t : Int))).toNat
    rw [e]
    generalize (2 : Int) ^ ((-(52 - (t : Int))).toNat - 1) = Y
    generalize (2 : Int) ^ (-(52 - (t : Int))).toNat = X at *
    have e2 : (k * (2 ^ 52 * X) + n) / X = k * 2 ^ 52 + n / X := by
      rw [← Int.mul_assoc, Int.add_comm, Int.add_mul_ediv_right _ _ (by (first | lia | omega)), Int.add_comm]
    rw [e2]
    have e3 : k * (2 ^ 52 * X) + n - (k * 2 ^ 52 + n / X) * X = n - n / X * X := by
      rw [Int.add_mul, ← Int.mul_assoc]
      (first | lia | omega)
    have e4 : (k * 2 ^ 52 + n / X) % 2 = n / X % 2 := by (first | lia | omega)
    rw [e3, e4]
    split
    · (first | lia | omega)
    · rfl
theorem dbl_prog (m : Nat) (p : Int) (hm : m ≠ 0) (hp : -1000 ≤ p) : (p + (m.log2 : Int) + 1023 - 1) * 2 ^ 52 + nev (m : Int) (52 - (m.log2 : Int)) = dblAbove m p := by
  unfold dblAbove
  rw [← nev_lift]
  congr 1
  unfold dbits
  have h1 : 2 ^ m.log2 ≤ m := Nat.log2_self_le hm
  have h2 : (((p + (m.log2 : Int) + 1023).toNat * 2 ^ m.log2 : Nat) : Int) = (p + (m.log2 : Int) + 1023) * 2 ^ m.log2 := by
    rw [Int.natCast_mul, Int.natCast_pow, Int.toNat_of_nonneg (by (first | lia | omega))]
    rfl
  have h3 : ((2 ^ m.log2 : Nat) : Int) = (2 : Int) ^ m.log2 := by rw [Int.natCast_pow]; rfl
  rw [Int.natCast_add, h2, Int.natCast_sub h1, h3, Int.sub_mul]
  (first | lia | omega)
theorem addE_comm (a b : E) : addE a b = addE b a := by
  unfold addE
  rw [Int.min_comm a.2 b.2, Int.add_comm]
theorem mulE_opp (a b : E) : mulE (oppE a) b = oppE (mulE a b) := by
  unfold mulE oppE
  dsimp only
  rw [Int.neg_mul]
theorem sum_fma (s a b : Option E) (minus : Bool) : fmaM (if minus then a.map oppE else a) b s = sumM s a b minus := by
  cases a with
  | none => cases minus <;> cases s <;> rfl
  | some x =>
    cases b with
    | none => cases minus <;> cases s <;> rfl
    | some y =>
      cases s with
      | none => cases minus <;> rfl
      | some t =>
        cases minus
        · show some (addE (mulE x y) t) = some (addE t (mulE x y))
          rw [addE_comm]
        · show some (addE (mulE (oppE x) y) t) = some (addE t (oppE (mulE x y)))
          rw [addE_comm, mulE_opp]
/-- the size of a sum of n products -/
noncomputable def Tl (n : Nat) (e : E) : Prop := -640 ≤ e.2 ∧ e.2 ≤ 640 ∧ e.1.natAbs * 2 ^ (e.2 + 640).toNat ≤ n * 2 ^ 1402
theorem Tl.zero (n : Nat) : Tl n (0, 0) := ⟨by show (-640 : Int) ≤ 0; decide, by show (0 : Int) ≤ 640; decide, by rw [show ((0, 0) : E).1.natAbs = 0 from rfl, Nat.zero_mul]; exact Nat.zero_le _⟩
theorem Tl.mono {n m : Nat} {e : E} (h : Tl n e) (hm : n ≤ m) : Tl m e := ⟨h.1, h.2.1, Nat.le_trans h.2.2 (Nat.mul_le_mul_right _ hm)⟩
theorem Tl.add {n : Nat} {t u : E} (h : Tl n t) (h' : Tl 1 u) : Tl (n + 1) (addE t u) := by
  obtain ⟨a1, a2, a3⟩ := h
  obtain ⟨b1, b2, b3⟩ := h'
  unfold addE
  refine ⟨by dsimp only; (first | lia | omega), by dsimp only; (first | lia | omega), ?_⟩
  dsimp only
  have q1 := Int.natAbs_add_le (t.1 * 2 ^ (t.2 - min t.2 u.2).toNat) (u.1 * 2 ^ (u.2 - min t.2 u.2).toNat)
  have q2 : ∀ (x : Int) (k : Nat), (x * 2 ^ k).natAbs = x.natAbs * 2 ^ k := fun x k => by
    rw [Int.natAbs_mul, Int.natAbs_pow]
    rfl
  rw [q2, q2] at q1
  have q3 : ∀ (x : Nat) (p : Int), min t.2 u.2 ≤ p → x * 2 ^ (p - min t.2 u.2).toNat * 2 ^ (min t.2 u.2 + 640).toNat = x * 2 ^ (p + 640).toNat := fun x p hp => by
    rw [Nat.mul_assoc, ← Nat.pow_add]
    congr 2
    (first | lia | omega)
  have q4 := Nat.mul_le_mul_right (2 ^ (min t.2 u.2 + 640).toNat) q1
  rw [Nat.add_mul, q3 _ _ (by (first | lia | omega)), q3 _ _ (by (first | lia | omega))] at q4
  rw [Nat.add_mul]
  exact Nat.le_trans q4 (Nat.add_le_add a3 b3)
theorem Tl.prod {x y : E} (hx : x.1.natAbs < 2 ^ 61 ∧ -320 ≤ x.2 ∧ x.2 ≤ 320) (hy : y.1.natAbs < 2 ^ 61 ∧ -320 ≤ y.2 ∧ y.2 ≤ 320) (b : Bool) : Tl 1 (if b then oppE (mulE x y) else mulE x y) := by
  have key : Tl 1 (mulE x y) := by
    obtain ⟨a1, a2, a3⟩ := hx
    obtain ⟨b1, b2, b3⟩ := hy
    refine ⟨by show _ ≤ x.2 + y.2; (first | lia | omega), by show x.2 + y.2 ≤ _; (first | lia | omega), ?_⟩
    show (x.1 * y.1).natAbs * 2 ^ (x.2 + y.2 + 640).toNat ≤ _
    rw [Int.natAbs_mul, Nat.one_mul]
    have h1 : x.1.natAbs * y.1.natAbs ≤ 2 ^ 61 * 2 ^ 61 := Nat.mul_le_mul (Nat.le_of_lt a1) (Nat.le_of_lt b1)
    have h2 : 2 ^ (x.2 + y.2 + 640).toNat ≤ 2 ^ 1280 := Nat.pow_le_pow_right (by decide) (by (first | lia | omega))
    refine Nat.le_trans (Nat.mul_le_mul h1 h2) ?_
    rw [← Nat.pow_add, ← Nat.pow_add]
    exact Nat.le_refl _
  cases b
  · exact key
  · obtain ⟨c1, c2, c3⟩ := key
    refine ⟨c1, c2, ?_⟩
    show (-(mulE x y).1).natAbs * _ ≤ _
    rw [Int.natAbs_neg]
    exact c3
theorem Tl.bi {n : Nat} {e : E} (h : Tl n e) (hn : n ≤ 1000) : bi e.1 ≤ 1500 := by
  obtain ⟨a1, a2, a3⟩ := h
  rw [bi_le]
  have h1 : e.1.natAbs * 1 ≤ e.1.natAbs * 2 ^ (e.2 + 640).toNat := Nat.mul_le_mul_left _ (Nat.two_pow_pos _)
  have h2 : n * 2 ^ 1402 ≤ 1000 * 2 ^ 1402 := Nat.mul_le_mul_right _ hn
  have h3 : 1000 * 2 ^ 1402 < 2 ^ 1500 := by decide +kernel
  exact Nat.lt_of_le_of_lt (Nat.le_trans (by rw [Nat.mul_one] at h1; exact h1) (Nat.le_trans a3 h2)) h3
theorem sum_tl {n : Nat} {s a b : Option E} {m : Bool} (hs : ∀ e, s = some e → Tl n e) (ha : ∀ e, a = some e → e.1.natAbs < 2 ^ 61 ∧ -320 ≤ e.2 ∧ e.2 ≤ 320) (hb : ∀ e, b = some e → e.1.natAbs < 2 ^ 61 ∧ -320 ≤ e.2 ∧ e.2 ≤ 320) :
    ∀ e, sumM s a b m = some e → Tl (n + 1) e := by
  intro e he
  cases s with
  | none => cases he
  | some t =>
    cases a with
    | none => cases he
    | some x =>
      cases b with
      | none => cases he
      | some y =>
        cases he
        exact (hs _ rfl).add (Tl.prod (ha _ rfl) (hb _ rfl) m)
theorem und_bounds (b : Nat) (e : E) (h : und b = some e) : e.1.natAbs < 2 ^ 61 ∧ -1100 ≤ e.2 ∧ e.2 ≤ 1100 := by
  unfold und at h
  split at h
  · cases h
  · cases h
    have hm : (undM b).natAbs < 2 ^ 61 := by
      unfold undM
      split <;> (first | lia | omega)
    refine ⟨?_, ?_, ?_⟩
    · show (if 2 ^ 63 ≤ b then -undM b else undM b).natAbs < _
      split
      · rw [Int.natAbs_neg]
        exact hm
      · exact hm
    · show _ ≤ undP b
      unfold undP
      split <;> (first | lia | omega)
    · show undP b ≤ _
      unfold undP
      split <;> (first | lia | omega)
end Tap


namespace Tap
open Si06
open Si06Neutral (S step put asked1 opened bench begun listOf)
/-! ### each call upon one bench -/
theorem sum_zero : SumRel (some (Q.ofInt 0)) (some (0, 0)) := by
  refine ⟨by decide, ?_⟩
  show val (Q.ofInt 0) = ((0 : Int) : Rat) * p2 0
  rw [val_zero]
  grind
theorem one_of {o : Option Abs} {p : Int} {ns : List Int} {s : S} {out : List Int} (h : step (o, none) (p :: 0 :: ns) = (s, out)) : one o p ns = (s.1, out) := by
  unfold one
  rw [h]
section
variable {t : Abs}
theorem one_begin_no (o : Option Abs) {v : Int} (h : v ∉ widths) : one o 0 [v] = (o, [-2]) := by
  refine (one_of (s := (o, none)) ?_)
  rw [step_begin, if_neg h]
theorem one_begin (o : Option Abs) {v : Int} (h : v ∈ widths) : one o 0 [v] = (some ⟨v.toNat, some (Q.ofInt 0), 0⟩, [0]) := by
  refine (one_of (s := (some ⟨v.toNat, some (Q.ofInt 0), 0⟩, none)) ?_)
  rw [step_begin, if_pos h]
  rfl
theorem one_op (hw : Wd t.w) (p a b : Int) : one (some t) 1 [p, a, b] = (some t, if 0 ≤ p ∧ p < 6 ∧ a.toNat < 2 ^ t.w ∧ b.toNat < 2 ^ t.w then [0, patOpt (opM p.toNat (num t.w a.toNat) (num t.w b.toNat)) t.w] else [-2]) :=
  one_of (s := (some t, none)) (step_op rfl hw p a b)
theorem one_fma (hw : Wd t.w) (a b c : Int) : one (some t) 2 [a, b, c] = (some t, if a.toNat < 2 ^ t.w ∧ b.toNat < 2 ^ t.w ∧ c.toNat < 2 ^ t.w then [0, patOpt (fmaM (num t.w a.toNat) (num t.w b.toNat) (num t.w c.toNat)) t.w] else [-2]) :=
  one_of (s := (some t, none)) (step_fma rfl hw a b c)
theorem one_order (a b : Int) : one (some t) 3 [a, b] = (some t, if a.toNat < 2 ^ t.w ∧ b.toNat < 2 ^ t.w then [ordM (signed t.w a.toNat) (signed t.w b.toNat)] else [-2]) :=
  one_of (s := (some t, none)) (step_order rfl a b)
theorem one_of_call (hw : Wd t.w) (z : Int) : one (some t) 4 [z] = (some t, [0, patOpt (some (z, 0)) t.w]) :=
  one_of (s := (some t, none)) (step_of rfl hw z)
theorem one_whole (hw : Wd t.w) (a : Int) : one (some t) 5 [a] = (some t, if a.toNat < 2 ^ t.w then [0, wholeM (num t.w a.toNat)] else [-2]) :=
  one_of (s := (some t, none)) (step_whole rfl hw a)
theorem one_pass (hw : Wd t.w) (v a : Int) : one (some t) 6 [v, a] = (some t, if v ∈ widths ∧ a.toNat < 2 ^ t.w then [0, patOpt (num t.w a.toNat) v.toNat] else [-2]) :=
  one_of (s := (some t, none)) (step_pass rfl hw v a)
theorem one_double (hw : Wd t.w) (a : Int) : one (some t) 7 [a] = (some t, if a.toNat < 2 ^ t.w then [0, dblM (num t.w a.toNat)] else [-2]) :=
  one_of (s := (some t, none)) (step_double rfl hw a)
theorem one_undouble (hw : Wd t.w) (b : Int) : one (some t) 8 [b] = (some t, [0, patOpt (und b.toNat) t.w]) :=
  one_of (s := (some t, none)) (step_undouble rfl hw b)
theorem one_clear : one (some t) 9 [] = (some ⟨t.w, some (Q.ofInt 0), 0⟩, [0]) :=
  one_of (s := (some ⟨t.w, some (Q.ofInt 0), 0⟩, none)) (step_clear (s := (some t, none)) (k := 0) rfl)
theorem one_sum_no (hp : t.products < MOST) (a b m : Int) (h : ¬ (a.toNat < 2 ^ t.w ∧ b.toNat < 2 ^ t.w ∧ (m = 0 ∨ m = 1))) : one (some t) 10 [a, b, m] = (some t, [-2]) := by
  refine (one_of (s := (some t, none)) ?_)
  rw [step_sum (t := t) rfl hp, if_neg h]
theorem one_sum (hp : t.products < MOST) (a b m : Int) (h : a.toNat < 2 ^ t.w ∧ b.toNat < 2 ^ t.w ∧ (m = 0 ∨ m = 1)) : one (some t) 10 [a, b, m] =
    (some ⟨t.w, t.sum.bind fun u => (says t.w a.toNat).bind fun x => (says t.w b.toNat).map fun y => reduced (u.add (if m = 1 then (x.mul y).neg else x.mul y)), t.products + 1⟩, [0]) := by
  refine (one_of (s := (some ⟨t.w, t.sum.bind fun u => (says t.w a.toNat).bind fun x => (says t.w b.toNat).map fun y => reduced (u.add (if m = 1 then (x.mul y).neg else x.mul y)), t.products + 1⟩, none)) ?_)
  rw [step_sum (t := t) rfl hp, if_pos h]
  rfl
theorem one_total (hw : Wd t.w) {e : Option E} (h : SumRel t.sum e) : one (some t) 11 [] = (some t, [0, patOpt e t.w]) :=
  one_of (s := (some t, none)) (step_total (s := (some t, none)) (k := 0) rfl hw h)
end
end Tap


set_option Elab.async false
set_option linter.all false
set_option maxRecDepth 100000
set_option maxHeartbeats 4000000
namespace Tb
open PySem PySem.Spec PyProof.Rows L2
open PySem.W (Codec)

theorem bits_bi (x : Int) : Builtin.Int.intBits x = Tap.bi x := by
  unfold Builtin.Int.intBits Tap.bi Tap.bl
  by_cases h : x = 0
  · subst h
    rfl
  · rw [if_neg (by simpa using h), if_neg (by (first | lia | omega))]
theorem min2_eq (i j : Int) : (if j < i then j else i) = min i j := by
  split <;> (first | lia | omega)
theorem max2_eq (i j : Int) : (if j > i then j else i) = max i j := by
  split <;> (first | lia | omega)
theorem abs2_eq (i : Int) : (if i < 0 then -i else i) = (i.natAbs : Int) := by
  split <;> (first | lia | omega)
theorem shl_of {i j : Int} (h0 : 0 ≤ j) (h1 : j ≤ 1000000) (h2 : Tap.bi i ≤ 1000000) : CShl i j := ⟨h0, h1, by rw [bits_bi]; exact h2⟩
theorem mul_of {i j : Int} (h1 : Tap.bi i ≤ 1000000) (h2 : Tap.bi j ≤ 1000000) : CMulB i j := ⟨by rw [bits_bi]; exact h1, by rw [bits_bi]; exact h2⟩
theorem cx_K {CX : CXT} {P : Program} {w : World} {K : PySem.W.Frag} {mg : Str → Option Value} {base : Heap} {N : List Str} {qual : Str} {scope : Scope} {f : Addr} {cd : Value} {A : Around} {outer : List Env} {s : Shared} {H : Hp} {E : XK} :
    (cxOf CX P w K mg base N qual scope f cd A outer s H E).K = K := rfl

noncomputable def top (i : Nat) : Stmt := PySem.Challenge.pw_taperbench_s01_answers.main.body.getD i (.Pass ⟨0, 0, 0, 0⟩)

/-! ### numbers as objects -/
noncomputable def ef (m p : Int) : List (Str × V) := putF "power" (.int p) (putF "mantissa" (.int m) [])
theorem ef_m (m p : Int) : (ef m p).lookup ("mantissa" : Str) = some (.int m) := by
  unfold ef
  rw [lookup_putF, if_neg (by decide +kernel), lookup_putF, if_pos rfl]
theorem ef_p (m p : Int) : (ef m p).lookup ("power" : Str) = some (.int p) := by
  unfold ef
  rw [lookup_putF, if_pos rfl]
noncomputable def ExAt (C : Addr) (H : Hp) (a : Addr) (e : Tap.E) : Prop := ∃ dx, H a = some (.ins C dx (ef e.1 e.2))
theorem ExAt.same {C : Addr} {H H' : Hp} {a : Addr} {e : Tap.E} (h : ExAt C H a e) (s : Same H H') : ExAt C H' a e := by
  obtain ⟨dx, h⟩ := h
  exact ⟨dx, s _ _ h⟩
noncomputable def OEx (C : Addr) (H : Hp) (v : V) (o : Option Tap.E) : Prop := match o with
  | none => v = .non
  | some e => ∃ a, v = .ref a ∧ ExAt C H a e
theorem OEx.same {C : Addr} {H H' : Hp} {v : V} {o : Option Tap.E} (h : OEx C H v o) (s : Same H H') : OEx C H' v o := by
  cases o with
  | none => exact h
  | some e =>
    obtain ⟨a, h1, h2⟩ := h
    exact ⟨a, h1, h2.same s⟩
/-- a new number comes out, all else stays -/
noncomputable def rEx (C : Addr) (H : Hp) (e : Tap.E) (Q : VK) : Prop := ∀ (H' : Hp) (x : Addr), Same H H' → ExAt C H' x e → Q (.ref x) H'
noncomputable def rOEx (C : Addr) (H : Hp) (o : Option Tap.E) (Q : VK) : Prop := ∀ (H' : Hp) (v : V), Same H H' → OEx C H' v o → Q v H'
theorem rOEx.ex {C : Addr} {H : Hp} {e : Tap.E} {Q : VK} (k : rOEx C H (some e) Q) : rEx C H e Q := fun H' x s h => k H' (.ref x) s ⟨x, rfl, h⟩
noncomputable def Sm (k : Nat) (e : Tap.E) : Prop := Tap.bi e.1 ≤ k ∧ -(k : Int) ≤ e.2 ∧ e.2 ≤ k
theorem Sm.mono {j k : Nat} {e : Tap.E} (h : Sm j e) (hk : j ≤ k) : Sm k e := ⟨Nat.le_trans h.1 hk, by have := h.2.1; (first | lia | omega), by have := h.2.2; (first | lia | omega)⟩

noncomputable def spExact (C : Addr) : Sp := fun vs H Q _ => ∃ (p dx : Addr) (m q : Int), vs = [.ref p, .int m, .int q] ∧ H p = some (.ins C dx []) ∧ ∀ H' : Hp, ExAt C H' p (m, q) → (∀ b o, H b = some o → b ≠ p → H' b = some o) → Q .non H'
theorem make_ex {C : Addr} {H : Hp} {Q : VK} {m q : Int} {E : XK} (h : rEx C H (m, q) Q) :
    ∀ x dx, H x = none → H dx = none → dx ≠ x → spExact C [.ref x, .int m, .int q] (upd (upd H dx (.own x)) x (.ins C dx [])) (fun v H2 => v = .non ∧ Q (.ref x) H2) E := by
  intro x dx nx nd ne
  exact ⟨x, dx, m, q, rfl, upd_same, fun H' hA kp => ⟨rfl, h H' x (Same.made nx nd kp) hA⟩⟩

/-! ### what stands at the file's top -/
structure TxtE (K : PySem.W.Frag) (mg : Str → Option Value) (C : Addr) : Prop where
  cl : Cls K C
  nM : NoAttr K C "mantissa"
  nP : NoAttr K C "power"
  SPARE_BITS : GlobV mg "SPARE_BITS" (.int 72)
  no_min : mg "min" = none
  no_max : mg "max" = none
  no_abs : mg "abs" = none
  no_len : mg "len" = none

theorem ExAt.fm {K : PySem.W.Frag} {mg : Str → Option Value} {C : Addr} {H : Hp} {a : Addr} {e : Tap.E} (h : ExAt C H a e) (T : TxtE K mg C) : FldAt K H a "mantissa" (.int e.1) := by
  obtain ⟨dx, h⟩ := h
  exact ⟨C, dx, _, h, T.cl, T.nM, ef_m _ _⟩
theorem ExAt.fp {K : PySem.W.Frag} {mg : Str → Option Value} {C : Addr} {H : Hp} {a : Addr} {e : Tap.E} (h : ExAt C H a e) (T : TxtE K mg C) : FldAt K H a "power" (.int e.2) := by
  obtain ⟨dx, h⟩ := h
  exact ⟨C, dx, _, h, T.cl, T.nP, ef_p _ _⟩
section
variable {P : Program} {w : World} {K : PySem.W.Frag} {mg : Str → Option Value} {base : Heap} {C : Addr}

noncomputable abbrev st_Exact___init__ : Stmt := inClass (top 2) 0
theorem sc_Exact___init__ : FnScope ["self", "mantissa", "power"] ["self", "mantissa", "power"] (defScope st_Exact___init__) := ⟨rfl, rfl, rfl, by decide +kernel, rfl, by decide +kernel, by decide +kernel⟩
theorem ok_Exact {f : Addr} {fd : FuncData} (F : Fun K "__init__" "Exact.__init__" st_Exact___init__ f fd) (T : TxtE K mg C) : FnOk P w K mg base CX0 1 f fd ["self", "mantissa", "power"] (spExact C) := by
  refine F.ok sc_Exact___init__ (fun vs H Q E h => ?_) (fun cdv A outer s H vs Q E hr h => ?_)
  · obtain ⟨p, dx, m, q, rfl, _⟩ := h
    rfl
  · obtain ⟨p, dx, m, q, rfl, hp, k⟩ := h
    refine ⟨_, (pss_cons (ps_fld (mv 0) (mv 1) rfl)
      (pss_one (ps_fld (mv 0) (mv 2) rfl))), ?_⟩
    dsimp only [tSeq, tIfS, tRet, tRetN, tAsg, gName, tB, mB, mCT, mC, mIsN, mNotN, mNotIn, tOp, tUn, mVar, tC, mI, mI0, mU, tOr, tAnd, tNot, tIf, tNext, tDrop, tCB, tCall, mBL, mMin, mMax, mAbs, mLen, tCons, tNil, mMeth, mFld, mFldI, mIxI, mIxL, mIxT, tSl, mSlL, mPart, tNoPart, tLst, tTup, tMake, sFld, mCallV, L2.start, d_map1, d_map0, d_app1, d_app0, d_set0, d_set1, d_get0, d_get1, d_len1, d_len0, d_rep0, d_rep1, Nat.reduceAdd, Nat.reduceSub, mtt, mff, d_nt, d_nf, cx_K]
    refine ⟨p, C, dx, [], rfl, hp, T.cl, T.nM, (by show 0 < 1000; decide), p, C, dx, _, rfl, upd_same, T.cl, T.nP, (by show 1 < 1000; decide), ?_⟩
    refine k _ ⟨dx, upd_same⟩ fun b o e hb => ?_
    rw [upd_ne hb, upd_ne hb]
    exact e

noncomputable def spZero (C : Addr) : Sp := fun vs H Q _ => vs = [] ∧ rEx C H (0, 0) Q
noncomputable abbrev st_zero : Stmt := top 3
theorem sc_zero : FnScope [] [] (defScope st_zero) := ⟨rfl, rfl, rfl, by decide +kernel, rfl, by decide +kernel, by decide +kernel⟩
theorem ok_zero {f : Addr} {fd : FuncData} (F : Fun K "zero" "zero" st_zero f fd) (T : TxtE K mg C) (hExact : KnC P w K mg base "Exact" C 1 ["self", "mantissa", "power"] (spExact C)) :
    FnOk P w K mg base CX0 3 f fd [] (spZero C) := by
  refine F.ok sc_zero (fun vs H Q E h => ?_) (fun cdv A outer s H vs Q E hr h => ?_)
  · obtain ⟨rfl, _⟩ := h
    rfl
  · obtain ⟨rfl, k⟩ := h
    refine ⟨_, (pss_one (ps_ret (pe_makeN (hExact) (hr.mono (by decide)) rfl (pa_cons pe_int (pa_cons pe_int pa_nil))))), ?_⟩
    dsimp only [tSeq, tIfS, tRet, tRetN, tAsg, gName, tB, mB, mCT, mC, mIsN, mNotN, mNotIn, tOp, tUn, mVar, tC, mI, mI0, mU, tOr, tAnd, tNot, tIf, tNext, tDrop, tCB, tCall, mBL, mMin, mMax, mAbs, mLen, tCons, tNil, mMeth, mFld, mFldI, mIxI, mIxL, mIxT, tSl, mSlL, mPart, tNoPart, tLst, tTup, tMake, sFld, mCallV, L2.start, d_map1, d_map0, d_app1, d_app0, d_set0, d_set1, d_get0, d_get1, d_len1, d_len0, d_rep0, d_rep1, Nat.reduceAdd, Nat.reduceSub, mtt, mff, d_nt, d_nf, cx_K]
    exact make_ex k

noncomputable def spNev : Sp := fun vs H Q _ => ∃ n p : Int, vs = [.int n, .int p] ∧ Tap.bi n ≤ 100000 ∧ -100000 ≤ p ∧ p ≤ 100000 ∧ Q (.int (Tap.nev n p)) H
noncomputable abbrev st_nearest_even : Stmt := top 4
theorem sc_nearest_even : FnScope ["number", "power", "below", "rest", "half"] ["number", "power"] (defScope st_nearest_even) := ⟨rfl, rfl, rfl, by decide +kernel, rfl, by decide +kernel, by decide +kernel⟩
theorem ok_nearest_even {f : Addr} {fd : FuncData} (F : Fun K "nearest_even" "nearest_even" st_nearest_even f fd) : FnOk P w K mg base CX0 1 f fd ["number", "power"] spNev := by
  refine F.ok sc_nearest_even (fun vs H Q E h => ?_) (fun cdv A outer s H vs Q E hr h => ?_)
  · obtain ⟨n, p, rfl, _⟩ := h
    rfl
  · obtain ⟨n, p, rfl, hn, hp1, hp2, k⟩ := h
    refine ⟨_, (pss_cons (ps_if (pt_cmpM c_ge (mv 1) pe_int (nomark _)) (pss_one (ps_ret (pe_op m_shl (mv 0) (mv 1)))) pss_nil)
      (pss_cons (ps_set (i := 2) sc_nearest_even.nd rfl (Or.inl rfl) (pe_op m_shr (mv 0) (pe_un m_neg (mv 1))))
      (pss_cons (ps_set (i := 3) sc_nearest_even.nd rfl (Or.inl rfl) (pe_op m_sub (mv 0) (pe_op m_shl (mv 2) (pe_un m_neg (mv 1)))))
      (pss_cons (ps_set (i := 4) sc_nearest_even.nd rfl (Or.inl rfl) (pe_op m_shl pe_int (pe_op m_sub (pe_un m_neg (mv 1)) pe_int)))
      (pss_cons (ps_if (PW.pt (pw_or (pt_cmpM c_gt (mv 3) (mv 4) (nomark _)) (pw_or1 (PW.pt (pw_and (pt_cmpM c_eq (mv 3) (mv 4) (nomark _)) (pw_and1 (pt_cmpM c_eq (pe_op m_mod (mv 2) pe_int) pe_int (nomark _)))))))) (pss_one (ps_ret (pe_op m_add (mv 2) pe_int))) pss_nil)
      (pss_one (ps_ret (mv 2)))))))), ?_⟩
    dsimp only [tSeq, tIfS, tRet, tRetN, tAsg, gName, tB, mB, mCT, mC, mIsN, mNotN, mNotIn, tOp, tUn, mVar, tC, mI, mI0, mU, tOr, tAnd, tNot, tIf, tNext, tDrop, tCB, tCall, mBL, mMin, mMax, mAbs, mLen, tCons, tNil, mMeth, mFld, mFldI, mIxI, mIxL, mIxT, tSl, mSlL, mPart, tNoPart, tLst, tTup, tMake, sFld, mCallV, L2.start, d_map1, d_map0, d_app1, d_app0, d_set0, d_set1, d_get0, d_get1, d_len1, d_len0, d_rep0, d_rep1, Nat.reduceAdd, Nat.reduceSub, mtt, mff, d_nt, d_nf, cx_K]
    by_cases h0 : 0 ≤ p
    · rw [if_pos h0]
      refine ⟨shl_of h0 (by (first | lia | omega)) (by (first | lia | omega)), ?_⟩
      unfold Tap.nev at k
      rw [if_pos h0] at k
      exact k
    · rw [if_neg h0]
      have hd : Tap.bi (n / 2 ^ (-p).toNat) ≤ 100000 := Nat.le_trans (Tap.bi_ediv n _ (Tap.ipow_pos _)) hn
      refine ⟨by (first | lia | omega), shl_of (by (first | lia | omega)) (by (first | lia | omega)) (by (first | lia | omega)), shl_of (by (first | lia | omega)) (by (first | lia | omega)) (by decide), ?_⟩
      unfold Tap.nev at k
      rw [if_neg h0, show (-p).toNat - 1 = (-p - 1).toNat by (first | lia | omega)] at k
      rw [Int.one_mul]
      generalize n - n / 2 ^ (-p).toNat * 2 ^ (-p).toNat = r at *
      generalize n / 2 ^ (-p).toNat = b at *
      generalize (2 : Int) ^ (-p - 1).toNat = X at *
      by_cases h1 : X < r
      · rw [if_pos (Or.inl h1)] at k
        rw [if_pos h1]
        exact k
      · rw [if_neg h1]
        by_cases h2 : r = X
        · rw [if_pos h2]
          refine ⟨by decide, ?_⟩
          by_cases h3 : b % 2 = 1
          · rw [if_pos (Or.inr ⟨h2, h3⟩)] at k
            rw [if_pos h3]
            exact k
          · rw [if_neg (fun h => h.elim h1 fun h => h3 h.2)] at k
            rw [if_neg h3]
            exact k
        · rw [if_neg (fun h => h.elim h1 fun h => h2 h.1)] at k
          rw [if_neg h2]
          exact k

noncomputable def spNwh (C : Addr) : Sp := fun vs H Q _ => ∃ (a : Addr) (e : Tap.E), vs = [.ref a] ∧ ExAt C H a e ∧ Sm 100000 e ∧ Q (.int (Tap.nev e.1 e.2)) H
noncomputable abbrev st_nearest_whole : Stmt := top 5
theorem sc_nearest_whole : FnScope ["a"] ["a"] (defScope st_nearest_whole) := ⟨rfl, rfl, rfl, by decide +kernel, rfl, by decide +kernel, by decide +kernel⟩
theorem ok_nearest_whole {f : Addr} {fd : FuncData} (F : Fun K "nearest_whole" "nearest_whole" st_nearest_whole f fd) (T : TxtE K mg C) (h_nearest_even : Kn P w K mg base "nearest_even" 1 ["number", "power"] spNev) :
    FnOk P w K mg base CX0 2 f fd ["a"] (spNwh C) := by
  refine F.ok sc_nearest_whole (fun vs H Q E h => ?_) (fun cdv A outer s H vs Q E hr h => ?_)
  · obtain ⟨a, e, rfl, _⟩ := h
    rfl
  · obtain ⟨a, e, rfl, ha, hs, k⟩ := h
    refine ⟨_, (pss_one (ps_ret (pe_callN (h_nearest_even) (hr.mono (by decide)) rfl (pa_cons (me_fldI (mv 0) rfl) (pa_cons (me_fldI (mv 0) rfl) pa_nil))))), ?_⟩
    dsimp only [tSeq, tIfS, tRet, tRetN, tAsg, gName, tB, mB, mCT, mC, mIsN, mNotN, mNotIn, tOp, tUn, mVar, tC, mI, mI0, mU, tOr, tAnd, tNot, tIf, tNext, tDrop, tCB, tCall, mBL, mMin, mMax, mAbs, mLen, tCons, tNil, mMeth, mFld, mFldI, mIxI, mIxL, mIxT, tSl, mSlL, mPart, tNoPart, tLst, tTup, tMake, sFld, mCallV, L2.start, d_map1, d_map0, d_app1, d_app0, d_set0, d_set1, d_get0, d_get1, d_len1, d_len0, d_rep0, d_rep1, Nat.reduceAdd, Nat.reduceSub, mtt, mff, d_nt, d_nf, cx_K]
    exact ⟨_, ha.fm T, _, ha.fp T, e.1, e.2, rfl, hs.1, by have := hs.2.1; (first | lia | omega), by have := hs.2.2; (first | lia | omega), k⟩

noncomputable def spOpp (C : Addr) : Sp := fun vs H Q _ => ∃ (a : Addr) (e : Tap.E), vs = [.ref a] ∧ ExAt C H a e ∧ rEx C H (Tap.oppE e) Q
noncomputable abbrev st_opposite : Stmt := top 6
theorem sc_opposite : FnScope ["a"] ["a"] (defScope st_opposite) := ⟨rfl, rfl, rfl, by decide +kernel, rfl, by decide +kernel, by decide +kernel⟩
theorem ok_opposite {f : Addr} {fd : FuncData} (F : Fun K "opposite" "opposite" st_opposite f fd) (T : TxtE K mg C) (hExact : KnC P w K mg base "Exact" C 1 ["self", "mantissa", "power"] (spExact C)) :
    FnOk P w K mg base CX0 3 f fd ["a"] (spOpp C) := by
  refine F.ok sc_opposite (fun vs H Q E h => ?_) (fun cdv A outer s H vs Q E hr h => ?_)
  · obtain ⟨a, e, rfl, _⟩ := h
    rfl
  · obtain ⟨a, e, rfl, ha, k⟩ := h
    refine ⟨_, (pss_one (ps_ret (pe_makeN (hExact) (hr.mono (by decide)) rfl (pa_cons (pe_un m_neg (me_fldI (mv 0) rfl)) (pa_cons (me_fldI (mv 0) rfl) pa_nil))))), ?_⟩
    dsimp only [tSeq, tIfS, tRet, tRetN, tAsg, gName, tB, mB, mCT, mC, mIsN, mNotN, mNotIn, tOp, tUn, mVar, tC, mI, mI0, mU, tOr, tAnd, tNot, tIf, tNext, tDrop, tCB, tCall, mBL, mMin, mMax, mAbs, mLen, tCons, tNil, mMeth, mFld, mFldI, mIxI, mIxL, mIxT, tSl, mSlL, mPart, tNoPart, tLst, tTup, tMake, sFld, mCallV, L2.start, d_map1, d_map0, d_app1, d_app0, d_set0, d_set1, d_get0, d_get1, d_len1, d_len0, d_rep0, d_rep1, Nat.reduceAdd, Nat.reduceSub, mtt, mff, d_nt, d_nf, cx_K]
    exact ⟨_, ha.fm T, _, ha.fp T, make_ex k⟩

noncomputable def spAdd (C : Addr) : Sp := fun vs H Q _ => ∃ (a b : Addr) (x y : Tap.E), vs = [.ref a, .ref b] ∧ ExAt C H a x ∧ ExAt C H b y ∧ Sm 10000 x ∧ Sm 10000 y ∧ rEx C H (Tap.addE x y) Q
noncomputable abbrev st_add : Stmt := top 7
theorem sc_add : FnScope ["a", "b", "low"] ["a", "b"] (defScope st_add) := ⟨rfl, rfl, rfl, by decide +kernel, rfl, by decide +kernel, by decide +kernel⟩
theorem ok_add {f : Addr} {fd : FuncData} (F : Fun K "add" "add" st_add f fd) (T : TxtE K mg C) (hExact : KnC P w K mg base "Exact" C 1 ["self", "mantissa", "power"] (spExact C)) :
    FnOk P w K mg base CX0 3 f fd ["a", "b"] (spAdd C) := by
  refine F.ok sc_add (fun vs H Q E h => ?_) (fun cdv A outer s H vs Q E hr h => ?_)
  · obtain ⟨a, b, x, y, rfl, _⟩ := h
    rfl
  · obtain ⟨a, b, x, y, rfl, ha, hb, ⟨x1, x2, x3⟩, ⟨y1, y2, y3⟩, k⟩ := h
    refine ⟨_, (pss_cons (ps_set (i := 2) sc_add.nd rfl (Or.inl rfl) (pe_callB (m_min rfl) (by rfl) T.no_min (by decide +kernel) (pa_cons (me_fldI (mv 0) rfl) (pa_cons (me_fldI (mv 1) rfl) pa_nil))))
      (pss_one (ps_ret (pe_makeN (hExact) (hr.mono (by decide)) rfl (pa_cons (pe_op m_add (pe_op m_shl (me_fldI (mv 0) rfl) (pe_op m_sub (me_fldI (mv 0) rfl) (mv 2))) (pe_op m_shl (me_fldI (mv 1) rfl) (pe_op m_sub (me_fldI (mv 1) rfl) (mv 2)))) (pa_cons (mv 2) pa_nil)))))), ?_⟩
    dsimp only [tSeq, tIfS, tRet, tRetN, tAsg, gName, tB, mB, mCT, mC, mIsN, mNotN, mNotIn, tOp, tUn, mVar, tC, mI, mI0, mU, tOr, tAnd, tNot, tIf, tNext, tDrop, tCB, tCall, mBL, mMin, mMax, mAbs, mLen, tCons, tNil, mMeth, mFld, mFldI, mIxI, mIxL, mIxT, tSl, mSlL, mPart, tNoPart, tLst, tTup, tMake, sFld, mCallV, L2.start, d_map1, d_map0, d_app1, d_app0, d_set0, d_set1, d_get0, d_get1, d_len1, d_len0, d_rep0, d_rep1, Nat.reduceAdd, Nat.reduceSub, mtt, mff, d_nt, d_nf, cx_K]
    exact ⟨_, ha.fp T, _, hb.fp T, _, ha.fm T, _, ha.fp T, shl_of (by (first | lia | omega)) (by (first | lia | omega)) (by (first | lia | omega)), _, hb.fm T, _, hb.fp T, shl_of (by (first | lia | omega)) (by (first | lia | omega)) (by (first | lia | omega)), make_ex k⟩

noncomputable abbrev st_subtract : Stmt := top 8
theorem sc_subtract : FnScope ["a", "b"] ["a", "b"] (defScope st_subtract) := ⟨rfl, rfl, rfl, by decide +kernel, rfl, by decide +kernel, by decide +kernel⟩
noncomputable def spSub (C : Addr) : Sp := fun vs H Q _ => ∃ (a b : Addr) (x y : Tap.E), vs = [.ref a, .ref b] ∧ ExAt C H a x ∧ ExAt C H b y ∧ Sm 10000 x ∧ Sm 10000 y ∧ rEx C H (Tap.subE x y) Q
theorem Sm.opp {k : Nat} {e : Tap.E} (h : Sm k e) : Sm k (Tap.oppE e) := ⟨by show Tap.bi (-e.1) ≤ k; rw [Tap.bi_neg]; exact h.1, h.2⟩
theorem ok_subtract {f : Addr} {fd : FuncData} (F : Fun K "subtract" "subtract" st_subtract f fd) (h_add : Kn P w K mg base "add" 3 ["a", "b"] (spAdd C)) (h_opposite : Kn P w K mg base "opposite" 3 ["a"] (spOpp C)) :
    FnOk P w K mg base CX0 4 f fd ["a", "b"] (spSub C) := by
  refine F.ok sc_subtract (fun vs H Q E h => ?_) (fun cdv A outer s H vs Q E hr h => ?_)
  · obtain ⟨a, b, x, y, rfl, _⟩ := h
    rfl
  · obtain ⟨a, b, x, y, rfl, ha, hb, sx, sy, k⟩ := h
    refine ⟨_, (pss_one (ps_ret (pe_callN (h_add) (hr.mono (by decide)) rfl (pa_cons (mv 0) (pa_cons (pe_callN (h_opposite) (hr.mono (by decide)) rfl (pa_cons (mv 1) pa_nil)) pa_nil))))), ?_⟩
    dsimp only [tSeq, tIfS, tRet, tRetN, tAsg, gName, tB, mB, mCT, mC, mIsN, mNotN, mNotIn, tOp, tUn, mVar, tC, mI, mI0, mU, tOr, tAnd, tNot, tIf, tNext, tDrop, tCB, tCall, mBL, mMin, mMax, mAbs, mLen, tCons, tNil, mMeth, mFld, mFldI, mIxI, mIxL, mIxT, tSl, mSlL, mPart, tNoPart, tLst, tTup, tMake, sFld, mCallV, L2.start, d_map1, d_map0, d_app1, d_app0, d_set0, d_set1, d_get0, d_get1, d_len1, d_len0, d_rep0, d_rep1, Nat.reduceAdd, Nat.reduceSub, mtt, mff, d_nt, d_nf, cx_K]
    exact ⟨b, y, rfl, hb, fun H' z hs hz => ⟨a, z, x, Tap.oppE y, rfl, ha.same hs, hz, sx, sy.opp, fun H2 u hs2 hu => k H2 u (hs.trans hs2) hu⟩⟩

noncomputable def spMul (C : Addr) : Sp := fun vs H Q _ => ∃ (a b : Addr) (x y : Tap.E), vs = [.ref a, .ref b] ∧ ExAt C H a x ∧ ExAt C H b y ∧ Sm 10000 x ∧ Sm 10000 y ∧ rEx C H (Tap.mulE x y) Q
noncomputable abbrev st_multiply : Stmt := top 9
theorem sc_multiply : FnScope ["a", "b"] ["a", "b"] (defScope st_multiply) := ⟨rfl, rfl, rfl, by decide +kernel, rfl, by decide +kernel, by decide +kernel⟩
theorem ok_multiply {f : Addr} {fd : FuncData} (F : Fun K "multiply" "multiply" st_multiply f fd) (T : TxtE K mg C) (hExact : KnC P w K mg base "Exact" C 1 ["self", "mantissa", "power"] (spExact C)) :
    FnOk P w K mg base CX0 3 f fd ["a", "b"] (spMul C) := by
  refine F.ok sc_multiply (fun vs H Q E h => ?_) (fun cdv A outer s H vs Q E hr h => ?_)
  · obtain ⟨a, b, x, y, rfl, _⟩ := h
    rfl
  · obtain ⟨a, b, x, y, rfl, ha, hb, ⟨x1, x2, x3⟩, ⟨y1, y2, y3⟩, k⟩ := h
    refine ⟨_, (pss_one (ps_ret (pe_makeN (hExact) (hr.mono (by decide)) rfl (pa_cons (pe_op m_mul (me_fldI (mv 0) rfl) (me_fldI (mv 1) rfl)) (pa_cons (pe_op m_add (me_fldI (mv 0) rfl) (me_fldI (mv 1) rfl)) pa_nil))))), ?_⟩
    dsimp only [tSeq, tIfS, tRet, tRetN, tAsg, gName, tB, mB, mCT, mC, mIsN, mNotN, mNotIn, tOp, tUn, mVar, tC, mI, mI0, mU, tOr, tAnd, tNot, tIf, tNext, tDrop, tCB, tCall, mBL, mMin, mMax, mAbs, mLen, tCons, tNil, mMeth, mFld, mFldI, mIxI, mIxL, mIxT, tSl, mSlL, mPart, tNoPart, tLst, tTup, tMake, sFld, mCallV, L2.start, d_map1, d_map0, d_app1, d_app0, d_set0, d_set1, d_get0, d_get1, d_len1, d_len0, d_rep0, d_rep1, Nat.reduceAdd, Nat.reduceSub, mtt, mff, d_nt, d_nf, cx_K]
    exact ⟨_, ha.fm T, _, hb.fm T, mul_of (by (first | lia | omega)) (by (first | lia | omega)), _, ha.fp T, _, hb.fp T, make_ex k⟩

noncomputable def spCut (C : Addr) : Sp := fun vs H Q _ => ∃ m r p : Int, vs = [.int m, .int r, .int p] ∧ Tap.bi m ≤ 100000 ∧ rEx C H (2 * m + (if 0 < r then 1 else 0), p - 1) Q
noncomputable abbrev st_cut_off : Stmt := top 10
theorem sc_cut_off : FnScope ["mantissa", "rest", "power"] ["mantissa", "rest", "power"] (defScope st_cut_off) := ⟨rfl, rfl, rfl, by decide +kernel, rfl, by decide +kernel, by decide +kernel⟩
theorem ok_cut_off {f : Addr} {fd : FuncData} (F : Fun K "cut_off" "cut_off" st_cut_off f fd) (T : TxtE K mg C) (hExact : KnC P w K mg base "Exact" C 1 ["self", "mantissa", "power"] (spExact C)) :
    FnOk P w K mg base CX0 3 f fd ["mantissa", "rest", "power"] (spCut C) := by
  refine F.ok sc_cut_off (fun vs H Q E h => ?_) (fun cdv A outer s H vs Q E hr h => ?_)
  · obtain ⟨m, r, p, rfl, _⟩ := h
    rfl
  · obtain ⟨m, r, p, rfl, hm, k⟩ := h
    refine ⟨_, (pss_one (ps_ret (pe_makeN (hExact) (hr.mono (by decide)) rfl (pa_cons (pe_op m_add (pe_op m_mul pe_int (mv 0)) (pe_ifExp (pt_cmpM c_gt (mv 1) pe_int (nomark _)) pe_int pe_int)) (pa_cons (pe_op m_sub (mv 2) pe_int) pa_nil))))), ?_⟩
    dsimp only [tSeq, tIfS, tRet, tRetN, tAsg, gName, tB, mB, mCT, mC, mIsN, mNotN, mNotIn, tOp, tUn, mVar, tC, mI, mI0, mU, tOr, tAnd, tNot, tIf, tNext, tDrop, tCB, tCall, mBL, mMin, mMax, mAbs, mLen, tCons, tNil, mMeth, mFld, mFldI, mIxI, mIxL, mIxT, tSl, mSlL, mPart, tNoPart, tLst, tTup, tMake, sFld, mCallV, L2.start, d_map1, d_map0, d_app1, d_app0, d_set0, d_set1, d_get0, d_get1, d_len1, d_len0, d_rep0, d_rep1, Nat.reduceAdd, Nat.reduceSub, mtt, mff, d_nt, d_nf, cx_K]
    refine ⟨mul_of (by decide) (by (first | lia | omega)), ?_⟩
    by_cases h0 : 0 < r
    · rw [if_pos h0] at k ⊢
      exact make_ex k
    · rw [if_neg h0] at k ⊢
      exact make_ex k

noncomputable def spDiv (C : Addr) : Sp := fun vs H Q _ => ∃ (a b : Addr) (x y : Tap.E), vs = [.ref a, .ref b] ∧ ExAt C H a x ∧ ExAt C H b y ∧ Sm 5000 x ∧ Sm 5000 y ∧ rOEx C H (Tap.divE x y) Q
noncomputable abbrev st_divide : Stmt := top 11
theorem sc_divide : FnScope ["a", "b", "divisor", "shift", "dividend", "size"] ["a", "b"] (defScope st_divide) := ⟨rfl, rfl, rfl, by decide +kernel, rfl, by decide +kernel, by decide +kernel⟩
theorem ok_divide {f : Addr} {fd : FuncData} (F : Fun K "divide" "divide" st_divide f fd) (T : TxtE K mg C) (h_cut_off : Kn P w K mg base "cut_off" 3 ["mantissa", "rest", "power"] (spCut C)) (h_opposite : Kn P w K mg base "opposite" 3 ["a"] (spOpp C)) :
    FnOk P w K mg base CX0 4 f fd ["a", "b"] (spDiv C) := by
  refine F.ok sc_divide (fun vs H Q E h => ?_) (fun cdv A outer s H vs Q E hr h => ?_)
  · obtain ⟨a, b, x, y, rfl, _⟩ := h
    rfl
  · obtain ⟨a, b, x, y, rfl, ha, hb, ⟨x1, x2, x3⟩, ⟨y1, y2, y3⟩, k⟩ := h
    refine ⟨_, (pss_cons (ps_if (pt_cmpM c_eq (me_fldI (mv 1) rfl) pe_int (nomark _)) (pss_one (ps_ret pe_non)) pss_nil)
      (pss_cons (ps_set (i := 2) sc_divide.nd rfl (Or.inl rfl) (pe_callB m_abs (by rfl) T.no_abs (by decide +kernel) (pa_cons (me_fldI (mv 1) rfl) pa_nil)))
      (pss_cons (ps_set (i := 3) sc_divide.nd rfl (Or.inl rfl) (pe_op m_add (pe_globN T.SPARE_BITS rfl) (me_bitlen (mv 2))))
      (pss_cons (ps_set (i := 4) sc_divide.nd rfl (Or.inl rfl) (pe_op m_shl (pe_callB m_abs (by rfl) T.no_abs (by decide +kernel) (pa_cons (me_fldI (mv 0) rfl) pa_nil)) (mv 3)))
      (pss_cons (ps_set (i := 5) sc_divide.nd rfl (Or.inl rfl) (pe_callN (h_cut_off) (hr.mono (by decide)) rfl (pa_cons (pe_op m_fdiv (mv 4) (mv 2)) (pa_cons (pe_op m_mod (mv 4) (mv 2)) (pa_cons (pe_op m_sub (pe_op m_sub (me_fldI (mv 0) rfl) (me_fldI (mv 1) rfl)) (mv 3)) pa_nil)))))
      (pss_one (ps_ret (pe_ifExp (pt_cmpR op_eq (pe_cmpR m_lt (me_fldI (mv 0) rfl) pe_int (nomark _)) (pe_cmpR m_lt (me_fldI (mv 1) rfl) pe_int (nomark _)) (nomark _)) (mv 5) (pe_callN (h_opposite) (hr.mono (by decide)) rfl (pa_cons (mv 5) pa_nil)))))))))), ?_⟩
    dsimp only [tSeq, tIfS, tRet, tRetN, tAsg, gName, tB, mB, mCT, mC, mIsN, mNotN, mNotIn, tOp, tUn, mVar, tC, mI, mI0, mU, tOr, tAnd, tNot, tIf, tNext, tDrop, tCB, tCall, mBL, mMin, mMax, mAbs, mLen, tCons, tNil, mMeth, mFld, mFldI, mIxI, mIxL, mIxT, tSl, mSlL, mPart, tNoPart, tLst, tTup, tMake, sFld, mCallV, L2.start, d_map1, d_map0, d_app1, d_app0, d_set0, d_set1, d_get0, d_get1, d_len1, d_len0, d_rep0, d_rep1, Nat.reduceAdd, Nat.reduceSub, mtt, mff, d_nt, d_nf, cx_K]
    refine ⟨_, hb.fm T, ?_⟩
    unfold Tap.divE at k
    by_cases h0 : y.1 = 0
    · rw [if_pos h0] at k ⊢
      exact k H .non (Same.refl H) rfl
    · rw [if_neg h0] at k ⊢
      have e0 : (72 : Int) + ((Builtin.Int.intBits (y.1.natAbs : Int) : Nat) : Int) = ((Tap.divSh y : Nat) : Int) := by
        rw [bits_bi, Tap.bi_nat]
        unfold Tap.divSh
        (first | lia | omega)
      have b1 : Tap.divSh y ≤ 5072 := by
        have : Tap.bl y.1.natAbs ≤ 5000 := y1
        unfold Tap.divSh
        (first | lia | omega)
      have e1 : (x.1.natAbs : Int) * 2 ^ Tap.divSh y = ((x.1.natAbs * 2 ^ Tap.divSh y : Nat) : Int) := by
        rw [Int.natCast_mul, Int.natCast_pow]
        rfl
      refine ⟨_, hb.fm T, _, ha.fm T, ?_⟩
      rw [e0, Int.toNat_natCast, e1, ← Int.natCast_ediv, ← Int.natCast_emod]
      have b2 : Tap.bi (x.1.natAbs : Int) ≤ 5000 := x1
      have b3 : Tap.bi (((x.1.natAbs * 2 ^ Tap.divSh y / y.1.natAbs : Nat)) : Int) ≤ 100000 := by
        rw [Int.natCast_ediv]
        have h1 := Tap.bi_ediv ((x.1.natAbs * 2 ^ Tap.divSh y : Nat) : Int) (y.1.natAbs : Int) (by (first | lia | omega))
        have h2 := Tap.bi_shl (x.1.natAbs : Int) (Tap.divSh y)
        rw [e1] at h2
        (first | lia | omega)
      have b4 : y.1.natAbs.log2 < 9000 := by
        have : y.1.natAbs.log2 < 5000 := (Nat.log2_lt (by (first | lia | omega))).mpr (Tap.bi_le.mp y1)
        (first | lia | omega)
      refine ⟨shl_of (by (first | lia | omega)) (by (first | lia | omega)) (by (first | lia | omega)), ⟨by (first | lia | omega), b4⟩, by (first | lia | omega), _, ha.fp T, _, hb.fp T, _, _, _, rfl, b3, fun H1 z hs hz => ?_⟩
      refine ⟨_, (ha.same hs).fm T, _, (hb.same hs).fm T, rfl, _, rfl, ?_⟩
      have e2 : (if (0 : Int) < ((x.1.natAbs * 2 ^ Tap.divSh y % y.1.natAbs : Nat) : Int) then (1 : Int) else 0) = if 0 < x.1.natAbs * 2 ^ Tap.divSh y % y.1.natAbs then 1 else 0 := by
        split <;> split <;> (first | lia | omega)
      rw [e2] at hz
      unfold Tap.divM at k
      dsimp only at k ⊢
      by_cases h1 : (x.1 < 0) = (y.1 < 0)
      · rw [if_pos h1] at k
        rw [if_pos (decide_eq_true (congrArg V.bl (decide_eq_decide.mpr (Eq.to_iff h1))))]
        exact k H1 (.ref z) hs ⟨z, rfl, hz⟩
      · rw [if_neg h1] at k
        rw [if_neg (fun h => h1 (propext (decide_eq_decide.mp (V.bl.inj (of_decide_eq_true h)))))]
        exact ⟨z, _, rfl, hz, fun H2 u hs2 hu => k H2 (.ref u) (hs.trans hs2) ⟨u, rfl, hu⟩⟩

noncomputable def spFlr : Sp := fun vs H Q _ => ∃ n : Nat, vs = [.int n] ∧ 1 ≤ n ∧ Tap.bl n ≤ 8000 ∧ Q (.int (Tap.isq n)) H
noncomputable abbrev st_floor_root : Stmt := top 12
theorem sc_floor_root : FnScope ["number", "guess", "better"] ["number"] (defScope st_floor_root) := ⟨rfl, rfl, rfl, by decide +kernel, rfl, by decide +kernel, by decide +kernel⟩
theorem ok_floor_root {f : Addr} {fd : FuncData} (F : Fun K "floor_root" "floor_root" st_floor_root f fd) : FnOk P w K mg base CX0 1 f fd ["number"] spFlr := by
  refine F.ok sc_floor_root (fun vs H Q E h => ?_) (fun cdv A outer s H vs Q E hr h => ?_)
  · obtain ⟨n, rfl, _⟩ := h
    rfl
  · obtain ⟨n, rfl, hn, hb, k⟩ := h
    refine ⟨_, (pss_cons (ps_set (i := 1) sc_floor_root.nd rfl (Or.inl rfl) (pe_op m_shl pe_int (pe_op m_fdiv (pe_op m_add (me_bitlen (mv 0)) pe_int) pe_int)))
      (pss_cons (ps_set (i := 2) sc_floor_root.nd rfl (Or.inl rfl) (pe_op m_fdiv (pe_op m_add (mv 1) (pe_op m_fdiv (mv 0) (mv 1))) pe_int))
      (pss_cons (ps_while PassesOwn.never (pt_cmpM c_lt (mv 2) (mv 1) (nomark _)) (pss_cons (ps_set (i := 1) sc_floor_root.nd rfl (Or.inl rfl) (mv 2))
      (pss_one (ps_set (i := 2) sc_floor_root.nd rfl (Or.inl rfl) (pe_op m_fdiv (pe_op m_add (mv 1) (pe_op m_fdiv (mv 0) (mv 1))) pe_int)))))
      (pss_one (ps_ret (mv 1)))))), ?_⟩
    dsimp only [tSeq, tIfS, tRet, tRetN, tAsg, gName, tB, mB, mCT, mC, mIsN, mNotN, mNotIn, tOp, tUn, mVar, tC, mI, mI0, mU, tOr, tAnd, tNot, tIf, tNext, tDrop, tCB, tCall, mBL, mMin, mMax, mAbs, mLen, tCons, tNil, mMeth, mFld, mFldI, mIxI, mIxL, mIxT, tSl, mSlL, mPart, tNoPart, tLst, tTup, tMake, sFld, mCallV, L2.start, d_map1, d_map0, d_app1, d_app0, d_set0, d_set1, d_get0, d_get1, d_len1, d_len0, d_rep0, d_rep1, Nat.reduceAdd, Nat.reduceSub, mtt, mff, d_nt, d_nf, cx_K]
    have e0 : (((Builtin.Int.intBits (n : Int) : Nat) : Int) + 1) / 2 = (((Tap.bl n + 1) / 2 : Nat) : Int) := by
      rw [bits_bi, Tap.bi_nat]
      (first | lia | omega)
    have e1 : (1 : Int) * 2 ^ ((Tap.bl n + 1) / 2) = ((2 ^ ((Tap.bl n + 1) / 2) : Nat) : Int) := by
      rw [Int.natCast_pow, Int.one_mul]
      rfl
    rw [e0, Int.toNat_natCast, e1]
    have hg0 : 0 < 2 ^ ((Tap.bl n + 1) / 2) := Nat.two_pow_pos _
    have hg1 : Tap.bl (2 ^ ((Tap.bl n + 1) / 2)) ≤ 8000 := by
      rw [Tap.bl_le]
      exact Nat.pow_lt_pow_right (by (first | lia | omega)) (by (first | lia | omega))
    have hg2 := Tap.newton_start n
    generalize 2 ^ ((Tap.bl n + 1) / 2) = g at *
    have two : ∀ i : Int, CDivB i 2 := fun i => ⟨by decide, by decide⟩
    have dv : ∀ g : Nat, 0 < g → Tap.bl g ≤ 8000 → CDivB (n : Int) (g : Int) := fun g h1 h2 => ⟨by (first | lia | omega), by
      have : g.log2 < 8000 := (Nat.log2_lt (by (first | lia | omega))).mpr (Tap.bl_le.mp h2)
      show (g : Int).natAbs.log2 < 9000
      rw [Int.natAbs_natCast]
      (first | lia | omega)⟩
    have nx : ∀ g : Nat, ((g : Int) + (n : Int) / (g : Int)) / 2 = (((g + n / g) / 2 : Nat) : Int) := fun g => by
      rw [← Int.natCast_ediv]
      (first | lia | omega)
    refine ⟨two _, shl_of (by (first | lia | omega)) (by (first | lia | omega)) (by decide), dv g hg0 hg1, two _, ?_⟩
    refine while_by (fun σ H' => ∃ g : Nat, σ = [some (V.int n), some (V.int g), some (V.int (((g : Int) + (n : Int) / (g : Int)) / 2))] ∧ H' = H ∧ 0 < g ∧ n < (g + 1) * (g + 1) ∧ Tap.bl g ≤ 8000)
      (fun σ _ => match σ with | [_, some (.int g), _] => g.toNat | _ => 0) ⟨g, rfl, rfl, hg0, hg2, hg1⟩ ?_ ?_
    · rintro σ H' ⟨g, rfl, rfl, h0, h1, h2⟩
      dsimp only [tSeq, tIfS, tRet, tRetN, tAsg, gName, tB, mB, mCT, mC, mIsN, mNotN, mNotIn, tOp, tUn, mVar, tC, mI, mI0, mU, tOr, tAnd, tNot, tIf, tNext, tDrop, tCB, tCall, mBL, mMin, mMax, mAbs, mLen, tCons, tNil, mMeth, mFld, mFldI, mIxI, mIxL, mIxT, tSl, mSlL, mPart, tNoPart, tLst, tTup, tMake, sFld, mCallV, L2.start, d_map1, d_map0, d_app1, d_app0, d_set0, d_set1, d_get0, d_get1, d_len1, d_len0, d_rep0, d_rep1, Nat.reduceAdd, Nat.reduceSub, mtt, mff, d_nt, d_nf, cx_K]
      rw [nx]
      by_cases hlt : (g + n / g) / 2 < g
      · rw [if_pos (by (first | lia | omega))]
        have hpos : 0 < (g + n / g) / 2 := by
          by_cases h3 : 2 ≤ g
          · exact Nat.div_pos (Nat.le_trans h3 (Nat.le_add_right _ _)) (by decide)
          · have : g = 1 := by (first | lia | omega)
            subst this
            rw [Nat.div_one]
            (first | lia | omega)
        have hbl : Tap.bl ((g + n / g) / 2) ≤ 8000 := by
          have := Tap.bl_le.mp h2
          exact Tap.bl_le.mpr (by (first | lia | omega))
        have hnew := Tap.newton_above n g h0
        generalize (g + n / g) / 2 = b at *
        refine ⟨dv b hpos hbl, two _, ⟨b, rfl, rfl, hpos, hnew, hbl⟩, ?_⟩
        show (b : Int).toNat < (g : Int).toNat
        (first | lia | omega)
      · rw [if_neg (by (first | lia | omega))]
        have hend := Tap.newton_end n g h0 (by (first | lia | omega))
        rw [Tap.isq_of hend h1] at k
        exact k
    · intro σ H' Q1 Q2 hq q
      exact mVar_mono (fun _ _ q => mVar_mono (fun _ _ q => mC_mono hq q) q) q

noncomputable def spRoot (C : Addr) : Sp := fun vs H Q _ => ∃ (a : Addr) (x : Tap.E), vs = [.ref a] ∧ ExAt C H a x ∧ Sm 5000 x ∧ rOEx C H (Tap.rootE x) Q
noncomputable abbrev st_root : Stmt := top 13
theorem sc_root : FnScope ["a", "shift", "square", "found"] ["a"] (defScope st_root) := ⟨rfl, rfl, rfl, by decide +kernel, rfl, by decide +kernel, by decide +kernel⟩
theorem ok_root {f : Addr} {fd : FuncData} (F : Fun K "root" "root" st_root f fd) (T : TxtE K mg C) (h_cut_off : Kn P w K mg base "cut_off" 3 ["mantissa", "rest", "power"] (spCut C)) (h_floor_root : Kn P w K mg base "floor_root" 1 ["number"] spFlr) :
    FnOk P w K mg base CX0 4 f fd ["a"] (spRoot C) := by
  refine F.ok sc_root (fun vs H Q E h => ?_) (fun cdv A outer s H vs Q E hr h => ?_)
  · obtain ⟨a, x, rfl, _⟩ := h
    rfl
  · obtain ⟨a, x, rfl, ha, ⟨x1, x2, x3⟩, k⟩ := h
    refine ⟨_, (pss_cons (ps_if (pt_cmpM c_lt (me_fldI (mv 0) rfl) pe_int (nomark _)) (pss_one (ps_ret pe_non)) pss_nil)
      (pss_cons (ps_if (pt_cmpM c_eq (me_fldI (mv 0) rfl) pe_int (nomark _)) (pss_one (ps_ret (mv 0))) pss_nil)
      (pss_cons (ps_set (i := 1) sc_root.nd rfl (Or.inl rfl) (pe_op m_add (pe_op m_mul pe_int (pe_globN T.SPARE_BITS rfl)) (pe_op m_mod (me_fldI (mv 0) rfl) pe_int)))
      (pss_cons (ps_set (i := 2) sc_root.nd rfl (Or.inl rfl) (pe_op m_shl (me_fldI (mv 0) rfl) (mv 1)))
      (pss_cons (ps_set (i := 3) sc_root.nd rfl (Or.inl rfl) (pe_callN (h_floor_root) (hr.mono (by decide)) rfl (pa_cons (mv 2) pa_nil)))
      (pss_one (ps_ret (pe_callN (h_cut_off) (hr.mono (by decide)) rfl (pa_cons (mv 3) (pa_cons (pe_op m_sub (mv 2) (pe_op m_mul (mv 3) (mv 3))) (pa_cons (pe_op m_fdiv (pe_op m_sub (me_fldI (mv 0) rfl) (mv 1)) pe_int) pa_nil))))))))))), ?_⟩
    dsimp only [tSeq, tIfS, tRet, tRetN, tAsg, gName, tB, mB, mCT, mC, mIsN, mNotN, mNotIn, tOp, tUn, mVar, tC, mI, mI0, mU, tOr, tAnd, tNot, tIf, tNext, tDrop, tCB, tCall, mBL, mMin, mMax, mAbs, mLen, tCons, tNil, mMeth, mFld, mFldI, mIxI, mIxL, mIxT, tSl, mSlL, mPart, tNoPart, tLst, tTup, tMake, sFld, mCallV, L2.start, d_map1, d_map0, d_app1, d_app0, d_set0, d_set1, d_get0, d_get1, d_len1, d_len0, d_rep0, d_rep1, Nat.reduceAdd, Nat.reduceSub, mtt, mff, d_nt, d_nf, cx_K]
    refine ⟨_, ha.fm T, ?_⟩
    unfold Tap.rootE at k
    by_cases h0 : x.1 < 0
    · rw [if_pos h0] at k ⊢
      exact k H .non (Same.refl H) rfl
    · rw [if_neg h0] at k ⊢
      refine ⟨_, ha.fm T, ?_⟩
      by_cases h1 : x.1 = 0
      · rw [if_pos h1] at k ⊢
        exact k H (.ref a) (Same.refl H) ⟨a, rfl, ha⟩
      · rw [if_neg h1] at k ⊢
        refine ⟨mul_of (by decide) (by decide), _, ha.fp T, by decide, _, ha.fm T, ?_⟩
        have e0 : (2 : Int) * 72 + x.2 % 2 = ((Tap.rootSh x : Nat) : Int) := by
          unfold Tap.rootSh
          (first | lia | omega)
        have b0 : Tap.rootSh x ≤ 146 := by
          unfold Tap.rootSh
          (first | lia | omega)
        have e1 : x.1 * 2 ^ Tap.rootSh x = ((x.1.toNat * 2 ^ Tap.rootSh x : Nat) : Int) := by
          rw [Int.natCast_mul, Int.natCast_pow, Int.toNat_of_nonneg (by (first | lia | omega))]
          rfl
        rw [e0, Int.toNat_natCast, e1]
        have b1 : 1 ≤ x.1.toNat * 2 ^ Tap.rootSh x := Nat.mul_pos (by (first | lia | omega)) (Nat.two_pow_pos _)
        have b2 : Tap.bl (x.1.toNat * 2 ^ Tap.rootSh x) ≤ 8000 := by
          have h2 := Tap.bi_shl x.1 (Tap.rootSh x)
          rw [e1, Tap.bi_nat] at h2
          (first | lia | omega)
        generalize hS : x.1.toNat * 2 ^ Tap.rootSh x = S at *
        obtain ⟨q1, q2⟩ := Tap.isq_spec S
        have b3 : Tap.bl (Tap.isq S) ≤ 8000 := by
          have h2 := Tap.bl_le.mp b2
          have h3 : Tap.isq S ≤ S := by
            rcases Nat.eq_zero_or_pos (Tap.isq S) with h | h
            · (first | lia | omega)
            · exact Nat.le_trans (Nat.le_mul_of_pos_left _ h) q1
          exact Tap.bl_le.mpr (by (first | lia | omega))
        have b4 : Tap.bi ((Tap.isq S : Nat) : Int) ≤ 8000 := b3
        refine ⟨shl_of (by (first | lia | omega)) (by (first | lia | omega)) (by (first | lia | omega)), S, rfl, b1, b2, ?_⟩
        refine ⟨mul_of (by (first | lia | omega)) (by (first | lia | omega)), _, ha.fp T, ⟨by decide, by decide⟩, _, _, _, rfl, by (first | lia | omega), fun H1 z hs hz => ?_⟩
        have e2 : (if (0 : Int) < (S : Int) - ((Tap.isq S : Nat) : Int) * ((Tap.isq S : Nat) : Int) then (1 : Int) else 0) = if Tap.isq S * Tap.isq S < S then 1 else 0 := by
          rw [← Int.natCast_mul]
          split <;> split <;> (first | lia | omega)
        rw [e2] at hz
        exact k H1 (.ref z) hs ⟨z, rfl, hz⟩

noncomputable def spToWh (C : Addr) : Sp := fun vs H Q _ => ∃ (a : Addr) (x : Tap.E), vs = [.ref a] ∧ ExAt C H a x ∧ Sm 5000 x ∧ rEx C H (Tap.wholeE x) Q
noncomputable abbrev st_to_whole : Stmt := top 14
theorem sc_to_whole : FnScope ["a"] ["a"] (defScope st_to_whole) := ⟨rfl, rfl, rfl, by decide +kernel, rfl, by decide +kernel, by decide +kernel⟩
theorem ok_to_whole {f : Addr} {fd : FuncData} (F : Fun K "to_whole" "to_whole" st_to_whole f fd) (hExact : KnC P w K mg base "Exact" C 1 ["self", "mantissa", "power"] (spExact C)) (h_nearest_whole : Kn P w K mg base "nearest_whole" 2 ["a"] (spNwh C)) :
    FnOk P w K mg base CX0 3 f fd ["a"] (spToWh C) := by
  refine F.ok sc_to_whole (fun vs H Q E h => ?_) (fun cdv A outer s H vs Q E hr h => ?_)
  · obtain ⟨a, x, rfl, _⟩ := h
    rfl
  · obtain ⟨a, x, rfl, ha, hs, k⟩ := h
    refine ⟨_, (pss_one (ps_ret (pe_makeN (hExact) (hr.mono (by decide)) rfl (pa_cons (pe_callN (h_nearest_whole) (hr.mono (by decide)) rfl (pa_cons (mv 0) pa_nil)) (pa_cons pe_int pa_nil))))), ?_⟩
    dsimp only [tSeq, tIfS, tRet, tRetN, tAsg, gName, tB, mB, mCT, mC, mIsN, mNotN, mNotIn, tOp, tUn, mVar, tC, mI, mI0, mU, tOr, tAnd, tNot, tIf, tNext, tDrop, tCB, tCall, mBL, mMin, mMax, mAbs, mLen, tCons, tNil, mMeth, mFld, mFldI, mIxI, mIxL, mIxT, tSl, mSlL, mPart, tNoPart, tLst, tTup, tMake, sFld, mCallV, L2.start, d_map1, d_map0, d_app1, d_app0, d_set0, d_set1, d_get0, d_get1, d_len1, d_len0, d_rep0, d_rep1, Nat.reduceAdd, Nat.reduceSub, mtt, mff, d_nt, d_nf, cx_K]
    exact ⟨a, x, rfl, ha, hs.mono (by decide), make_ex k⟩

noncomputable def spMulAdd (C : Addr) : Sp := fun vs H Q _ => ∃ (va vb vc : V) (oa ob oc : Option Tap.E), vs = [va, vb, vc] ∧ OEx C H va oa ∧ OEx C H vb ob ∧ OEx C H vc oc ∧ (∀ e, oa = some e → Sm 1000 e) ∧ (∀ e, ob = some e → Sm 1000 e) ∧ (∀ e, oc = some e → Sm 5000 e) ∧ rOEx C H (Tap.fmaM oa ob oc) Q
theorem Sm.mul {j k : Nat} {x y : Tap.E} (h : Sm j x) (h' : Sm k y) : Sm (j + k) (Tap.mulE x y) := by
  obtain ⟨a1, a2, a3⟩ := h
  obtain ⟨b1, b2, b3⟩ := h'
  refine ⟨Nat.le_trans (Tap.bi_mul x.1 y.1) (by (first | lia | omega)), ?_, ?_⟩
  · show -((j + k : Nat) : Int) ≤ x.2 + y.2
    (first | lia | omega)
  · show x.2 + y.2 ≤ ((j + k : Nat) : Int)
    (first | lia | omega)
noncomputable abbrev st_multiply_add : Stmt := top 15
theorem sc_multiply_add : FnScope ["a", "b", "c"] ["a", "b", "c"] (defScope st_multiply_add) := ⟨rfl, rfl, rfl, by decide +kernel, rfl, by decide +kernel, by decide +kernel⟩
theorem ok_multiply_add {f : Addr} {fd : FuncData} (F : Fun K "multiply_add" "multiply_add" st_multiply_add f fd) (h_add : Kn P w K mg base "add" 3 ["a", "b"] (spAdd C)) (h_multiply : Kn P w K mg base "multiply" 3 ["a", "b"] (spMul C)) :
    FnOk P w K mg base CX0 4 f fd ["a", "b", "c"] (spMulAdd C) := by
  refine F.ok sc_multiply_add (fun vs H Q E h => ?_) (fun cdv A outer s H vs Q E hr h => ?_)
  · obtain ⟨va, vb, vc, oa, ob, oc, rfl, _⟩ := h
    rfl
  · obtain ⟨va, vb, vc, oa, ob, oc, rfl, ha, hb, hc, sa, sb, sc, k⟩ := h
    refine ⟨_, (pss_cons (ps_if (PW.pt (pw_or (pt_cmpM c_isN (mv 0) pe_non (nomark _)) (pw_or (pt_cmpM c_isN (mv 1) pe_non (nomark _)) (pw_or1 (pt_cmpM c_isN (mv 2) pe_non (nomark _)))))) (pss_one (ps_ret pe_non)) pss_nil)
      (pss_one (ps_ret (pe_callN (h_add) (hr.mono (by decide)) rfl (pa_cons (pe_callN (h_multiply) (hr.mono (by decide)) rfl (pa_cons (mv 0) (pa_cons (mv 1) pa_nil))) (pa_cons (mv 2) pa_nil)))))), ?_⟩
    cases oa with
    | none =>
      cases (show va = .non from ha)
      dsimp only [tSeq, tIfS, tRet, tRetN, tAsg, gName, tB, mB, mCT, mC, mIsN, mNotN, mNotIn, tOp, tUn, mVar, tC, mI, mI0, mU, tOr, tAnd, tNot, tIf, tNext, tDrop, tCB, tCall, mBL, mMin, mMax, mAbs, mLen, tCons, tNil, mMeth, mFld, mFldI, mIxI, mIxL, mIxT, tSl, mSlL, mPart, tNoPart, tLst, tTup, tMake, sFld, mCallV, L2.start, d_map1, d_map0, d_app1, d_app0, d_set0, d_set1, d_get0, d_get1, d_len1, d_len0, d_rep0, d_rep1, Nat.reduceAdd, Nat.reduceSub, mtt, mff, d_nt, d_nf, cx_K]
      exact k H .non (Same.refl H) rfl
    | some x =>
      obtain ⟨a, rfl, ha⟩ := ha
      cases ob with
      | none =>
        cases (show vb = .non from hb)
        dsimp only [tSeq, tIfS, tRet, tRetN, tAsg, gName, tB, mB, mCT, mC, mIsN, mNotN, mNotIn, tOp, tUn, mVar, tC, mI, mI0, mU, tOr, tAnd, tNot, tIf, tNext, tDrop, tCB, tCall, mBL, mMin, mMax, mAbs, mLen, tCons, tNil, mMeth, mFld, mFldI, mIxI, mIxL, mIxT, tSl, mSlL, mPart, tNoPart, tLst, tTup, tMake, sFld, mCallV, L2.start, d_map1, d_map0, d_app1, d_app0, d_set0, d_set1, d_get0, d_get1, d_len1, d_len0, d_rep0, d_rep1, Nat.reduceAdd, Nat.reduceSub, mtt, mff, d_nt, d_nf, cx_K]
        exact k H .non (Same.refl H) rfl
      | some y =>
        obtain ⟨b, rfl, hb⟩ := hb
        cases oc with
        | none =>
          cases (show vc = .non from hc)
          dsimp only [tSeq, tIfS, tRet, tRetN, tAsg, gName, tB, mB, mCT, mC, mIsN, mNotN, mNotIn, tOp, tUn, mVar, tC, mI, mI0, mU, tOr, tAnd, tNot, tIf, tNext, tDrop, tCB, tCall, mBL, mMin, mMax, mAbs, mLen, tCons, tNil, mMeth, mFld, mFldI, mIxI, mIxL, mIxT, tSl, mSlL, mPart, tNoPart, tLst, tTup, tMake, sFld, mCallV, L2.start, d_map1, d_map0, d_app1, d_app0, d_set0, d_set1, d_get0, d_get1, d_len1, d_len0, d_rep0, d_rep1, Nat.reduceAdd, Nat.reduceSub, mtt, mff, d_nt, d_nf, cx_K]
          exact k H .non (Same.refl H) rfl
        | some z =>
          obtain ⟨c, rfl, hc⟩ := hc
          dsimp only [tSeq, tIfS, tRet, tRetN, tAsg, gName, tB, mB, mCT, mC, mIsN, mNotN, mNotIn, tOp, tUn, mVar, tC, mI, mI0, mU, tOr, tAnd, tNot, tIf, tNext, tDrop, tCB, tCall, mBL, mMin, mMax, mAbs, mLen, tCons, tNil, mMeth, mFld, mFldI, mIxI, mIxL, mIxT, tSl, mSlL, mPart, tNoPart, tLst, tTup, tMake, sFld, mCallV, L2.start, d_map1, d_map0, d_app1, d_app0, d_set0, d_set1, d_get0, d_get1, d_len1, d_len0, d_rep0, d_rep1, Nat.reduceAdd, Nat.reduceSub, mtt, mff, d_nt, d_nf, cx_K]
          refine ⟨a, b, x, y, rfl, ha, hb, (sa _ rfl).mono (by decide), (sb _ rfl).mono (by decide), fun H1 u hs hu => ?_⟩
          exact ⟨u, c, _, z, rfl, hu, hc.same hs, ((sa _ rfl).mul (sb _ rfl)).mono (by decide), (sc _ rfl).mono (by decide), fun H2 q hs2 hq => k H2 (.ref q) (hs.trans hs2) ⟨q, rfl, hq⟩⟩

/-! ### an operation by its number -/
structure TxtO (K : PySem.W.Frag) (mg : Str → Option Value) (aT aO : Addr) (fs gs : List Addr) : Prop where
  OF_TWO : GlobV mg "OF_TWO" (.ref aT)
  OF_ONE : GlobV mg "OF_ONE" (.ref aO)
  two : ∀ H : Hp, SqT K H aT (fs.map V.ref)
  one : ∀ H : Hp, SqT K H aO (gs.map V.ref)
  no_len : mg "len" = none

noncomputable def spIsOp : Sp := fun vs H Q _ => ∃ c : Int, vs = [.int c] ∧ Q (.bl (decide (0 ≤ c ∧ c < 6))) H
noncomputable abbrev st_is_operation : Stmt := top 18
theorem sc_is_operation : FnScope ["choice"] ["choice"] (defScope st_is_operation) := ⟨rfl, rfl, rfl, by decide +kernel, rfl, by decide +kernel, by decide +kernel⟩
theorem ok_is_operation {f : Addr} {fd : FuncData} {aT aO f0 f1 f2 f3 g0 g1 : Addr} (F : Fun K "is_operation" "is_operation" st_is_operation f fd) (T : TxtO K mg aT aO [f0, f1, f2, f3] [g0, g1]) :
    FnOk P w K mg base CX0 1 f fd ["choice"] spIsOp := by
  refine F.ok sc_is_operation (fun vs H Q E h => ?_) (fun cdv A outer s H vs Q E hr h => ?_)
  · obtain ⟨c, rfl, _⟩ := h
    rfl
  · obtain ⟨c, rfl, k⟩ := h
    refine ⟨_, (pss_one (ps_ret (pe_chain m_le m_lt pe_int (mv 0) (pe_op m_add (pe_callB m_len (by rfl) T.no_len (by decide +kernel) (pa_cons (pe_globN T.OF_TWO rfl) pa_nil)) (pe_callB m_len (by rfl) T.no_len (by decide +kernel) (pa_cons (pe_globN T.OF_ONE rfl) pa_nil)))))), ?_⟩
    dsimp only [tSeq, tIfS, tRet, tRetN, tAsg, gName, tB, mB, mCT, mC, mIsN, mNotN, mNotIn, tOp, tUn, mVar, tC, mI, mI0, mU, tOr, tAnd, tNot, tIf, tNext, tDrop, tCB, tCall, mBL, mMin, mMax, mAbs, mLen, tCons, tNil, mMeth, mFld, mFldI, mIxI, mIxL, mIxT, tSl, mSlL, mPart, tNoPart, tLst, tTup, tMake, sFld, mCallV, L2.start, d_map1, d_map0, d_app1, d_app0, d_set0, d_set1, d_get0, d_get1, d_len1, d_len0, d_rep0, d_rep1, Nat.reduceAdd, Nat.reduceSub, mtt, mff, d_nt, d_nf, cx_K, tChain]
    refine ⟨_, rfl, ?_⟩
    by_cases h0 : 0 ≤ c
    · rw [if_pos (decide_eq_true h0)]
      refine ⟨_, .inr (T.two H), _, .inr (T.one H), ?_⟩
      have e : decide (c < (([f0, f1, f2, f3] : List Addr).map V.ref).length + ((([g0, g1] : List Addr).map V.ref).length : Int)) = decide (0 ≤ c ∧ c < 6) := by
        show decide (c < (4 : Int) + 2) = _
        rw [decide_eq_decide]
        (first | lia | omega)
      rw [e]
      exact k
    · rw [if_neg (fun h => h0 (of_decide_eq_true h))]
      have e : decide (0 ≤ c ∧ c < 6) = false := decide_eq_false (by (first | lia | omega))
      rw [e] at k
      exact k

noncomputable def spOper (C : Addr) : Sp := fun vs H Q _ => ∃ (c : Int) (va vb : V) (oa ob : Option Tap.E), vs = [.int c, va, vb] ∧ 0 ≤ c ∧ c < 6 ∧ OEx C H va oa ∧ OEx C H vb ob ∧ (∀ e, oa = some e → Sm 1000 e) ∧ (∀ e, ob = some e → Sm 1000 e) ∧ rOEx C H (Tap.opM c.toNat oa ob) Q
noncomputable abbrev st_operate : Stmt := top 19
theorem sc_operate : FnScope ["choice", "a", "b", "of_one", "of_two"] ["choice", "a", "b"] (defScope st_operate) := ⟨rfl, rfl, rfl, by decide +kernel, rfl, by decide +kernel, by decide +kernel⟩
theorem ok_operate {f : Addr} {fd : FuncData} {aT aO f0 f1 f2 f3 g0 g1 : Addr} (F : Fun K "operate" "operate" st_operate f fd) (T : TxtO K mg aT aO [f0, f1, f2, f3] [g0, g1])
    (m0 : mg "add" = some (.ref f0)) (m1 : mg "subtract" = some (.ref f1)) (m2 : mg "multiply" = some (.ref f2)) (m3 : mg "divide" = some (.ref f3)) (m4 : mg "root" = some (.ref g0)) (m5 : mg "to_whole" = some (.ref g1))
    (h_add : Kn P w K mg base "add" 3 ["a", "b"] (spAdd C)) (h_subtract : Kn P w K mg base "subtract" 4 ["a", "b"] (spSub C)) (h_multiply : Kn P w K mg base "multiply" 3 ["a", "b"] (spMul C)) (h_divide : Kn P w K mg base "divide" 4 ["a", "b"] (spDiv C))
    (h_root : Kn P w K mg base "root" 4 ["a"] (spRoot C)) (h_to_whole : Kn P w K mg base "to_whole" 3 ["a"] (spToWh C)) :
    FnOk P w K mg base CX0 5 f fd ["choice", "a", "b"] (spOper C) := by
  refine F.ok sc_operate (fun vs H Q E h => ?_) (fun cdv A outer s H vs Q E hr h => ?_)
  · obtain ⟨c, va, vb, oa, ob, rfl, _⟩ := h
    rfl
  · obtain ⟨c, va, vb, oa, ob, rfl, hc0, hc1, ha, hb, sa, sb, k⟩ := h
    refine ⟨_, (pss_cons (ps_if (pt_cmpM c_isN (mv 1) pe_non (nomark _)) (pss_one (ps_ret pe_non)) pss_nil)
      (pss_cons (ps_if (pt_cmpM c_ge (mv 0) (pe_callB m_len (by rfl) T.no_len (by decide +kernel) (pa_cons (pe_globN T.OF_TWO rfl) pa_nil)) (nomark _)) (pss_cons (ps_set (i := 3) sc_operate.nd rfl (Or.inl rfl) (pe_ix m_ixT (pe_globN T.OF_ONE rfl) (pe_op m_sub (mv 0) (pe_callB m_len (by rfl) T.no_len (by decide +kernel) (pa_cons (pe_globN T.OF_TWO rfl) pa_nil))) (fun _ _ => rfl)))
      (pss_one (ps_ret (me_callv (mv 3) (pa_cons (mv 1) pa_nil))))) pss_nil)
      (pss_cons (ps_if (pt_cmpM c_isN (mv 2) pe_non (nomark _)) (pss_one (ps_ret pe_non)) pss_nil)
      (pss_cons (ps_set (i := 4) sc_operate.nd rfl (Or.inl rfl) (pe_ix m_ixT (pe_globN T.OF_TWO rfl) (mv 0) (fun _ _ => rfl)))
      (pss_one (ps_ret (me_callv (mv 4) (pa_cons (mv 1) (pa_cons (mv 2) pa_nil))))))))), ?_⟩
    cases oa with
    | none =>
      cases (show va = .non from ha)
      dsimp only [tSeq, tIfS, tRet, tRetN, tAsg, gName, tB, mB, mCT, mC, mIsN, mNotN, mNotIn, tOp, tUn, mVar, tC, mI, mI0, mU, tOr, tAnd, tNot, tIf, tNext, tDrop, tCB, tCall, mBL, mMin, mMax, mAbs, mLen, tCons, tNil, mMeth, mFld, mFldI, mIxI, mIxL, mIxT, tSl, mSlL, mPart, tNoPart, tLst, tTup, tMake, sFld, mCallV, L2.start, d_map1, d_map0, d_app1, d_app0, d_set0, d_set1, d_get0, d_get1, d_len1, d_len0, d_rep0, d_rep1, Nat.reduceAdd, Nat.reduceSub, mtt, mff, d_nt, d_nf, cx_K]
      exact k H .non (Same.refl H) rfl
    | some x =>
      obtain ⟨a, rfl, ha⟩ := ha
      have sx := sa _ rfl
      dsimp only [tSeq, tIfS, tRet, tRetN, tAsg, gName, tB, mB, mCT, mC, mIsN, mNotN, mNotIn, tOp, tUn, mVar, tC, mI, mI0, mU, tOr, tAnd, tNot, tIf, tNext, tDrop, tCB, tCall, mBL, mMin, mMax, mAbs, mLen, tCons, tNil, mMeth, mFld, mFldI, mIxI, mIxL, mIxT, tSl, mSlL, mPart, tNoPart, tLst, tTup, tMake, sFld, mCallV, L2.start, d_map1, d_map0, d_app1, d_app0, d_set0, d_set1, d_get0, d_get1, d_len1, d_len0, d_rep0, d_rep1, Nat.reduceAdd, Nat.reduceSub, mtt, mff, d_nt, d_nf, cx_K]
      refine ⟨_, .inr (T.two H), ?_⟩
      by_cases h4 : 4 ≤ c
      · rw [if_pos (show (([f0, f1, f2, f3] : List Addr).map V.ref).length ≤ c from h4)]
        refine ⟨_, .inr (T.two H), ?_⟩
        have two : c = 4 ∨ c = 5 := by (first | lia | omega)
        rcases two with rfl | rfl
        · obtain ⟨f', fd', hm, hk, hbd, hF⟩ := h_root.ex
          cases hm.symm.trans m4
          exact ⟨V.ref g0, ⟨_, T.one H, at_of (j := 0) rfl rfl⟩, _, ⟨g0, fd', _, 4, rfl, hF, hr.mono (by decide), hk, hbd⟩, a, x, rfl, ha, sx.mono (by decide), k⟩
        · obtain ⟨f', fd', hm, hk, hbd, hF⟩ := h_to_whole.ex
          cases hm.symm.trans m5
          exact ⟨V.ref g1, ⟨_, T.one H, at_of (j := 1) rfl rfl⟩, _, ⟨g1, fd', _, 3, rfl, hF, hr.mono (by decide), hk, hbd⟩, a, x, rfl, ha, sx.mono (by decide), fun H2 q hs hq => k H2 (.ref q) hs ⟨q, rfl, hq⟩⟩
      · rw [if_neg (show ¬ (([f0, f1, f2, f3] : List Addr).map V.ref).length ≤ c from h4)]
        have four : c = 0 ∨ c = 1 ∨ c = 2 ∨ c = 3 := by (first | lia | omega)
        cases ob with
        | none =>
          cases (show vb = .non from hb)
          rcases four with rfl | rfl | rfl | rfl <;> exact k H .non (Same.refl H) rfl
        | some y =>
          obtain ⟨b, rfl, hb⟩ := hb
          have sy := sb _ rfl
          dsimp only [mff]
          rcases four with rfl | rfl | rfl | rfl
          · obtain ⟨f', fd', hm, hk, hbd, hF⟩ := h_add.ex
            cases hm.symm.trans m0
            exact ⟨V.ref f0, ⟨_, T.two H, at_of (j := 0) rfl rfl⟩, _, ⟨f0, fd', _, 3, rfl, hF, hr.mono (by decide), hk, hbd⟩, a, b, x, y, rfl, ha, hb, sx.mono (by decide), sy.mono (by decide), fun H2 q hs hq => k H2 (.ref q) hs ⟨q, rfl, hq⟩⟩
          · obtain ⟨f', fd', hm, hk, hbd, hF⟩ := h_subtract.ex
            cases hm.symm.trans m1
            exact ⟨V.ref f1, ⟨_, T.two H, at_of (j := 1) rfl rfl⟩, _, ⟨f1, fd', _, 4, rfl, hF, hr.mono (by decide), hk, hbd⟩, a, b, x, y, rfl, ha, hb, sx.mono (by decide), sy.mono (by decide), fun H2 q hs hq => k H2 (.ref q) hs ⟨q, rfl, hq⟩⟩
          · obtain ⟨f', fd', hm, hk, hbd, hF⟩ := h_multiply.ex
            cases hm.symm.trans m2
            exact ⟨V.ref f2, ⟨_, T.two H, at_of (j := 2) rfl rfl⟩, _, ⟨f2, fd', _, 3, rfl, hF, hr.mono (by decide), hk, hbd⟩, a, b, x, y, rfl, ha, hb, sx.mono (by decide), sy.mono (by decide), fun H2 q hs hq => k H2 (.ref q) hs ⟨q, rfl, hq⟩⟩
          · obtain ⟨f', fd', hm, hk, hbd, hF⟩ := h_divide.ex
            cases hm.symm.trans m3
            exact ⟨V.ref f3, ⟨_, T.two H, at_of (j := 3) rfl rfl⟩, _, ⟨f3, fd', _, 4, rfl, hF, hr.mono (by decide), hk, hbd⟩, a, b, x, y, rfl, ha, hb, sx.mono (by decide), sy.mono (by decide), k⟩
end
end Tb


set_option Elab.async false
set_option linter.all false
set_option maxRecDepth 100000
set_option maxHeartbeats 4000000
namespace Tb
open PySem PySem.Spec PyProof.Rows L2
open PySem.W (Codec)

theorem one_shl (k : Nat) : (1 : Int) * 2 ^ k = ((2 ^ k : Nat) : Int) := by
  rw [Int.one_mul, Int.natCast_pow]
  rfl
theorem pow_cast (k : Nat) : (2 : Int) ^ k = ((2 ^ k : Nat) : Int) := by
  rw [Int.natCast_pow]
  rfl
theorem xorM {p l : Nat} (h : p < 2 ^ l) : Builtin.bitXor (p : Int) ((2 ^ l - 1 : Nat) : Int) = ((2 ^ l - 1 - p : Nat) : Int) := by
  have h0 := Nat.two_pow_pos l
  have e : ((2 ^ l - 1 : Nat) : Int) = 2 ^ l - 1 := by
    rw [pow_cast]
    (first | lia | omega)
  have m : Builtin.bitAnd (p : Int) (2 ^ l - 1) = p := by
    rw [bitAnd_mask l (by (first | lia | omega)), pow_cast, ← Int.natCast_emod, Nat.mod_eq_of_lt h]
  rw [bitXor_and, e, m, pow_cast]
  (first | lia | omega)
section
variable {P : Program} {w : World} {K : PySem.W.Frag} {mg : Str → Option Value} {base : Heap} {C : Addr}

noncomputable def spRunL : Sp := fun vs H Q _ => ∃ p w : Nat, vs = [.int p, .int w] ∧ 3 ≤ w ∧ w ≤ 64 ∧ 1 ≤ p ∧ p < 2 ^ (w - 1) ∧ Q (.int (Tap.runN w p)) H
theorem top_bit {p w : Nat} (hw : 3 ≤ w) (hp : p < 2 ^ (w - 1)) : (p : Int) / 2 ^ (w - 2) = 1 ↔ 2 ^ (w - 2) ≤ p := by
  have hh : 2 ^ (w - 1) = 2 * 2 ^ (w - 2) := by rw [← Tap.pow_s]; congr 1; (first | lia | omega)
  have h0 := Nat.two_pow_pos (w - 2)
  rw [pow_cast, ← Int.natCast_ediv]
  generalize 2 ^ (w - 2) = X at *
  have : p / X = 1 ↔ X ≤ p := by
    constructor
    · intro h
      have := Nat.div_mul_le_self p X
      rw [h] at this
      (first | lia | omega)
    · intro h
      exact Nat.div_eq_of_lt_le (by (first | lia | omega)) (by (first | lia | omega))
  (first | lia | omega)
noncomputable abbrev st_run_length : Stmt := top 31
theorem sc_run_length : FnScope ["pattern", "width", "lower"] ["pattern", "width"] (defScope st_run_length) := ⟨rfl, rfl, rfl, by decide +kernel, rfl, by decide +kernel, by decide +kernel⟩
theorem ok_run_length {f : Addr} {fd : FuncData} (F : Fun K "run_length" "run_length" st_run_length f fd) : FnOk P w K mg base CX0 1 f fd ["pattern", "width"] spRunL := by
  refine F.ok sc_run_length (fun vs H Q E h => ?_) (fun cdv A outer s H vs Q E hr h => ?_)
  · obtain ⟨p, w, rfl, _⟩ := h
    rfl
  · obtain ⟨p, w, rfl, hw, hw2, hp1, hp2, k⟩ := h
    refine ⟨_, (pss_cons (ps_set (i := 2) sc_run_length.nd rfl (Or.inl rfl) (pe_op m_sub (mv 1) pe_int))
      (pss_cons (ps_if (pt_cmpM c_eq (pe_op m_shr (mv 0) (pe_op m_sub (mv 2) pe_int)) pe_int (nomark _)) (pss_one (ps_set (i := 0) sc_run_length.nd rfl (Or.inl rfl) (pe_op m_xor (mv 0) (pe_op m_sub (pe_op m_shl pe_int (mv 2)) pe_int)))) pss_nil)
      (pss_one (ps_ret (pe_op m_sub (mv 2) (me_bitlen (mv 0))))))), ?_⟩
    dsimp only [tSeq, tIfS, tRet, tRetN, tAsg, gName, tB, mB, mCT, mC, mIsN, mNotN, mNotIn, tOp, tUn, mVar, tC, mI, mI0, mU, tOr, tAnd, tNot, tIf, tNext, tDrop, tCB, tCall, mBL, mMin, mMax, mAbs, mLen, tCons, tNil, mMeth, mFld, mFldI, mIxI, mIxL, mIxT, tSl, mSlL, mPart, tNoPart, tLst, tTup, tMake, sFld, mCallV, L2.start, d_map1, d_map0, d_app1, d_app0, d_set0, d_set1, d_get0, d_get1, d_len1, d_len0, d_rep0, d_rep1, Nat.reduceAdd, Nat.reduceSub, mtt, mff, d_nt, d_nf, cx_K]
    have e1 : ((w : Int) - 1 - 1).toNat = w - 2 := by (first | lia | omega)
    have e2 : ((w : Int) - 1).toNat = w - 1 := by (first | lia | omega)
    have h0 := Nat.two_pow_pos (w - 1)
    have hbl : ∀ n, n < 2 ^ (w - 1) → Tap.bl n ≤ w - 1 := fun n h => Tap.bl_le.mpr h
    rw [e1, e2]
    refine ⟨by (first | lia | omega), ?_⟩
    unfold Tap.runN at k
    by_cases h : 2 ^ (w - 2) ≤ p
    · rw [if_pos ((top_bit hw hp2).mpr h)]
      rw [if_pos h] at k
      refine ⟨shl_of (by (first | lia | omega)) (by (first | lia | omega)) (by decide), ?_⟩
      have e3 : (1 : Int) * 2 ^ (w - 1) - 1 = ((2 ^ (w - 1) - 1 : Nat) : Int) := by rw [one_shl]; (first | lia | omega)
      rw [e3, xorM hp2, bits_bi, Tap.bi_nat]
      have := hbl (2 ^ (w - 1) - 1 - p) (by (first | lia | omega))
      have e4 : (w : Int) - 1 - ((Tap.bl (2 ^ (w - 1) - 1 - p) : Nat) : Int) = ((w - 1 - Tap.bl (2 ^ (w - 1) - 1 - p) : Nat) : Int) := by (first | lia | omega)
      rw [e4]
      exact k
    · rw [if_neg (fun h' => h ((top_bit hw hp2).mp h'))]
      rw [if_neg h] at k
      rw [bits_bi, Tap.bi_nat]
      have := hbl p hp2
      have e4 : (w : Int) - 1 - ((Tap.bl p : Nat) : Int) = ((w - 1 - Tap.bl p : Nat) : Int) := by (first | lia | omega)
      rw [e4]
      exact k

noncomputable def spNaz (C : Addr) : Sp := fun vs H Q _ => ∃ p w : Nat, vs = [.int p, .int w] ∧ 3 ≤ w ∧ w ≤ 64 ∧ 1 ≤ p ∧ p < 2 ^ (w - 1) ∧ rEx C H ((Tap.mantN w p : Int), Tap.powN w p) Q
noncomputable abbrev st_number_above_zero : Stmt := top 32
theorem sc_number_above_zero : FnScope ["pattern", "width", "run", "r", "left", "tail", "e", "places", "f"] ["pattern", "width"] (defScope st_number_above_zero) := ⟨rfl, rfl, rfl, by decide +kernel, rfl, by decide +kernel, by decide +kernel⟩
theorem ok_number_above_zero {f : Addr} {fd : FuncData} (F : Fun K "number_above_zero" "number_above_zero" st_number_above_zero f fd) (T : TxtE K mg C) (hExact : KnC P w K mg base "Exact" C 1 ["self", "mantissa", "power"] (spExact C)) (h_run_length : Kn P w K mg base "run_length" 1 ["pattern", "width"] spRunL) :
    FnOk P w K mg base CX0 3 f fd ["pattern", "width"] (spNaz C) := by
  refine F.ok sc_number_above_zero (fun vs H Q E h => ?_) (fun cdv A outer s H vs Q E hr h => ?_)
  · obtain ⟨p, w, rfl, _⟩ := h
    rfl
  · obtain ⟨p, w, rfl, hw, hw2, hp1, hp2, k⟩ := h
    refine ⟨_, (pss_cons (ps_set (i := 2) sc_number_above_zero.nd rfl (Or.inl rfl) (pe_callN (h_run_length) (hr.mono (by decide)) rfl (pa_cons (mv 0) (pa_cons (mv 1) pa_nil))))
      (pss_cons (ps_set (i := 3) sc_number_above_zero.nd rfl (Or.inl rfl) (pe_ifExp (pt_cmpM c_eq (pe_op m_shr (mv 0) (pe_op m_sub (mv 1) pe_int)) pe_int (nomark _)) (pe_op m_sub (mv 2) pe_int) (pe_un m_neg (mv 2))))
      (pss_cons (ps_set (i := 4) sc_number_above_zero.nd rfl (Or.inl rfl) (pe_callB (m_max rfl) (by rfl) T.no_max (by decide +kernel) (pa_cons (pe_op m_sub (pe_op m_sub (pe_op m_sub (mv 1) pe_int) (mv 2)) pe_int) (pa_cons pe_int pa_nil))))
      (pss_cons (ps_set (i := 5) sc_number_above_zero.nd rfl (Or.inl rfl) (pe_op m_and (mv 0) (pe_op m_sub (pe_op m_shl pe_int (mv 4)) pe_int)))
      (pss_cons (ps_set (i := 6) sc_number_above_zero.nd rfl (Or.inl rfl) (pe_op m_shr (pe_op m_shl (mv 5) pe_int) (mv 4)))
      (pss_cons (ps_set (i := 7) sc_number_above_zero.nd rfl (Or.inl rfl) (pe_callB (m_max rfl) (by rfl) T.no_max (by decide +kernel) (pa_cons (pe_op m_sub (mv 4) pe_int) (pa_cons pe_int pa_nil))))
      (pss_cons (ps_set (i := 8) sc_number_above_zero.nd rfl (Or.inl rfl) (pe_op m_and (mv 5) (pe_op m_sub (pe_op m_shl pe_int (mv 7)) pe_int)))
      (pss_one (ps_ret (pe_makeN (hExact) (hr.mono (by decide)) rfl (pa_cons (pe_op m_add (pe_op m_shl pe_int (mv 7)) (mv 8)) (pa_cons (pe_op m_sub (pe_op m_add (pe_op m_mul pe_int (mv 3)) (mv 6)) (mv 7)) pa_nil)))))))))))), ?_⟩
    dsimp only [tSeq, tIfS, tRet, tRetN, tAsg, gName, tB, mB, mCT, mC, mIsN, mNotN, mNotIn, tOp, tUn, mVar, tC, mI, mI0, mU, tOr, tAnd, tNot, tIf, tNext, tDrop, tCB, tCall, mBL, mMin, mMax, mAbs, mLen, tCons, tNil, mMeth, mFld, mFldI, mIxI, mIxL, mIxT, tSl, mSlL, mPart, tNoPart, tLst, tTup, tMake, sFld, mCallV, L2.start, d_map1, d_map0, d_app1, d_app0, d_set0, d_set1, d_get0, d_get1, d_len1, d_len0, d_rep0, d_rep1, Nat.reduceAdd, Nat.reduceSub, mtt, mff, d_nt, d_nf, cx_K]
    refine ⟨p, w, rfl, hw, hw2, hp1, hp2, ?_⟩
    dsimp only
    have hr1 := Tap.runN_le w p
    have hl1 := Tap.leftN_le w p hp1 hp2 hw
    have eL : max ((w : Int) - 1 - ((Tap.runN w p : Nat) : Int) - 1) 0 = ((Tap.leftN w p : Nat) : Int) := by
      unfold Tap.leftN
      (first | lia | omega)
    have eF : max (((Tap.leftN w p : Nat) : Int) - 2) 0 = ((Tap.leftN w p - 2 : Nat) : Int) := by (first | lia | omega)
    have m1 : ∀ (x k : Nat), Builtin.bitAnd (x : Int) (1 * 2 ^ k - 1) = ((x % 2 ^ k : Nat) : Int) := fun x k => by
      rw [Int.one_mul, bitAnd_mask k (by (first | lia | omega)), pow_cast, Int.natCast_emod]
    have e4 : ((Tap.tailN w p : Nat) : Int) * 2 ^ Int.toNat 2 / 2 ^ Tap.leftN w p = ((Tap.tailN w p * 4 / 2 ^ Tap.leftN w p : Nat) : Int) := by
      rw [pow_cast (Tap.leftN w p), Int.natCast_ediv, Int.natCast_mul]
      rfl
    have e5 : ((1 : Int) * 2 ^ (Tap.leftN w p - 2) + ((Tap.tailN w p % 2 ^ (Tap.leftN w p - 2) : Nat) : Int)) = ((Tap.mantN w p : Nat) : Int) := by
      rw [one_shl]
      unfold Tap.mantN
      (first | lia | omega)
    have et : p % 2 ^ Tap.leftN w p = Tap.tailN w p := rfl
    have ew : ((w : Int) - 2).toNat = w - 2 := by (first | lia | omega)
    simp only [eL, eF, Int.toNat_natCast, m1, et, e4, e5, ew]
    have bt : Tap.bi ((Tap.tailN w p : Nat) : Int) ≤ 1000000 := by
      have h1 : Tap.tailN w p < 2 ^ Tap.leftN w p := Nat.mod_lt _ (Nat.two_pow_pos _)
      have := Tap.bi_le (x := ((Tap.tailN w p : Nat) : Int)) (k := Tap.leftN w p)
      have := this.mpr h1
      (first | lia | omega)
    have c1 : CShl 1 ((Tap.leftN w p : Nat) : Int) := shl_of (by (first | lia | omega)) (by (first | lia | omega)) (by decide)
    have c2 : CShl 1 ((Tap.leftN w p - 2 : Nat) : Int) := shl_of (by (first | lia | omega)) (by (first | lia | omega)) (by decide)
    have c3 : CShl ((Tap.tailN w p : Nat) : Int) 2 := shl_of (by (first | lia | omega)) (by (first | lia | omega)) bt
    have c4 : Tap.bi ((Tap.runN w p : Nat) : Int) ≤ 64 := by
      rw [Tap.bi_nat, Tap.bl_le]
      exact Nat.lt_of_le_of_lt hr1 (Nat.lt_of_lt_of_le (show w - 1 < 64 by (first | lia | omega)) (by decide))
    have c5 := Tap.bi_sub ((Tap.runN w p : Nat) : Int) 1
    have c6 : Tap.bi (1 : Int) = 1 := rfl
    unfold Tap.powN Tap.runR at k
    refine ⟨by (first | lia | omega), ?_⟩
    by_cases h : 2 ^ (w - 2) ≤ p
    · rw [if_pos ((top_bit hw hp2).mpr h)]
      rw [if_pos h] at k
      exact ⟨c1, c3, by (first | lia | omega), c2, c2, mul_of (by decide) (by (first | lia | omega)), make_ex k⟩
    · rw [if_neg (fun h' => h ((top_bit hw hp2).mp h'))]
      rw [if_neg h] at k
      exact ⟨c1, c3, by (first | lia | omega), c2, c2, mul_of (by decide) (by rw [Tap.bi_neg]; (first | lia | omega)), make_ex k⟩
noncomputable def spNumOf (C : Addr) : Sp := fun vs H Q _ => ∃ p w : Nat, vs = [.int p, .int w] ∧ 3 ≤ w ∧ w ≤ 64 ∧ p < 2 ^ w ∧ rOEx C H (Tap.num w p) Q
noncomputable abbrev st_number_of : Stmt := top 33
theorem sc_number_of : FnScope ["pattern", "width", "half"] ["pattern", "width"] (defScope st_number_of) := ⟨rfl, rfl, rfl, by decide +kernel, rfl, by decide +kernel, by decide +kernel⟩
theorem ok_number_of {f : Addr} {fd : FuncData} (F : Fun K "number_of" "number_of" st_number_of f fd) (T : TxtE K mg C) (hExact : KnC P w K mg base "Exact" C 1 ["self", "mantissa", "power"] (spExact C)) (h_zero : Kn P w K mg base "zero" 3 [] (spZero C)) (h_number_above_zero : Kn P w K mg base "number_above_zero" 3 ["pattern", "width"] (spNaz C)) (h_opposite : Kn P w K mg base "opposite" 3 ["a"] (spOpp C)) :
    FnOk P w K mg base CX0 4 f fd ["pattern", "width"] (spNumOf C) := by
  refine F.ok sc_number_of (fun vs H Q E h => ?_) (fun cdv A outer s H vs Q E hr h => ?_)
  · obtain ⟨p, w, rfl, _⟩ := h
    rfl
  · obtain ⟨p, w, rfl, hw, hw2, hp, k⟩ := h
    refine ⟨_, (pss_cons (ps_set (i := 2) sc_number_of.nd rfl (Or.inl rfl) (pe_op m_shl pe_int (pe_op m_sub (mv 1) pe_int)))
      (pss_cons (ps_if (pt_cmpM c_eq (mv 0) pe_int (nomark _)) (pss_one (ps_ret (pe_callN0 (h_zero) (hr.mono (by decide)) rfl))) pss_nil)
      (pss_cons (ps_if (pt_cmpM c_eq (mv 0) (mv 2) (nomark _)) (pss_one (ps_ret pe_non)) pss_nil)
      (pss_cons (ps_if (pt_cmpM c_gt (mv 0) (mv 2) (nomark _)) (pss_one (ps_ret (pe_callN (h_opposite) (hr.mono (by decide)) rfl (pa_cons (pe_callN (h_number_above_zero) (hr.mono (by decide)) rfl (pa_cons (pe_op m_sub (pe_op m_mul pe_int (mv 2)) (mv 0)) (pa_cons (mv 1) pa_nil))) pa_nil)))) pss_nil)
      (pss_one (ps_ret (pe_callN (h_number_above_zero) (hr.mono (by decide)) rfl (pa_cons (mv 0) (pa_cons (mv 1) pa_nil))))))))), ?_⟩
    dsimp only [tSeq, tIfS, tRet, tRetN, tAsg, gName, tB, mB, mCT, mC, mIsN, mNotN, mNotIn, tOp, tUn, mVar, tC, mI, mI0, mU, tOr, tAnd, tNot, tIf, tNext, tDrop, tCB, tCall, mBL, mMin, mMax, mAbs, mLen, tCons, tNil, mMeth, mFld, mFldI, mIxI, mIxL, mIxT, tSl, mSlL, mPart, tNoPart, tLst, tTup, tMake, sFld, mCallV, L2.start, d_map1, d_map0, d_app1, d_app0, d_set0, d_set1, d_get0, d_get1, d_len1, d_len0, d_rep0, d_rep1, Nat.reduceAdd, Nat.reduceSub, mtt, mff, d_nt, d_nf, cx_K]
    have ew : ((w : Int) - 1).toNat = w - 1 := by (first | lia | omega)
    have hh : 2 ^ w = 2 * 2 ^ (w - 1) := by rw [← Tap.pow_s]; congr 1; (first | lia | omega)
    rw [ew, one_shl]
    have hb : Tap.bi ((2 ^ (w - 1) : Nat) : Int) ≤ 1000000 := by
      rw [← pow_cast, Tap.bi_pow]
      (first | lia | omega)
    have h0 := Nat.two_pow_pos (w - 1)
    unfold Tap.num Tap.mantS Tap.powS at k
    refine ⟨shl_of (by (first | lia | omega)) (by (first | lia | omega)) (by decide), ?_⟩
    by_cases hz : p = 0
    · rw [if_pos (by (first | lia | omega))]
      rw [if_neg (by (first | lia | omega)), if_pos hz, if_pos hz] at k
      exact ⟨rfl, k.ex⟩
    · rw [if_neg (by (first | lia | omega))]
      by_cases hn : p = 2 ^ (w - 1)
      · rw [if_pos (by (first | lia | omega))]
        rw [if_pos hn] at k
        exact k H .non (Same.refl H) rfl
      · rw [if_neg (by (first | lia | omega))]
        rw [if_neg hn, if_neg hz, if_neg hz] at k
        by_cases hl : p < 2 ^ (w - 1)
        · rw [if_neg (by (first | lia | omega))]
          rw [if_pos hl, if_pos hl] at k
          exact ⟨p, w, rfl, hw, hw2, by (first | lia | omega), hl, k.ex⟩
        · rw [if_pos (by (first | lia | omega))]
          rw [if_neg hl, if_neg hl] at k
          refine ⟨mul_of (by decide) hb, 2 ^ w - p, w, ?_, hw, hw2, by (first | lia | omega), by (first | lia | omega), fun H1 z hs hz => ?_⟩
          · rw [show (2 : Int) * ((2 ^ (w - 1) : Nat) : Int) - (p : Int) = ((2 ^ w - p : Nat) : Int) by (first | lia | omega)]
          · exact ⟨z, _, rfl, hz, fun H2 u hs2 hu => k H2 (.ref u) (hs.trans hs2) ⟨u, rfl, hu⟩⟩
noncomputable def spPaz (C : Addr) : Sp := fun vs H Q _ => ∃ (a : Addr) (e : Tap.E) (w : Nat), vs = [.ref a, .int w] ∧ 3 ≤ w ∧ w ≤ 64 ∧ ExAt C H a e ∧ 0 < e.1 ∧ Sm 40000 e ∧ Q (.int (Tap.patAbove e.1.toNat e.2 w)) H
noncomputable abbrev st_pattern_above_zero : Stmt := top 34
theorem sc_pattern_above_zero : FnScope ["number", "width", "places", "scale", "r", "run_bits", "run", "bits"] ["number", "width"] (defScope st_pattern_above_zero) := ⟨rfl, rfl, rfl, by decide +kernel, rfl, by decide +kernel, by decide +kernel⟩
theorem ok_pattern_above_zero {f : Addr} {fd : FuncData} (F : Fun K "pattern_above_zero" "pattern_above_zero" st_pattern_above_zero f fd) (T : TxtE K mg C) (h_nearest_even : Kn P w K mg base "nearest_even" 1 ["number", "power"] spNev) :
    FnOk P w K mg base CX0 2 f fd ["number", "width"] (spPaz C) := by
  refine F.ok sc_pattern_above_zero (fun vs H Q E h => ?_) (fun cdv A outer s H vs Q E hr h => ?_)
  · obtain ⟨a, e, w, rfl, _⟩ := h
    rfl
  · obtain ⟨a, e, w, rfl, hw, hw2, ha, h0, hs, k⟩ := h
    refine ⟨_, (pss_cons (ps_set (i := 2) sc_pattern_above_zero.nd rfl (Or.inl rfl) (pe_op m_sub (me_bitlen (me_fldI (mv 0) rfl)) pe_int))
      (pss_cons (ps_set (i := 3) sc_pattern_above_zero.nd rfl (Or.inl rfl) (pe_op m_add (me_fldI (mv 0) rfl) (mv 2)))
      (pss_cons (ps_set (i := 4) sc_pattern_above_zero.nd rfl (Or.inl rfl) (pe_op m_fdiv (mv 3) pe_int))
      (pss_cons (ps_if (pt_cmpM c_ge (mv 4) (pe_op m_sub (mv 1) pe_int) (nomark _)) (pss_one (ps_ret (pe_op m_sub (pe_op m_shl pe_int (pe_op m_sub (mv 1) pe_int)) pe_int))) pss_nil)
      (pss_cons (ps_if (pt_cmpM c_lt (mv 4) (pe_op m_sub pe_int (mv 1)) (nomark _)) (pss_one (ps_ret pe_int)) pss_nil)
      (pss_cons (ps_set (i := 5) sc_pattern_above_zero.nd rfl (Or.inl rfl) (pe_ifExp (pt_cmpM c_ge (mv 4) pe_int (nomark _)) (pe_op m_add (mv 4) pe_int) (pe_op m_sub pe_int (mv 4))))
      (pss_cons (ps_set (i := 6) sc_pattern_above_zero.nd rfl (Or.inl rfl) (pe_ifExp (pt_cmpM c_ge (mv 4) pe_int (nomark _)) (pe_op m_sub (pe_op m_shl pe_int (mv 5)) pe_int) pe_int))
      (pss_cons (ps_set (i := 7) sc_pattern_above_zero.nd rfl (Or.inl rfl) (pe_op m_sub (pe_op m_add (pe_op m_shl (pe_op m_add (pe_op m_shl (mv 6) pe_int) (pe_op m_mod (mv 3) pe_int)) (mv 2)) (me_fldI (mv 0) rfl)) (pe_op m_shl pe_int (mv 2))))
      (pss_one (ps_ret (pe_callN (h_nearest_even) (hr.mono (by decide)) rfl (pa_cons (mv 7) (pa_cons (pe_op m_sub (pe_op m_sub (mv 1) pe_int) (pe_op m_add (pe_op m_add (mv 5) pe_int) (mv 2))) pa_nil))))))))))))), ?_⟩
    obtain ⟨m, hm⟩ := Int.eq_ofNat_of_zero_le (Int.le_of_lt h0)
    have fm : FldAt K H a "mantissa" (.int (m : Int)) := by
      rw [← hm]
      exact ha.fm T
    dsimp only [tSeq, tIfS, tRet, tRetN, tAsg, gName, tB, mB, mCT, mC, mIsN, mNotN, mNotIn, tOp, tUn, mVar, tC, mI, mI0, mU, tOr, tAnd, tNot, tIf, tNext, tDrop, tCB, tCall, mBL, mMin, mMax, mAbs, mLen, tCons, tNil, mMeth, mFld, mFldI, mIxI, mIxL, mIxT, tSl, mSlL, mPart, tNoPart, tLst, tTup, tMake, sFld, mCallV, L2.start, d_map1, d_map0, d_app1, d_app0, d_set0, d_set1, d_get0, d_get1, d_len1, d_len0, d_rep0, d_rep1, Nat.reduceAdd, Nat.reduceSub, mtt, mff, d_nt, d_nf, cx_K]
    refine ⟨_, fm, _, ha.fp T, ?_⟩
    obtain ⟨s1, s2, s3⟩ := hs
    rw [hm] at s1
    rw [hm, Int.toNat_natCast] at k
    rw [Tap.bi_nat] at s1
    have hm0 : m ≠ 0 := by (first | lia | omega)
    have et : ((Builtin.Int.intBits (m : Int) : Nat) : Int) - 1 = ((m.log2 : Nat) : Int) := by
      rw [bits_bi, Tap.bi_nat]
      unfold Tap.bl
      rw [if_neg hm0]
      (first | lia | omega)
    have ht : m.log2 < 40000 := by
      unfold Tap.bl at s1
      rw [if_neg hm0] at s1
      (first | lia | omega)
    have hml : m < 2 ^ (m.log2 + 1) := Nat.lt_log2_self
    have hbm : Tap.bi (m : Int) ≤ m.log2 + 1 := Tap.bl_le.mpr hml
    simp only [et, Int.toNat_natCast]
    unfold Tap.patAbove at k
    dsimp only at k
    have ew : ((w : Int) - 1).toNat = w - 1 := by (first | lia | omega)
    have hmod := Int.emod_nonneg (e.2 + ((m.log2 : Nat) : Int)) (show (4 : Int) ≠ 0 by decide)
    have hmod2 := Int.emod_lt_of_pos (e.2 + ((m.log2 : Nat) : Int)) (show (0 : Int) < 4 by decide)
    generalize hS : e.2 + ((m.log2 : Nat) : Int) = S at *
    generalize m.log2 = t at *
    have f2 : (2 : Int) ^ Int.toNat 2 = 4 := rfl
    rw [ew, f2]
    refine ⟨⟨by decide, by decide⟩, ?_⟩
    by_cases h1 : (w : Int) - 2 ≤ S / 4
    · rw [if_pos h1] at k ⊢
      rw [Int.one_mul]
      exact ⟨shl_of (by (first | lia | omega)) (by (first | lia | omega)) (by decide), k⟩
    · rw [if_neg h1] at k ⊢
      by_cases h2 : S / 4 < 2 - (w : Int)
      · rw [if_pos h2] at k ⊢
        exact k
      · rw [if_neg h2] at k ⊢
        have bmod : Tap.bi (S % 4) ≤ 2 := by
          rw [Tap.bi_le]
          (first | lia | omega)
        have bt : Tap.bi ((2 : Int) ^ t) ≤ t + 1 := by rw [Tap.bi_pow]; exact Nat.le_refl _
        have key : ∀ (R : Int), Tap.bi R ≤ 70 → Tap.bi (R * 4 + S % 4) ≤ 100 ∧ Tap.bi ((R * 4 + S % 4) * 2 ^ t + (m : Int) - 2 ^ t) ≤ 100000 := by
          intro R hR
          have q0 : Tap.bi (R * 4) ≤ Tap.bi R + Tap.bi 4 := Tap.bi_mul R 4
          have q1 : Tap.bi (4 : Int) = 3 := rfl
          have q2 := Tap.bi_add (R * 4) (S % 4)
          have q3 := Tap.bi_shl (R * 4 + S % 4) t
          have q4 := Tap.bi_add ((R * 4 + S % 4) * 2 ^ t) (m : Int)
          have q5 := Tap.bi_sub ((R * 4 + S % 4) * 2 ^ t + (m : Int)) (2 ^ t)
          (first | lia | omega)
        by_cases h3 : 0 ≤ S / 4
        · rw [if_pos h3, if_pos h3]
          rw [if_pos h3, if_pos h3] at k
          have bR : Tap.bi ((1 : Int) * 2 ^ (S / 4 + 2).toNat - 2) ≤ 70 := by
            have q6 := Tap.bi_sub ((1 : Int) * 2 ^ (S / 4 + 2).toNat) 2
            have q7 : Tap.bi ((1 : Int) * 2 ^ (S / 4 + 2).toNat) ≤ 66 := by rw [Int.one_mul, Tap.bi_pow]; (first | lia | omega)
            have q8 : Tap.bi (2 : Int) = 2 := rfl
            (first | lia | omega)
          obtain ⟨k1, k2⟩ := key _ bR
          refine ⟨shl_of (by (first | lia | omega)) (by (first | lia | omega)) (by decide), shl_of (by (first | lia | omega)) (by (first | lia | omega)) (by (first | lia | omega)), by decide, shl_of (by (first | lia | omega)) (by (first | lia | omega)) (by (first | lia | omega)), _, fm, shl_of (by (first | lia | omega)) (by (first | lia | omega)) (by decide), ?_⟩
          rw [Int.one_mul] at k2 ⊢
          rw [Int.one_mul]
          exact ⟨_, _, rfl, k2, by (first | lia | omega), by (first | lia | omega), k⟩
        · rw [if_neg h3, if_neg h3]
          rw [if_neg h3, if_neg h3] at k
          obtain ⟨k1, k2⟩ := key 1 (by decide)
          refine ⟨shl_of (by (first | lia | omega)) (by (first | lia | omega)) (by decide), by decide, shl_of (by (first | lia | omega)) (by (first | lia | omega)) (by (first | lia | omega)), _, fm, shl_of (by (first | lia | omega)) (by (first | lia | omega)) (by decide), ?_⟩
          rw [Int.one_mul (2 ^ t)]
          exact ⟨_, _, rfl, k2, by (first | lia | omega), by (first | lia | omega), k⟩
noncomputable def spPatOf (C : Addr) : Sp := fun vs H Q _ => ∃ (v : V) (o : Option Tap.E) (w : Nat), vs = [v, .int w] ∧ 3 ≤ w ∧ w ≤ 64 ∧ OEx C H v o ∧ (∀ e, o = some e → Sm 40000 e) ∧ ∀ H', Same H H' → Q (.int (Tap.patOpt o w)) H'
noncomputable abbrev st_pattern_of : Stmt := top 35
theorem sc_pattern_of : FnScope ["number", "width"] ["number", "width"] (defScope st_pattern_of) := ⟨rfl, rfl, rfl, by decide +kernel, rfl, by decide +kernel, by decide +kernel⟩
theorem ok_pattern_of {f : Addr} {fd : FuncData} (F : Fun K "pattern_of" "pattern_of" st_pattern_of f fd) (T : TxtE K mg C) (h_pattern_above_zero : Kn P w K mg base "pattern_above_zero" 2 ["number", "width"] (spPaz C)) (h_opposite : Kn P w K mg base "opposite" 3 ["a"] (spOpp C)) :
    FnOk P w K mg base CX0 4 f fd ["number", "width"] (spPatOf C) := by
  refine F.ok sc_pattern_of (fun vs H Q E h => ?_) (fun cdv A outer s H vs Q E hr h => ?_)
  · obtain ⟨v, o, w, rfl, _⟩ := h
    rfl
  · obtain ⟨v, o, w, rfl, hw, hw2, hv, hs, k⟩ := h
    refine ⟨_, (pss_cons (ps_if (pt_cmpM c_isN (mv 0) pe_non (nomark _)) (pss_one (ps_ret (pe_op m_shl pe_int (pe_op m_sub (mv 1) pe_int)))) pss_nil)
      (pss_cons (ps_if (pt_cmpM c_eq (me_fldI (mv 0) rfl) pe_int (nomark _)) (pss_one (ps_ret pe_int)) pss_nil)
      (pss_cons (ps_if (pt_cmpM c_lt (me_fldI (mv 0) rfl) pe_int (nomark _)) (pss_one (ps_ret (pe_op m_sub (pe_op m_shl pe_int (mv 1)) (pe_callN (h_pattern_above_zero) (hr.mono (by decide)) rfl (pa_cons (pe_callN (h_opposite) (hr.mono (by decide)) rfl (pa_cons (mv 0) pa_nil)) (pa_cons (mv 1) pa_nil)))))) pss_nil)
      (pss_one (ps_ret (pe_callN (h_pattern_above_zero) (hr.mono (by decide)) rfl (pa_cons (mv 0) (pa_cons (mv 1) pa_nil)))))))), ?_⟩
    cases o with
    | none =>
      cases (show v = .non from hv)
      dsimp only [tSeq, tIfS, tRet, tRetN, tAsg, gName, tB, mB, mCT, mC, mIsN, mNotN, mNotIn, tOp, tUn, mVar, tC, mI, mI0, mU, tOr, tAnd, tNot, tIf, tNext, tDrop, tCB, tCall, mBL, mMin, mMax, mAbs, mLen, tCons, tNil, mMeth, mFld, mFldI, mIxI, mIxL, mIxT, tSl, mSlL, mPart, tNoPart, tLst, tTup, tMake, sFld, mCallV, L2.start, d_map1, d_map0, d_app1, d_app0, d_set0, d_set1, d_get0, d_get1, d_len1, d_len0, d_rep0, d_rep1, Nat.reduceAdd, Nat.reduceSub, mtt, mff, d_nt, d_nf, cx_K]
      rw [show ((w : Int) - 1).toNat = w - 1 by (first | lia | omega), Int.one_mul]
      exact ⟨shl_of (by (first | lia | omega)) (by (first | lia | omega)) (by decide), k H (Same.refl H)⟩
    | some e =>
      obtain ⟨a, rfl, ha⟩ := hv
      have hse := hs _ rfl
      dsimp only [tSeq, tIfS, tRet, tRetN, tAsg, gName, tB, mB, mCT, mC, mIsN, mNotN, mNotIn, tOp, tUn, mVar, tC, mI, mI0, mU, tOr, tAnd, tNot, tIf, tNext, tDrop, tCB, tCall, mBL, mMin, mMax, mAbs, mLen, tCons, tNil, mMeth, mFld, mFldI, mIxI, mIxL, mIxT, tSl, mSlL, mPart, tNoPart, tLst, tTup, tMake, sFld, mCallV, L2.start, d_map1, d_map0, d_app1, d_app0, d_set0, d_set1, d_get0, d_get1, d_len1, d_len0, d_rep0, d_rep1, Nat.reduceAdd, Nat.reduceSub, mtt, mff, d_nt, d_nf, cx_K]
      refine ⟨_, ha.fm T, ?_⟩
      unfold Tap.patOpt Tap.patOf at k
      dsimp only at k
      by_cases hz : e.1 = 0
      · rw [if_pos hz]
        simp only [if_pos hz] at k
        exact k H (Same.refl H)
      · rw [if_neg hz]
        simp only [if_neg hz] at k
        refine ⟨_, ha.fm T, ?_⟩
        by_cases hn : e.1 < 0
        · rw [if_pos hn]
          simp only [if_pos hn] at k
          refine ⟨shl_of (by (first | lia | omega)) (by (first | lia | omega)) (by decide), a, e, rfl, ha, fun H1 z hs1 hz1 => ?_⟩
          refine ⟨z, _, w, rfl, hw, hw2, hz1, ?_, hse.opp, ?_⟩
          · show 0 < -e.1
            (first | lia | omega)
          · dsimp only
            rw [Int.one_mul, Int.toNat_natCast]
            exact k H1 hs1
        · rw [if_neg hn]
          simp only [if_neg hn] at k
          exact ⟨a, e, w, rfl, hw, hw2, ha, by (first | lia | omega), hse, k H (Same.refl H)⟩
noncomputable def spSigned : Sp := fun vs H Q _ => ∃ p w : Nat, vs = [.int p, .int w] ∧ 3 ≤ w ∧ w ≤ 64 ∧ p < 2 ^ w ∧ Q (.int (Si06.signed w p)) H
noncomputable abbrev st_signed : Stmt := top 36
theorem sc_signed : FnScope ["pattern", "width"] ["pattern", "width"] (defScope st_signed) := ⟨rfl, rfl, rfl, by decide +kernel, rfl, by decide +kernel, by decide +kernel⟩
theorem ok_signed {f : Addr} {fd : FuncData} (F : Fun K "signed" "signed" st_signed f fd) : FnOk P w K mg base CX0 1 f fd ["pattern", "width"] spSigned := by
  refine F.ok sc_signed (fun vs H Q E h => ?_) (fun cdv A outer s H vs Q E hr h => ?_)
  · obtain ⟨p, w, rfl, _⟩ := h
    rfl
  · obtain ⟨p, w, rfl, hw, hw2, hp, k⟩ := h
    refine ⟨_, (pss_one (ps_ret (pe_ifExp (pt_cmpM c_eq (pe_op m_shr (mv 0) (pe_op m_sub (mv 1) pe_int)) pe_int (nomark _)) (pe_op m_sub (mv 0) (pe_op m_shl pe_int (mv 1))) (mv 0)))), ?_⟩
    dsimp only [tSeq, tIfS, tRet, tRetN, tAsg, gName, tB, mB, mCT, mC, mIsN, mNotN, mNotIn, tOp, tUn, mVar, tC, mI, mI0, mU, tOr, tAnd, tNot, tIf, tNext, tDrop, tCB, tCall, mBL, mMin, mMax, mAbs, mLen, tCons, tNil, mMeth, mFld, mFldI, mIxI, mIxL, mIxT, tSl, mSlL, mPart, tNoPart, tLst, tTup, tMake, sFld, mCallV, L2.start, d_map1, d_map0, d_app1, d_app0, d_set0, d_set1, d_get0, d_get1, d_len1, d_len0, d_rep0, d_rep1, Nat.reduceAdd, Nat.reduceSub, mtt, mff, d_nt, d_nf, cx_K]
    have ew : ((w : Int) - 1).toNat = w - 1 := by (first | lia | omega)
    have hh : 2 ^ w = 2 * 2 ^ (w - 1) := by rw [← Tap.pow_s]; congr 1; (first | lia | omega)
    have h0 := Nat.two_pow_pos (w - 1)
    have key : (p : Int) / 2 ^ (w - 1) = 1 ↔ 2 ^ (w - 1) ≤ p := by
      rw [pow_cast, ← Int.natCast_ediv]
      generalize 2 ^ (w - 1) = X at *
      have : p / X = 1 ↔ X ≤ p := by
        constructor
        · intro h
          have := Nat.div_mul_le_self p X
          rw [h] at this
          (first | lia | omega)
        · intro h
          exact Nat.div_eq_of_lt_le (by (first | lia | omega)) (by (first | lia | omega))
      (first | lia | omega)
    unfold Si06.signed Si06.NONE at k
    rw [ew, Int.one_mul, Int.toNat_natCast]
    refine ⟨by (first | lia | omega), ?_⟩
    by_cases h : 2 ^ (w - 1) ≤ p
    · rw [if_pos (key.mpr h)]
      rw [if_neg (by (first | lia | omega))] at k
      exact ⟨shl_of (by (first | lia | omega)) (by (first | lia | omega)) (by decide), k⟩
    · rw [if_neg (fun h' => h (key.mp h'))]
      rw [if_pos (by (first | lia | omega))] at k
      exact k
end
end Tb


set_option Elab.async false
set_option linter.all false
set_option maxRecDepth 100000
set_option maxHeartbeats 4000000
namespace Tb
open PySem PySem.Spec PyProof.Rows L2
open PySem.W (Codec)
structure TxtN (mg : Str → Option Value) (S : Int) : Prop where
  hS : S = 2 ^ 63
  PLACES : GlobV mg "PLACES" (.int 52)
  SIGN : GlobV mg "SIGN" (.int S)
  ABOVE_NUMBERS : GlobV mg "ABOVE_NUMBERS" (.int 2047)
  BIAS : GlobV mg "BIAS" (.int 1023)
  LEAST_POWER : GlobV mg "LEAST_POWER" (.int (-1074))
  NO_NUMBER : GlobV mg "NO_NUMBER" (.int 0x7FF8000000000000)
  no_max : mg "max" = none
section
variable {S : Int} {P : Program} {w : World} {K : PySem.W.Frag} {mg : Str → Option Value} {base : Heap} {C : Addr}

noncomputable def spDaz (C : Addr) : Sp := fun vs H Q _ => ∃ (a : Addr) (e : Tap.E), vs = [.ref a] ∧ ExAt C H a e ∧ 0 < e.1 ∧ Sm 1000 e ∧ Q (.int (Tap.dblAbove e.1.natAbs e.2)) H
noncomputable abbrev st_double_above_zero : Stmt := top 27
theorem sc_double_above_zero : FnScope ["number", "places", "scale"] ["number"] (defScope st_double_above_zero) := ⟨rfl, rfl, rfl, by decide +kernel, rfl, by decide +kernel, by decide +kernel⟩
theorem ok_double_above_zero {f : Addr} {fd : FuncData} (F : Fun K "double_above_zero" "double_above_zero" st_double_above_zero f fd) (TE : TxtE K mg C) (T : TxtN mg S) (h_nearest_even : Kn P w K mg base "nearest_even" 1 ["number", "power"] spNev) :
    FnOk P w K mg base CX0 2 f fd ["number"] (spDaz C) := by
  refine F.ok sc_double_above_zero (fun vs H Q E h => ?_) (fun cdv A outer s H vs Q E hr h => ?_)
  · obtain ⟨a, e, rfl, _⟩ := h
    rfl
  · obtain ⟨a, e, rfl, ha, h0, hs, k⟩ := h
    refine ⟨_, (pss_cons (ps_set (i := 1) sc_double_above_zero.nd rfl (Or.inl rfl) (pe_op m_sub (me_bitlen (me_fldI (mv 0) rfl)) pe_int))
      (pss_cons (ps_set (i := 2) sc_double_above_zero.nd rfl (Or.inl rfl) (pe_op m_add (me_fldI (mv 0) rfl) (mv 1)))
      (pss_one (ps_ret (pe_op m_add (pe_op m_shl (pe_op m_sub (pe_op m_add (mv 2) (pe_globN T.BIAS rfl)) pe_int) (pe_globN T.PLACES rfl)) (pe_callN (h_nearest_even) (hr.mono (by decide)) rfl (pa_cons (me_fldI (mv 0) rfl) (pa_cons (pe_op m_sub (pe_globN T.PLACES rfl) (mv 1)) pa_nil)))))))), ?_⟩
    obtain ⟨m, hm⟩ := Int.eq_ofNat_of_zero_le (Int.le_of_lt h0)
    have fm : FldAt K H a "mantissa" (.int (m : Int)) := by
      rw [← hm]
      exact ha.fm TE
    dsimp only [tSeq, tIfS, tRet, tRetN, tAsg, gName, tB, mB, mCT, mC, mIsN, mNotN, mNotIn, tOp, tUn, mVar, tC, mI, mI0, mU, tOr, tAnd, tNot, tIf, tNext, tDrop, tCB, tCall, mBL, mMin, mMax, mAbs, mLen, tCons, tNil, mMeth, mFld, mFldI, mIxI, mIxL, mIxT, tSl, mSlL, mPart, tNoPart, tLst, tTup, tMake, sFld, mCallV, L2.start, d_map1, d_map0, d_app1, d_app0, d_set0, d_set1, d_get0, d_get1, d_len1, d_len0, d_rep0, d_rep1, Nat.reduceAdd, Nat.reduceSub, mtt, mff, d_nt, d_nf, cx_K]
    refine ⟨_, fm, _, ha.fp TE, ?_⟩
    obtain ⟨s1, s2, s3⟩ := hs
    rw [hm] at s1
    rw [hm, Int.natAbs_natCast] at k
    rw [Tap.bi_nat] at s1
    have hm0 : m ≠ 0 := by (first | lia | omega)
    have et : ((Builtin.Int.intBits (m : Int) : Nat) : Int) - 1 = ((m.log2 : Nat) : Int) := by
      rw [bits_bi, Tap.bi_nat]
      unfold Tap.bl
      rw [if_neg hm0]
      (first | lia | omega)
    have ht : m.log2 < 1000 := by
      unfold Tap.bl at s1
      rw [if_neg hm0] at s1
      (first | lia | omega)
    rw [← Tap.dbl_prog m e.2 hm0 (by (first | lia | omega))] at k
    simp only [et]
    have hb : Tap.bi (e.2 + ((m.log2 : Nat) : Int) + 1023 - 1) ≤ 1000000 := by
      have : Tap.bi (e.2 + ((m.log2 : Nat) : Int) + 1023 - 1) ≤ 64 := Tap.bi_le.mpr (by (first | lia | omega))
      (first | lia | omega)
    exact ⟨shl_of (by decide) (by decide) hb, _, fm, _, _, rfl, by rw [Tap.bi_nat]; (first | lia | omega), by (first | lia | omega), by (first | lia | omega), k⟩

noncomputable def spDbl (C : Addr) : Sp := fun vs H Q _ => ∃ (v : V) (o : Option Tap.E), vs = [v] ∧ OEx C H v o ∧ (∀ e, o = some e → Sm 1000 e) ∧ ∀ H', Same H H' → Q (.int (Tap.dblM o)) H'
noncomputable abbrev st_double_of : Stmt := top 28
theorem sc_double_of : FnScope ["number"] ["number"] (defScope st_double_of) := ⟨rfl, rfl, rfl, by decide +kernel, rfl, by decide +kernel, by decide +kernel⟩
theorem ok_double_of {f : Addr} {fd : FuncData} (F : Fun K "double_of" "double_of" st_double_of f fd) (TE : TxtE K mg C) (T : TxtN mg S) (h_double_above_zero : Kn P w K mg base "double_above_zero" 2 ["number"] (spDaz C)) (h_opposite : Kn P w K mg base "opposite" 3 ["a"] (spOpp C)) :
    FnOk P w K mg base CX0 4 f fd ["number"] (spDbl C) := by
  refine F.ok sc_double_of (fun vs H Q E h => ?_) (fun cdv A outer s H vs Q E hr h => ?_)
  · obtain ⟨v, o, rfl, _⟩ := h
    rfl
  · obtain ⟨v, o, rfl, hv, hs, k⟩ := h
    refine ⟨_, (pss_cons (ps_if (pt_cmpM c_isN (mv 0) pe_non (nomark _)) (pss_one (ps_ret (pe_globN T.NO_NUMBER rfl))) pss_nil)
      (pss_cons (ps_if (pt_cmpM c_eq (me_fldI (mv 0) rfl) pe_int (nomark _)) (pss_one (ps_ret pe_int)) pss_nil)
      (pss_cons (ps_if (pt_cmpM c_lt (me_fldI (mv 0) rfl) pe_int (nomark _)) (pss_one (ps_ret (pe_op m_add (pe_globN T.SIGN rfl) (pe_callN (h_double_above_zero) (hr.mono (by decide)) rfl (pa_cons (pe_callN (h_opposite) (hr.mono (by decide)) rfl (pa_cons (mv 0) pa_nil)) pa_nil))))) pss_nil)
      (pss_one (ps_ret (pe_callN (h_double_above_zero) (hr.mono (by decide)) rfl (pa_cons (mv 0) pa_nil))))))), ?_⟩
    cases o with
    | none =>
      cases (show v = .non from hv)
      dsimp only [tSeq, tIfS, tRet, tRetN, tAsg, gName, tB, mB, mCT, mC, mIsN, mNotN, mNotIn, tOp, tUn, mVar, tC, mI, mI0, mU, tOr, tAnd, tNot, tIf, tNext, tDrop, tCB, tCall, mBL, mMin, mMax, mAbs, mLen, tCons, tNil, mMeth, mFld, mFldI, mIxI, mIxL, mIxT, tSl, mSlL, mPart, tNoPart, tLst, tTup, tMake, sFld, mCallV, L2.start, d_map1, d_map0, d_app1, d_app0, d_set0, d_set1, d_get0, d_get1, d_len1, d_len0, d_rep0, d_rep1, Nat.reduceAdd, Nat.reduceSub, mtt, mff, d_nt, d_nf, cx_K]
      exact k H (Same.refl H)
    | some e =>
      obtain ⟨a, rfl, ha⟩ := hv
      have hse := hs _ rfl
      dsimp only [tSeq, tIfS, tRet, tRetN, tAsg, gName, tB, mB, mCT, mC, mIsN, mNotN, mNotIn, tOp, tUn, mVar, tC, mI, mI0, mU, tOr, tAnd, tNot, tIf, tNext, tDrop, tCB, tCall, mBL, mMin, mMax, mAbs, mLen, tCons, tNil, mMeth, mFld, mFldI, mIxI, mIxL, mIxT, tSl, mSlL, mPart, tNoPart, tLst, tTup, tMake, sFld, mCallV, L2.start, d_map1, d_map0, d_app1, d_app0, d_set0, d_set1, d_get0, d_get1, d_len1, d_len0, d_rep0, d_rep1, Nat.reduceAdd, Nat.reduceSub, mtt, mff, d_nt, d_nf, cx_K]
      refine ⟨_, ha.fm TE, ?_⟩
      unfold Tap.dblM at k
      dsimp only at k
      by_cases hz : e.1 = 0
      · rw [if_pos hz]
        simp only [if_pos hz] at k
        exact k H (Same.refl H)
      · rw [if_neg hz]
        simp only [if_neg hz] at k
        refine ⟨_, ha.fm TE, ?_⟩
        by_cases hn : e.1 < 0
        · rw [if_pos hn]
          rw [if_neg (by (first | lia | omega))] at k
          refine ⟨a, e, rfl, ha, fun H1 z hs1 hz1 => ?_⟩
          refine ⟨z, _, rfl, hz1, ?_, hse.opp, ?_⟩
          · show 0 < -e.1
            (first | lia | omega)
          · have := k H1 hs1
            rw [show (Tap.oppE e).1.natAbs = e.1.natAbs from Int.natAbs_neg _]
            dsimp only
            rw [T.hS]
            exact this
        · rw [if_neg hn]
          rw [if_pos (by (first | lia | omega))] at k
          exact ⟨a, e, rfl, ha, by (first | lia | omega), hse, k H (Same.refl H)⟩

noncomputable def spUnd (C : Addr) : Sp := fun vs H Q _ => ∃ b : Nat, vs = [.int b] ∧ b < 2 ^ 64 ∧ rOEx C H (Tap.und b) Q
noncomputable abbrev st_number_of_double : Stmt := top 29
theorem sc_number_of_double : FnScope ["bits", "fraction", "exponent", "mantissa", "size"] ["bits"] (defScope st_number_of_double) := ⟨rfl, rfl, rfl, by decide +kernel, rfl, by decide +kernel, by decide +kernel⟩
theorem ok_number_of_double {f : Addr} {fd : FuncData} (F : Fun K "number_of_double" "number_of_double" st_number_of_double f fd) (TE : TxtE K mg C) (T : TxtN mg S) (hExact : KnC P w K mg base "Exact" C 1 ["self", "mantissa", "power"] (spExact C)) (h_opposite : Kn P w K mg base "opposite" 3 ["a"] (spOpp C)) :
    FnOk P w K mg base CX0 4 f fd ["bits"] (spUnd C) := by
  refine F.ok sc_number_of_double (fun vs H Q E h => ?_) (fun cdv A outer s H vs Q E hr h => ?_)
  · obtain ⟨b, rfl, _⟩ := h
    rfl
  · obtain ⟨b, rfl, hb, k⟩ := h
    refine ⟨_, (pss_cons (ps_set (i := 1) sc_number_of_double.nd rfl (Or.inl rfl) (pe_op m_mod (mv 0) (pe_op m_shl pe_int (pe_globN T.PLACES rfl))))
      (pss_cons (ps_set (i := 2) sc_number_of_double.nd rfl (Or.inl rfl) (pe_op m_shr (pe_op m_mod (mv 0) (pe_globN T.SIGN rfl)) (pe_globN T.PLACES rfl)))
      (pss_cons (ps_if (pt_cmpM c_eq (mv 2) (pe_globN T.ABOVE_NUMBERS rfl) (nomark _)) (pss_one (ps_ret pe_non)) pss_nil)
      (pss_cons (ps_set (i := 3) sc_number_of_double.nd rfl (Or.inl rfl) (pe_ifExp (pt_cmpM c_eq (mv 2) pe_int (nomark _)) (mv 1) (pe_op m_add (mv 1) (pe_op m_shl pe_int (pe_globN T.PLACES rfl)))))
      (pss_cons (ps_set (i := 4) sc_number_of_double.nd rfl (Or.inl rfl) (pe_makeN (hExact) (hr.mono (by decide)) rfl (pa_cons (mv 3) (pa_cons (pe_op m_add (pe_globN T.LEAST_POWER rfl) (pe_callB (m_max rfl) (by rfl) T.no_max (by decide +kernel) (pa_cons (pe_op m_sub (mv 2) pe_int) (pa_cons pe_int pa_nil)))) pa_nil))))
      (pss_one (ps_ret (pe_ifExp (pt_cmpM c_lt (mv 0) (pe_globN T.SIGN rfl) (nomark _)) (mv 4) (pe_callN (h_opposite) (hr.mono (by decide)) rfl (pa_cons (mv 4) pa_nil)))))))))), ?_⟩
    dsimp only [tSeq, tIfS, tRet, tRetN, tAsg, gName, tB, mB, mCT, mC, mIsN, mNotN, mNotIn, tOp, tUn, mVar, tC, mI, mI0, mU, tOr, tAnd, tNot, tIf, tNext, tDrop, tCB, tCall, mBL, mMin, mMax, mAbs, mLen, tCons, tNil, mMeth, mFld, mFldI, mIxI, mIxL, mIxT, tSl, mSlL, mPart, tNoPart, tLst, tTup, tMake, sFld, mCallV, L2.start, d_map1, d_map0, d_app1, d_app0, d_set0, d_set1, d_get0, d_get1, d_len1, d_len0, d_rep0, d_rep1, Nat.reduceAdd, Nat.reduceSub, mtt, mff, d_nt, d_nf, cx_K]
    have eE : (b : Int) % S / 2 ^ Int.toNat 52 = ((b / 2 ^ 52 % 2048 : Nat) : Int) := by
      rw [T.hS]
      show (b : Int) % 2 ^ 63 / 2 ^ 52 = _
      (first | lia | omega)
    have eF : (b : Int) % (1 * 2 ^ Int.toNat 52) = ((b % 2 ^ 52 : Nat) : Int) := by
      show (b : Int) % (1 * 2 ^ 52) = _
      (first | lia | omega)
    have eG : ((b % 2 ^ 52 : Nat) : Int) + 1 * 2 ^ Int.toNat 52 = ((2 ^ 52 + b % 2 ^ 52 : Nat) : Int) := by
      show ((b % 2 ^ 52 : Nat) : Int) + (1 : Int) * 2 ^ 52 = _
      (first | lia | omega)
    have c1 : CShl 1 52 := shl_of (by decide) (by decide) (by decide)
    unfold Tap.und Tap.undM Tap.undP at k
    refine ⟨c1, by decide, by rw [T.hS]; decide, by decide, ?_⟩
    simp only [eE, eF, eG]
    have hneg : 2 ^ 63 ≤ b ↔ ¬ (b : Int) < S := by
      rw [T.hS]
      (first | lia | omega)
    generalize ((2 ^ 52 + b % 2 ^ 52 : Nat) : Int) = M1 at *
    generalize ((b % 2 ^ 52 : Nat) : Int) = M0 at *
    generalize b / 2 ^ 52 % 2048 = ex at *
    by_cases h : ex = 2047
    · rw [if_pos (by (first | lia | omega))]
      rw [if_pos h] at k
      exact k H .non (Same.refl H) rfl
    · rw [if_neg (by (first | lia | omega))]
      rw [if_neg h] at k
      have e0 : ex = 0 → (-1074 : Int) + max ((ex : Int) - 1) 0 = -1074 := fun h => by (first | lia | omega)
      have e1 : ¬ ex = 0 → (-1074 : Int) + max ((ex : Int) - 1) 0 = (ex : Int) - 1075 := fun h => by (first | lia | omega)
      by_cases h63 : (b : Int) < S
      · simp only [if_pos h63]
        rw [if_neg (fun h => hneg.mp h h63)] at k
        by_cases h0 : ex = 0
        · rw [if_pos (by (first | lia | omega)), e0 h0]
          rw [if_pos h0, if_pos h0] at k
          exact make_ex k.ex
        · rw [if_neg (by (first | lia | omega)), e1 h0]
          rw [if_neg h0, if_neg h0] at k
          exact ⟨c1, make_ex k.ex⟩
      · simp only [if_neg h63]
        rw [if_pos (hneg.mpr h63)] at k
        have fin : ∀ m q : Int, rOEx C H (some (-m, q)) Q → rEx C H (m, q) (fun v H2 => spOpp C [v] H2 Q E0) := fun m q k H1 z hs hz => ⟨z, _, rfl, hz, fun H2 u hs2 hu => k H2 (.ref u) (hs.trans hs2) ⟨u, rfl, hu⟩⟩
        by_cases h0 : ex = 0
        · rw [if_pos (by (first | lia | omega)), e0 h0]
          rw [if_pos h0, if_pos h0] at k
          exact make_ex (Q := fun v H2 => spOpp C [v] H2 Q E0) (fin _ _ k)
        · rw [if_neg (by (first | lia | omega)), e1 h0]
          rw [if_neg h0, if_neg h0] at k
          exact ⟨c1, make_ex (Q := fun v H2 => spOpp C [v] H2 Q E0) (fin _ _ k)⟩
end
end Tb


set_option Elab.async false
set_option linter.all false
set_option maxRecDepth 100000
set_option maxHeartbeats 4000000
namespace Tb
open PySem PySem.Spec PyProof.Rows L2
open PySem.W (Codec)
/-- the defs below the benches, by their promises -/
structure Below (P : Program) (w : World) (K : PySem.W.Frag) (mg : Str → Option Value) (base : Heap) (C : Addr) : Prop where
  T : TxtE K mg C
  Exact : KnC P w K mg base "Exact" C 1 ["self", "mantissa", "power"] (spExact C)
  zero : Kn P w K mg base "zero" 3 [] (spZero C)
  nearest_whole : Kn P w K mg base "nearest_whole" 2 ["a"] (spNwh C)
  nearest_even : Kn P w K mg base "nearest_even" 1 ["number", "power"] spNev
  opposite : Kn P w K mg base "opposite" 3 ["a"] (spOpp C)
  add : Kn P w K mg base "add" 3 ["a", "b"] (spAdd C)
  subtract : Kn P w K mg base "subtract" 4 ["a", "b"] (spSub C)
  multiply : Kn P w K mg base "multiply" 3 ["a", "b"] (spMul C)
  multiply_add : Kn P w K mg base "multiply_add" 4 ["a", "b", "c"] (spMulAdd C)
  is_operation : Kn P w K mg base "is_operation" 1 ["choice"] spIsOp
  operate : Kn P w K mg base "operate" 5 ["choice", "a", "b"] (spOper C)
  number_of : Kn P w K mg base "number_of" 4 ["pattern", "width"] (spNumOf C)
  pattern_of : Kn P w K mg base "pattern_of" 4 ["number", "width"] (spPatOf C)
  signed : Kn P w K mg base "signed" 1 ["pattern", "width"] spSigned
  double_of : Kn P w K mg base "double_of" 4 ["number"] (spDbl C)
  number_of_double : Kn P w K mg base "number_of_double" 4 ["bits"] (spUnd C)
/-- ints at the file's top -/
noncomputable def IntAt (K : PySem.W.Frag) (x : Str) (z : Int) : Prop := ∃ t, PySem.W.nsIn K mainGlobals x = some (some (.int z t))
/-- no such name at the file's top -/
noncomputable def NoAt (K : PySem.W.Frag) (x : Str) : Prop := PySem.W.nsIn K mainGlobals x = some none
theorem tup_of {K : PySem.W.Frag} {a : Addr} {od : Option Addr} {its : Array Value} {n : Nat} {sl : Array (Option Value)} {xs : List V} (l : K.lookup a = some ⟨.type "tuple", od, .seq its n, sl⟩) (hs : its.size ≤ sizeLine) (hv : Vals xs its.toList) (H : Hp) : SqT K H a xs :=
  .inr ⟨_, its, n, l, rfl, rfl, hs, hv⟩
theorem below_mk {P : Program} {w : World} {K : PySem.W.Frag} {h base : Heap} {mg : Str → Option Value} {C_Exact : Addr} (X : K.In h) (G : h.Ns mainGlobals mg)
    (aC : PySem.W.nsIn K mainGlobals "Exact" = some (some (.ref C_Exact)))
    {fn_Exact___init__ : Addr} {oc_Exact___init__ kV_Exact___init__ dc_Exact___init__ pm_Exact___init__ cd_Exact___init__ ct_Exact___init__ : Value} {od_Exact___init__ an_Exact___init__ : Option Addr} {sl_Exact___init__ : Array (Option Value)} (a_Exact___init__ : PySem.W.findIn K (.ref C_Exact) "__init__" = some (some (.ref fn_Exact___init__))) (i_Exact___init__ : PySem.W.isFn K (.ref fn_Exact___init__) = true) (l_Exact___init__ : K.lookup fn_Exact___init__ = some ⟨oc_Exact___init__, od_Exact___init__, .func (PySem.W.fnOf "__init__" "Exact.__init__" (defArgs st_Exact___init__) (defBody st_Exact___init__) (defScope st_Exact___init__) .none kV_Exact___init__ dc_Exact___init__ pm_Exact___init__ an_Exact___init__ cd_Exact___init__ ct_Exact___init__), sl_Exact___init__⟩) (c_Exact___init__ : PySem.W.codeIn K cd_Exact___init__ "Exact.__init__" = true) (k_Exact___init__ : PySem.W.keepIn K (.ref fn_Exact___init__) = true)
    {fn_zero : Addr} {oc_zero kV_zero dc_zero pm_zero cd_zero ct_zero : Value} {od_zero an_zero : Option Addr} {sl_zero : Array (Option Value)} (a_zero : PySem.W.nsIn K mainGlobals "zero" = some (some (.ref fn_zero))) (l_zero : K.lookup fn_zero = some ⟨oc_zero, od_zero, .func (PySem.W.fnOf "zero" "zero" (defArgs st_zero) (defBody st_zero) (defScope st_zero) .none kV_zero dc_zero pm_zero an_zero cd_zero ct_zero), sl_zero⟩) (c_zero : PySem.W.codeIn K cd_zero "zero" = true) (k_zero : PySem.W.keepIn K (.ref fn_zero) = true)
    {fn_nearest_even : Addr} {oc_nearest_even kV_nearest_even dc_nearest_even pm_nearest_even cd_nearest_even ct_nearest_even : Value} {od_nearest_even an_nearest_even : Option Addr} {sl_nearest_even : Array (Option Value)} (a_nearest_even : PySem.W.nsIn K mainGlobals "nearest_even" = some (some (.ref fn_nearest_even))) (l_nearest_even : K.lookup fn_nearest_even = some ⟨oc_nearest_even, od_nearest_even, .func (PySem.W.fnOf "nearest_even" "nearest_even" (defArgs st_nearest_even) (defBody st_nearest_even) (defScope st_nearest_even) .none kV_nearest_even dc_nearest_even pm_nearest_even an_nearest_even cd_nearest_even ct_nearest_even), sl_nearest_even⟩) (c_nearest_even : PySem.W.codeIn K cd_nearest_even "nearest_even" = true) (k_nearest_even : PySem.W.keepIn K (.ref fn_nearest_even) = true)
    {fn_nearest_whole : Addr} {oc_nearest_whole kV_nearest_whole dc_nearest_whole pm_nearest_whole cd_nearest_whole ct_nearest_whole : Value} {od_nearest_whole an_nearest_whole : Option Addr} {sl_nearest_whole : Array (Option Value)} (a_nearest_whole : PySem.W.nsIn K mainGlobals "nearest_whole" = some (some (.ref fn_nearest_whole))) (l_nearest_whole : K.lookup fn_nearest_whole = some ⟨oc_nearest_whole, od_nearest_whole, .func (PySem.W.fnOf "nearest_whole" "nearest_whole" (defArgs st_nearest_whole) (defBody st_nearest_whole) (defScope st_nearest_whole) .none kV_nearest_whole dc_nearest_whole pm_nearest_whole an_nearest_whole cd_nearest_whole ct_nearest_whole), sl_nearest_whole⟩) (c_nearest_whole : PySem.W.codeIn K cd_nearest_whole "nearest_whole" = true) (k_nearest_whole : PySem.W.keepIn K (.ref fn_nearest_whole) = true)
    {fn_opposite : Addr} {oc_opposite kV_opposite dc_opposite pm_opposite cd_opposite ct_opposite : Value} {od_opposite an_opposite : Option Addr} {sl_opposite : Array (Option Value)} (a_opposite : PySem.W.nsIn K mainGlobals "opposite" = some (some (.ref fn_opposite))) (l_opposite : K.lookup fn_opposite = some ⟨oc_opposite, od_opposite, .func (PySem.W.fnOf "opposite" "opposite" (defArgs st_opposite) (defBody st_opposite) (defScope st_opposite) .none kV_opposite dc_opposite pm_opposite an_opposite cd_opposite ct_opposite), sl_opposite⟩) (c_opposite : PySem.W.codeIn K cd_opposite "opposite" = true) (k_opposite : PySem.W.keepIn K (.ref fn_opposite) = true)
    {fn_add : Addr} {oc_add kV_add dc_add pm_add cd_add ct_add : Value} {od_add an_add : Option Addr} {sl_add : Array (Option Value)} (a_add : PySem.W.nsIn K mainGlobals "add" = some (some (.ref fn_add))) (l_add : K.lookup fn_add = some ⟨oc_add, od_add, .func (PySem.W.fnOf "add" "add" (defArgs st_add) (defBody st_add) (defScope st_add) .none kV_add dc_add pm_add an_add cd_add ct_add), sl_add⟩) (c_add : PySem.W.codeIn K cd_add "add" = true) (k_add : PySem.W.keepIn K (.ref fn_add) = true)
    {fn_subtract : Addr} {oc_subtract kV_subtract dc_subtract pm_subtract cd_subtract ct_subtract : Value} {od_subtract an_subtract : Option Addr} {sl_subtract : Array (Option Value)} (a_subtract : PySem.W.nsIn K mainGlobals "subtract" = some (some (.ref fn_subtract))) (l_subtract : K.lookup fn_subtract = some ⟨oc_subtract, od_subtract, .func (PySem.W.fnOf "subtract" "subtract" (defArgs st_subtract) (defBody st_subtract) (defScope st_subtract) .none kV_subtract dc_subtract pm_subtract an_subtract cd_subtract ct_subtract), sl_subtract⟩) (c_subtract : PySem.W.codeIn K cd_subtract "subtract" = true) (k_subtract : PySem.W.keepIn K (.ref fn_subtract) = true)
    {fn_multiply : Addr} {oc_multiply kV_multiply dc_multiply pm_multiply cd_multiply ct_multiply : Value} {od_multiply an_multiply : Option Addr} {sl_multiply : Array (Option Value)} (a_multiply : PySem.W.nsIn K mainGlobals "multiply" = some (some (.ref fn_multiply))) (l_multiply : K.lookup fn_multiply = some ⟨oc_multiply, od_multiply, .func (PySem.W.fnOf "multiply" "multiply" (defArgs st_multiply) (defBody st_multiply) (defScope st_multiply) .none kV_multiply dc_multiply pm_multiply an_multiply cd_multiply ct_multiply), sl_multiply⟩) (c_multiply : PySem.W.codeIn K cd_multiply "multiply" = true) (k_multiply : PySem.W.keepIn K (.ref fn_multiply) = true)
    {fn_cut_off : Addr} {oc_cut_off kV_cut_off dc_cut_off pm_cut_off cd_cut_off ct_cut_off : Value} {od_cut_off an_cut_off : Option Addr} {sl_cut_off : Array (Option Value)} (a_cut_off : PySem.W.nsIn K mainGlobals "cut_off" = some (some (.ref fn_cut_off))) (l_cut_off : K.lookup fn_cut_off = some ⟨oc_cut_off, od_cut_off, .func (PySem.W.fnOf "cut_off" "cut_off" (defArgs st_cut_off) (defBody st_cut_off) (defScope st_cut_off) .none kV_cut_off dc_cut_off pm_cut_off an_cut_off cd_cut_off ct_cut_off), sl_cut_off⟩) (c_cut_off : PySem.W.codeIn K cd_cut_off "cut_off" = true) (k_cut_off : PySem.W.keepIn K (.ref fn_cut_off) = true)
    {fn_divide : Addr} {oc_divide kV_divide dc_divide pm_divide cd_divide ct_divide : Value} {od_divide an_divide : Option Addr} {sl_divide : Array (Option Value)} (a_divide : PySem.W.nsIn K mainGlobals "divide" = some (some (.ref fn_divide))) (l_divide : K.lookup fn_divide = some ⟨oc_divide, od_divide, .func (PySem.W.fnOf "divide" "divide" (defArgs st_divide) (defBody st_divide) (defScope st_divide) .none kV_divide dc_divide pm_divide an_divide cd_divide ct_divide), sl_divide⟩) (c_divide : PySem.W.codeIn K cd_divide "divide" = true) (k_divide : PySem.W.keepIn K (.ref fn_divide) = true)
    {fn_floor_root : Addr} {oc_floor_root kV_floor_root dc_floor_root pm_floor_root cd_floor_root ct_floor_root : Value} {od_floor_root an_floor_root : Option Addr} {sl_floor_root : Array (Option Value)} (a_floor_root : PySem.W.nsIn K mainGlobals "floor_root" = some (some (.ref fn_floor_root))) (l_floor_root : K.lookup fn_floor_root = some ⟨oc_floor_root, od_floor_root, .func (PySem.W.fnOf "floor_root" "floor_root" (defArgs st_floor_root) (defBody st_floor_root) (defScope st_floor_root) .none kV_floor_root dc_floor_root pm_floor_root an_floor_root cd_floor_root ct_floor_root), sl_floor_root⟩) (c_floor_root : PySem.W.codeIn K cd_floor_root "floor_root" = true) (k_floor_root : PySem.W.keepIn K (.ref fn_floor_root) = true)
    {fn_root : Addr} {oc_root kV_root dc_root pm_root cd_root ct_root : Value} {od_root an_root : Option Addr} {sl_root : Array (Option Value)} (a_root : PySem.W.nsIn K mainGlobals "root" = some (some (.ref fn_root))) (l_root : K.lookup fn_root = some ⟨oc_root, od_root, .func (PySem.W.fnOf "root" "root" (defArgs st_root) (defBody st_root) (defScope st_root) .none kV_root dc_root pm_root an_root cd_root ct_root), sl_root⟩) (c_root : PySem.W.codeIn K cd_root "root" = true) (k_root : PySem.W.keepIn K (.ref fn_root) = true)
    {fn_to_whole : Addr} {oc_to_whole kV_to_whole dc_to_whole pm_to_whole cd_to_whole ct_to_whole : Value} {od_to_whole an_to_whole : Option Addr} {sl_to_whole : Array (Option Value)} (a_to_whole : PySem.W.nsIn K mainGlobals "to_whole" = some (some (.ref fn_to_whole))) (l_to_whole : K.lookup fn_to_whole = some ⟨oc_to_whole, od_to_whole, .func (PySem.W.fnOf "to_whole" "to_whole" (defArgs st_to_whole) (defBody st_to_whole) (defScope st_to_whole) .none kV_to_whole dc_to_whole pm_to_whole an_to_whole cd_to_whole ct_to_whole), sl_to_whole⟩) (c_to_whole : PySem.W.codeIn K cd_to_whole "to_whole" = true) (k_to_whole : PySem.W.keepIn K (.ref fn_to_whole) = true)
    {fn_multiply_add : Addr} {oc_multiply_add kV_multiply_add dc_multiply_add pm_multiply_add cd_multiply_add ct_multiply_add : Value} {od_multiply_add an_multiply_add : Option Addr} {sl_multiply_add : Array (Option Value)} (a_multiply_add : PySem.W.nsIn K mainGlobals "multiply_add" = some (some (.ref fn_multiply_add))) (l_multiply_add : K.lookup fn_multiply_add = some ⟨oc_multiply_add, od_multiply_add, .func (PySem.W.fnOf "multiply_add" "multiply_add" (defArgs st_multiply_add) (defBody st_multiply_add) (defScope st_multiply_add) .none kV_multiply_add dc_multiply_add pm_multiply_add an_multiply_add cd_multiply_add ct_multiply_add), sl_multiply_add⟩) (c_multiply_add : PySem.W.codeIn K cd_multiply_add "multiply_add" = true) (k_multiply_add : PySem.W.keepIn K (.ref fn_multiply_add) = true)
    {fn_is_operation : Addr} {oc_is_operation kV_is_operation dc_is_operation pm_is_operation cd_is_operation ct_is_operation : Value} {od_is_operation an_is_operation : Option Addr} {sl_is_operation : Array (Option Value)} (a_is_operation : PySem.W.nsIn K mainGlobals "is_operation" = some (some (.ref fn_is_operation))) (l_is_operation : K.lookup fn_is_operation = some ⟨oc_is_operation, od_is_operation, .func (PySem.W.fnOf "is_operation" "is_operation" (defArgs st_is_operation) (defBody st_is_operation) (defScope st_is_operation) .none kV_is_operation dc_is_operation pm_is_operation an_is_operation cd_is_operation ct_is_operation), sl_is_operation⟩) (c_is_operation : PySem.W.codeIn K cd_is_operation "is_operation" = true) (k_is_operation : PySem.W.keepIn K (.ref fn_is_operation) = true)
    {fn_operate : Addr} {oc_operate kV_operate dc_operate pm_operate cd_operate ct_operate : Value} {od_operate an_operate : Option Addr} {sl_operate : Array (Option Value)} (a_operate : PySem.W.nsIn K mainGlobals "operate" = some (some (.ref fn_operate))) (l_operate : K.lookup fn_operate = some ⟨oc_operate, od_operate, .func (PySem.W.fnOf "operate" "operate" (defArgs st_operate) (defBody st_operate) (defScope st_operate) .none kV_operate dc_operate pm_operate an_operate cd_operate ct_operate), sl_operate⟩) (c_operate : PySem.W.codeIn K cd_operate "operate" = true) (k_operate : PySem.W.keepIn K (.ref fn_operate) = true)
    {fn_run_length : Addr} {oc_run_length kV_run_length dc_run_length pm_run_length cd_run_length ct_run_length : Value} {od_run_length an_run_length : Option Addr} {sl_run_length : Array (Option Value)} (a_run_length : PySem.W.nsIn K mainGlobals "run_length" = some (some (.ref fn_run_length))) (l_run_length : K.lookup fn_run_length = some ⟨oc_run_length, od_run_length, .func (PySem.W.fnOf "run_length" "run_length" (defArgs st_run_length) (defBody st_run_length) (defScope st_run_length) .none kV_run_length dc_run_length pm_run_length an_run_length cd_run_length ct_run_length), sl_run_length⟩) (c_run_length : PySem.W.codeIn K cd_run_length "run_length" = true) (k_run_length : PySem.W.keepIn K (.ref fn_run_length) = true)
    {fn_number_above_zero : Addr} {oc_number_above_zero kV_number_above_zero dc_number_above_zero pm_number_above_zero cd_number_above_zero ct_number_above_zero : Value} {od_number_above_zero an_number_above_zero : Option Addr} {sl_number_above_zero : Array (Option Value)} (a_number_above_zero : PySem.W.nsIn K mainGlobals "number_above_zero" = some (some (.ref fn_number_above_zero))) (l_number_above_zero : K.lookup fn_number_above_zero = some ⟨oc_number_above_zero, od_number_above_zero, .func (PySem.W.fnOf "number_above_zero" "number_above_zero" (defArgs st_number_above_zero) (defBody st_number_above_zero) (defScope st_number_above_zero) .none kV_number_above_zero dc_number_above_zero pm_number_above_zero an_number_above_zero cd_number_above_zero ct_number_above_zero), sl_number_above_zero⟩) (c_number_above_zero : PySem.W.codeIn K cd_number_above_zero "number_above_zero" = true) (k_number_above_zero : PySem.W.keepIn K (.ref fn_number_above_zero) = true)
    {fn_number_of : Addr} {oc_number_of kV_number_of dc_number_of pm_number_of cd_number_of ct_number_of : Value} {od_number_of an_number_of : Option Addr} {sl_number_of : Array (Option Value)} (a_number_of : PySem.W.nsIn K mainGlobals "number_of" = some (some (.ref fn_number_of))) (l_number_of : K.lookup fn_number_of = some ⟨oc_number_of, od_number_of, .func (PySem.W.fnOf "number_of" "number_of" (defArgs st_number_of) (defBody st_number_of) (defScope st_number_of) .none kV_number_of dc_number_of pm_number_of an_number_of cd_number_of ct_number_of), sl_number_of⟩) (c_number_of : PySem.W.codeIn K cd_number_of "number_of" = true) (k_number_of : PySem.W.keepIn K (.ref fn_number_of) = true)
    {fn_pattern_above_zero : Addr} {oc_pattern_above_zero kV_pattern_above_zero dc_pattern_above_zero pm_pattern_above_zero cd_pattern_above_zero ct_pattern_above_zero : Value} {od_pattern_above_zero an_pattern_above_zero : Option Addr} {sl_pattern_above_zero : Array (Option Value)} (a_pattern_above_zero : PySem.W.nsIn K mainGlobals "pattern_above_zero" = some (some (.ref fn_pattern_above_zero))) (l_pattern_above_zero : K.lookup fn_pattern_above_zero = some ⟨oc_pattern_above_zero, od_pattern_above_zero, .func (PySem.W.fnOf "pattern_above_zero" "pattern_above_zero" (defArgs st_pattern_above_zero) (defBody st_pattern_above_zero) (defScope st_pattern_above_zero) .none kV_pattern_above_zero dc_pattern_above_zero pm_pattern_above_zero an_pattern_above_zero cd_pattern_above_zero ct_pattern_above_zero), sl_pattern_above_zero⟩) (c_pattern_above_zero : PySem.W.codeIn K cd_pattern_above_zero "pattern_above_zero" = true) (k_pattern_above_zero : PySem.W.keepIn K (.ref fn_pattern_above_zero) = true)
    {fn_pattern_of : Addr} {oc_pattern_of kV_pattern_of dc_pattern_of pm_pattern_of cd_pattern_of ct_pattern_of : Value} {od_pattern_of an_pattern_of : Option Addr} {sl_pattern_of : Array (Option Value)} (a_pattern_of : PySem.W.nsIn K mainGlobals "pattern_of" = some (some (.ref fn_pattern_of))) (l_pattern_of : K.lookup fn_pattern_of = some ⟨oc_pattern_of, od_pattern_of, .func (PySem.W.fnOf "pattern_of" "pattern_of" (defArgs st_pattern_of) (defBody st_pattern_of) (defScope st_pattern_of) .none kV_pattern_of dc_pattern_of pm_pattern_of an_pattern_of cd_pattern_of ct_pattern_of), sl_pattern_of⟩) (c_pattern_of : PySem.W.codeIn K cd_pattern_of "pattern_of" = true) (k_pattern_of : PySem.W.keepIn K (.ref fn_pattern_of) = true)
    {fn_signed : Addr} {oc_signed kV_signed dc_signed pm_signed cd_signed ct_signed : Value} {od_signed an_signed : Option Addr} {sl_signed : Array (Option Value)} (a_signed : PySem.W.nsIn K mainGlobals "signed" = some (some (.ref fn_signed))) (l_signed : K.lookup fn_signed = some ⟨oc_signed, od_signed, .func (PySem.W.fnOf "signed" "signed" (defArgs st_signed) (defBody st_signed) (defScope st_signed) .none kV_signed dc_signed pm_signed an_signed cd_signed ct_signed), sl_signed⟩) (c_signed : PySem.W.codeIn K cd_signed "signed" = true) (k_signed : PySem.W.keepIn K (.ref fn_signed) = true)
    {fn_double_above_zero : Addr} {oc_double_above_zero kV_double_above_zero dc_double_above_zero pm_double_above_zero cd_double_above_zero ct_double_above_zero : Value} {od_double_above_zero an_double_above_zero : Option Addr} {sl_double_above_zero : Array (Option Value)} (a_double_above_zero : PySem.W.nsIn K mainGlobals "double_above_zero" = some (some (.ref fn_double_above_zero))) (l_double_above_zero : K.lookup fn_double_above_zero = some ⟨oc_double_above_zero, od_double_above_zero, .func (PySem.W.fnOf "double_above_zero" "double_above_zero" (defArgs st_double_above_zero) (defBody st_double_above_zero) (defScope st_double_above_zero) .none kV_double_above_zero dc_double_above_zero pm_double_above_zero an_double_above_zero cd_double_above_zero ct_double_above_zero), sl_double_above_zero⟩) (c_double_above_zero : PySem.W.codeIn K cd_double_above_zero "double_above_zero" = true) (k_double_above_zero : PySem.W.keepIn K (.ref fn_double_above_zero) = true)
    {fn_double_of : Addr} {oc_double_of kV_double_of dc_double_of pm_double_of cd_double_of ct_double_of : Value} {od_double_of an_double_of : Option Addr} {sl_double_of : Array (Option Value)} (a_double_of : PySem.W.nsIn K mainGlobals "double_of" = some (some (.ref fn_double_of))) (l_double_of : K.lookup fn_double_of = some ⟨oc_double_of, od_double_of, .func (PySem.W.fnOf "double_of" "double_of" (defArgs st_double_of) (defBody st_double_of) (defScope st_double_of) .none kV_double_of dc_double_of pm_double_of an_double_of cd_double_of ct_double_of), sl_double_of⟩) (c_double_of : PySem.W.codeIn K cd_double_of "double_of" = true) (k_double_of : PySem.W.keepIn K (.ref fn_double_of) = true)
    {fn_number_of_double : Addr} {oc_number_of_double kV_number_of_double dc_number_of_double pm_number_of_double cd_number_of_double ct_number_of_double : Value} {od_number_of_double an_number_of_double : Option Addr} {sl_number_of_double : Array (Option Value)} (a_number_of_double : PySem.W.nsIn K mainGlobals "number_of_double" = some (some (.ref fn_number_of_double))) (l_number_of_double : K.lookup fn_number_of_double = some ⟨oc_number_of_double, od_number_of_double, .func (PySem.W.fnOf "number_of_double" "number_of_double" (defArgs st_number_of_double) (defBody st_number_of_double) (defScope st_number_of_double) .none kV_number_of_double dc_number_of_double pm_number_of_double an_number_of_double cd_number_of_double ct_number_of_double), sl_number_of_double⟩) (c_number_of_double : PySem.W.codeIn K cd_number_of_double "number_of_double" = true) (k_number_of_double : PySem.W.keepIn K (.ref fn_number_of_double) = true)
    (pg : PySem.W.plainGet K C_Exact Str.empty = true) (hd : PySem.W.hasDictIn K C_Exact = true) (po : PySem.W.plainOver K C_Exact = true) (sa : PySem.W.findIn K (.ref C_Exact) "__setattr__" = some (some (.builtin "object.__setattr__"))) (mk : PySem.W.makesIn K C_Exact = true) (kc : PySem.W.keepIn K (.ref C_Exact) = true)
    (nM : PySem.W.findIn K (.ref C_Exact) "mantissa" = some none) (nP : PySem.W.findIn K (.ref C_Exact) "power" = some none)
    {tS t1 t2 t3 t4 t5 t6 : Tok} (aS : PySem.W.nsIn K mainGlobals "SPARE_BITS" = some (some (.int 72 tS)))
    (n1 : PySem.W.nsIn K mainGlobals "PLACES" = some (some (.int 52 t1))) (n2 : PySem.W.nsIn K mainGlobals "SIGN" = some (some (.int 9223372036854775808 t2))) (n3 : PySem.W.nsIn K mainGlobals "ABOVE_NUMBERS" = some (some (.int 2047 t3))) (n4 : PySem.W.nsIn K mainGlobals "BIAS" = some (some (.int 1023 t4))) (n5 : PySem.W.nsIn K mainGlobals "LEAST_POWER" = some (some (.int (-1074) t5))) (n6 : PySem.W.nsIn K mainGlobals "NO_NUMBER" = some (some (.int 9221120237041090560 t6)))
    (z1 : PySem.W.nsIn K mainGlobals "min" = some none) (z2 : PySem.W.nsIn K mainGlobals "max" = some none) (z3 : PySem.W.nsIn K mainGlobals "abs" = some none) (z4 : PySem.W.nsIn K mainGlobals "len" = some none)
    {aT aO : Addr} {oT oO : Option Addr} {nT nO : Nat} {lT lO : Array (Option Value)} {iT iO : Array Value}
    (aT1 : PySem.W.nsIn K mainGlobals "OF_TWO" = some (some (.ref aT))) (aT2 : K.lookup aT = some ⟨.type "tuple", oT, .seq iT nT, lT⟩) (aT3 : iT = #[.ref fn_add, .ref fn_subtract, .ref fn_multiply, .ref fn_divide])
    (aO1 : PySem.W.nsIn K mainGlobals "OF_ONE" = some (some (.ref aO))) (aO2 : K.lookup aO = some ⟨.type "tuple", oO, .seq iO nO, lO⟩) (aO3 : iO = #[.ref fn_root, .ref fn_to_whole]) :
    Below P w K mg base C_Exact := by
  have F_Exact___init__ := fun_mk (st := st_Exact___init__) l_Exact___init__ c_Exact___init__ k_Exact___init__
  have b_Exact___init__ := F_Exact___init__.binds (ps := ["self", "mantissa", "power"]) fun _ _ _ _ _ _ us hl => by3 (P := fun us => bindArgs _ ⟨us, []⟩ = pure (List.zip _ us)) (fun _ _ _ => rfl) us hl
  have F_zero := fun_mk (st := st_zero) l_zero c_zero k_zero
  have b_zero := F_zero.binds (ps := []) fun _ _ _ _ _ _ us hl => by0 (P := fun us => bindArgs _ ⟨us, []⟩ = pure (List.zip _ us)) (rfl) us hl
  have m_zero := PySem.W.mg_of X G a_zero
  have F_nearest_even := fun_mk (st := st_nearest_even) l_nearest_even c_nearest_even k_nearest_even
  have b_nearest_even := F_nearest_even.binds (ps := ["number", "power"]) fun _ _ _ _ _ _ us hl => by2 (P := fun us => bindArgs _ ⟨us, []⟩ = pure (List.zip _ us)) (fun _ _ => rfl) us hl
  have m_nearest_even := PySem.W.mg_of X G a_nearest_even
  have F_nearest_whole := fun_mk (st := st_nearest_whole) l_nearest_whole c_nearest_whole k_nearest_whole
  have b_nearest_whole := F_nearest_whole.binds (ps := ["a"]) fun _ _ _ _ _ _ us hl => by1 (P := fun us => bindArgs _ ⟨us, []⟩ = pure (List.zip _ us)) (fun _ => rfl) us hl
  have m_nearest_whole := PySem.W.mg_of X G a_nearest_whole
  have F_opposite := fun_mk (st := st_opposite) l_opposite c_opposite k_opposite
  have b_opposite := F_opposite.binds (ps := ["a"]) fun _ _ _ _ _ _ us hl => by1 (P := fun us => bindArgs _ ⟨us, []⟩ = pure (List.zip _ us)) (fun _ => rfl) us hl
  have m_opposite := PySem.W.mg_of X G a_opposite
  have F_add := fun_mk (st := st_add) l_add c_add k_add
  have b_add := F_add.binds (ps := ["a", "b"]) fun _ _ _ _ _ _ us hl => by2 (P := fun us => bindArgs _ ⟨us, []⟩ = pure (List.zip _ us)) (fun _ _ => rfl) us hl
  have m_add := PySem.W.mg_of X G a_add
  have F_subtract := fun_mk (st := st_subtract) l_subtract c_subtract k_subtract
  have b_subtract := F_subtract.binds (ps := ["a", "b"]) fun _ _ _ _ _ _ us hl => by2 (P := fun us => bindArgs _ ⟨us, []⟩ = pure (List.zip _ us)) (fun _ _ => rfl) us hl
  have m_subtract := PySem.W.mg_of X G a_subtract
  have F_multiply := fun_mk (st := st_multiply) l_multiply c_multiply k_multiply
  have b_multiply := F_multiply.binds (ps := ["a", "b"]) fun _ _ _ _ _ _ us hl => by2 (P := fun us => bindArgs _ ⟨us, []⟩ = pure (List.zip _ us)) (fun _ _ => rfl) us hl
  have m_multiply := PySem.W.mg_of X G a_multiply
  have F_cut_off := fun_mk (st := st_cut_off) l_cut_off c_cut_off k_cut_off
  have b_cut_off := F_cut_off.binds (ps := ["mantissa", "rest", "power"]) fun _ _ _ _ _ _ us hl => by3 (P := fun us => bindArgs _ ⟨us, []⟩ = pure (List.zip _ us)) (fun _ _ _ => rfl) us hl
  have m_cut_off := PySem.W.mg_of X G a_cut_off
  have F_divide := fun_mk (st := st_divide) l_divide c_divide k_divide
  have b_divide := F_divide.binds (ps := ["a", "b"]) fun _ _ _ _ _ _ us hl => by2 (P := fun us => bindArgs _ ⟨us, []⟩ = pure (List.zip _ us)) (fun _ _ => rfl) us hl
  have m_divide := PySem.W.mg_of X G a_divide
  have F_floor_root := fun_mk (st := st_floor_root) l_floor_root c_floor_root k_floor_root
  have b_floor_root := F_floor_root.binds (ps := ["number"]) fun _ _ _ _ _ _ us hl => by1 (P := fun us => bindArgs _ ⟨us, []⟩ = pure (List.zip _ us)) (fun _ => rfl) us hl
  have m_floor_root := PySem.W.mg_of X G a_floor_root
  have F_root := fun_mk (st := st_root) l_root c_root k_root
  have b_root := F_root.binds (ps := ["a"]) fun _ _ _ _ _ _ us hl => by1 (P := fun us => bindArgs _ ⟨us, []⟩ = pure (List.zip _ us)) (fun _ => rfl) us hl
  have m_root := PySem.W.mg_of X G a_root
  have F_to_whole := fun_mk (st := st_to_whole) l_to_whole c_to_whole k_to_whole
  have b_to_whole := F_to_whole.binds (ps := ["a"]) fun _ _ _ _ _ _ us hl => by1 (P := fun us => bindArgs _ ⟨us, []⟩ = pure (List.zip _ us)) (fun _ => rfl) us hl
  have m_to_whole := PySem.W.mg_of X G a_to_whole
  have F_multiply_add := fun_mk (st := st_multiply_add) l_multiply_add c_multiply_add k_multiply_add
  have b_multiply_add := F_multiply_add.binds (ps := ["a", "b", "c"]) fun _ _ _ _ _ _ us hl => by3 (P := fun us => bindArgs _ ⟨us, []⟩ = pure (List.zip _ us)) (fun _ _ _ => rfl) us hl
  have m_multiply_add := PySem.W.mg_of X G a_multiply_add
  have F_is_operation := fun_mk (st := st_is_operation) l_is_operation c_is_operation k_is_operation
  have b_is_operation := F_is_operation.binds (ps := ["choice"]) fun _ _ _ _ _ _ us hl => by1 (P := fun us => bindArgs _ ⟨us, []⟩ = pure (List.zip _ us)) (fun _ => rfl) us hl
  have m_is_operation := PySem.W.mg_of X G a_is_operation
  have F_operate := fun_mk (st := st_operate) l_operate c_operate k_operate
  have b_operate := F_operate.binds (ps := ["choice", "a", "b"]) fun _ _ _ _ _ _ us hl => by3 (P := fun us => bindArgs _ ⟨us, []⟩ = pure (List.zip _ us)) (fun _ _ _ => rfl) us hl
  have m_operate := PySem.W.mg_of X G a_operate
  have F_run_length := fun_mk (st := st_run_length) l_run_length c_run_length k_run_length
  have b_run_length := F_run_length.binds (ps := ["pattern", "width"]) fun _ _ _ _ _ _ us hl => by2 (P := fun us => bindArgs _ ⟨us, []⟩ = pure (List.zip _ us)) (fun _ _ => rfl) us hl
  have m_run_length := PySem.W.mg_of X G a_run_length
  have F_number_above_zero := fun_mk (st := st_number_above_zero) l_number_above_zero c_number_above_zero k_number_above_zero
  have b_number_above_zero := F_number_above_zero.binds (ps := ["pattern", "width"]) fun _ _ _ _ _ _ us hl => by2 (P := fun us => bindArgs _ ⟨us, []⟩ = pure (List.zip _ us)) (fun _ _ => rfl) us hl
  have m_number_above_zero := PySem.W.mg_of X G a_number_above_zero
  have F_number_of := fun_mk (st := st_number_of) l_number_of c_number_of k_number_of
  have b_number_of := F_number_of.binds (ps := ["pattern", "width"]) fun _ _ _ _ _ _ us hl => by2 (P := fun us => bindArgs _ ⟨us, []⟩ = pure (List.zip _ us)) (fun _ _ => rfl) us hl
  have m_number_of := PySem.W.mg_of X G a_number_of
  have F_pattern_above_zero := fun_mk (st := st_pattern_above_zero) l_pattern_above_zero c_pattern_above_zero k_pattern_above_zero
  have b_pattern_above_zero := F_pattern_above_zero.binds (ps := ["number", "width"]) fun _ _ _ _ _ _ us hl => by2 (P := fun us => bindArgs _ ⟨us, []⟩ = pure (List.zip _ us)) (fun _ _ => rfl) us hl
  have m_pattern_above_zero := PySem.W.mg_of X G a_pattern_above_zero
  have F_pattern_of := fun_mk (st := st_pattern_of) l_pattern_of c_pattern_of k_pattern_of
  have b_pattern_of := F_pattern_of.binds (ps := ["number", "width"]) fun _ _ _ _ _ _ us hl => by2 (P := fun us => bindArgs _ ⟨us, []⟩ = pure (List.zip _ us)) (fun _ _ => rfl) us hl
  have m_pattern_of := PySem.W.mg_of X G a_pattern_of
  have F_signed := fun_mk (st := st_signed) l_signed c_signed k_signed
  have b_signed := F_signed.binds (ps := ["pattern", "width"]) fun _ _ _ _ _ _ us hl => by2 (P := fun us => bindArgs _ ⟨us, []⟩ = pure (List.zip _ us)) (fun _ _ => rfl) us hl
  have m_signed := PySem.W.mg_of X G a_signed
  have F_double_above_zero := fun_mk (st := st_double_above_zero) l_double_above_zero c_double_above_zero k_double_above_zero
  have b_double_above_zero := F_double_above_zero.binds (ps := ["number"]) fun _ _ _ _ _ _ us hl => by1 (P := fun us => bindArgs _ ⟨us, []⟩ = pure (List.zip _ us)) (fun _ => rfl) us hl
  have m_double_above_zero := PySem.W.mg_of X G a_double_above_zero
  have F_double_of := fun_mk (st := st_double_of) l_double_of c_double_of k_double_of
  have b_double_of := F_double_of.binds (ps := ["number"]) fun _ _ _ _ _ _ us hl => by1 (P := fun us => bindArgs _ ⟨us, []⟩ = pure (List.zip _ us)) (fun _ => rfl) us hl
  have m_double_of := PySem.W.mg_of X G a_double_of
  have F_number_of_double := fun_mk (st := st_number_of_double) l_number_of_double c_number_of_double k_number_of_double
  have b_number_of_double := F_number_of_double.binds (ps := ["bits"]) fun _ _ _ _ _ _ us hl => by1 (P := fun us => bindArgs _ ⟨us, []⟩ = pure (List.zip _ us)) (fun _ => rfl) us hl
  have m_number_of_double := PySem.W.mg_of X G a_number_of_double
  have T : TxtE K mg C_Exact := ⟨⟨pg, hd, po, sa⟩, nM, nP, ⟨_, PySem.W.mg_of X G aS, _, rfl⟩, PySem.W.mg_none_of X G z1, PySem.W.mg_none_of X G z2, PySem.W.mg_none_of X G z3, PySem.W.mg_none_of X G z4⟩
  subst aT3 aO3
  have TO : TxtO K mg aT aO [fn_add, fn_subtract, fn_multiply, fn_divide] [fn_root, fn_to_whole] := ⟨⟨_, PySem.W.mg_of X G aT1, rfl⟩, ⟨_, PySem.W.mg_of X G aO1, rfl⟩,
    tup_of aT2 (by show 4 ≤ sizeLine; decide) (.cons rfl (.cons rfl (.cons rfl (.cons rfl .nil)))), tup_of aO2 (by show 2 ≤ sizeLine; decide) (.cons rfl (.cons rfl .nil)), PySem.W.mg_none_of X G z4⟩
  have hExact : KnC P w K mg base "Exact" C_Exact 1 ["self", "mantissa", "power"] (spExact C_Exact) := ⟨PySem.W.mg_of X G aC, _, _, ⟨mk, a_Exact___init__, i_Exact___init__, kc⟩, b_Exact___init__, ok_Exact F_Exact___init__ T⟩
  have TN : TxtN mg (2 ^ 63) := ⟨rfl, ⟨_, PySem.W.mg_of X G n1, _, rfl⟩, ⟨_, PySem.W.mg_of X G n2, _, rfl⟩, ⟨_, PySem.W.mg_of X G n3, _, rfl⟩, ⟨_, PySem.W.mg_of X G n4, _, rfl⟩, ⟨_, PySem.W.mg_of X G n5, _, rfl⟩, ⟨_, PySem.W.mg_of X G n6, _, rfl⟩, PySem.W.mg_none_of X G z2⟩
  have h_zero : Kn P w K mg base "zero" 3 [] (spZero C_Exact) := kn_of F_zero m_zero b_zero (ok_zero F_zero T hExact)
  have h_nearest_even : Kn P w K mg base "nearest_even" 1 ["number", "power"] spNev := kn_of F_nearest_even m_nearest_even b_nearest_even (ok_nearest_even F_nearest_even)
  have h_nearest_whole : Kn P w K mg base "nearest_whole" 2 ["a"] (spNwh C_Exact) := kn_of F_nearest_whole m_nearest_whole b_nearest_whole (ok_nearest_whole F_nearest_whole T h_nearest_even)
  have h_opposite : Kn P w K mg base "opposite" 3 ["a"] (spOpp C_Exact) := kn_of F_opposite m_opposite b_opposite (ok_opposite F_opposite T hExact)
  have h_add : Kn P w K mg base "add" 3 ["a", "b"] (spAdd C_Exact) := kn_of F_add m_add b_add (ok_add F_add T hExact)
  have h_subtract : Kn P w K mg base "subtract" 4 ["a", "b"] (spSub C_Exact) := kn_of F_subtract m_subtract b_subtract (ok_subtract F_subtract h_add h_opposite)
  have h_multiply : Kn P w K mg base "multiply" 3 ["a", "b"] (spMul C_Exact) := kn_of F_multiply m_multiply b_multiply (ok_multiply F_multiply T hExact)
  have h_cut_off : Kn P w K mg base "cut_off" 3 ["mantissa", "rest", "power"] (spCut C_Exact) := kn_of F_cut_off m_cut_off b_cut_off (ok_cut_off F_cut_off T hExact)
  have h_divide : Kn P w K mg base "divide" 4 ["a", "b"] (spDiv C_Exact) := kn_of F_divide m_divide b_divide (ok_divide F_divide T h_cut_off h_opposite)
  have h_floor_root : Kn P w K mg base "floor_root" 1 ["number"] spFlr := kn_of F_floor_root m_floor_root b_floor_root (ok_floor_root F_floor_root)
  have h_root : Kn P w K mg base "root" 4 ["a"] (spRoot C_Exact) := kn_of F_root m_root b_root (ok_root F_root T h_cut_off h_floor_root)
  have h_to_whole : Kn P w K mg base "to_whole" 3 ["a"] (spToWh C_Exact) := kn_of F_to_whole m_to_whole b_to_whole (ok_to_whole F_to_whole hExact h_nearest_whole)
  have h_multiply_add : Kn P w K mg base "multiply_add" 4 ["a", "b", "c"] (spMulAdd C_Exact) := kn_of F_multiply_add m_multiply_add b_multiply_add (ok_multiply_add F_multiply_add h_add h_multiply)
  have h_is_operation : Kn P w K mg base "is_operation" 1 ["choice"] spIsOp := kn_of F_is_operation m_is_operation b_is_operation (ok_is_operation F_is_operation TO)
  have h_operate : Kn P w K mg base "operate" 5 ["choice", "a", "b"] (spOper C_Exact) := kn_of F_operate m_operate b_operate (ok_operate F_operate TO m_add m_subtract m_multiply m_divide m_root m_to_whole h_add h_subtract h_multiply h_divide h_root h_to_whole)
  have h_run_length : Kn P w K mg base "run_length" 1 ["pattern", "width"] spRunL := kn_of F_run_length m_run_length b_run_length (ok_run_length F_run_length)
  have h_number_above_zero : Kn P w K mg base "number_above_zero" 3 ["pattern", "width"] (spNaz C_Exact) := kn_of F_number_above_zero m_number_above_zero b_number_above_zero (ok_number_above_zero F_number_above_zero T hExact h_run_length)
  have h_number_of : Kn P w K mg base "number_of" 4 ["pattern", "width"] (spNumOf C_Exact) := kn_of F_number_of m_number_of b_number_of (ok_number_of F_number_of T hExact h_zero h_number_above_zero h_opposite)
  have h_pattern_above_zero : Kn P w K mg base "pattern_above_zero" 2 ["number", "width"] (spPaz C_Exact) := kn_of F_pattern_above_zero m_pattern_above_zero b_pattern_above_zero (ok_pattern_above_zero F_pattern_above_zero T h_nearest_even)
  have h_pattern_of : Kn P w K mg base "pattern_of" 4 ["number", "width"] (spPatOf C_Exact) := kn_of F_pattern_of m_pattern_of b_pattern_of (ok_pattern_of F_pattern_of T h_pattern_above_zero h_opposite)
  have h_signed : Kn P w K mg base "signed" 1 ["pattern", "width"] spSigned := kn_of F_signed m_signed b_signed (ok_signed F_signed)
  have h_double_above_zero : Kn P w K mg base "double_above_zero" 2 ["number"] (spDaz C_Exact) := kn_of F_double_above_zero m_double_above_zero b_double_above_zero (ok_double_above_zero F_double_above_zero T TN h_nearest_even)
  have h_double_of : Kn P w K mg base "double_of" 4 ["number"] (spDbl C_Exact) := kn_of F_double_of m_double_of b_double_of (ok_double_of F_double_of T TN h_double_above_zero h_opposite)
  have h_number_of_double : Kn P w K mg base "number_of_double" 4 ["bits"] (spUnd C_Exact) := kn_of F_number_of_double m_number_of_double b_number_of_double (ok_number_of_double F_number_of_double T TN hExact h_opposite)
  exact ⟨T, hExact, h_zero, h_nearest_whole, h_nearest_even, h_opposite, h_add, h_subtract, h_multiply, h_multiply_add, h_is_operation, h_operate, h_number_of, h_pattern_of, h_signed, h_double_of, h_number_of_double⟩
end Tb


set_option Elab.async false
set_option linter.all false
set_option maxRecDepth 100000
set_option maxHeartbeats 4000000
namespace Tb
open PySem PySem.Spec PyProof.Rows L2
open PySem.W (Codec)

/-! ### a bench -/
noncomputable def bf (w : Int) (tv : V) : List (Str × V) := putF "tally" tv (putF "width" (.int w) [])
theorem bf_w (w : Int) (tv : V) : (bf w tv).lookup ("width" : Str) = some (.int w) := by
  unfold bf
  rw [lookup_putF, if_neg (by decide +kernel), lookup_putF, if_pos rfl]
theorem bf_t (w : Int) (tv : V) : (bf w tv).lookup ("tally" : Str) = some tv := by
  unfold bf
  rw [lookup_putF, if_pos rfl]
theorem bf_no (w : Int) (tv : V) {m : Str} (h : ¬ m = "width") (h2 : ¬ m = "tally") : (bf w tv).lookup m = none := by
  unfold bf
  rw [lookup_putF, if_neg h2, lookup_putF, if_neg h]
  rfl
theorem put_put (f : Str) (v v' : V) : ∀ fs : List (Str × V), putF f v (putF f v' fs) = putF f v fs
  | [] => by
    show (if f = f then [(f, v)] else _) = [(f, v)]
    rw [if_pos rfl]
  | (g, x) :: r => by
    show putF f v (if g = f then (g, v') :: r else (g, x) :: putF f v' r) = if g = f then (g, v) :: r else (g, x) :: putF f v r
    by_cases h : g = f
    · rw [if_pos h, if_pos h]
      show (if g = f then (g, v) :: r else _) = _
      rw [if_pos h]
    · rw [if_neg h, if_neg h]
      show (if g = f then _ else (g, x) :: putF f v (putF f v' r)) = _
      rw [if_neg h, put_put f v v' r]
theorem bf_put_t (w : Int) (tv v : V) : putF "tally" v (bf w tv) = bf w v := put_put _ _ _ _
theorem bf_put_w (w x : Int) (tv : V) : putF "width" (.int x) (bf w tv) = bf x tv := by
  have h : ¬ ("width" : Str) = "tally" := by decide +kernel
  have e : ∀ z : Int, bf z tv = [(("width" : Str), V.int z), (("tally" : Str), tv)] := fun z => by
    unfold bf
    show (if ("width" : Str) = "tally" then [(("width" : Str), tv)] else [(("width" : Str), V.int z), (("tally" : Str), tv)]) = _
    rw [if_neg h]
  rw [e w, e x]
  show (if ("width" : Str) = "width" then [(("width" : Str), V.int x), (("tally" : Str), tv)] else _) = _
  rw [if_pos rfl]
theorem bf_len (w : Int) (tv : V) : (bf w tv).length < 1000 := by
  have h : ¬ ("width" : Str) = "tally" := by decide +kernel
  unfold bf
  show (if ("width" : Str) = "tally" then [(("width" : Str), tv)] else [(("width" : Str), V.int w), (("tally" : Str), tv)]).length < 1000
  rw [if_neg h]
  show 2 < 1000
  decide
noncomputable def BenchAt (D : Addr) (H : Hp) (a : Addr) (w : Int) : Prop := ∃ dx tv, H a = some (.ins D dx (bf w tv))
noncomputable def BenchV (D : Addr) (H : Hp) (a : Addr) (w : Int) (tv : V) : Prop := ∃ dx, H a = some (.ins D dx (bf w tv))
theorem BenchV.at {D : Addr} {H : Hp} {a : Addr} {w : Int} {tv : V} (h : BenchV D H a w tv) : BenchAt D H a w := by
  obtain ⟨dx, h⟩ := h
  exact ⟨dx, tv, h⟩
/-- all but one object stays -/
noncomputable def Keep (H H' : Hp) (b : Addr) : Prop := ∀ x o, H x = some o → x ≠ b → H' x = some o
theorem Keep.of {H H' : Hp} {b : Addr} (s : Same H H') : Keep H H' b := fun x o e _ => s x o e
theorem ef_no (m p : Int) : (ef m p).lookup ("width" : Str) = none := by
  unfold ef
  rw [lookup_putF, if_neg (by decide +kernel), lookup_putF, if_neg (by decide +kernel)]
  rfl
/-- an object that is no bench is not this bench -/
theorem not_bench {D c : Addr} {H : Hp} {b x d dx : Addr} {w : Int} {tv : V} {fs : List (Str × V)} (hb : H b = some (.ins D d (bf w tv))) (hx : H x = some (.ins c dx fs)) (hf : fs.lookup ("width" : Str) = none) : x ≠ b := fun e => by
  rw [e, hb] at hx
  cases hx
  rw [bf_w] at hf
  cases hf
theorem upd_none {H : Hp} {b q : Addr} {o : HO} (h : upd H b o q = none) : q ≠ b ∧ H q = none := by
  have hqb : q ≠ b := fun e => by
    rw [e, upd_same] at h
    cases h
  rw [upd_ne hqb] at h
  exact ⟨hqb, h⟩
/-- the bench's sum is set, and the answer's list laid -/
theorem tally_set {C D b dx q : Addr} {H H0 H1 : Hp} {w : Int} {tv0 tv : V} {e : Option Tap.E} {r : List V} (h0 : Keep H H0 b) (hn : ∀ x, H0 x = none → H x = none) (hs : Same H0 H1) (hb : H0 b = some (.ins D dx (bf w tv0))) (ho : OEx C H1 tv e)
    (hq : upd H1 b (.ins D dx (bf w tv)) q = none) :
    H q = none ∧ Keep H (upd (upd H1 b (.ins D dx (bf w tv))) q (.lst r)) b ∧ BenchV D (upd (upd H1 b (.ins D dx (bf w tv))) q (.lst r)) b w tv ∧ OEx C (upd (upd H1 b (.ins D dx (bf w tv))) q (.lst r)) tv e := by
  have hqb : q ≠ b := fun e => by
    rw [e, upd_same] at hq
    cases hq
  rw [upd_ne hqb] at hq
  have hq0 : H q = none := hn _ (hs.free hq)
  have hb1 := hs _ _ hb
  refine ⟨hq0, fun x o e hx => ?_, ⟨dx, ?_⟩, ?_⟩
  · rw [upd_ne (ne_of_none e hq0), upd_ne hx]
    exact hs _ _ (h0 _ _ e hx)
  · rw [upd_ne (fun h => hqb h.symm), upd_same]
  · cases e with
    | none => exact ho
    | some x =>
      obtain ⟨a, rfl, da, ha⟩ := ho
      refine ⟨a, rfl, da, ?_⟩
      rw [upd_ne (ne_of_none ha hq), upd_ne (not_bench hb1 ha (ef_no _ _))]
      exact ha
structure TxtB (K : PySem.W.Frag) (mg : Str → Option Value) (D aW : Addr) (S : Int) : Prop where
  hS : S = 2 ^ 63
  cl : Cls K D
  nW : NoAttr K D "width"
  nT : NoAttr K D "tally"
  no_max : mg "max" = none
  no_len : mg "len" = none
  DONE : GlobV mg "DONE" (.int 0)
  REFUSED : GlobV mg "REFUSED" (.int (-2))
  OUTSIDE : GlobV mg "OUTSIDE" (.int S)
  WIDTHS : GlobV mg "WIDTHS" (.ref aW)
  wd : ∀ H : Hp, SqT K H aW [.int 8, .int 16, .int 32, .int 64]
theorem BenchAt.fw {K : PySem.W.Frag} {mg : Str → Option Value} {D aW : Addr} {S : Int} {H : Hp} {a : Addr} {w : Int} (h : BenchAt D H a w) (T : TxtB K mg D aW S) : FldAt K H a "width" (.int w) := by
  obtain ⟨dx, tv, h⟩ := h
  exact ⟨D, dx, _, h, T.cl, T.nW, bf_w _ _⟩
theorem BenchV.ft {K : PySem.W.Frag} {mg : Str → Option Value} {D aW : Addr} {S : Int} {H : Hp} {a : Addr} {w : Int} {tv : V} (h : BenchV D H a w tv) (T : TxtB K mg D aW S) : FldAt K H a "tally" tv := by
  obtain ⟨dx, h⟩ := h
  exact ⟨D, dx, _, h, T.cl, T.nT, bf_t _ _⟩
theorem no_meth {D : Addr} {H : Hp} {a : Addr} {w : Int} (h : BenchAt D H a w) {m : Str} (h1 : ¬ m = "width") (h2 : ¬ m = "tally") : ∃ dx fs, H a = some (.ins D dx fs) ∧ fs.lookup m = none := by
  obtain ⟨dx, tv, h⟩ := h
  exact ⟨dx, _, h, bf_no _ _ h1 h2⟩
/-! ### sizes -/
theorem Sm.add {j k : Nat} {x y : Tap.E} (h : Sm j x) (h' : Sm k y) : Sm (2 * (j + k) + 1) (Tap.addE x y) := by
  obtain ⟨a1, a2, a3⟩ := h
  obtain ⟨b1, b2, b3⟩ := h'
  have q1 := Tap.bi_shl x.1 (x.2 - min x.2 y.2).toNat
  have q2 := Tap.bi_shl y.1 (y.2 - min x.2 y.2).toNat
  have q3 := Tap.bi_add (x.1 * 2 ^ (x.2 - min x.2 y.2).toNat) (y.1 * 2 ^ (y.2 - min x.2 y.2).toNat)
  refine ⟨?_, ?_, ?_⟩
  · show Tap.bi (x.1 * 2 ^ (x.2 - min x.2 y.2).toNat + y.1 * 2 ^ (y.2 - min x.2 y.2).toNat) ≤ _
    (first | lia | omega)
  · show -((2 * (j + k) + 1 : Nat) : Int) ≤ min x.2 y.2
    (first | lia | omega)
  · show min x.2 y.2 ≤ ((2 * (j + k) + 1 : Nat) : Int)
    (first | lia | omega)
theorem nev_bi (n p : Int) : Tap.bi (Tap.nev n p) ≤ Tap.bi n + p.natAbs + 1 := by
  unfold Tap.nev
  split
  · have := Tap.bi_shl n p.toNat
    (first | lia | omega)
  · have h1 := Tap.bi_ediv n (2 ^ (-p).toNat) (Tap.ipow_pos _)
    have h2 := Tap.bi_add (n / 2 ^ (-p).toNat) 1
    have h3 : Tap.bi (1 : Int) = 1 := rfl
    split
    · by_cases h0 : Tap.bi (n / 2 ^ (-p).toNat) = 0
      · (first | lia | omega)
      · (first | lia | omega)
    · (first | lia | omega)
theorem Sm.whole {j : Nat} {x : Tap.E} (h : Sm j x) : Sm (2 * j + 1) (Tap.wholeE x) := by
  obtain ⟨a1, a2, a3⟩ := h
  have := nev_bi x.1 x.2
  refine ⟨?_, ?_, ?_⟩
  · show Tap.bi (Tap.nev x.1 x.2) ≤ _
    (first | lia | omega)
  · show -((2 * j + 1 : Nat) : Int) ≤ 0
    (first | lia | omega)
  · show (0 : Int) ≤ ((2 * j + 1 : Nat) : Int)
    (first | lia | omega)
theorem Sm.div {j k : Nat} {x y z : Tap.E} (h : Sm j x) (h' : Sm k y) (e : Tap.divE x y = some z) : Sm (j + 2 * k + 100) z := by
  obtain ⟨a1, a2, a3⟩ := h
  obtain ⟨b1, b2, b3⟩ := h'
  unfold Tap.divE at e
  split at e
  · cases e
  · cases e
    have hsh : Tap.divSh y ≤ 72 + k := by
      have : Tap.bl y.1.natAbs ≤ k := b1
      unfold Tap.divSh
      (first | lia | omega)
    have hM : ∀ q : Nat, Tap.bl q ≤ j + 72 + k → ∀ r : Int, (r = 0 ∨ r = 1) → Tap.bi (2 * (q : Int) + r) ≤ j + k + 80 := by
      intro q hq r hr
      have h1 := Tap.bi_mul 2 (q : Int)
      have h2 := Tap.bi_add (2 * (q : Int)) r
      have h3 : Tap.bi (2 : Int) = 2 := rfl
      have h4 : Tap.bi (q : Int) = Tap.bl q := rfl
      have h5 : Tap.bi r ≤ 1 := by rcases hr with rfl | rfl <;> decide
      (first | lia | omega)
    have hq : Tap.bl (x.1.natAbs * 2 ^ Tap.divSh y / y.1.natAbs) ≤ j + 72 + k := by
      have h1 : x.1.natAbs < 2 ^ j := Tap.bi_le.mp a1
      apply Tap.bl_le.mpr
      have h2 : x.1.natAbs * 2 ^ Tap.divSh y < 2 ^ j * 2 ^ Tap.divSh y := Nat.mul_lt_mul_of_pos_right h1 (Nat.two_pow_pos _)
      have h3 : 2 ^ j * 2 ^ Tap.divSh y ≤ 2 ^ (j + 72 + k) := by rw [← Nat.pow_add]; exact Nat.pow_le_pow_right (by (first | lia | omega)) (by (first | lia | omega))
      have h4 := Nat.div_le_self (x.1.natAbs * 2 ^ Tap.divSh y) y.1.natAbs
      (first | lia | omega)
    have hd : Tap.bi (Tap.divM x.1 y.1 (Tap.divSh y)) ≤ j + k + 80 := by
      unfold Tap.divM
      dsimp only
      split
      · exact hM _ hq _ (by split <;> (first | lia | omega))
      · rw [Tap.bi_neg]
        exact hM _ hq _ (by split <;> (first | lia | omega))
    refine ⟨by show Tap.bi (Tap.divM x.1 y.1 (Tap.divSh y)) ≤ _; (first | lia | omega), ?_, ?_⟩
    · show -((j + 2 * k + 100 : Nat) : Int) ≤ x.2 - y.2 - (Tap.divSh y : Int) - 1
      (first | lia | omega)
    · show x.2 - y.2 - (Tap.divSh y : Int) - 1 ≤ ((j + 2 * k + 100 : Nat) : Int)
      (first | lia | omega)
theorem Sm.root {j : Nat} {x z : Tap.E} (h : Sm j x) (e : Tap.rootE x = some z) : Sm (j + 200) z := by
  obtain ⟨a1, a2, a3⟩ := h
  unfold Tap.rootE at e
  split at e
  · cases e
  · split at e
    · cases e
      exact ⟨by (first | lia | omega), by (first | lia | omega), by (first | lia | omega)⟩
    · cases e
      have hsh : Tap.rootSh x ≤ 146 := by unfold Tap.rootSh; (first | lia | omega)
      have hS : x.1.toNat * 2 ^ Tap.rootSh x < 2 ^ (j + 146) := by
        have h1 : x.1.natAbs < 2 ^ j := Tap.bi_le.mp a1
        have h2 : x.1.toNat * 2 ^ Tap.rootSh x < 2 ^ j * 2 ^ Tap.rootSh x := Nat.mul_lt_mul_of_pos_right (by (first | lia | omega)) (Nat.two_pow_pos _)
        have h3 : 2 ^ j * 2 ^ Tap.rootSh x ≤ 2 ^ (j + 146) := by rw [← Nat.pow_add]; exact Nat.pow_le_pow_right (by (first | lia | omega)) (by (first | lia | omega))
        (first | lia | omega)
      generalize x.1.toNat * 2 ^ Tap.rootSh x = S at *
      have hq : Tap.isq S ≤ S := by
        obtain ⟨q1, _⟩ := Tap.isq_spec S
        rcases Nat.eq_zero_or_pos (Tap.isq S) with h | h
        · (first | lia | omega)
        · exact Nat.le_trans (Nat.le_mul_of_pos_left _ h) q1
      have hb : Tap.bi ((Tap.isq S : Nat) : Int) ≤ j + 146 := Tap.bl_le.mpr (by (first | lia | omega))
      have h1 := Tap.bi_mul 2 ((Tap.isq S : Nat) : Int)
      have h3 : Tap.bi (2 : Int) = 2 := rfl
      have hM : ∀ r : Int, (r = 0 ∨ r = 1) → Tap.bi (2 * ((Tap.isq S : Nat) : Int) + r) ≤ j + 200 := by
        intro r hr
        have h2 := Tap.bi_add (2 * ((Tap.isq S : Nat) : Int)) r
        have h5 : Tap.bi r ≤ 1 := by rcases hr with rfl | rfl <;> decide
        (first | lia | omega)
      refine ⟨hM _ (by split <;> (first | lia | omega)), ?_, ?_⟩
      · show -((j + 200 : Nat) : Int) ≤ (x.2 - (Tap.rootSh x : Int)) / 2 - 1
        (first | lia | omega)
      · show (x.2 - (Tap.rootSh x : Int)) / 2 - 1 ≤ ((j + 200 : Nat) : Int)
        (first | lia | omega)
theorem fma_sm {a b c : Option Tap.E} (ha : ∀ e, a = some e → Sm 1000 e) (hb : ∀ e, b = some e → Sm 1000 e) (hc : ∀ e, c = some e → Sm 1000 e) : ∀ e, Tap.fmaM a b c = some e → Sm 40000 e := by
  intro e he
  cases a with
  | none => cases he
  | some x =>
    cases b with
    | none => cases he
    | some y =>
      cases c with
      | none => cases he
      | some z =>
        cases he
        exact (((ha _ rfl).mul (hb _ rfl)).add (hc _ rfl)).mono (by decide)
theorem op_sm {p : Nat} {a b : Option Tap.E} (ha : ∀ e, a = some e → Sm 1000 e) (hb : ∀ e, b = some e → Sm 1000 e) : ∀ e, Tap.opM p a b = some e → Sm 40000 e := by
  intro e he
  cases a with
  | none => cases he
  | some x =>
    have sx := ha _ rfl
    change (if p = 4 then Tap.rootE x else if p = 5 then some (Tap.wholeE x) else _) = some e at he
    by_cases h4 : p = 4
    · rw [if_pos h4] at he
      exact (sx.root he).mono (by decide)
    · rw [if_neg h4] at he
      by_cases h5 : p = 5
      · rw [if_pos h5] at he
        cases he
        exact sx.whole.mono (by decide)
      · rw [if_neg h5] at he
        cases b with
        | none => cases he
        | some y =>
          have sy := hb _ rfl
          match p, he with
          | 0, he => cases he; exact (sx.add sy).mono (by decide)
          | 1, he => cases he; exact (sx.add sy.opp).mono (by decide)
          | 2, he => cases he; exact (sx.mul sy).mono (by decide)
          | n + 3, he => exact (Sm.div sx sy he).mono (by decide)
section
variable {S : Int} {P : Program} {w : World} {K : PySem.W.Frag} {mg : Str → Option Value} {base : Heap} {C D aW : Addr}

noncomputable def spBench (D : Addr) : Sp := fun vs H Q _ => ∃ (p dx : Addr), vs = [.ref p] ∧ H p = some (.ins D dx []) ∧ ∀ H' : Hp, BenchAt D H' p 0 → (∀ b o, H b = some o → b ≠ p → H' b = some o) → Q .non H'
noncomputable abbrev st_Bench___init__ : Stmt := inClass (top 42) 0
theorem sc_Bench___init__ : FnScope ["self"] ["self"] (defScope st_Bench___init__) := ⟨rfl, rfl, rfl, by decide +kernel, rfl, by decide +kernel, by decide +kernel⟩
theorem ok_Bench {f : Addr} {fd : FuncData} (F : Fun K "__init__" "Bench.__init__" st_Bench___init__ f fd) (T : TxtB K mg D aW S) (h_zero : Kn P w K mg base "zero" 3 [] (spZero C)) : FnOk P w K mg base CX0 4 f fd ["self"] (spBench D) := by
  refine F.ok sc_Bench___init__ (fun vs H Q E h => ?_) (fun cdv A outer s H vs Q E hr h => ?_)
  · obtain ⟨p, dx, rfl, _⟩ := h
    rfl
  · obtain ⟨p, dx, rfl, hp, k⟩ := h
    refine ⟨_, (pss_cons (ps_fld (mv 0) pe_int rfl)
      (pss_one (ps_fld (mv 0) (pe_callN0 (h_zero) (hr.mono (by decide)) rfl) rfl))), ?_⟩
    dsimp only [tSeq, tIfS, tRet, tRetN, tAsg, gName, tB, mB, mCT, mC, mIsN, mNotN, mNotIn, tOp, tUn, mVar, tC, mI, mI0, mU, tOr, tAnd, tNot, tIf, tNext, tDrop, tCB, tCall, mBL, mMin, mMax, mAbs, mLen, tCons, tNil, mMeth, mFld, mFldI, mIxI, mIxL, mIxT, tSl, mSlL, mPart, tNoPart, tLst, tTup, tMake, sFld, mCallV, L2.start, d_map1, d_map0, d_app1, d_app0, d_set0, d_set1, d_get0, d_get1, d_len1, d_len0, d_rep0, d_rep1, Nat.reduceAdd, Nat.reduceSub, mtt, mff, d_nt, d_nf, cx_K]
    refine ⟨p, D, dx, [], rfl, hp, T.cl, T.nW, (by show 0 < 1000; decide), rfl, fun H1 z hs hz => ?_⟩
    refine ⟨p, D, dx, _, rfl, hs _ _ upd_same, T.cl, T.nT, (by show 1 < 1000; decide), ?_⟩
    refine k _ ⟨dx, .ref z, upd_same⟩ fun b o e hb => ?_
    rw [upd_ne hb]
    exact hs _ _ (by rw [upd_ne hb]; exact e)

noncomputable def spArePat (K : PySem.W.Frag) (D : Addr) : Sp := fun vs H Q _ => ∃ (a l : Addr) (w : Nat) (ns : List Int), vs = [.ref a, .ref l] ∧ BenchAt D H a w ∧ SqL K H l (ns.map V.int) ∧ 0 < ns.length ∧ (∀ n ∈ ns, 0 ≤ n) ∧ Q (.bl (decide (∀ n ∈ ns, n.toNat < 2 ^ w))) H
noncomputable abbrev st_Bench_are_patterns : Stmt := inClass (top 42) 1
theorem sc_Bench_are_patterns : FnScope ["self", "numbers"] ["self", "numbers"] (defScope st_Bench_are_patterns) := ⟨rfl, rfl, rfl, by decide +kernel, rfl, by decide +kernel, by decide +kernel⟩
theorem ok_are_patterns {f : Addr} {fd : FuncData} (F : Fun K "are_patterns" "Bench.are_patterns" st_Bench_are_patterns f fd) (T : TxtB K mg D aW S) : FnOk P w K mg base CX0 1 f fd ["self", "numbers"] (spArePat K D) := by
  refine F.ok sc_Bench_are_patterns (fun vs H Q E h => ?_) (fun cdv A outer s H vs Q E hr h => ?_)
  · obtain ⟨a, l, w, ns, rfl, _⟩ := h
    rfl
  · obtain ⟨a, l, w, ns, rfl, ⟨dx, tv, ha⟩, hl, hlen, hpos, k⟩ := h
    refine ⟨_, (pss_one (ps_ret (pe_cmpR m_eq (pe_op m_shr (pe_callB (cr_max rfl) (by rfl) T.no_max (by decide +kernel) (pa_cons (mv 1) pa_nil)) (me_fldI (mv 0) rfl)) pe_int (nomark _)))), ?_⟩
    dsimp only [tSeq, tIfS, tRet, tRetN, tAsg, gName, tB, mB, mCT, mC, mIsN, mNotN, mNotIn, tOp, tUn, mVar, tC, mI, mI0, mU, tOr, tAnd, tNot, tIf, tNext, tDrop, tCB, tCall, mBL, mMin, mMax, mAbs, mLen, tCons, tNil, mMeth, mFld, mFldI, mIxI, mIxL, mIxT, tSl, mSlL, mPart, tNoPart, tLst, tTup, tMake, sFld, mCallV, L2.start, d_map1, d_map0, d_app1, d_app0, d_set0, d_set1, d_get0, d_get1, d_len1, d_len0, d_rep0, d_rep1, Nat.reduceAdd, Nat.reduceSub, mtt, mff, d_nt, d_nf, cx_K, rMax]
    refine ⟨l, ns, rfl, hl, hlen, fun m hm hmax => ?_⟩
    refine ⟨_, BenchAt.fw ⟨dx, tv, ha⟩ T, by (first | lia | omega), ?_⟩
    rw [Int.toNat_natCast]
    have h0 := hpos m hm
    have e : decide (m / 2 ^ w = 0) = decide (∀ n ∈ ns, n.toNat < 2 ^ w) := by
      rw [decide_eq_decide]
      have hX := Nat.two_pow_pos w
      have hd : m / 2 ^ w = 0 ↔ m.toNat < 2 ^ w := by
        obtain ⟨q, rfl⟩ := Int.eq_ofNat_of_zero_le h0
        rw [pow_cast, ← Int.natCast_ediv, Int.toNat_natCast]
        have : q / 2 ^ w = 0 ↔ q < 2 ^ w := Nat.div_eq_zero_iff_lt hX
        (first | lia | omega)
      rw [hd]
      constructor
      · intro h n hn
        have := hmax n hn
        (first | lia | omega)
      · intro h
        exact h m hm
    rw [e]
    exact k

noncomputable def spNumber (C D : Addr) : Sp := fun vs H Q _ => ∃ (a : Addr) (p w : Nat), vs = [.ref a, .int p] ∧ BenchAt D H a w ∧ Tap.Wd w ∧ p < 2 ^ w ∧ rOEx C H (Tap.num w p) Q
noncomputable abbrev st_Bench_number : Stmt := inClass (top 42) 2
theorem sc_Bench_number : FnScope ["self", "pattern"] ["self", "pattern"] (defScope st_Bench_number) := ⟨rfl, rfl, rfl, by decide +kernel, rfl, by decide +kernel, by decide +kernel⟩
theorem ok_number {f : Addr} {fd : FuncData} (F : Fun K "number" "Bench.number" st_Bench_number f fd) (T : TxtB K mg D aW S) (h_number_of : Kn P w K mg base "number_of" 4 ["pattern", "width"] (spNumOf C)) : FnOk P w K mg base CX0 5 f fd ["self", "pattern"] (spNumber C D) := by
  refine F.ok sc_Bench_number (fun vs H Q E h => ?_) (fun cdv A outer s H vs Q E hr h => ?_)
  · obtain ⟨a, p, w, rfl, _⟩ := h
    rfl
  · obtain ⟨a, p, w, rfl, ⟨dx, tv, ha⟩, hw, hp, k⟩ := h
    refine ⟨_, (pss_one (ps_ret (pe_callN (h_number_of) (hr.mono (by decide)) rfl (pa_cons (mv 1) (pa_cons (me_fldI (mv 0) rfl) pa_nil))))), ?_⟩
    dsimp only [tSeq, tIfS, tRet, tRetN, tAsg, gName, tB, mB, mCT, mC, mIsN, mNotN, mNotIn, tOp, tUn, mVar, tC, mI, mI0, mU, tOr, tAnd, tNot, tIf, tNext, tDrop, tCB, tCall, mBL, mMin, mMax, mAbs, mLen, tCons, tNil, mMeth, mFld, mFldI, mIxI, mIxL, mIxT, tSl, mSlL, mPart, tNoPart, tLst, tTup, tMake, sFld, mCallV, L2.start, d_map1, d_map0, d_app1, d_app0, d_set0, d_set1, d_get0, d_get1, d_len1, d_len0, d_rep0, d_rep1, Nat.reduceAdd, Nat.reduceSub, mtt, mff, d_nt, d_nf, cx_K]
    exact ⟨_, BenchAt.fw ⟨dx, tv, ha⟩ T, p, w, rfl, hw.lo, hw.hi, hp, k⟩

noncomputable def spPattern (C D : Addr) : Sp := fun vs H Q _ => ∃ (a : Addr) (v : V) (o : Option Tap.E) (w : Nat), vs = [.ref a, v] ∧ BenchAt D H a w ∧ Tap.Wd w ∧ OEx C H v o ∧ (∀ e, o = some e → Sm 40000 e) ∧ ∀ H', Same H H' → Q (.int (Tap.patOpt o w)) H'
noncomputable abbrev st_Bench_pattern : Stmt := inClass (top 42) 3
theorem sc_Bench_pattern : FnScope ["self", "number"] ["self", "number"] (defScope st_Bench_pattern) := ⟨rfl, rfl, rfl, by decide +kernel, rfl, by decide +kernel, by decide +kernel⟩
theorem ok_pattern {f : Addr} {fd : FuncData} (F : Fun K "pattern" "Bench.pattern" st_Bench_pattern f fd) (T : TxtB K mg D aW S) (h_pattern_of : Kn P w K mg base "pattern_of" 4 ["number", "width"] (spPatOf C)) : FnOk P w K mg base CX0 5 f fd ["self", "number"] (spPattern C D) := by
  refine F.ok sc_Bench_pattern (fun vs H Q E h => ?_) (fun cdv A outer s H vs Q E hr h => ?_)
  · obtain ⟨a, v, o, w, rfl, _⟩ := h
    rfl
  · obtain ⟨a, v, o, w, rfl, ⟨dx, tv, ha⟩, hw, ho, hs, k⟩ := h
    refine ⟨_, (pss_one (ps_ret (pe_callN (h_pattern_of) (hr.mono (by decide)) rfl (pa_cons (mv 1) (pa_cons (me_fldI (mv 0) rfl) pa_nil))))), ?_⟩
    dsimp only [tSeq, tIfS, tRet, tRetN, tAsg, gName, tB, mB, mCT, mC, mIsN, mNotN, mNotIn, tOp, tUn, mVar, tC, mI, mI0, mU, tOr, tAnd, tNot, tIf, tNext, tDrop, tCB, tCall, mBL, mMin, mMax, mAbs, mLen, tCons, tNil, mMeth, mFld, mFldI, mIxI, mIxL, mIxT, tSl, mSlL, mPart, tNoPart, tLst, tTup, tMake, sFld, mCallV, L2.start, d_map1, d_map0, d_app1, d_app0, d_set0, d_set1, d_get0, d_get1, d_len1, d_len0, d_rep0, d_rep1, Nat.reduceAdd, Nat.reduceSub, mtt, mff, d_nt, d_nf, cx_K]
    exact ⟨_, BenchAt.fw ⟨dx, tv, ha⟩ T, v, o, w, rfl, hw.lo, hw.hi, ho, hs, k⟩

/-! ### the calls -/
theorem same_new {H : Hp} {p : Addr} {o : HO} (h : H p = none) : Same H (upd H p o) := fun b o' e => by
  rw [upd_ne (ne_of_none e h)]
  exact e
theorem fin_list {H H1 : Hp} {r : List V} {Q : VK} (k : ∀ (H' : Hp) (q : Addr), H q = none → Same H H' → H' q = some (.lst r) → Q (.ref q) H') (hs : Same H H1) : ∀ p, H1 p = none → Q (.ref p) (upd H1 p (.lst r)) := fun p hp => k _ p (hs.free hp) (hs.trans (same_new hp)) upd_same
theorem len_ok {n : Nat} (h : n ≤ 1000) : n ≤ sizeLine := Nat.le_trans h (by decide)
theorem num_sm {w p : Nat} (hw : Tap.Wd w) (hp : p < 2 ^ w) : ∀ e, Tap.num w p = some e → Sm 1000 e := by
  intro e he
  obtain ⟨h1, h2, h3⟩ := Tap.num_bounds w p hp hw.lo hw.hi e he
  have := Tap.bi_le.mpr h1
  exact ⟨by (first | lia | omega), by (first | lia | omega), by (first | lia | omega)⟩
/-- a call that leaves the benches as they were, its numbers ns, its answer r -/
noncomputable def spAsk (K : PySem.W.Frag) (D : Addr) (ok : Nat → List Int → Prop) (r : Nat → List Int → List Int) : Sp := fun vs H Q _ => ∃ (b l : Addr) (w : Nat) (ns : List Int), vs = [.ref b, .ref l] ∧ BenchAt D H b w ∧ Tap.Wd w ∧ SqL K H l (ns.map V.int) ∧ ok w ns ∧
  ∀ (H' : Hp) (q : Addr), H q = none → Same H H' → H' q = some (.lst ((r w ns).map V.int)) → Q (.ref q) H'

noncomputable def okOf (w : Nat) (ns : List Int) : Prop := ∃ z, ns = [z] ∧ -2 ^ 63 ≤ z ∧ z < 2 ^ 63
noncomputable def rOf (w : Nat) (ns : List Int) : List Int := [0, Tap.patOpt (some (ns.headD 0, 0)) w]
noncomputable abbrev st_of : Stmt := top 47
theorem sc_of : FnScope ["bench", "numbers"] ["bench", "numbers"] (defScope st_of) := ⟨rfl, rfl, rfl, by decide +kernel, rfl, by decide +kernel, by decide +kernel⟩
theorem ok_of {f : Addr} {fd : FuncData} (F : Fun K "of" "of" st_of f fd) (T : TxtB K mg D aW S) (hExact : KnC P w K mg base "Exact" C 1 ["self", "mantissa", "power"] (spExact C)) (h_Bench_pattern : KnM P w K mg base D "pattern" 5 ["self", "number"] (spPattern C D)) :
    FnOk P w K mg base CX0 6 f fd ["bench", "numbers"] (spAsk K D okOf rOf) := by
  refine F.ok sc_of (fun vs H Q E h => ?_) (fun cdv A outer s H vs Q E hr h => ?_)
  · obtain ⟨b, l, w, ns, rfl, _⟩ := h
    rfl
  · obtain ⟨b, l, w, ns, rfl, ⟨dx, tv, hb⟩, hw, hl, ⟨z, rfl, hz1, hz2⟩, k⟩ := h
    refine ⟨_, (pss_one (ps_ret (pe_lst (pa_cons (pe_globN T.DONE rfl) (pa_cons (me_methN (h_Bench_pattern) (hr.mono (by decide)) (mv 0) (pa_cons (pe_makeN (hExact) (hr.mono (by decide)) rfl (pa_cons (pe_ix m_ixI (mv 1) pe_int (fun _ _ => rfl)) (pa_cons pe_int pa_nil))) pa_nil)) pa_nil))))), ?_⟩
    dsimp only [tSeq, tIfS, tRet, tRetN, tAsg, gName, tB, mB, mCT, mC, mIsN, mNotN, mNotIn, tOp, tUn, mVar, tC, mI, mI0, mU, tOr, tAnd, tNot, tIf, tNext, tDrop, tCB, tCall, mBL, mMin, mMax, mAbs, mLen, tCons, tNil, mMeth, mFld, mFldI, mIxI, mIxL, mIxT, tSl, mSlL, mPart, tNoPart, tLst, tTup, tMake, sFld, mCallV, L2.start, d_map1, d_map0, d_app1, d_app0, d_set0, d_set1, d_get0, d_get1, d_len1, d_len0, d_rep0, d_rep1, Nat.reduceAdd, Nat.reduceSub, mtt, mff, d_nt, d_nf, cx_K]
    refine ⟨no_meth ⟨dx, tv, hb⟩ (by decide +kernel) (by decide +kernel), z, ⟨_, hl, at_of (j := 0) rfl rfl⟩, make_ex (Q := fun v H2 => spPattern C D [.ref b, v] H2 _ E0) fun H2 x hs hx => ?_⟩
    refine ⟨b, .ref x, some (z, 0), w, rfl, ⟨dx, tv, hs _ _ hb⟩, hw, ⟨x, rfl, hx⟩, fun e he => ?_, fun H3 hs3 => ⟨len_ok (by decide), fin_list k (hs.trans hs3)⟩⟩
    cases he
    refine ⟨?_, by show -(40000 : Int) ≤ 0; decide, by show (0 : Int) ≤ 40000; decide⟩
    have : Tap.bi z ≤ 64 := Tap.bi_le.mpr (by (first | lia | omega))
    show Tap.bi z ≤ 40000
    (first | lia | omega)

theorem all1 (a : Int) (w : Nat) : decide (∀ n ∈ [a], n.toNat < 2 ^ w) = decide (a.toNat < 2 ^ w) := by
  rw [decide_eq_decide]
  simp
theorem all2 (a b : Int) (w : Nat) : decide (∀ n ∈ [a, b], n.toNat < 2 ^ w) = decide (a.toNat < 2 ^ w ∧ b.toNat < 2 ^ w) := by
  rw [decide_eq_decide]
  simp
theorem all3 (a b c : Int) (w : Nat) : decide (∀ n ∈ [a, b, c], n.toNat < 2 ^ w) = decide (a.toNat < 2 ^ w ∧ b.toNat < 2 ^ w ∧ c.toNat < 2 ^ w) := by
  rw [decide_eq_decide]
  simp
theorem pos1 {a : Int} (h : 0 ≤ a) : ∀ n ∈ [a], 0 ≤ n := by simpa using h
theorem pos2 {a b : Int} (h : 0 ≤ a) (h2 : 0 ≤ b) : ∀ n ∈ [a, b], 0 ≤ n := by simpa using ⟨h, h2⟩
theorem pos3 {a b c : Int} (h : 0 ≤ a) (h2 : 0 ≤ b) (h3 : 0 ≤ c) : ∀ n ∈ [a, b, c], 0 ≤ n := by simpa using ⟨h, h2, h3⟩
theorem nat_int {a : Int} (h : 0 ≤ a) : V.int a = V.int (a.toNat : Int) := by rw [Int.toNat_of_nonneg h]
noncomputable def okWhole (w : Nat) (ns : List Int) : Prop := ∃ a, ns = [a] ∧ 0 ≤ a
noncomputable def rWhole (w : Nat) (ns : List Int) : List Int := if (ns.headD 0).toNat < 2 ^ w then [0, Tap.wholeM (Tap.num w (ns.headD 0).toNat)] else [-2]
noncomputable abbrev st_whole : Stmt := top 48
theorem sc_whole : FnScope ["bench", "numbers", "number", "result"] ["bench", "numbers"] (defScope st_whole) := ⟨rfl, rfl, rfl, by decide +kernel, rfl, by decide +kernel, by decide +kernel⟩
theorem ok_whole {f : Addr} {fd : FuncData} (F : Fun K "whole" "whole" st_whole f fd) (T : TxtB K mg D aW S) (h_Bench_are_patterns : KnM P w K mg base D "are_patterns" 1 ["self", "numbers"] (spArePat K D)) (h_Bench_number : KnM P w K mg base D "number" 5 ["self", "pattern"] (spNumber C D))
    (h_nearest_whole : Kn P w K mg base "nearest_whole" 2 ["a"] (spNwh C)) : FnOk P w K mg base CX0 6 f fd ["bench", "numbers"] (spAsk K D okWhole rWhole) := by
  refine F.ok sc_whole (fun vs H Q E h => ?_) (fun cdv A outer s H vs Q E hr h => ?_)
  · obtain ⟨b, l, w, ns, rfl, _⟩ := h
    rfl
  · obtain ⟨b, l, w, ns, rfl, ⟨dx, tv, hb⟩, hw, hl, ⟨a, rfl, ha0⟩, k⟩ := h
    refine ⟨_, (pss_cons (ps_if (pt_not (mt_val (me_methN (h_Bench_are_patterns) (hr.mono (by decide)) (mv 0) (pa_cons (mv 1) pa_nil)))) (pss_one (ps_ret (pe_lst (pa_cons (pe_globN T.REFUSED rfl) pa_nil)))) pss_nil)
      (pss_cons (ps_set (i := 2) sc_whole.nd rfl (Or.inl rfl) (me_methN (h_Bench_number) (hr.mono (by decide)) (mv 0) (pa_cons (pe_ix m_ixI (mv 1) pe_int (fun _ _ => rfl)) pa_nil)))
      (pss_cons (ps_if (pt_cmpM c_isN (mv 2) pe_non (nomark _)) (pss_one (ps_ret (pe_lst (pa_cons (pe_globN T.DONE rfl) (pa_cons (pe_globN T.OUTSIDE rfl) pa_nil))))) pss_nil)
      (pss_cons (ps_set (i := 3) sc_whole.nd rfl (Or.inl rfl) (pe_callN (h_nearest_whole) (hr.mono (by decide)) rfl (pa_cons (mv 2) pa_nil)))
      (pss_cons (ps_if (PW.pt (pw_or (pt_cmpM c_lt (mv 3) (pe_un m_neg (pe_globN T.OUTSIDE rfl)) (nomark _)) (pw_or1 (pt_cmpM c_ge (mv 3) (pe_globN T.OUTSIDE rfl) (nomark _))))) (pss_one (ps_ret (pe_lst (pa_cons (pe_globN T.DONE rfl) (pa_cons (pe_globN T.OUTSIDE rfl) pa_nil))))) pss_nil)
      (pss_one (ps_ret (pe_lst (pa_cons (pe_globN T.DONE rfl) (pa_cons (pe_op m_mod (mv 3) (pe_op m_mul pe_int (pe_globN T.OUTSIDE rfl))) pa_nil)))))))))), ?_⟩
    dsimp only [tSeq, tIfS, tRet, tRetN, tAsg, gName, tB, mB, mCT, mC, mIsN, mNotN, mNotIn, tOp, tUn, mVar, tC, mI, mI0, mU, tOr, tAnd, tNot, tIf, tNext, tDrop, tCB, tCall, mBL, mMin, mMax, mAbs, mLen, tCons, tNil, mMeth, mFld, mFldI, mIxI, mIxL, mIxT, tSl, mSlL, mPart, tNoPart, tLst, tTup, tMake, sFld, mCallV, L2.start, d_map1, d_map0, d_app1, d_app0, d_set0, d_set1, d_get0, d_get1, d_len1, d_len0, d_rep0, d_rep1, Nat.reduceAdd, Nat.reduceSub, mtt, mff, d_nt, d_nf, cx_K]
    refine ⟨no_meth ⟨dx, tv, hb⟩ (by decide +kernel) (by decide +kernel), b, l, w, [a], rfl, ⟨dx, tv, hb⟩, hl, Nat.succ_pos _, pos1 ha0, ?_⟩
    rw [all1]
    unfold rWhole at k
    by_cases h : a.toNat < 2 ^ w
    · rw [decide_eq_true h]
      dsimp only [mtt, mff, d_nt, d_nf]
      rw [if_pos (show ([a].headD 0).toNat < 2 ^ w from h)] at k
      refine ⟨no_meth ⟨dx, tv, hb⟩ (by decide +kernel) (by decide +kernel), a, ⟨_, hl, at_of (j := 0) rfl rfl⟩, b, a.toNat, w, by rw [nat_int ha0], ⟨dx, tv, hb⟩, hw, h, fun H1 v hs hv => ?_⟩
      dsimp only
      have k' : ∀ (H' : Hp) (q : Addr), H q = none → Same H H' → H' q = some (.lst [.int 0, .int (Tap.wholeM (Tap.num w a.toNat))]) → Q (.ref q) H' := k
      cases ho : Tap.num w a.toNat with
      | none =>
        rw [ho] at hv k'
        cases (show v = .non from hv)
        dsimp only [mtt, mff, d_nt, d_nf]
        rw [T.hS]
        exact ⟨len_ok (by decide), fin_list k' hs⟩
      | some e =>
        rw [ho] at hv k'
        obtain ⟨z, rfl, hz⟩ := hv
        dsimp only [mtt, mff, d_nt, d_nf]
        rw [T.hS]
        refine ⟨z, e, rfl, hz, (num_sm hw h e ho).mono (by decide), ?_⟩
        dsimp only
        unfold Tap.wholeM at k'
        dsimp only at k'
        by_cases h1 : Tap.nev e.1 e.2 < -2 ^ 63
        · rw [if_pos h1]
          rw [if_pos (Or.inl h1)] at k'
          exact ⟨len_ok (by decide), fin_list k' hs⟩
        · rw [if_neg h1]
          by_cases h2 : 2 ^ 63 ≤ Tap.nev e.1 e.2
          · rw [if_pos h2]
            rw [if_pos (Or.inr h2)] at k'
            exact ⟨len_ok (by decide), fin_list k' hs⟩
          · rw [if_neg h2]
            rw [if_neg (fun h => h.elim h1 h2)] at k'
            exact ⟨mul_of (by decide) (by decide), by decide, len_ok (by decide), fin_list k' hs⟩
    · rw [decide_eq_false h]
      dsimp only [mtt, mff, d_nt, d_nf]
      rw [if_neg (show ¬ ([a].headD 0).toNat < 2 ^ w from h)] at k
      exact ⟨len_ok (by decide), fin_list k (Same.refl H)⟩

noncomputable def okFma (w : Nat) (ns : List Int) : Prop := ∃ a b c, ns = [a, b, c] ∧ 0 ≤ a ∧ 0 ≤ b ∧ 0 ≤ c
noncomputable def rFma (w : Nat) (ns : List Int) : List Int := if (ns.getD 0 0).toNat < 2 ^ w ∧ (ns.getD 1 0).toNat < 2 ^ w ∧ (ns.getD 2 0).toNat < 2 ^ w then [0, Tap.patOpt (Tap.fmaM (Tap.num w (ns.getD 0 0).toNat) (Tap.num w (ns.getD 1 0).toNat) (Tap.num w (ns.getD 2 0).toNat)) w] else [-2]
noncomputable abbrev st_fma : Stmt := top 45
theorem sc_fma : FnScope ["bench", "numbers", "result"] ["bench", "numbers"] (defScope st_fma) := ⟨rfl, rfl, rfl, by decide +kernel, rfl, by decide +kernel, by decide +kernel⟩
theorem ok_fma {f : Addr} {fd : FuncData} (F : Fun K "fma" "fma" st_fma f fd) (T : TxtB K mg D aW S) (h_Bench_are_patterns : KnM P w K mg base D "are_patterns" 1 ["self", "numbers"] (spArePat K D)) (h_Bench_number : KnM P w K mg base D "number" 5 ["self", "pattern"] (spNumber C D))
    (h_Bench_pattern : KnM P w K mg base D "pattern" 5 ["self", "number"] (spPattern C D)) (h_multiply_add : Kn P w K mg base "multiply_add" 4 ["a", "b", "c"] (spMulAdd C)) : FnOk P w K mg base CX0 6 f fd ["bench", "numbers"] (spAsk K D okFma rFma) := by
  refine F.ok sc_fma (fun vs H Q E h => ?_) (fun cdv A outer s H vs Q E hr h => ?_)
  · obtain ⟨b, l, w, ns, rfl, _⟩ := h
    rfl
  · obtain ⟨b, l, w, ns, rfl, ⟨dx, tv, hb⟩, hw, hl, ⟨x, y, z, rfl, hx, hy, hz⟩, k⟩ := h
    refine ⟨_, (pss_cons (ps_if (pt_not (mt_val (me_methN (h_Bench_are_patterns) (hr.mono (by decide)) (mv 0) (pa_cons (mv 1) pa_nil)))) (pss_one (ps_ret (pe_lst (pa_cons (pe_globN T.REFUSED rfl) pa_nil)))) pss_nil)
      (pss_cons (ps_set (i := 2) sc_fma.nd rfl (Or.inl rfl) (pe_callN (h_multiply_add) (hr.mono (by decide)) rfl (pa_cons (me_methN (h_Bench_number) (hr.mono (by decide)) (mv 0) (pa_cons (pe_ix m_ixI (mv 1) pe_int (fun _ _ => rfl)) pa_nil)) (pa_cons (me_methN (h_Bench_number) (hr.mono (by decide)) (mv 0) (pa_cons (pe_ix m_ixI (mv 1) pe_int (fun _ _ => rfl)) pa_nil)) (pa_cons (me_methN (h_Bench_number) (hr.mono (by decide)) (mv 0) (pa_cons (pe_ix m_ixI (mv 1) pe_int (fun _ _ => rfl)) pa_nil)) pa_nil)))))
      (pss_one (ps_ret (pe_lst (pa_cons (pe_globN T.DONE rfl) (pa_cons (me_methN (h_Bench_pattern) (hr.mono (by decide)) (mv 0) (pa_cons (mv 2) pa_nil)) pa_nil))))))), ?_⟩
    dsimp only [tSeq, tIfS, tRet, tRetN, tAsg, gName, tB, mB, mCT, mC, mIsN, mNotN, mNotIn, tOp, tUn, mVar, tC, mI, mI0, mU, tOr, tAnd, tNot, tIf, tNext, tDrop, tCB, tCall, mBL, mMin, mMax, mAbs, mLen, tCons, tNil, mMeth, mFld, mFldI, mIxI, mIxL, mIxT, tSl, mSlL, mPart, tNoPart, tLst, tTup, tMake, sFld, mCallV, L2.start, d_map1, d_map0, d_app1, d_app0, d_set0, d_set1, d_get0, d_get1, d_len1, d_len0, d_rep0, d_rep1, Nat.reduceAdd, Nat.reduceSub, mtt, mff, d_nt, d_nf, cx_K]
    refine ⟨no_meth ⟨dx, tv, hb⟩ (by decide +kernel) (by decide +kernel), b, l, w, [x, y, z], rfl, ⟨dx, tv, hb⟩, hl, Nat.succ_pos _, pos3 hx hy hz, ?_⟩
    rw [all3]
    unfold rFma at k
    by_cases h : x.toNat < 2 ^ w ∧ y.toNat < 2 ^ w ∧ z.toNat < 2 ^ w
    · rw [decide_eq_true h]
      dsimp only [mtt, mff, d_nt, d_nf]
      rw [if_pos (show ([x, y, z].getD 0 0).toNat < 2 ^ w ∧ ([x, y, z].getD 1 0).toNat < 2 ^ w ∧ ([x, y, z].getD 2 0).toNat < 2 ^ w from h)] at k
      obtain ⟨g1, g2, g3⟩ := h
      refine ⟨no_meth ⟨dx, tv, hb⟩ (by decide +kernel) (by decide +kernel), x, ⟨_, hl, at_of (j := 0) rfl rfl⟩, b, x.toNat, w, by rw [nat_int hx], ⟨dx, tv, hb⟩, hw, g1, fun H1 v1 s1 e1 => ?_⟩
      refine ⟨no_meth ⟨dx, tv, s1 _ _ hb⟩ (by decide +kernel) (by decide +kernel), y, ⟨_, s1.seq hl, at_of (j := 1) rfl rfl⟩, b, y.toNat, w, by rw [nat_int hy], ⟨dx, tv, s1 _ _ hb⟩, hw, g2, fun H2 v2 s2 e2 => ?_⟩
      have s12 := s1.trans s2
      refine ⟨no_meth ⟨dx, tv, s12 _ _ hb⟩ (by decide +kernel) (by decide +kernel), z, ⟨_, s12.seq hl, at_of (j := 2) rfl rfl⟩, b, z.toNat, w, by rw [nat_int hz], ⟨dx, tv, s12 _ _ hb⟩, hw, g3, fun H3 v3 s3 e3 => ?_⟩
      have s13 := s12.trans s3
      refine ⟨v1, v2, v3, _, _, _, rfl, (e1.same s2).same s3, e2.same s3, e3, num_sm hw g1, num_sm hw g2, fun e he => (num_sm hw g3 e he).mono (by decide), fun H4 v4 s4 e4 => ?_⟩
      have s14 := s13.trans s4
      refine ⟨no_meth ⟨dx, tv, s14 _ _ hb⟩ (by decide +kernel) (by decide +kernel), b, v4, _, w, rfl, ⟨dx, tv, s14 _ _ hb⟩, hw, e4, fun e he => ?_, fun H5 s5 => ⟨len_ok (by decide), fin_list k (s14.trans s5)⟩⟩
      exact fma_sm (num_sm hw g1) (num_sm hw g2) (num_sm hw g3) e he
    · rw [decide_eq_false h]
      dsimp only [mtt, mff, d_nt, d_nf]
      rw [if_neg (show ¬ (([x, y, z].getD 0 0).toNat < 2 ^ w ∧ ([x, y, z].getD 1 0).toNat < 2 ^ w ∧ ([x, y, z].getD 2 0).toNat < 2 ^ w) from h)] at k
      exact ⟨len_ok (by decide), fin_list k (Same.refl H)⟩
noncomputable def okOp (w : Nat) (ns : List Int) : Prop := ∃ p a b, ns = [p, a, b] ∧ 0 ≤ a ∧ 0 ≤ b
noncomputable def rOp (w : Nat) (ns : List Int) : List Int := if 0 ≤ ns.getD 0 0 ∧ ns.getD 0 0 < 6 ∧ (ns.getD 1 0).toNat < 2 ^ w ∧ (ns.getD 2 0).toNat < 2 ^ w then [0, Tap.patOpt (Tap.opM (ns.getD 0 0).toNat (Tap.num w (ns.getD 1 0).toNat) (Tap.num w (ns.getD 2 0).toNat)) w] else [-2]
noncomputable abbrev st_op : Stmt := top 44
theorem sc_op : FnScope ["bench", "numbers", "choice", "result"] ["bench", "numbers"] (defScope st_op) := ⟨rfl, rfl, rfl, by decide +kernel, rfl, by decide +kernel, by decide +kernel⟩
theorem ok_op {f : Addr} {fd : FuncData} (F : Fun K "op" "op" st_op f fd) (T : TxtB K mg D aW S) (h_Bench_are_patterns : KnM P w K mg base D "are_patterns" 1 ["self", "numbers"] (spArePat K D)) (h_Bench_number : KnM P w K mg base D "number" 5 ["self", "pattern"] (spNumber C D))
    (h_Bench_pattern : KnM P w K mg base D "pattern" 5 ["self", "number"] (spPattern C D)) (h_is_operation : Kn P w K mg base "is_operation" 1 ["choice"] spIsOp) (h_operate : Kn P w K mg base "operate" 5 ["choice", "a", "b"] (spOper C)) :
    FnOk P w K mg base CX0 6 f fd ["bench", "numbers"] (spAsk K D okOp rOp) := by
  refine F.ok sc_op (fun vs H Q E h => ?_) (fun cdv A outer s H vs Q E hr h => ?_)
  · obtain ⟨b, l, w, ns, rfl, _⟩ := h
    rfl
  · obtain ⟨b, l, w, ns, rfl, ⟨dx, tv, hb⟩, hw, hl, ⟨p, x, y, rfl, hx, hy⟩, k⟩ := h
    refine ⟨_, (pss_cons (ps_set (i := 2) sc_op.nd rfl (Or.inl rfl) (pe_ix m_ixI (mv 1) pe_int (fun _ _ => rfl)))
      (pss_cons (ps_if (PW.pt (pw_or (pt_not (mt_val (pe_callN (h_is_operation) (hr.mono (by decide)) rfl (pa_cons (mv 2) pa_nil)))) (pw_or1 (pt_not (mt_val (me_methN (h_Bench_are_patterns) (hr.mono (by decide)) (mv 0) (pa_cons (pe_slice m_slL (mv 1) (mpo_some pe_int) po_none) pa_nil))))))) (pss_one (ps_ret (pe_lst (pa_cons (pe_globN T.REFUSED rfl) pa_nil)))) pss_nil)
      (pss_cons (ps_set (i := 3) sc_op.nd rfl (Or.inl rfl) (pe_callN (h_operate) (hr.mono (by decide)) rfl (pa_cons (mv 2) (pa_cons (me_methN (h_Bench_number) (hr.mono (by decide)) (mv 0) (pa_cons (pe_ix m_ixI (mv 1) pe_int (fun _ _ => rfl)) pa_nil)) (pa_cons (me_methN (h_Bench_number) (hr.mono (by decide)) (mv 0) (pa_cons (pe_ix m_ixI (mv 1) pe_int (fun _ _ => rfl)) pa_nil)) pa_nil)))))
      (pss_one (ps_ret (pe_lst (pa_cons (pe_globN T.DONE rfl) (pa_cons (me_methN (h_Bench_pattern) (hr.mono (by decide)) (mv 0) (pa_cons (mv 3) pa_nil)) pa_nil)))))))), ?_⟩
    dsimp only [tSeq, tIfS, tRet, tRetN, tAsg, gName, tB, mB, mCT, mC, mIsN, mNotN, mNotIn, tOp, tUn, mVar, tC, mI, mI0, mU, tOr, tAnd, tNot, tIf, tNext, tDrop, tCB, tCall, mBL, mMin, mMax, mAbs, mLen, tCons, tNil, mMeth, mFld, mFldI, mIxI, mIxL, mIxT, tSl, mSlL, mPart, tNoPart, tLst, tTup, tMake, sFld, mCallV, L2.start, d_map1, d_map0, d_app1, d_app0, d_set0, d_set1, d_get0, d_get1, d_len1, d_len0, d_rep0, d_rep1, Nat.reduceAdd, Nat.reduceSub, mtt, mff, d_nt, d_nf, cx_K]
    refine ⟨p, ⟨_, hl, at_of (j := 0) rfl rfl⟩, p, rfl, ?_⟩
    unfold rOp at k
    by_cases hp : 0 ≤ p ∧ p < 6
    · rw [decide_eq_true hp]
      dsimp only [mtt, mff, d_nt, d_nf]
      refine ⟨no_meth ⟨dx, tv, hb⟩ (by decide +kernel) (by decide +kernel), _, hl, fun q hq => ?_⟩
      have s0 : Same H (upd H q (.lst [.int x, .int y])) := same_new hq
      refine ⟨b, q, w, [x, y], rfl, ⟨dx, tv, s0 _ _ hb⟩, SqL.of upd_same, Nat.succ_pos _, pos2 hx hy, ?_⟩
      rw [all2]
      by_cases h : x.toNat < 2 ^ w ∧ y.toNat < 2 ^ w
      · rw [decide_eq_true h]
        dsimp only [mtt, mff, d_nt, d_nf]
        rw [if_pos (show 0 ≤ [p, x, y].getD 0 0 ∧ [p, x, y].getD 0 0 < 6 ∧ ([p, x, y].getD 1 0).toNat < 2 ^ w ∧ ([p, x, y].getD 2 0).toNat < 2 ^ w from ⟨hp.1, hp.2, h⟩)] at k
        obtain ⟨g1, g2⟩ := h
        refine ⟨no_meth ⟨dx, tv, s0 _ _ hb⟩ (by decide +kernel) (by decide +kernel), x, ⟨_, s0.seq hl, at_of (j := 1) rfl rfl⟩, b, x.toNat, w, by rw [nat_int hx], ⟨dx, tv, s0 _ _ hb⟩, hw, g1, fun H1 v1 s1 e1 => ?_⟩
        have s01 := s0.trans s1
        refine ⟨no_meth ⟨dx, tv, s01 _ _ hb⟩ (by decide +kernel) (by decide +kernel), y, ⟨_, s01.seq hl, at_of (j := 2) rfl rfl⟩, b, y.toNat, w, by rw [nat_int hy], ⟨dx, tv, s01 _ _ hb⟩, hw, g2, fun H2 v2 s2 e2 => ?_⟩
        have s02 := s01.trans s2
        refine ⟨p, v1, v2, _, _, rfl, hp.1, hp.2, e1.same s2, e2, num_sm hw g1, num_sm hw g2, fun H4 v4 s4 e4 => ?_⟩
        have s14 := s02.trans s4
        refine ⟨no_meth ⟨dx, tv, s14 _ _ hb⟩ (by decide +kernel) (by decide +kernel), b, v4, _, w, rfl, ⟨dx, tv, s14 _ _ hb⟩, hw, e4, fun e he => ?_, fun H5 s5 => ⟨len_ok (by decide), fin_list k (s14.trans s5)⟩⟩
        exact op_sm (num_sm hw g1) (num_sm hw g2) e he
      · rw [decide_eq_false h]
        dsimp only [mtt, mff, d_nt, d_nf]
        rw [if_neg (show ¬ (0 ≤ [p, x, y].getD 0 0 ∧ [p, x, y].getD 0 0 < 6 ∧ ([p, x, y].getD 1 0).toNat < 2 ^ w ∧ ([p, x, y].getD 2 0).toNat < 2 ^ w) from fun h' => h h'.2.2)] at k
        exact ⟨len_ok (by decide), fin_list k s0⟩
    · rw [decide_eq_false hp]
      dsimp only [mtt, mff, d_nt, d_nf]
      rw [if_neg (show ¬ (0 ≤ [p, x, y].getD 0 0 ∧ [p, x, y].getD 0 0 < 6 ∧ ([p, x, y].getD 1 0).toNat < 2 ^ w ∧ ([p, x, y].getD 2 0).toNat < 2 ^ w) from fun h' => hp ⟨h'.1, h'.2.1⟩)] at k
      exact ⟨len_ok (by decide), fin_list k (Same.refl H)⟩
noncomputable def okOrder (w : Nat) (ns : List Int) : Prop := ∃ a b, ns = [a, b] ∧ 0 ≤ a ∧ 0 ≤ b
noncomputable def rOrder (w : Nat) (ns : List Int) : List Int := if (ns.getD 0 0).toNat < 2 ^ w ∧ (ns.getD 1 0).toNat < 2 ^ w then [Tap.ordM (Si06.signed w (ns.getD 0 0).toNat) (Si06.signed w (ns.getD 1 0).toNat)] else [-2]
noncomputable abbrev st_order : Stmt := top 46
theorem sc_order : FnScope ["bench", "numbers", "a", "b"] ["bench", "numbers"] (defScope st_order) := ⟨rfl, rfl, rfl, by decide +kernel, rfl, by decide +kernel, by decide +kernel⟩
theorem ok_order {f : Addr} {fd : FuncData} (F : Fun K "order" "order" st_order f fd) (T : TxtB K mg D aW S) (h_Bench_are_patterns : KnM P w K mg base D "are_patterns" 1 ["self", "numbers"] (spArePat K D)) (h_signed : Kn P w K mg base "signed" 1 ["pattern", "width"] spSigned) :
    FnOk P w K mg base CX0 2 f fd ["bench", "numbers"] (spAsk K D okOrder rOrder) := by
  refine F.ok sc_order (fun vs H Q E h => ?_) (fun cdv A outer s H vs Q E hr h => ?_)
  · obtain ⟨b, l, w, ns, rfl, _⟩ := h
    rfl
  · obtain ⟨b, l, w, ns, rfl, ⟨dx, tv, hb⟩, hw, hl, ⟨x, y, rfl, hx, hy⟩, k⟩ := h
    refine ⟨_, (pss_cons (ps_if (pt_not (mt_val (me_methN (h_Bench_are_patterns) (hr.mono (by decide)) (mv 0) (pa_cons (mv 1) pa_nil)))) (pss_one (ps_ret (pe_lst (pa_cons (pe_globN T.REFUSED rfl) pa_nil)))) pss_nil)
      (pss_cons (ps_set (i := 2) sc_order.nd rfl (Or.inl rfl) (pe_callN (h_signed) (hr.mono (by decide)) rfl (pa_cons (pe_ix m_ixI (mv 1) pe_int (fun _ _ => rfl)) (pa_cons (me_fldI (mv 0) rfl) pa_nil))))
      (pss_cons (ps_set (i := 3) sc_order.nd rfl (Or.inl rfl) (pe_callN (h_signed) (hr.mono (by decide)) rfl (pa_cons (pe_ix m_ixI (mv 1) pe_int (fun _ _ => rfl)) (pa_cons (me_fldI (mv 0) rfl) pa_nil))))
      (pss_cons (ps_if (pt_cmpM c_eq (mv 2) (mv 3) (nomark _)) (pss_one (ps_ret (pe_lst (pa_cons pe_int pa_nil)))) pss_nil)
      (pss_one (ps_ret (pe_ifExp (pt_cmpM c_lt (mv 2) (mv 3) (nomark _)) (pe_lst (pa_cons (pe_un m_neg pe_int) pa_nil)) (pe_lst (pa_cons pe_int pa_nil))))))))), ?_⟩
    dsimp only [tSeq, tIfS, tRet, tRetN, tAsg, gName, tB, mB, mCT, mC, mIsN, mNotN, mNotIn, tOp, tUn, mVar, tC, mI, mI0, mU, tOr, tAnd, tNot, tIf, tNext, tDrop, tCB, tCall, mBL, mMin, mMax, mAbs, mLen, tCons, tNil, mMeth, mFld, mFldI, mIxI, mIxL, mIxT, tSl, mSlL, mPart, tNoPart, tLst, tTup, tMake, sFld, mCallV, L2.start, d_map1, d_map0, d_app1, d_app0, d_set0, d_set1, d_get0, d_get1, d_len1, d_len0, d_rep0, d_rep1, Nat.reduceAdd, Nat.reduceSub, mtt, mff, d_nt, d_nf, cx_K]
    refine ⟨no_meth ⟨dx, tv, hb⟩ (by decide +kernel) (by decide +kernel), b, l, w, [x, y], rfl, ⟨dx, tv, hb⟩, hl, Nat.succ_pos _, pos2 hx hy, ?_⟩
    rw [all2]
    unfold rOrder at k
    by_cases h : x.toNat < 2 ^ w ∧ y.toNat < 2 ^ w
    · rw [decide_eq_true h]
      dsimp only [mtt, mff, d_nt, d_nf]
      rw [if_pos (show ([x, y].getD 0 0).toNat < 2 ^ w ∧ ([x, y].getD 1 0).toNat < 2 ^ w from h)] at k
      obtain ⟨g1, g2⟩ := h
      refine ⟨x, ⟨_, hl, at_of (j := 0) rfl rfl⟩, _, BenchAt.fw ⟨dx, tv, hb⟩ T, ?_⟩
      refine ⟨x.toNat, w, by rw [nat_int hx], hw.lo, hw.hi, g1, ?_⟩
      refine ⟨y, ⟨_, hl, at_of (j := 1) rfl rfl⟩, _, BenchAt.fw ⟨dx, tv, hb⟩ T, y.toNat, w, by rw [nat_int hy], hw.lo, hw.hi, g2, ?_⟩
      dsimp only
      have k' : ∀ (H' : Hp) (q : Addr), H q = none → Same H H' → H' q = some (.lst [.int (Tap.ordM (Si06.signed w x.toNat) (Si06.signed w y.toNat))]) → Q (.ref q) H' := k
      unfold Tap.ordM at k'
      generalize Si06.signed w x.toNat = u at *
      generalize Si06.signed w y.toNat = v at *
      by_cases h1 : u = v
      · rw [if_pos h1]
        rw [if_pos h1] at k'
        exact ⟨len_ok (by decide), fin_list k' (Same.refl H)⟩
      · rw [if_neg h1]
        rw [if_neg h1] at k'
        by_cases h2 : u < v
        · rw [if_pos h2] at k' ⊢
          exact ⟨len_ok (by decide), fin_list k' (Same.refl H)⟩
        · rw [if_neg h2] at k' ⊢
          exact ⟨len_ok (by decide), fin_list k' (Same.refl H)⟩
    · rw [decide_eq_false h]
      dsimp only [mtt, mff, d_nt, d_nf]
      rw [if_neg (show ¬ (([x, y].getD 0 0).toNat < 2 ^ w ∧ ([x, y].getD 1 0).toNat < 2 ^ w) from h)] at k
      exact ⟨len_ok (by decide), fin_list k (Same.refl H)⟩
theorem in_w (v : Int) : inV (.int v) [.int 8, .int 16, .int 32, .int 64] = decide (v ∈ Si06.widths) := by
  rw [Bool.eq_iff_iff, decide_eq_true_iff, Tap.mem_widths]
  unfold inV
  simp only [List.any_cons, List.any_nil, Bool.or_false, Bool.or_eq_true, eqV, beq_iff_eq, decide_eq_true_eq]
  (first | lia | omega)
theorem in_01 (v : Int) : inV (.int v) [.int 0, .int 1] = decide (v = 0 ∨ v = 1) := by
  rw [Bool.eq_iff_iff, decide_eq_true_iff]
  unfold inV
  simp only [List.any_cons, List.any_nil, Bool.or_false, Bool.or_eq_true, eqV, beq_iff_eq, decide_eq_true_eq]
  (first | lia | omega)
/-- a call that may set the bench's width and sum; r: its answer -/
noncomputable def spBegin (K : PySem.W.Frag) (D C : Addr) : Sp := fun vs H Q _ => ∃ (b l : Addr) (w : Int) (v : Int), vs = [.ref b, .ref l] ∧ BenchAt D H b w ∧ SqL K H l [.int v] ∧
  (v ∉ Si06.widths → ∀ (H' : Hp) (q : Addr), H q = none → Same H H' → H' q = some (.lst [.int (-2)]) → Q (.ref q) H') ∧
  (v ∈ Si06.widths → ∀ (H' : Hp) (q z : Addr), H q = none → Keep H H' b → BenchV D H' b v (.ref z) → ExAt C H' z (0, 0) → H' q = some (.lst [.int 0]) → Q (.ref q) H')
noncomputable abbrev st_begin : Stmt := top 43
theorem sc_begin : FnScope ["bench", "numbers"] ["bench", "numbers"] (defScope st_begin) := ⟨rfl, rfl, rfl, by decide +kernel, rfl, by decide +kernel, by decide +kernel⟩
theorem ok_begin {f : Addr} {fd : FuncData} (F : Fun K "begin" "begin" st_begin f fd) (T : TxtB K mg D aW S) (h_zero : Kn P w K mg base "zero" 3 [] (spZero C)) : FnOk P w K mg base CX0 4 f fd ["bench", "numbers"] (spBegin K D C) := by
  refine F.ok sc_begin (fun vs H Q E h => ?_) (fun cdv A outer s H vs Q E hr h => ?_)
  · obtain ⟨b, l, w, v, rfl, _⟩ := h
    rfl
  · obtain ⟨b, l, w, v, rfl, ⟨dx, tv, hb⟩, hl, k1, k2⟩ := h
    refine ⟨_, (pss_cons (ps_if (pt_cmpM c_notIn (pe_ix m_ixI (mv 1) pe_int (fun _ _ => rfl)) (pe_globN T.WIDTHS rfl) rfl) (pss_one (ps_ret (pe_lst (pa_cons (pe_globN T.REFUSED rfl) pa_nil)))) pss_nil)
      (pss_cons (ps_fld (mv 0) (pe_ix m_ixI (mv 1) pe_int (fun _ _ => rfl)) rfl)
      (pss_cons (ps_fld (mv 0) (pe_callN0 (h_zero) (hr.mono (by decide)) rfl) rfl)
      (pss_one (ps_ret (pe_lst (pa_cons (pe_globN T.DONE rfl) pa_nil))))))), ?_⟩
    dsimp only [tSeq, tIfS, tRet, tRetN, tAsg, gName, tB, mB, mCT, mC, mIsN, mNotN, mNotIn, tOp, tUn, mVar, tC, mI, mI0, mU, tOr, tAnd, tNot, tIf, tNext, tDrop, tCB, tCall, mBL, mMin, mMax, mAbs, mLen, tCons, tNil, mMeth, mFld, mFldI, mIxI, mIxL, mIxT, tSl, mSlL, mPart, tNoPart, tLst, tTup, tMake, sFld, mCallV, L2.start, d_map1, d_map0, d_app1, d_app0, d_set0, d_set1, d_get0, d_get1, d_len1, d_len0, d_rep0, d_rep1, Nat.reduceAdd, Nat.reduceSub, mtt, mff, d_nt, d_nf, cx_K]
    refine ⟨v, ⟨_, hl, at_of (j := 0) rfl rfl⟩, _, ⟨.inr (T.wd H), rfl, rfl⟩, ?_⟩
    rw [in_w]
    by_cases hv : v ∈ Si06.widths
    · rw [decide_eq_true hv]
      dsimp only [mtt, mff, d_nt, d_nf]
      refine ⟨v, ⟨_, hl, at_of (j := 0) rfl rfl⟩, b, D, dx, _, rfl, hb, T.cl, T.nW, bf_len _ _, ?_⟩
      rw [bf_put_w]
      refine ⟨rfl, fun H1 z hs hz => ⟨b, D, dx, _, rfl, hs _ _ upd_same, T.cl, T.nT, bf_len _ _, len_ok (by decide), fun q hq => ?_⟩⟩
      rw [bf_put_t] at hq ⊢
      obtain ⟨g1, g2, g3, g4⟩ := tally_set (H := H) (C := C) (e := some (0, 0)) (r := [.int 0]) (fun x o e hx => by rw [upd_ne hx]; exact e) (fun x h => (upd_none h).2) hs upd_same ⟨z, rfl, hz⟩ hq
      obtain ⟨z', ez, hz'⟩ := g4
      cases ez
      exact k2 hv _ q z g1 g2 g3 hz' upd_same
    · rw [decide_eq_false hv]
      dsimp only [mtt, mff, d_nt, d_nf]
      exact ⟨len_ok (by decide), fin_list (k1 hv) (Same.refl H)⟩
noncomputable def spClear (K : PySem.W.Frag) (D C : Addr) : Sp := fun vs H Q _ => ∃ (b l : Addr) (w : Int), vs = [.ref b, .ref l] ∧ BenchAt D H b w ∧
  (∀ (H' : Hp) (q z : Addr), H q = none → Keep H H' b → BenchV D H' b w (.ref z) → ExAt C H' z (0, 0) → H' q = some (.lst [.int 0]) → Q (.ref q) H')
noncomputable abbrev st_clear : Stmt := top 52
theorem sc_clear : FnScope ["bench", "numbers"] ["bench", "numbers"] (defScope st_clear) := ⟨rfl, rfl, rfl, by decide +kernel, rfl, by decide +kernel, by decide +kernel⟩
theorem ok_clear {f : Addr} {fd : FuncData} (F : Fun K "clear" "clear" st_clear f fd) (T : TxtB K mg D aW S) (h_zero : Kn P w K mg base "zero" 3 [] (spZero C)) : FnOk P w K mg base CX0 4 f fd ["bench", "numbers"] (spClear K D C) := by
  refine F.ok sc_clear (fun vs H Q E h => ?_) (fun cdv A outer s H vs Q E hr h => ?_)
  · obtain ⟨b, l, w, rfl, _⟩ := h
    rfl
  · obtain ⟨b, l, w, rfl, ⟨dx, tv, hb⟩, k⟩ := h
    refine ⟨_, (pss_cons (ps_fld (mv 0) (pe_callN0 (h_zero) (hr.mono (by decide)) rfl) rfl)
      (pss_one (ps_ret (pe_lst (pa_cons (pe_globN T.DONE rfl) pa_nil))))), ?_⟩
    dsimp only [tSeq, tIfS, tRet, tRetN, tAsg, gName, tB, mB, mCT, mC, mIsN, mNotN, mNotIn, tOp, tUn, mVar, tC, mI, mI0, mU, tOr, tAnd, tNot, tIf, tNext, tDrop, tCB, tCall, mBL, mMin, mMax, mAbs, mLen, tCons, tNil, mMeth, mFld, mFldI, mIxI, mIxL, mIxT, tSl, mSlL, mPart, tNoPart, tLst, tTup, tMake, sFld, mCallV, L2.start, d_map1, d_map0, d_app1, d_app0, d_set0, d_set1, d_get0, d_get1, d_len1, d_len0, d_rep0, d_rep1, Nat.reduceAdd, Nat.reduceSub, mtt, mff, d_nt, d_nf, cx_K]
    refine ⟨rfl, fun H1 z hs hz => ⟨b, D, dx, _, rfl, hs _ _ hb, T.cl, T.nT, bf_len _ _, len_ok (by decide), fun q hq => ?_⟩⟩
    rw [bf_put_t] at hq ⊢
    obtain ⟨g1, g2, g3, g4⟩ := tally_set (H := H) (C := C) (e := some (0, 0)) (r := [.int 0]) (Keep.of (Same.refl H)) (fun _ h => h) hs hb ⟨z, rfl, hz⟩ hq
    obtain ⟨z', ez, hz'⟩ := g4
    cases ez
    exact k _ q z g1 g2 g3 hz' upd_same
noncomputable def spTotal (K : PySem.W.Frag) (D C : Addr) : Sp := fun vs H Q _ => ∃ (b l : Addr) (w : Nat) (tv : V) (o : Option Tap.E), vs = [.ref b, .ref l] ∧ BenchV D H b w tv ∧ Tap.Wd w ∧ OEx C H tv o ∧ (∀ e, o = some e → Sm 40000 e) ∧
  (∀ (H' : Hp) (q : Addr), H q = none → Same H H' → H' q = some (.lst [.int 0, .int (Tap.patOpt o w)]) → Q (.ref q) H')
noncomputable abbrev st_total : Stmt := top 54
theorem sc_total : FnScope ["bench", "numbers"] ["bench", "numbers"] (defScope st_total) := ⟨rfl, rfl, rfl, by decide +kernel, rfl, by decide +kernel, by decide +kernel⟩
theorem ok_total {f : Addr} {fd : FuncData} (F : Fun K "total" "total" st_total f fd) (T : TxtB K mg D aW S) (h_Bench_pattern : KnM P w K mg base D "pattern" 5 ["self", "number"] (spPattern C D)) :
    FnOk P w K mg base CX0 6 f fd ["bench", "numbers"] (spTotal K D C) := by
  refine F.ok sc_total (fun vs H Q E h => ?_) (fun cdv A outer s H vs Q E hr h => ?_)
  · obtain ⟨b, l, w, tv, o, rfl, _⟩ := h
    rfl
  · obtain ⟨b, l, w, tv, o, rfl, ⟨dx, hb⟩, hw, ho, hs, k⟩ := h
    refine ⟨_, (pss_one (ps_ret (pe_lst (pa_cons (pe_globN T.DONE rfl) (pa_cons (me_methN (h_Bench_pattern) (hr.mono (by decide)) (mv 0) (pa_cons (me_fld (mv 0) rfl) pa_nil)) pa_nil))))), ?_⟩
    dsimp only [tSeq, tIfS, tRet, tRetN, tAsg, gName, tB, mB, mCT, mC, mIsN, mNotN, mNotIn, tOp, tUn, mVar, tC, mI, mI0, mU, tOr, tAnd, tNot, tIf, tNext, tDrop, tCB, tCall, mBL, mMin, mMax, mAbs, mLen, tCons, tNil, mMeth, mFld, mFldI, mIxI, mIxL, mIxT, tSl, mSlL, mPart, tNoPart, tLst, tTup, tMake, sFld, mCallV, L2.start, d_map1, d_map0, d_app1, d_app0, d_set0, d_set1, d_get0, d_get1, d_len1, d_len0, d_rep0, d_rep1, Nat.reduceAdd, Nat.reduceSub, mtt, mff, d_nt, d_nf, cx_K]
    exact ⟨no_meth ⟨dx, tv, hb⟩ (by decide +kernel) (by decide +kernel), _, BenchV.ft ⟨dx, hb⟩ T, b, tv, o, w, rfl, ⟨dx, tv, hb⟩, hw, ho, hs, fun H1 hs1 => ⟨len_ok (by decide), fin_list k hs1⟩⟩
noncomputable def okPass (w : Nat) (ns : List Int) : Prop := ∃ v a, ns = [v, a] ∧ 0 ≤ a
noncomputable def rPass (w : Nat) (ns : List Int) : List Int := if ns.getD 0 0 ∈ Si06.widths ∧ (ns.getD 1 0).toNat < 2 ^ w then [0, Tap.patOpt (Tap.num w (ns.getD 1 0).toNat) (ns.getD 0 0).toNat] else [-2]
noncomputable abbrev st_pass_to : Stmt := top 49
theorem sc_pass_to : FnScope ["bench", "numbers", "width"] ["bench", "numbers"] (defScope st_pass_to) := ⟨rfl, rfl, rfl, by decide +kernel, rfl, by decide +kernel, by decide +kernel⟩
theorem ok_pass_to {f : Addr} {fd : FuncData} (F : Fun K "pass_to" "pass_to" st_pass_to f fd) (T : TxtB K mg D aW S) (h_Bench_are_patterns : KnM P w K mg base D "are_patterns" 1 ["self", "numbers"] (spArePat K D)) (h_Bench_number : KnM P w K mg base D "number" 5 ["self", "pattern"] (spNumber C D))
    (h_pattern_of : Kn P w K mg base "pattern_of" 4 ["number", "width"] (spPatOf C)) : FnOk P w K mg base CX0 6 f fd ["bench", "numbers"] (spAsk K D okPass rPass) := by
  refine F.ok sc_pass_to (fun vs H Q E h => ?_) (fun cdv A outer s H vs Q E hr h => ?_)
  · obtain ⟨b, l, w, ns, rfl, _⟩ := h
    rfl
  · obtain ⟨b, l, w, ns, rfl, ⟨dx, tv, hb⟩, hw, hl, ⟨v, x, rfl, hx⟩, k⟩ := h
    refine ⟨_, (pss_cons (ps_set (i := 2) sc_pass_to.nd rfl (Or.inl rfl) (pe_ix m_ixI (mv 1) pe_int (fun _ _ => rfl)))
      (pss_cons (ps_if (PW.pt (pw_or (pt_cmpM c_notIn (mv 2) (pe_globN T.WIDTHS rfl) rfl) (pw_or1 (pt_not (mt_val (me_methN (h_Bench_are_patterns) (hr.mono (by decide)) (mv 0) (pa_cons (pe_slice m_slL (mv 1) (mpo_some pe_int) po_none) pa_nil))))))) (pss_one (ps_ret (pe_lst (pa_cons (pe_globN T.REFUSED rfl) pa_nil)))) pss_nil)
      (pss_one (ps_ret (pe_lst (pa_cons (pe_globN T.DONE rfl) (pa_cons (pe_callN (h_pattern_of) (hr.mono (by decide)) rfl (pa_cons (me_methN (h_Bench_number) (hr.mono (by decide)) (mv 0) (pa_cons (pe_ix m_ixI (mv 1) pe_int (fun _ _ => rfl)) pa_nil)) (pa_cons (mv 2) pa_nil))) pa_nil))))))), ?_⟩
    dsimp only [tSeq, tIfS, tRet, tRetN, tAsg, gName, tB, mB, mCT, mC, mIsN, mNotN, mNotIn, tOp, tUn, mVar, tC, mI, mI0, mU, tOr, tAnd, tNot, tIf, tNext, tDrop, tCB, tCall, mBL, mMin, mMax, mAbs, mLen, tCons, tNil, mMeth, mFld, mFldI, mIxI, mIxL, mIxT, tSl, mSlL, mPart, tNoPart, tLst, tTup, tMake, sFld, mCallV, L2.start, d_map1, d_map0, d_app1, d_app0, d_set0, d_set1, d_get0, d_get1, d_len1, d_len0, d_rep0, d_rep1, Nat.reduceAdd, Nat.reduceSub, mtt, mff, d_nt, d_nf, cx_K]
    refine ⟨v, ⟨_, hl, at_of (j := 0) rfl rfl⟩, _, ⟨.inr (T.wd H), rfl, rfl⟩, ?_⟩
    rw [in_w]
    unfold rPass at k
    by_cases hv : v ∈ Si06.widths
    · rw [decide_eq_true hv]
      dsimp only [mtt, mff, d_nt, d_nf]
      refine ⟨no_meth ⟨dx, tv, hb⟩ (by decide +kernel) (by decide +kernel), _, hl, fun q hq => ?_⟩
      have s0 : Same H (upd H q (.lst [.int x])) := same_new hq
      refine ⟨b, q, w, [x], rfl, ⟨dx, tv, s0 _ _ hb⟩, SqL.of upd_same, Nat.succ_pos _, pos1 hx, ?_⟩
      rw [all1]
      by_cases h : x.toNat < 2 ^ w
      · rw [decide_eq_true h]
        dsimp only [mtt, mff, d_nt, d_nf]
        rw [if_pos (show [v, x].getD 0 0 ∈ Si06.widths ∧ ([v, x].getD 1 0).toNat < 2 ^ w from ⟨hv, h⟩)] at k
        refine ⟨no_meth ⟨dx, tv, s0 _ _ hb⟩ (by decide +kernel) (by decide +kernel), x, ⟨_, s0.seq hl, at_of (j := 1) rfl rfl⟩, b, x.toNat, w, by rw [nat_int hx], ⟨dx, tv, s0 _ _ hb⟩, hw, h, fun H1 v1 s1 e1 => ?_⟩
        obtain ⟨g1, g2⟩ := Tap.wd_of hv
        exact ⟨v1, _, v.toNat, by rw [g2], g1.lo, g1.hi, e1, fun e he => (num_sm hw h e he).mono (by decide), fun H2 s2 => ⟨len_ok (by decide), fin_list k ((s0.trans s1).trans s2)⟩⟩
      · rw [decide_eq_false h]
        dsimp only [mtt, mff, d_nt, d_nf]
        rw [if_neg (show ¬ ([v, x].getD 0 0 ∈ Si06.widths ∧ ([v, x].getD 1 0).toNat < 2 ^ w) from fun h' => h h'.2)] at k
        exact ⟨len_ok (by decide), fin_list k s0⟩
    · rw [decide_eq_false hv]
      dsimp only [mtt, mff, d_nt, d_nf]
      rw [if_neg (show ¬ ([v, x].getD 0 0 ∈ Si06.widths ∧ ([v, x].getD 1 0).toNat < 2 ^ w) from fun h' => hv h'.1)] at k
      exact ⟨len_ok (by decide), fin_list k (Same.refl H)⟩
noncomputable def okDbl (w : Nat) (ns : List Int) : Prop := ∃ a, ns = [a] ∧ 0 ≤ a
noncomputable def rDbl (w : Nat) (ns : List Int) : List Int := if (ns.headD 0).toNat < 2 ^ w then [0, Tap.dblM (Tap.num w (ns.headD 0).toNat)] else [-2]
noncomputable abbrev st_double : Stmt := top 50
theorem sc_double : FnScope ["bench", "numbers"] ["bench", "numbers"] (defScope st_double) := ⟨rfl, rfl, rfl, by decide +kernel, rfl, by decide +kernel, by decide +kernel⟩
theorem ok_double {f : Addr} {fd : FuncData} (F : Fun K "double" "double" st_double f fd) (T : TxtB K mg D aW S) (h_Bench_are_patterns : KnM P w K mg base D "are_patterns" 1 ["self", "numbers"] (spArePat K D)) (h_Bench_number : KnM P w K mg base D "number" 5 ["self", "pattern"] (spNumber C D))
    (h_double_of : Kn P w K mg base "double_of" 4 ["number"] (spDbl C)) : FnOk P w K mg base CX0 6 f fd ["bench", "numbers"] (spAsk K D okDbl rDbl) := by
  refine F.ok sc_double (fun vs H Q E h => ?_) (fun cdv A outer s H vs Q E hr h => ?_)
  · obtain ⟨b, l, w, ns, rfl, _⟩ := h
    rfl
  · obtain ⟨b, l, w, ns, rfl, ⟨dx, tv, hb⟩, hw, hl, ⟨a, rfl, ha0⟩, k⟩ := h
    refine ⟨_, (pss_cons (ps_if (pt_not (mt_val (me_methN (h_Bench_are_patterns) (hr.mono (by decide)) (mv 0) (pa_cons (mv 1) pa_nil)))) (pss_one (ps_ret (pe_lst (pa_cons (pe_globN T.REFUSED rfl) pa_nil)))) pss_nil)
      (pss_one (ps_ret (pe_lst (pa_cons (pe_globN T.DONE rfl) (pa_cons (pe_callN (h_double_of) (hr.mono (by decide)) rfl (pa_cons (me_methN (h_Bench_number) (hr.mono (by decide)) (mv 0) (pa_cons (pe_ix m_ixI (mv 1) pe_int (fun _ _ => rfl)) pa_nil)) pa_nil)) pa_nil)))))), ?_⟩
    dsimp only [tSeq, tIfS, tRet, tRetN, tAsg, gName, tB, mB, mCT, mC, mIsN, mNotN, mNotIn, tOp, tUn, mVar, tC, mI, mI0, mU, tOr, tAnd, tNot, tIf, tNext, tDrop, tCB, tCall, mBL, mMin, mMax, mAbs, mLen, tCons, tNil, mMeth, mFld, mFldI, mIxI, mIxL, mIxT, tSl, mSlL, mPart, tNoPart, tLst, tTup, tMake, sFld, mCallV, L2.start, d_map1, d_map0, d_app1, d_app0, d_set0, d_set1, d_get0, d_get1, d_len1, d_len0, d_rep0, d_rep1, Nat.reduceAdd, Nat.reduceSub, mtt, mff, d_nt, d_nf, cx_K]
    refine ⟨no_meth ⟨dx, tv, hb⟩ (by decide +kernel) (by decide +kernel), b, l, w, [a], rfl, ⟨dx, tv, hb⟩, hl, Nat.succ_pos _, pos1 ha0, ?_⟩
    rw [all1]
    unfold rDbl at k
    by_cases h : a.toNat < 2 ^ w
    · rw [decide_eq_true h]
      dsimp only [mtt, mff, d_nt, d_nf]
      rw [if_pos (show ([a].headD 0).toNat < 2 ^ w from h)] at k
      refine ⟨no_meth ⟨dx, tv, hb⟩ (by decide +kernel) (by decide +kernel), a, ⟨_, hl, at_of (j := 0) rfl rfl⟩, b, a.toNat, w, by rw [nat_int ha0], ⟨dx, tv, hb⟩, hw, h, fun H1 v hs hv => ?_⟩
      refine ⟨v, _, rfl, hv, num_sm hw h, fun H2 hs2 => ⟨len_ok (by decide), fin_list k (hs.trans hs2)⟩⟩
    · rw [decide_eq_false h]
      dsimp only [mtt, mff, d_nt, d_nf]
      rw [if_neg (show ¬ ([a].headD 0).toNat < 2 ^ w from h)] at k
      exact ⟨len_ok (by decide), fin_list k (Same.refl H)⟩
noncomputable def okUnd (w : Nat) (ns : List Int) : Prop := ∃ a, ns = [a] ∧ 0 ≤ a ∧ a < 2 ^ 64
noncomputable def rUnd (w : Nat) (ns : List Int) : List Int := [0, Tap.patOpt (Tap.und (ns.headD 0).toNat) w]
noncomputable abbrev st_undouble : Stmt := top 51
theorem sc_undouble : FnScope ["bench", "numbers"] ["bench", "numbers"] (defScope st_undouble) := ⟨rfl, rfl, rfl, by decide +kernel, rfl, by decide +kernel, by decide +kernel⟩
theorem ok_undouble {f : Addr} {fd : FuncData} (F : Fun K "undouble" "undouble" st_undouble f fd) (T : TxtB K mg D aW S) (h_number_of_double : Kn P w K mg base "number_of_double" 4 ["bits"] (spUnd C)) (h_Bench_pattern : KnM P w K mg base D "pattern" 5 ["self", "number"] (spPattern C D)) :
    FnOk P w K mg base CX0 6 f fd ["bench", "numbers"] (spAsk K D okUnd rUnd) := by
  refine F.ok sc_undouble (fun vs H Q E h => ?_) (fun cdv A outer s H vs Q E hr h => ?_)
  · obtain ⟨b, l, w, ns, rfl, _⟩ := h
    rfl
  · obtain ⟨b, l, w, ns, rfl, ⟨dx, tv, hb⟩, hw, hl, ⟨a, rfl, ha0, ha1⟩, k⟩ := h
    refine ⟨_, (pss_one (ps_ret (pe_lst (pa_cons (pe_globN T.DONE rfl) (pa_cons (me_methN (h_Bench_pattern) (hr.mono (by decide)) (mv 0) (pa_cons (pe_callN (h_number_of_double) (hr.mono (by decide)) rfl (pa_cons (pe_ix m_ixI (mv 1) pe_int (fun _ _ => rfl)) pa_nil)) pa_nil)) pa_nil))))), ?_⟩
    dsimp only [tSeq, tIfS, tRet, tRetN, tAsg, gName, tB, mB, mCT, mC, mIsN, mNotN, mNotIn, tOp, tUn, mVar, tC, mI, mI0, mU, tOr, tAnd, tNot, tIf, tNext, tDrop, tCB, tCall, mBL, mMin, mMax, mAbs, mLen, tCons, tNil, mMeth, mFld, mFldI, mIxI, mIxL, mIxT, tSl, mSlL, mPart, tNoPart, tLst, tTup, tMake, sFld, mCallV, L2.start, d_map1, d_map0, d_app1, d_app0, d_set0, d_set1, d_get0, d_get1, d_len1, d_len0, d_rep0, d_rep1, Nat.reduceAdd, Nat.reduceSub, mtt, mff, d_nt, d_nf, cx_K]
    refine ⟨no_meth ⟨dx, tv, hb⟩ (by decide +kernel) (by decide +kernel), a, ⟨_, hl, at_of (j := 0) rfl rfl⟩, a.toNat, by rw [nat_int ha0], by (first | lia | omega), fun H1 v hs hv => ?_⟩
    refine ⟨b, v, _, w, rfl, ⟨dx, tv, hs _ _ hb⟩, hw, hv, fun e he => ?_, fun H2 hs2 => ⟨len_ok (by decide), fin_list k (hs.trans hs2)⟩⟩
    obtain ⟨q1, q2, q3⟩ := Tap.und_bounds _ _ he
    have := Tap.bi_le.mpr q1
    exact ⟨by (first | lia | omega), by (first | lia | omega), by (first | lia | omega)⟩
/-- sum: the product goes to the bench's sum -/
noncomputable def spSum (K : PySem.W.Frag) (D C : Addr) : Sp := fun vs H Q _ => ∃ (b l : Addr) (w : Nat) (tv : V) (o : Option Tap.E) (x y m : Int), vs = [.ref b, .ref l] ∧ BenchV D H b w tv ∧ Tap.Wd w ∧ OEx C H tv o ∧ (∀ e, o = some e → Sm 5000 e) ∧ SqL K H l [.int x, .int y, .int m] ∧ 0 ≤ x ∧ 0 ≤ y ∧
  (¬ (x.toNat < 2 ^ w ∧ y.toNat < 2 ^ w ∧ (m = 0 ∨ m = 1)) → ∀ (H' : Hp) (q : Addr), H q = none → Same H H' → H' q = some (.lst [.int (-2)]) → Q (.ref q) H') ∧
  (x.toNat < 2 ^ w ∧ y.toNat < 2 ^ w ∧ (m = 0 ∨ m = 1) → ∀ (H' : Hp) (q : Addr) (v : V), H q = none → Keep H H' b → BenchV D H' b w v → OEx C H' v (Tap.sumM o (Tap.num w x.toNat) (Tap.num w y.toNat) (decide (m = 1))) → H' q = some (.lst [.int 0]) → Q (.ref q) H')
noncomputable abbrev st_add_product : Stmt := top 53
theorem sc_add_product : FnScope ["bench", "numbers", "minus", "a"] ["bench", "numbers"] (defScope st_add_product) := ⟨rfl, rfl, rfl, by decide +kernel, rfl, by decide +kernel, by decide +kernel⟩
theorem ok_add_product {f : Addr} {fd : FuncData} (F : Fun K "add_product" "add_product" st_add_product f fd) (T : TxtB K mg D aW S) (h_Bench_are_patterns : KnM P w K mg base D "are_patterns" 1 ["self", "numbers"] (spArePat K D)) (h_Bench_number : KnM P w K mg base D "number" 5 ["self", "pattern"] (spNumber C D))
    (h_opposite : Kn P w K mg base "opposite" 3 ["a"] (spOpp C)) (h_multiply_add : Kn P w K mg base "multiply_add" 4 ["a", "b", "c"] (spMulAdd C)) : FnOk P w K mg base CX0 6 f fd ["bench", "numbers"] (spSum K D C) := by
  refine F.ok sc_add_product (fun vs H Q E h => ?_) (fun cdv A outer s H vs Q E hr h => ?_)
  · obtain ⟨b, l, w, tv, o, x, y, m, rfl, _⟩ := h
    rfl
  · obtain ⟨b, l, w, tv, o, x, y, m, rfl, ⟨dx, hb⟩, hw, ho, hso, hl, hx, hy, k1, k2⟩ := h
    refine ⟨_, (pss_cons (ps_set (i := 2) sc_add_product.nd rfl (Or.inl rfl) (pe_ix m_ixI (mv 1) pe_int (fun _ _ => rfl)))
      (pss_cons (ps_if (PW.pt (pw_or (pt_cmpM c_notIn (mv 2) (pe_tup (pa_cons pe_int (pa_cons pe_int pa_nil))) rfl) (pw_or1 (pt_not (mt_val (me_methN (h_Bench_are_patterns) (hr.mono (by decide)) (mv 0) (pa_cons (pe_slice m_slL (mv 1) po_none (mpo_some pe_int)) pa_nil))))))) (pss_one (ps_ret (pe_lst (pa_cons (pe_globN T.REFUSED rfl) pa_nil)))) pss_nil)
      (pss_cons (ps_set (i := 3) sc_add_product.nd rfl (Or.inl rfl) (me_methN (h_Bench_number) (hr.mono (by decide)) (mv 0) (pa_cons (pe_ix m_ixI (mv 1) pe_int (fun _ _ => rfl)) pa_nil)))
      (pss_cons (ps_if (PW.pt (pw_and (pt_cmpM c_eq (mv 2) pe_int (nomark _)) (pw_and1 (pt_cmpM c_notN (mv 3) pe_non (nomark _))))) (pss_one (ps_set (i := 3) sc_add_product.nd rfl (Or.inl rfl) (pe_callN (h_opposite) (hr.mono (by decide)) rfl (pa_cons (mv 3) pa_nil)))) pss_nil)
      (pss_cons (ps_fld (mv 0) (pe_callN (h_multiply_add) (hr.mono (by decide)) rfl (pa_cons (mv 3) (pa_cons (me_methN (h_Bench_number) (hr.mono (by decide)) (mv 0) (pa_cons (pe_ix m_ixI (mv 1) pe_int (fun _ _ => rfl)) pa_nil)) (pa_cons (me_fld (mv 0) rfl) pa_nil)))) rfl)
      (pss_one (ps_ret (pe_lst (pa_cons (pe_globN T.DONE rfl) pa_nil))))))))), ?_⟩
    dsimp only [tSeq, tIfS, tRet, tRetN, tAsg, gName, tB, mB, mCT, mC, mIsN, mNotN, mNotIn, tOp, tUn, mVar, tC, mI, mI0, mU, tOr, tAnd, tNot, tIf, tNext, tDrop, tCB, tCall, mBL, mMin, mMax, mAbs, mLen, tCons, tNil, mMeth, mFld, mFldI, mIxI, mIxL, mIxT, tSl, mSlL, mPart, tNoPart, tLst, tTup, tMake, sFld, mCallV, L2.start, d_map1, d_map0, d_app1, d_app0, d_set0, d_set1, d_get0, d_get1, d_len1, d_len0, d_rep0, d_rep1, Nat.reduceAdd, Nat.reduceSub, mtt, mff, d_nt, d_nf, cx_K]
    refine ⟨m, ⟨_, hl, at_of (j := 2) rfl rfl⟩, len_ok (by decide), fun p hp => ?_⟩
    have s0 : Same H (upd H p (.tup [.int 0, .int 1])) := same_new hp
    refine ⟨_, ⟨.inr (SqT.of upd_same), rfl, rfl⟩, ?_⟩
    rw [in_01]
    by_cases hm : m = 0 ∨ m = 1
    · rw [decide_eq_true hm]
      dsimp only [mtt, mff, d_nt, d_nf]
      refine ⟨no_meth ⟨dx, tv, s0 _ _ hb⟩ (by decide +kernel) (by decide +kernel), _, s0.seq hl, fun p1 hp1 => ?_⟩
      have s1 : Same _ (upd (upd H p (.tup [.int 0, .int 1])) p1 (.lst [.int x, .int y])) := same_new hp1
      have s01 := s0.trans s1
      refine ⟨b, p1, w, [x, y], rfl, ⟨dx, tv, s01 _ _ hb⟩, SqL.of upd_same, Nat.succ_pos _, pos2 hx hy, ?_⟩
      rw [all2]
      by_cases h : x.toNat < 2 ^ w ∧ y.toNat < 2 ^ w
      · rw [decide_eq_true h]
        dsimp only [mtt, mff, d_nt, d_nf]
        obtain ⟨g1, g2⟩ := h
        refine ⟨no_meth ⟨dx, tv, s01 _ _ hb⟩ (by decide +kernel) (by decide +kernel), x, ⟨_, s01.seq hl, at_of (j := 0) rfl rfl⟩, b, x.toNat, w, by rw [nat_int hx], ⟨dx, tv, s01 _ _ hb⟩, hw, g1, fun H2 va s2 ea => ?_⟩
        have s02 := s01.trans s2
        rcases hm with rfl | rfl
        · dsimp only
          rw [if_neg (by decide)]
          refine ⟨no_meth ⟨dx, tv, s02 _ _ hb⟩ (by decide +kernel) (by decide +kernel), y, ⟨_, s02.seq hl, at_of (j := 1) rfl rfl⟩, b, y.toNat, w, by rw [nat_int hy], ⟨dx, tv, s02 _ _ hb⟩, hw, g2, fun H5 v5 s5 e5 => ?_⟩
          have S5 := s02.trans s5
          refine ⟨_, BenchV.ft ⟨dx, S5 _ _ hb⟩ T, ?_⟩
          refine ⟨va, v5, tv, (Tap.num w x.toNat), _, o, rfl, OEx.same ea s5, e5, ho.same S5, num_sm hw g1, num_sm hw g2, hso, fun H6 v6 s6 e6 => ?_⟩
          have S6 := S5.trans s6
          refine ⟨b, D, dx, _, rfl, S6 _ _ hb, T.cl, T.nT, bf_len _ _, len_ok (by decide), fun q hq => ?_⟩
          rw [bf_put_t] at hq ⊢
          obtain ⟨i1, i2, i3, i4⟩ := tally_set (H := H) (C := C) (r := [.int 0]) (Keep.of S6) (fun _ h => S6.free h) (Same.refl _) (S6 _ _ hb) e6 hq
          rw [show Tap.fmaM (Tap.num w x.toNat) (Tap.num w y.toNat) o = _ from Tap.sum_fma o (Tap.num w x.toNat) (Tap.num w y.toNat) false] at i4
          exact k2 ⟨g1, g2, .inl rfl⟩ _ q v6 i1 i2 i3 i4 upd_same
        · dsimp only
          rw [if_pos rfl]
          have hsx := num_sm hw g1
          cases hnx : Tap.num w x.toNat with
          | none =>
            rw [hnx] at ea k2
            cases (show va = .non from ea)
            dsimp only
            refine ⟨no_meth ⟨dx, tv, s02 _ _ hb⟩ (by decide +kernel) (by decide +kernel), y, ⟨_, s02.seq hl, at_of (j := 1) rfl rfl⟩, b, y.toNat, w, by rw [nat_int hy], ⟨dx, tv, s02 _ _ hb⟩, hw, g2, fun H5 v5 s5 e5 => ?_⟩
            have S5 := s02.trans s5
            refine ⟨_, BenchV.ft ⟨dx, S5 _ _ hb⟩ T, ?_⟩
            refine ⟨.non, v5, tv, (none : Option Tap.E), _, o, rfl, rfl, e5, ho.same S5, (fun e he => by cases he), num_sm hw g2, hso, fun H6 v6 s6 e6 => ?_⟩
            have S6 := S5.trans s6
            refine ⟨b, D, dx, _, rfl, S6 _ _ hb, T.cl, T.nT, bf_len _ _, len_ok (by decide), fun q hq => ?_⟩
            rw [bf_put_t] at hq ⊢
            obtain ⟨i1, i2, i3, i4⟩ := tally_set (H := H) (C := C) (r := [.int 0]) (Keep.of S6) (fun _ h => S6.free h) (Same.refl _) (S6 _ _ hb) e6 hq
            rw [show Tap.fmaM (none : Option Tap.E) (Tap.num w y.toNat) o = _ from Tap.sum_fma o none (Tap.num w y.toNat) true] at i4
            exact k2 ⟨g1, g2, .inr rfl⟩ _ q v6 i1 i2 i3 i4 upd_same
          | some ex =>
            rw [hnx] at ea k2
            obtain ⟨ax, rfl, hax⟩ := ea
            dsimp only
            refine ⟨ax, ex, rfl, hax, fun H3 z s3 hz => ?_⟩
            have s03 := s02.trans s3
            refine ⟨no_meth ⟨dx, tv, s03 _ _ hb⟩ (by decide +kernel) (by decide +kernel), y, ⟨_, s03.seq hl, at_of (j := 1) rfl rfl⟩, b, y.toNat, w, by rw [nat_int hy], ⟨dx, tv, s03 _ _ hb⟩, hw, g2, fun H5 v5 s5 e5 => ?_⟩
            have S5 := s03.trans s5
            refine ⟨_, BenchV.ft ⟨dx, S5 _ _ hb⟩ T, ?_⟩
            refine ⟨.ref z, v5, tv, (some (Tap.oppE ex)), _, o, rfl, OEx.same (show OEx C H3 (.ref z) (some (Tap.oppE ex)) from ⟨z, rfl, hz⟩) s5, e5, ho.same S5, (fun e he => by cases he; exact (hsx _ hnx).opp), num_sm hw g2, hso, fun H6 v6 s6 e6 => ?_⟩
            have S6 := S5.trans s6
            refine ⟨b, D, dx, _, rfl, S6 _ _ hb, T.cl, T.nT, bf_len _ _, len_ok (by decide), fun q hq => ?_⟩
            rw [bf_put_t] at hq ⊢
            obtain ⟨i1, i2, i3, i4⟩ := tally_set (H := H) (C := C) (r := [.int 0]) (Keep.of S6) (fun _ h => S6.free h) (Same.refl _) (S6 _ _ hb) e6 hq
            rw [show Tap.fmaM (some (Tap.oppE ex)) (Tap.num w y.toNat) o = _ from Tap.sum_fma o (some ex) (Tap.num w y.toNat) true] at i4
            exact k2 ⟨g1, g2, .inr rfl⟩ _ q v6 i1 i2 i3 i4 upd_same
      · rw [decide_eq_false h]
        dsimp only [mtt, mff, d_nt, d_nf]
        exact ⟨len_ok (by decide), fin_list (k1 fun h' => h ⟨h'.1, h'.2.1⟩) s01⟩
    · rw [decide_eq_false hm]
      dsimp only [mtt, mff, d_nt, d_nf]
      exact ⟨len_ok (by decide), fin_list (k1 fun h' => hm h'.2.2) s0⟩
end
end Tb


set_option Elab.async false
set_option linter.all false
set_option maxRecDepth 100000
set_option maxHeartbeats 4000000
namespace Tb
open PySem PySem.Spec PyProof.Rows L2
open PySem.W (Codec)
open Si06Neutral (S step asked1)

/-- a bench as the document knows it; n: no fewer than the products of its sum -/
noncomputable def BenchRel (D C : Addr) (H : Hp) (b : Addr) (o : Option Si06.Abs) (n : Nat) : Prop := match o with
  | none => BenchAt D H b 0
  | some t => ∃ (tv : V) (e : Option Tap.E), BenchV D H b t.w tv ∧ OEx C H tv e ∧ Tap.Wd t.w ∧ t.products ≤ n ∧ Tap.SumRel t.sum e ∧ ∀ x, e = some x → Tap.Tl n x
theorem BenchRel.ins {D C : Addr} {H : Hp} {b : Addr} {o : Option Si06.Abs} {n : Nat} (h : BenchRel D C H b o n) : ∃ dx w tv, H b = some (.ins D dx (bf w tv)) := by
  cases o with
  | none =>
    obtain ⟨dx, tv, h⟩ := h
    exact ⟨dx, _, _, h⟩
  | some t =>
    obtain ⟨tv, e, ⟨dx, h⟩, _⟩ := h
    exact ⟨dx, _, _, h⟩
theorem BenchRel.keep {D C : Addr} {H H' : Hp} {b : Addr} {o : Option Si06.Abs} {n : Nat} (h : BenchRel D C H b o n)
    (k : ∀ x c dx fs, H x = some (.ins c dx fs) → (x = b ∨ fs.lookup ("width" : Str) = none) → H' x = some (.ins c dx fs)) : BenchRel D C H' b o n := by
  cases o with
  | none =>
    obtain ⟨dx, tv, h⟩ := h
    exact ⟨dx, tv, k _ _ _ _ h (.inl rfl)⟩
  | some t =>
    obtain ⟨tv, e, ⟨dx, h⟩, h2, h3⟩ := h
    refine ⟨tv, e, ⟨dx, k _ _ _ _ h (.inl rfl)⟩, ?_, h3⟩
    cases e with
    | none => exact h2
    | some x =>
      obtain ⟨a, r, ⟨da, ha⟩⟩ := h2
      exact ⟨a, r, da, k _ _ _ _ ha (.inr (ef_no _ _))⟩
theorem BenchRel.mono {D C : Addr} {H : Hp} {b : Addr} {o : Option Si06.Abs} {n m : Nat} (h : BenchRel D C H b o n) (hm : n ≤ m) : BenchRel D C H b o m := by
  cases o with
  | none => exact h
  | some t =>
    obtain ⟨tv, e, h1, h2, h3, h4, h5, h6⟩ := h
    exact ⟨tv, e, h1, h2, h3, Nat.le_trans h4 hm, h5, fun x hx => (h6 x hx).mono hm⟩
/-- the promise of each call's def -/
noncomputable def spAct (K : PySem.W.Frag) (D C : Addr) (p : Nat) : Sp := fun vs H Q _ => ∃ (b l : Addr) (o : Option Si06.Abs) (n : Nat) (ns : List Int), vs = [.ref b, .ref l] ∧ BenchRel D C H b o n ∧ n < 1000 ∧ SqL K H l (ns.map V.int) ∧ asked1 ((p : Int) :: 0 :: ns) = true ∧ (p ≠ 0 → o.isSome = true) ∧
  ∀ (H' : Hp) (q : Addr), H q = none → Keep H H' b → BenchRel D C H' b (Tap.one o p ns).1 (n + 1) → H' q = some (.lst ((Tap.one o p ns).2.map V.int)) → Q (.ref q) H'
structure TxtC (P : Program) (w : World) (K : PySem.W.Frag) (mg : Str → Option Value) (base : Heap) (D C aC : Addr) : Prop where
  CALLS : GlobV mg "CALLS" (.ref aC)
  no_len : mg "len" = none
  ts : ∃ ts : List Addr, (∀ H, SqT K H aC (ts.map V.ref)) ∧ ∀ p : Nat, p < 12 → ∃ (t f : Addr) (fd : FuncData), ts[p]? = some t ∧ (∀ H, SqT K H t [.ref f, .int ((Tap.argc p : Int) - 1)]) ∧ PySem.W.keepIn K (.ref f) = true ∧ Binds K fd ["bench", "numbers"] [] ∧
    FnOk P w K mg base CX0 10 f fd ["bench", "numbers"] (spAct K D C p)
noncomputable def spAns (K : PySem.W.Frag) : Sp := fun vs H Q _ => ∃ (a : Addr) (ns : List Int), vs = [.ref a] ∧ SqL K H a (ns.map V.int) ∧ PySi06.answers_asked ns = true ∧ ∀ (H' : Hp) (p : Addr), H' p = some (.lst ((PySi06.answers ns).map V.int)) → Q (.ref p) H'
theorem len_ok2 {n : Nat} (h : n ≤ 2000) : n ≤ sizeLine := Nat.le_trans h (by decide)
theorem list_len (c : List Int) (x : Si06.Ans) : (Si06Neutral.listOf c x).length ≤ 2 := by
  unfold Si06Neutral.listOf
  split
  · exact Nat.le_refl 2
  · show 1 ≤ 2
    decide
theorem one_len (o : Option Si06.Abs) (p : Int) (ns : List Int) : (Tap.one o p ns).2.length ≤ 2 := by
  unfold Tap.one Si06Neutral.step
  dsimp only
  split
  · exact Nat.zero_le _
  · exact list_len _ _
theorem argc_pos (p : Int) : 1 ≤ Tap.argc p := by
  unfold Tap.argc
  repeat (first | (first | lia | omega) | split)
section
variable {P : Program} {w : World} {K : PySem.W.Frag} {mg : Str → Option Value} {base : Heap} {C D aC : Addr}
noncomputable abbrev st_answers : Stmt := top 56
theorem sc_answers : FnScope ["calls", "benches", "given", "place", "call", "end", "act", "answer"] ["calls"] (defScope st_answers) := ⟨rfl, rfl, rfl, by decide +kernel, rfl, by decide +kernel, by decide +kernel⟩
theorem ok_answers {f : Addr} {fd : FuncData} (F : Fun K "answers" "answers" st_answers f fd) (T : TxtC P w K mg base D C aC) (hBench : KnC P w K mg base "Bench" D 4 ["self"] (spBench D)) :
    FnOk P w K mg base CX0 11 f fd ["calls"] (spAns K) := by
  refine F.ok sc_answers (fun vs H Q E h => ?_) (fun cdv A outer s H vs Q E hr h => ?_)
  · obtain ⟨a, ns, rfl, _⟩ := h
    rfl
  · obtain ⟨a, ns, rfl, hl, hask, k⟩ := h
    refine ⟨_, (pss_cons (ps_set (i := 1) sc_answers.nd rfl (Or.inl rfl) (pe_lst (pa_cons (pe_makeN0 (hBench) (hr.mono (by decide)) rfl) (pa_cons (pe_makeN0 (hBench) (hr.mono (by decide)) rfl) pa_nil))))
      (pss_cons (ps_set (i := 2) sc_answers.nd rfl (Or.inl rfl) (pe_lst pa_nil))
      (pss_cons (ps_set (i := 3) sc_answers.nd rfl (Or.inl rfl) pe_int)
      (pss_cons (ps_while PassesOwn.never (pt_cmpM c_lt (mv 3) (pe_callB m_len (by rfl) T.no_len (by decide +kernel) (pa_cons (mv 0) pa_nil)) (nomark _)) (pss_cons (ps_set (i := 4) sc_answers.nd rfl (Or.inl rfl) (pe_ix m_ixT (pe_globN T.CALLS rfl) (pe_ix m_ixI (mv 0) (mv 3) (fun _ _ => rfl)) (fun _ _ => rfl)))
      (pss_cons (ps_set (i := 5) sc_answers.nd rfl (Or.inl rfl) (pe_op m_add (pe_op m_add (mv 3) pe_int) (pe_ix m_ixT (mv 4) pe_int (fun _ _ => rfl))))
      (pss_cons (ps_set (i := 6) sc_answers.nd rfl (Or.inl rfl) (pe_ix m_ixT (mv 4) pe_int (fun _ _ => rfl)))
      (pss_cons (ps_set (i := 7) sc_answers.nd rfl (Or.inl rfl) (me_callv (mv 6) (pa_cons (pe_ix m_ixL (mv 1) (pe_ix m_ixI (mv 0) (pe_op m_add (mv 3) pe_int) (fun _ _ => rfl)) (fun _ _ => rfl)) (pa_cons (pe_slice m_slL (mv 0) (mpo_some (pe_op m_add (mv 3) pe_int)) (mpo_some (mv 5))) pa_nil))))
      (pss_cons (ps_expr (pe_bm PySem.F.plainAttrs_list PySem.F.slot_list_append PySem.F.type_list_append mt_append (mv 2) (pa_cons (pe_callB m_len (by rfl) T.no_len (by decide +kernel) (pa_cons (mv 7) pa_nil)) pa_nil)))
      (pss_cons (ps_expr (pe_bm PySem.F.plainAttrs_list PySem.F.slot_list_extend PySem.F.type_list_extend mt_extend (mv 2) (pa_cons (mv 7) pa_nil)))
      (pss_one (ps_set (i := 3) sc_answers.nd rfl (Or.inl rfl) (mv 5))))))))))
      (pss_one (ps_ret (mv 2))))))), ?_⟩
    dsimp only [tSeq, tIfS, tRet, tRetN, tAsg, gName, tB, mB, mCT, mC, mIsN, mNotN, mNotIn, tOp, tUn, mVar, tC, mI, mI0, mU, tOr, tAnd, tNot, tIf, tNext, tDrop, tCB, tCall, mBL, mMin, mMax, mAbs, mLen, tCons, tNil, mMeth, mFld, mFldI, mIxI, mIxL, mIxT, tSl, mSlL, mPart, tNoPart, tLst, tTup, tMake, sFld, mCallV, L2.start, d_map1, d_map0, d_app1, d_app0, d_set0, d_set1, d_get0, d_get1, d_len1, d_len0, d_rep0, d_rep1, Nat.reduceAdd, Nat.reduceSub, mtt, mff, d_nt, d_nf, cx_K]
    intro b0 d0 n0 m0 e0
    refine ⟨b0, d0, rfl, upd_same, fun H1 c0 k1 => ⟨rfl, ?_⟩⟩
    intro b1 d1 n1 m1 e1
    refine ⟨b1, d1, rfl, upd_same, fun H2 c1 k2 => ⟨rfl, len_ok (by decide), fun lb hlb => ⟨len_ok (by decide), fun lg hlg => ?_⟩⟩⟩
    have s1 : Same H H1 := Same.made n0 m0 k1
    have s2 : Same H1 H2 := Same.made n1 m1 k2
    have s3 : Same H2 (upd H2 lb (.lst [.ref b0, .ref b1])) := same_new hlb
    have s4 : Same (upd H2 lb (.lst [.ref b0, .ref b1])) (upd (upd H2 lb (.lst [.ref b0, .ref b1])) lg (.lst [])) := same_new hlg
    have s04 := ((s1.trans s2).trans s3).trans s4
    have f0 : H b0 = none := n0
    have f1 : H b1 = none := s1.free n1
    have fg : H lg = none := ((s1.trans s2).trans s3).free hlg
    have hlbg : lg ≠ lb := fun e => by
      rw [e, upd_same] at hlg
      cases hlg
    obtain ⟨g0, u0, c0⟩ := c0
    obtain ⟨g1, u1, c1⟩ := c1
    have hb01 : b0 ≠ b1 := ne_of_none c0 n1
    obtain ⟨cs0, td0, hcs0, ha0⟩ := Tap.todo_start hask
    obtain ⟨ts, hts, hfn⟩ := T.ts
    refine while_by (fun σ H' => ∃ (i : Nat) (v4 v5 v6 v7 : Option V) (g : List Int) (s : S) (cs : List (List (List Int))) (n : Nat), σ = [some (.ref a), some (.ref lb), some (.ref lg), some (.int i), v4, v5, v6, v7] ∧ i ≤ ns.length ∧
        Tap.Todo (ns.drop i) s cs ∧ n + cs.length ≤ 400 ∧ g ++ Tap.rest s cs = PySi06.answers ns ∧ g.length ≤ 3 * n ∧ Same H H' ∧ H' lb = some (.lst [.ref b0, .ref b1]) ∧ H' lg = some (.lst (g.map V.int)) ∧ BenchRel D C H' b0 s.1 n ∧ BenchRel D C H' b1 s.2 n)
      (fun σ _ => match σ with | [_, _, _, some (.int i), _, _, _, _] => ns.length - i.toNat | _ => 0) ?_ ?_ ?_
    · refine ⟨0, none, none, none, none, [], Si06Neutral.start, cs0, 0, rfl, Nat.zero_le _, td0, by (first | lia | omega), ha0.symm, Nat.le_refl _, s04, ?_, upd_same, ⟨g0, u0, s4 _ _ (s3 _ _ (s2 _ _ c0))⟩, ⟨g1, u1, s4 _ _ (s3 _ _ c1)⟩⟩
      exact s4 _ _ upd_same
    · rintro σ H' ⟨i, v4, v5, v6, v7, g, s, cs, n, rfl, hi, td, hn, hans, hg, sH, hlb', hlg', r0, r1⟩
      dsimp only [tSeq, tIfS, tRet, tRetN, tAsg, gName, tB, mB, mCT, mC, mIsN, mNotN, mNotIn, tOp, tUn, mVar, tC, mI, mI0, mU, tOr, tAnd, tNot, tIf, tNext, tDrop, tCB, tCall, mBL, mMin, mMax, mAbs, mLen, tCons, tNil, mMeth, mFld, mFldI, mIxI, mIxL, mIxT, tSl, mSlL, mPart, tNoPart, tLst, tTup, tMake, sFld, mCallV, L2.start, d_map1, d_map0, d_app1, d_app0, d_set0, d_set1, d_get0, d_get1, d_len1, d_len0, d_rep0, d_rep1, Nat.reduceAdd, Nat.reduceSub, mtt, mff, d_nt, d_nf, cx_K, tBM, rAppend, rExtend, tyV]
      refine ⟨_, .inl (sH.seq hl), ?_⟩
      rw [List.length_map]
      by_cases hlt : i < ns.length
      · rw [if_pos (by (first | lia | omega))]
        obtain ⟨p, r, hpr⟩ : ∃ p r, ns.drop i = p :: r := ⟨_, _, List.drop_eq_getElem_cons hlt⟩
        rw [hpr] at td
        obtain ⟨cs', rfl, hp0, hp11, hal, hask1, hsome, td'⟩ := Tap.todo_cons td
        obtain ⟨pn, rfl⟩ := Int.eq_ofNat_of_zero_le hp0
        obtain ⟨t, fq, fdq, ht1, ht2, hkq, hbq, hF⟩ := hfn pn (by (first | lia | omega))
        have hac := argc_pos (pn : Int)
        obtain ⟨kk, r', rfl⟩ : ∃ kk r', r = kk :: r' := by
          cases r with
          | nil => exact absurd hal (by rw [List.length_nil]; (first | lia | omega))
          | cons x y => exact ⟨x, y, rfl⟩
        have etake : (kk :: r').take (Tap.argc (pn : Int)) = kk :: r'.take (Tap.argc (pn : Int) - 1) := by
          obtain ⟨m, hm⟩ : ∃ m, Tap.argc (pn : Int) = m + 1 := ⟨Tap.argc (pn : Int) - 1, by (first | lia | omega)⟩
          rw [hm]
          rfl
        rw [etake] at hask1 hsome td' hans
        obtain ⟨hst, hk01, hask0⟩ := Tap.step_one s (pn : Int) kk _ hask1 hp0 hp11
        have hi0 : (ns.map V.int)[i]? = some (.int (pn : Int)) := by
          have h := congrArg (fun l => l[0]?) hpr
          simp only [List.getElem?_drop, List.getElem?_cons_zero, Nat.add_zero] at h
          rw [List.getElem?_map, h]
          rfl
        have hi1 : (ns.map V.int)[i + 1]? = some (.int kk) := by
          have h := congrArg (fun l => l[1]?) hpr
          simp only [List.getElem?_drop, List.getElem?_cons_succ, List.getElem?_cons_zero] at h
          rw [List.getElem?_map, h]
          rfl
        have hlen : ns.length = i + 2 + r'.length := by
          have h := congrArg List.length hpr
          rw [List.length_drop, List.length_cons, List.length_cons] at h
          (first | lia | omega)
        have hcut : cutV (ns.map V.int) (some ((i : Int) + 2)) (some ((i : Int) + 2 + ((Tap.argc (pn : Int) : Int) - 1))) = (r'.take (Tap.argc (pn : Int) - 1)).map V.int := by
          rw [List.length_cons] at hal
          rw [show (i : Int) + 2 + ((Tap.argc (pn : Int) : Int) - 1) = ((i + 1 + Tap.argc (pn : Int) : Nat) : Int) by (first | lia | omega), show (i : Int) + 2 = ((i + 2 : Nat) : Int) by (first | lia | omega)]
          unfold cutV
          rw [HT.sIx_nat, HT.sIx_nat, List.length_map, Nat.min_eq_left (by (first | lia | omega)), Nat.min_eq_left (by (first | lia | omega)), ← List.map_drop, ← List.map_take]
          have hd2 : ns.drop (i + 2) = r' := by
            rw [← List.drop_drop, hpr]
            rfl
          rw [hd2]
          congr 2
          (first | lia | omega)
        have hti : (ts.map V.ref)[pn]? = some (.ref t) := by
          rw [List.getElem?_map, ht1]
          rfl
        refine ⟨(pn : Int), ⟨_, sH.seq hl, at_of (j := i) rfl hi0⟩, V.ref t, ⟨_, hts H', at_of (j := pn) rfl hti⟩, V.int ((Tap.argc (pn : Int) : Int) - 1), ⟨_, ht2 H', at_of (j := 1) rfl rfl⟩, V.ref fq, ⟨_, ht2 H', at_of (j := 0) rfl rfl⟩, _, ⟨fq, fdq, _, 10, rfl, hF, hr.mono (by decide), hkq, hbq⟩, ?_⟩
        have pk : ∃ B B' : Addr, atI [V.ref b0, V.ref b1] kk = some (.ref B) ∧ B' ≠ B ∧ H B = none ∧ BenchRel D C H' B (Si06Neutral.get s kk) n ∧ ∀ (H2 : Hp) (x : Option Si06.Abs), BenchRel D C H2 B x (n + 1) →
            (∀ y c d fs, H' y = some (.ins c d fs) → (y = B' ∨ fs.lookup ("width" : Str) = none) → H2 y = some (.ins c d fs)) → BenchRel D C H2 b0 (Si06Neutral.put s kk x).1 (n + 1) ∧ BenchRel D C H2 b1 (Si06Neutral.put s kk x).2 (n + 1) := by
          rcases hk01 with rfl | rfl
          · exact ⟨b0, b1, at_of (j := 0) rfl rfl, fun h => hb01 h.symm, f0, r0, fun H2 x hx hk => ⟨hx, (r1.mono (Nat.le_succ n)).keep hk⟩⟩
          · exact ⟨b1, b0, at_of (j := 1) rfl rfl, hb01, f1, r1, fun H2 x hx hk => ⟨(r0.mono (Nat.le_succ n)).keep hk, hx⟩⟩
        obtain ⟨B, B', hat, hBB, fB, rB, fin⟩ := pk
        obtain ⟨dm, wm, fm, hm⟩ := rB.ins
        refine ⟨kk, ⟨_, sH.seq hl, at_of (j := i + 1) (by (first | lia | omega)) hi1⟩, V.ref B, ⟨_, SqL.of hlb', hat⟩, _, sH.seq hl, fun q hq => ?_⟩
        rw [hcut]
        have sq : Same H' (upd H' q (.lst ((r'.take (Tap.argc (pn : Int) - 1)).map V.int))) := same_new hq
        refine ⟨B, q, Si06Neutral.get s kk, n, _, rfl, rB.keep (fun x c d fs e _ => sq _ _ e), by rw [List.length_cons] at hn; (first | lia | omega), SqL.of upd_same, hask0, fun h => hsome (by (first | lia | omega)), fun H3 q3 hq3 kp rel hq3' => ?_⟩
        have nq : H' q3 = none := sq.free hq3
        have hlg3 : H3 lg = some (.lst (g.map V.int)) := kp lg _ (sq _ _ hlg') (ne_of hlg' hm (by intro z; cases z))
        have hlb3 : H3 lb = some (.lst [.ref b0, .ref b1]) := kp lb _ (sq _ _ hlb') (ne_of hlb' hm (by intro z; cases z))
        have n3 : q3 ≠ lg := fun e => by rw [e, hlg'] at nq; cases nq
        have sH3 : Same H (upd H3 lg (.lst (g.map V.int ++ [.int (((Tap.one (Si06Neutral.get s kk) (pn : Int) (r'.take (Tap.argc (pn : Int) - 1))).2.map V.int).length : Int)] ++ (Tap.one (Si06Neutral.get s kk) (pn : Int) (r'.take (Tap.argc (pn : Int) - 1))).2.map V.int))) := fun x o e => by
          rw [upd_ne (ne_of_none e fg)]
          exact kp x o (sq _ _ (sH x o e)) (ne_of_none e fB)
        have hout : (Tap.one (Si06Neutral.get s kk) (pn : Int) (r'.take (Tap.argc (pn : Int) - 1))).2.length ≤ 2 := one_len _ _ _
        refine ⟨.inl ⟨rfl, _, SqL.of hlg3⟩, _, .inl (SqL.of hq3'), lg, _, _, rfl, rfl, hlg3, ?_, .inl ⟨rfl, _, SqL.of upd_same⟩, lg, q3, _, _, rfl, rfl, upd_same, (upd_ne n3).trans hq3', ?_, ?_, ?_⟩
        · rw [List.length_map]
          exact Nat.lt_of_le_of_lt (show g.length ≤ 1200 by rw [List.length_cons] at hn; (first | lia | omega)) (by decide)
        · simp only [List.length_append, List.length_map, List.length_cons, List.length_nil]
          exact len_ok2 (by rw [List.length_cons] at hn; (first | lia | omega))
        · rw [show (i : Int) + 2 + ((Tap.argc (pn : Int) : Int) - 1) = ((i + 1 + Tap.argc (pn : Int) : Nat) : Int) by (first | lia | omega), upd_upd]
          have hdrop : ns.drop (i + 1 + Tap.argc (pn : Int)) = (kk :: r').drop (Tap.argc (pn : Int)) := by
            rw [← List.drop_drop, ← List.drop_drop, hpr]
            rfl
          rw [Tap.rest_cons, hst] at hans
          rw [hst] at td'
          have hans' : (g ++ (((Tap.one (Si06Neutral.get s kk) (pn : Int) (r'.take (Tap.argc (pn : Int) - 1))).2.length : Int) :: (Tap.one (Si06Neutral.get s kk) (pn : Int) (r'.take (Tap.argc (pn : Int) - 1))).2)) ++ Tap.rest (Si06Neutral.put s kk (Tap.one (Si06Neutral.get s kk) (pn : Int) (r'.take (Tap.argc (pn : Int) - 1))).1) cs' = PySi06.answers ns := by
            rw [List.append_assoc]
            exact hans
          refine ⟨i + 1 + Tap.argc (pn : Int), _, _, _, _, _, _, cs', n + 1, rfl, by rw [List.length_cons] at hal; (first | lia | omega), by rw [hdrop]; exact td', by rw [List.length_cons] at hn; (first | lia | omega), hans', ?_, sH3, (upd_ne (fun e => hlbg e.symm)).trans hlb3, ?_, fin _ _ (rel.keep fun x c d fs e hx => by rw [upd_ne (ne_of e hlg3 (by intro z; cases z))]; exact e) fun x c d fs e hx => by rw [upd_ne (ne_of e hlg' (by intro z; cases z))]; exact kp x _ (sq _ _ e) (hx.elim (fun h => by rw [h]; exact hBB) (not_bench hm e))⟩
          · rw [List.length_append, List.length_cons]
            (first | lia | omega)
          · rw [upd_same, List.length_map, List.map_append, List.map_cons, List.append_assoc]
            rfl
        · show ns.length - ((i : Int) + 2 + ((Tap.argc (pn : Int) : Int) - 1)).toNat < ns.length - (i : Int).toNat
          (first | lia | omega)
      · rw [if_neg (by (first | lia | omega))]
        have hd : ns.drop i = [] := List.drop_eq_nil_of_le (by (first | lia | omega))
        rw [hd] at td
        have hcs := Tap.todo_nil td
        subst hcs
        rw [Tap.rest_nil, List.append_nil] at hans
        rw [hans] at hlg'
        exact k H' lg hlg'
    · intro σ H' Q1 Q2 hq q
      exact mVar_mono (fun _ _ q => mVar_mono (fun _ _ q => mLen_mono (fun _ _ q => mC_mono hq q) q) q) q
end
end Tb


set_option Elab.async false
set_option linter.all false
set_option maxRecDepth 100000
set_option maxHeartbeats 4000000
namespace Tb
open PySem PySem.Spec PyProof.Rows L2
open PySem.W (Codec)
open Si06Neutral (S step asked1)
section
variable {P : Program} {w : World} {K : PySem.W.Frag} {mg : Str → Option Value} {base : Heap} {C D : Addr} {f : Addr} {fd : FuncData} {k : Nat}
theorem act_ask {p : Nat} {ok : Nat → List Int → Prop} {r : Nat → List Int → List Int} (hp : p ≠ 0) (F : FnOk P w K mg base CX0 k f fd ["bench", "numbers"] (spAsk K D ok r)) (hk : k ≤ 10)
    (h : ∀ (t : Si06.Abs) (ns : List Int), asked1 ((p : Int) :: 0 :: ns) = true → Tap.Wd t.w → ok t.w ns ∧ Tap.one (some t) (p : Int) ns = (some t, r t.w ns)) :
    FnOk P w K mg base CX0 10 f fd ["bench", "numbers"] (spAct K D C p) := by
  refine (F.mono hk).imp fun vs H Q E hsp => ?_
  obtain ⟨b, l, o, n, ns, rfl, hrel, hn, hl, hask, hsome, kk⟩ := hsp
  cases o with
  | none => exact absurd (hsome hp) (by decide)
  | some t =>
    have hrel' := hrel
    obtain ⟨tv, e, hb, he, hw, hpr, hsum, htl⟩ := hrel
    obtain ⟨hok, h1⟩ := h t ns hask hw
    rw [h1] at kk
    exact ⟨b, l, t.w, ns, rfl, hb.at, hw, hl, hok, fun H' q hq hs hq' => kk H' q hq (Keep.of hs) ((hrel'.keep fun x c d fs e _ => hs _ _ e).mono (Nat.le_succ n)) hq'⟩
theorem act_op (F : FnOk P w K mg base CX0 6 f fd ["bench", "numbers"] (spAsk K D okOp rOp)) : FnOk P w K mg base CX0 10 f fd ["bench", "numbers"] (spAct K D C 1) := act_ask (by decide) F (by decide) fun t ns h hw => by
  obtain ⟨p, a, b, rfl, h1, h2⟩ := Tap.asked_op h
  exact ⟨⟨p, a, b, rfl, h1, h2⟩, Tap.one_op hw p a b⟩
theorem act_fma (F : FnOk P w K mg base CX0 6 f fd ["bench", "numbers"] (spAsk K D okFma rFma)) : FnOk P w K mg base CX0 10 f fd ["bench", "numbers"] (spAct K D C 2) := act_ask (by decide) F (by decide) fun t ns h hw => by
  obtain ⟨a, b, c, rfl, h1, h2, h3⟩ := Tap.asked_fma h
  exact ⟨⟨a, b, c, rfl, h1, h2, h3⟩, Tap.one_fma hw a b c⟩
theorem act_order (F : FnOk P w K mg base CX0 2 f fd ["bench", "numbers"] (spAsk K D okOrder rOrder)) : FnOk P w K mg base CX0 10 f fd ["bench", "numbers"] (spAct K D C 3) := act_ask (by decide) F (by decide) fun t ns h hw => by
  obtain ⟨a, b, rfl, h1, h2⟩ := Tap.asked_order h
  exact ⟨⟨a, b, rfl, h1, h2⟩, Tap.one_order a b⟩
theorem act_of (F : FnOk P w K mg base CX0 6 f fd ["bench", "numbers"] (spAsk K D okOf rOf)) : FnOk P w K mg base CX0 10 f fd ["bench", "numbers"] (spAct K D C 4) := act_ask (by decide) F (by decide) fun t ns h hw => by
  obtain ⟨z, rfl, h1, h2⟩ := Tap.asked_of h
  exact ⟨⟨z, rfl, h1, h2⟩, Tap.one_of_call hw z⟩
theorem act_whole (F : FnOk P w K mg base CX0 6 f fd ["bench", "numbers"] (spAsk K D okWhole rWhole)) : FnOk P w K mg base CX0 10 f fd ["bench", "numbers"] (spAct K D C 5) := act_ask (by decide) F (by decide) fun t ns h hw => by
  obtain ⟨a, rfl, h1⟩ := Tap.asked_whole h
  exact ⟨⟨a, rfl, h1⟩, Tap.one_whole hw a⟩
theorem act_pass (F : FnOk P w K mg base CX0 6 f fd ["bench", "numbers"] (spAsk K D okPass rPass)) : FnOk P w K mg base CX0 10 f fd ["bench", "numbers"] (spAct K D C 6) := act_ask (by decide) F (by decide) fun t ns h hw => by
  obtain ⟨v, a, rfl, h1⟩ := Tap.asked_pass h
  exact ⟨⟨v, a, rfl, h1⟩, Tap.one_pass hw v a⟩
theorem act_double (F : FnOk P w K mg base CX0 6 f fd ["bench", "numbers"] (spAsk K D okDbl rDbl)) : FnOk P w K mg base CX0 10 f fd ["bench", "numbers"] (spAct K D C 7) := act_ask (by decide) F (by decide) fun t ns h hw => by
  obtain ⟨a, rfl, h1⟩ := Tap.asked_double h
  exact ⟨⟨a, rfl, h1⟩, Tap.one_double hw a⟩
theorem act_undouble (F : FnOk P w K mg base CX0 6 f fd ["bench", "numbers"] (spAsk K D okUnd rUnd)) : FnOk P w K mg base CX0 10 f fd ["bench", "numbers"] (spAct K D C 8) := act_ask (by decide) F (by decide) fun t ns h hw => by
  obtain ⟨a, rfl, h1, h2⟩ := Tap.asked_undouble h
  exact ⟨⟨a, rfl, h1, h2⟩, Tap.one_undouble hw a⟩
theorem act_begin (F : FnOk P w K mg base CX0 4 f fd ["bench", "numbers"] (spBegin K D C)) : FnOk P w K mg base CX0 10 f fd ["bench", "numbers"] (spAct K D C 0) := by
  refine (F.mono (by decide)).imp fun vs H Q E hsp => ?_
  obtain ⟨b, l, o, n, ns, rfl, hrel, hn, hl, hask, hsome, kk⟩ := hsp
  obtain ⟨v, rfl⟩ := Tap.asked_begin hask
  obtain ⟨dx, w, tv, hb⟩ := hrel.ins
  refine ⟨b, l, w, v, rfl, ⟨dx, tv, hb⟩, hl, fun hv H' q hq hs hq' => ?_, fun hv H' q z hq hkp hb' hz hq' => ?_⟩
  · have e := Tap.one_begin_no o hv
    have kk' := kk H' q hq (Keep.of hs)
    rw [show ((0 : Nat) : Int) = 0 from rfl, e] at kk'
    exact kk' ((hrel.keep fun x c d fs e _ => hs _ _ e).mono (Nat.le_succ n)) hq'
  · have e := Tap.one_begin o hv
    have kk' := kk H' q hq hkp
    rw [show ((0 : Nat) : Int) = 0 from rfl, e] at kk'
    obtain ⟨g1, g2⟩ := Tap.wd_of hv
    refine kk' ⟨.ref z, some (0, 0), ?_, ⟨z, rfl, hz⟩, g1, Nat.zero_le _, Tap.sum_zero, fun x hx => ?_⟩ hq'
    · show BenchV D H' b (v.toNat : Int) (.ref z)
      rw [g2]
      exact hb'
    · cases hx
      exact Tap.Tl.zero _
theorem act_clear (F : FnOk P w K mg base CX0 4 f fd ["bench", "numbers"] (spClear K D C)) : FnOk P w K mg base CX0 10 f fd ["bench", "numbers"] (spAct K D C 9) := by
  refine (F.mono (by decide)).imp fun vs H Q E hsp => ?_
  obtain ⟨b, l, o, n, ns, rfl, hrel, hn, hl, hask, hsome, kk⟩ := hsp
  have := Tap.asked_clear hask
  subst this
  cases o with
  | none => exact absurd (hsome (by decide)) (by decide)
  | some t =>
    obtain ⟨tv, e, hb, he, hw, hpr, hsum, htl⟩ := hrel
    refine ⟨b, l, t.w, rfl, hb.at, fun H' q z hq hkp hb' hz hq' => ?_⟩
    have e1 := Tap.one_clear (t := t)
    have kk' := kk H' q hq hkp
    rw [show ((9 : Nat) : Int) = 9 from rfl, e1] at kk'
    refine kk' ⟨.ref z, some (0, 0), hb', ⟨z, rfl, hz⟩, hw, Nat.zero_le _, Tap.sum_zero, fun x hx => ?_⟩ hq'
    cases hx
    exact Tap.Tl.zero _
theorem tl_sm {n : Nat} {e : Tap.E} (h : Tap.Tl n e) (hn : n ≤ 1000) : Sm 1500 e := ⟨h.bi hn, by have := h.1; (first | lia | omega), by have := h.2.1; (first | lia | omega)⟩
theorem act_total (F : FnOk P w K mg base CX0 6 f fd ["bench", "numbers"] (spTotal K D C)) : FnOk P w K mg base CX0 10 f fd ["bench", "numbers"] (spAct K D C 11) := by
  refine (F.mono (by decide)).imp fun vs H Q E hsp => ?_
  obtain ⟨b, l, o, n, ns, rfl, hrel, hn, hl, hask, hsome, kk⟩ := hsp
  have := Tap.asked_total hask
  subst this
  cases o with
  | none => exact absurd (hsome (by decide)) (by decide)
  | some t =>
    have hrel' := hrel
    obtain ⟨tv, e, hb, he, hw, hpr, hsum, htl⟩ := hrel
    refine ⟨b, l, t.w, tv, e, rfl, hb, hw, he, fun x hx => (tl_sm (htl x hx) (by (first | lia | omega))).mono (by decide), fun H' q hq hs hq' => ?_⟩
    have e1 := Tap.one_total hw hsum
    have kk' := kk H' q hq (Keep.of hs)
    rw [show ((11 : Nat) : Int) = 11 from rfl, e1] at kk'
    exact kk' ((hrel'.keep fun x c d fs e _ => hs _ _ e).mono (Nat.le_succ n)) hq'
theorem act_sum (F : FnOk P w K mg base CX0 6 f fd ["bench", "numbers"] (spSum K D C)) : FnOk P w K mg base CX0 10 f fd ["bench", "numbers"] (spAct K D C 10) := by
  refine (F.mono (by decide)).imp fun vs H Q E hsp => ?_
  obtain ⟨b, l, o, n, ns, rfl, hrel, hn, hl, hask, hsome, kk⟩ := hsp
  obtain ⟨x, y, m, rfl, hx, hy⟩ := Tap.asked_sum hask
  cases o with
  | none => exact absurd (hsome (by decide)) (by decide)
  | some t =>
    have hrel' := hrel
    obtain ⟨tv, e, hb, he, hw, hpr, hsum, htl⟩ := hrel
    have hpm : t.products < Si06.MOST := Nat.lt_of_le_of_lt hpr (Nat.lt_trans hn (by decide))
    refine ⟨b, l, t.w, tv, e, x, y, m, rfl, hb, hw, he, fun x hx => (tl_sm (htl x hx) (by (first | lia | omega))).mono (by decide), hl, hx, hy, fun hno H' q hq hs hq' => ?_, fun hok H' q v hq hkp hb' hv hq' => ?_⟩
    · have e1 := Tap.one_sum_no hpm x y m hno
      have kk' := kk H' q hq (Keep.of hs)
      rw [show ((10 : Nat) : Int) = 10 from rfl, e1] at kk'
      exact kk' ((hrel'.keep fun x c d fs e _ => hs _ _ e).mono (Nat.le_succ n)) hq'
    · have e1 := Tap.one_sum hpm x y m hok
      have kk' := kk H' q hq hkp
      rw [show ((10 : Nat) : Int) = 10 from rfl, e1] at kk'
      exact kk' ⟨v, _, hb', hv, hw, Nat.succ_le_succ hpr, Tap.sum_spec hw.lo _ _ hok.1 hok.2.1 m hsum,
        Tap.sum_tl htl (Tap.num_bounds _ _ hok.1 hw.lo hw.hi) (Tap.num_bounds _ _ hok.2.1 hw.lo hw.hi)⟩ hq'
end
theorem ans_mk {P : Program} {w : World} {K : PySem.W.Frag} {h : Heap} {mg : Str → Option Value} {fa C_Exact C_Bench : Addr} (X : K.In h) (G : h.Ns mainGlobals mg) (hfa : mg "answers" = some (.ref fa)) (BB : ∀ base : Heap, Below P w K mg base C_Exact)
    (aC : PySem.W.nsIn K mainGlobals "Bench" = some (some (.ref C_Bench)))
    {fn_Bench___init__ : Addr} {oc_Bench___init__ kV_Bench___init__ dc_Bench___init__ pm_Bench___init__ cd_Bench___init__ ct_Bench___init__ : Value} {od_Bench___init__ an_Bench___init__ : Option Addr} {sl_Bench___init__ : Array (Option Value)} (a_Bench___init__ : PySem.W.findIn K (.ref C_Bench) "__init__" = some (some (.ref fn_Bench___init__))) (i_Bench___init__ : PySem.W.isFn K (.ref fn_Bench___init__) = true) (l_Bench___init__ : K.lookup fn_Bench___init__ = some ⟨oc_Bench___init__, od_Bench___init__, .func (PySem.W.fnOf "__init__" "Bench.__init__" (defArgs st_Bench___init__) (defBody st_Bench___init__) (defScope st_Bench___init__) .none kV_Bench___init__ dc_Bench___init__ pm_Bench___init__ an_Bench___init__ cd_Bench___init__ ct_Bench___init__), sl_Bench___init__⟩) (c_Bench___init__ : PySem.W.codeIn K cd_Bench___init__ "Bench.__init__" = true) (k_Bench___init__ : PySem.W.keepIn K (.ref fn_Bench___init__) = true)
    {fn_Bench_are_patterns : Addr} {oc_Bench_are_patterns kV_Bench_are_patterns dc_Bench_are_patterns pm_Bench_are_patterns cd_Bench_are_patterns ct_Bench_are_patterns : Value} {od_Bench_are_patterns an_Bench_are_patterns : Option Addr} {sl_Bench_are_patterns : Array (Option Value)} (a_Bench_are_patterns : PySem.W.findIn K (.ref C_Bench) "are_patterns" = some (some (.ref fn_Bench_are_patterns))) (i_Bench_are_patterns : PySem.W.isFn K (.ref fn_Bench_are_patterns) = true) (l_Bench_are_patterns : K.lookup fn_Bench_are_patterns = some ⟨oc_Bench_are_patterns, od_Bench_are_patterns, .func (PySem.W.fnOf "are_patterns" "Bench.are_patterns" (defArgs st_Bench_are_patterns) (defBody st_Bench_are_patterns) (defScope st_Bench_are_patterns) .none kV_Bench_are_patterns dc_Bench_are_patterns pm_Bench_are_patterns an_Bench_are_patterns cd_Bench_are_patterns ct_Bench_are_patterns), sl_Bench_are_patterns⟩) (c_Bench_are_patterns : PySem.W.codeIn K cd_Bench_are_patterns "Bench.are_patterns" = true) (k_Bench_are_patterns : PySem.W.keepIn K (.ref fn_Bench_are_patterns) = true)
    {fn_Bench_number : Addr} {oc_Bench_number kV_Bench_number dc_Bench_number pm_Bench_number cd_Bench_number ct_Bench_number : Value} {od_Bench_number an_Bench_number : Option Addr} {sl_Bench_number : Array (Option Value)} (a_Bench_number : PySem.W.findIn K (.ref C_Bench) "number" = some (some (.ref fn_Bench_number))) (i_Bench_number : PySem.W.isFn K (.ref fn_Bench_number) = true) (l_Bench_number : K.lookup fn_Bench_number = some ⟨oc_Bench_number, od_Bench_number, .func (PySem.W.fnOf "number" "Bench.number" (defArgs st_Bench_number) (defBody st_Bench_number) (defScope st_Bench_number) .none kV_Bench_number dc_Bench_number pm_Bench_number an_Bench_number cd_Bench_number ct_Bench_number), sl_Bench_number⟩) (c_Bench_number : PySem.W.codeIn K cd_Bench_number "Bench.number" = true) (k_Bench_number : PySem.W.keepIn K (.ref fn_Bench_number) = true)
    {fn_Bench_pattern : Addr} {oc_Bench_pattern kV_Bench_pattern dc_Bench_pattern pm_Bench_pattern cd_Bench_pattern ct_Bench_pattern : Value} {od_Bench_pattern an_Bench_pattern : Option Addr} {sl_Bench_pattern : Array (Option Value)} (a_Bench_pattern : PySem.W.findIn K (.ref C_Bench) "pattern" = some (some (.ref fn_Bench_pattern))) (i_Bench_pattern : PySem.W.isFn K (.ref fn_Bench_pattern) = true) (l_Bench_pattern : K.lookup fn_Bench_pattern = some ⟨oc_Bench_pattern, od_Bench_pattern, .func (PySem.W.fnOf "pattern" "Bench.pattern" (defArgs st_Bench_pattern) (defBody st_Bench_pattern) (defScope st_Bench_pattern) .none kV_Bench_pattern dc_Bench_pattern pm_Bench_pattern an_Bench_pattern cd_Bench_pattern ct_Bench_pattern), sl_Bench_pattern⟩) (c_Bench_pattern : PySem.W.codeIn K cd_Bench_pattern "Bench.pattern" = true) (k_Bench_pattern : PySem.W.keepIn K (.ref fn_Bench_pattern) = true)
    {fn_begin : Addr} {oc_begin kV_begin dc_begin pm_begin cd_begin ct_begin : Value} {od_begin an_begin : Option Addr} {sl_begin : Array (Option Value)} (a_begin : PySem.W.nsIn K mainGlobals "begin" = some (some (.ref fn_begin))) (l_begin : K.lookup fn_begin = some ⟨oc_begin, od_begin, .func (PySem.W.fnOf "begin" "begin" (defArgs st_begin) (defBody st_begin) (defScope st_begin) .none kV_begin dc_begin pm_begin an_begin cd_begin ct_begin), sl_begin⟩) (c_begin : PySem.W.codeIn K cd_begin "begin" = true) (k_begin : PySem.W.keepIn K (.ref fn_begin) = true)
    {fn_op : Addr} {oc_op kV_op dc_op pm_op cd_op ct_op : Value} {od_op an_op : Option Addr} {sl_op : Array (Option Value)} (a_op : PySem.W.nsIn K mainGlobals "op" = some (some (.ref fn_op))) (l_op : K.lookup fn_op = some ⟨oc_op, od_op, .func (PySem.W.fnOf "op" "op" (defArgs st_op) (defBody st_op) (defScope st_op) .none kV_op dc_op pm_op an_op cd_op ct_op), sl_op⟩) (c_op : PySem.W.codeIn K cd_op "op" = true) (k_op : PySem.W.keepIn K (.ref fn_op) = true)
    {fn_fma : Addr} {oc_fma kV_fma dc_fma pm_fma cd_fma ct_fma : Value} {od_fma an_fma : Option Addr} {sl_fma : Array (Option Value)} (a_fma : PySem.W.nsIn K mainGlobals "fma" = some (some (.ref fn_fma))) (l_fma : K.lookup fn_fma = some ⟨oc_fma, od_fma, .func (PySem.W.fnOf "fma" "fma" (defArgs st_fma) (defBody st_fma) (defScope st_fma) .none kV_fma dc_fma pm_fma an_fma cd_fma ct_fma), sl_fma⟩) (c_fma : PySem.W.codeIn K cd_fma "fma" = true) (k_fma : PySem.W.keepIn K (.ref fn_fma) = true)
    {fn_order : Addr} {oc_order kV_order dc_order pm_order cd_order ct_order : Value} {od_order an_order : Option Addr} {sl_order : Array (Option Value)} (a_order : PySem.W.nsIn K mainGlobals "order" = some (some (.ref fn_order))) (l_order : K.lookup fn_order = some ⟨oc_order, od_order, .func (PySem.W.fnOf "order" "order" (defArgs st_order) (defBody st_order) (defScope st_order) .none kV_order dc_order pm_order an_order cd_order ct_order), sl_order⟩) (c_order : PySem.W.codeIn K cd_order "order" = true) (k_order : PySem.W.keepIn K (.ref fn_order) = true)
    {fn_of : Addr} {oc_of kV_of dc_of pm_of cd_of ct_of : Value} {od_of an_of : Option Addr} {sl_of : Array (Option Value)} (a_of : PySem.W.nsIn K mainGlobals "of" = some (some (.ref fn_of))) (l_of : K.lookup fn_of = some ⟨oc_of, od_of, .func (PySem.W.fnOf "of" "of" (defArgs st_of) (defBody st_of) (defScope st_of) .none kV_of dc_of pm_of an_of cd_of ct_of), sl_of⟩) (c_of : PySem.W.codeIn K cd_of "of" = true) (k_of : PySem.W.keepIn K (.ref fn_of) = true)
    {fn_whole : Addr} {oc_whole kV_whole dc_whole pm_whole cd_whole ct_whole : Value} {od_whole an_whole : Option Addr} {sl_whole : Array (Option Value)} (a_whole : PySem.W.nsIn K mainGlobals "whole" = some (some (.ref fn_whole))) (l_whole : K.lookup fn_whole = some ⟨oc_whole, od_whole, .func (PySem.W.fnOf "whole" "whole" (defArgs st_whole) (defBody st_whole) (defScope st_whole) .none kV_whole dc_whole pm_whole an_whole cd_whole ct_whole), sl_whole⟩) (c_whole : PySem.W.codeIn K cd_whole "whole" = true) (k_whole : PySem.W.keepIn K (.ref fn_whole) = true)
    {fn_pass_to : Addr} {oc_pass_to kV_pass_to dc_pass_to pm_pass_to cd_pass_to ct_pass_to : Value} {od_pass_to an_pass_to : Option Addr} {sl_pass_to : Array (Option Value)} (a_pass_to : PySem.W.nsIn K mainGlobals "pass_to" = some (some (.ref fn_pass_to))) (l_pass_to : K.lookup fn_pass_to = some ⟨oc_pass_to, od_pass_to, .func (PySem.W.fnOf "pass_to" "pass_to" (defArgs st_pass_to) (defBody st_pass_to) (defScope st_pass_to) .none kV_pass_to dc_pass_to pm_pass_to an_pass_to cd_pass_to ct_pass_to), sl_pass_to⟩) (c_pass_to : PySem.W.codeIn K cd_pass_to "pass_to" = true) (k_pass_to : PySem.W.keepIn K (.ref fn_pass_to) = true)
    {fn_double : Addr} {oc_double kV_double dc_double pm_double cd_double ct_double : Value} {od_double an_double : Option Addr} {sl_double : Array (Option Value)} (a_double : PySem.W.nsIn K mainGlobals "double" = some (some (.ref fn_double))) (l_double : K.lookup fn_double = some ⟨oc_double, od_double, .func (PySem.W.fnOf "double" "double" (defArgs st_double) (defBody st_double) (defScope st_double) .none kV_double dc_double pm_double an_double cd_double ct_double), sl_double⟩) (c_double : PySem.W.codeIn K cd_double "double" = true) (k_double : PySem.W.keepIn K (.ref fn_double) = true)
    {fn_undouble : Addr} {oc_undouble kV_undouble dc_undouble pm_undouble cd_undouble ct_undouble : Value} {od_undouble an_undouble : Option Addr} {sl_undouble : Array (Option Value)} (a_undouble : PySem.W.nsIn K mainGlobals "undouble" = some (some (.ref fn_undouble))) (l_undouble : K.lookup fn_undouble = some ⟨oc_undouble, od_undouble, .func (PySem.W.fnOf "undouble" "undouble" (defArgs st_undouble) (defBody st_undouble) (defScope st_undouble) .none kV_undouble dc_undouble pm_undouble an_undouble cd_undouble ct_undouble), sl_undouble⟩) (c_undouble : PySem.W.codeIn K cd_undouble "undouble" = true) (k_undouble : PySem.W.keepIn K (.ref fn_undouble) = true)
    {fn_clear : Addr} {oc_clear kV_clear dc_clear pm_clear cd_clear ct_clear : Value} {od_clear an_clear : Option Addr} {sl_clear : Array (Option Value)} (a_clear : PySem.W.nsIn K mainGlobals "clear" = some (some (.ref fn_clear))) (l_clear : K.lookup fn_clear = some ⟨oc_clear, od_clear, .func (PySem.W.fnOf "clear" "clear" (defArgs st_clear) (defBody st_clear) (defScope st_clear) .none kV_clear dc_clear pm_clear an_clear cd_clear ct_clear), sl_clear⟩) (c_clear : PySem.W.codeIn K cd_clear "clear" = true) (k_clear : PySem.W.keepIn K (.ref fn_clear) = true)
    {fn_add_product : Addr} {oc_add_product kV_add_product dc_add_product pm_add_product cd_add_product ct_add_product : Value} {od_add_product an_add_product : Option Addr} {sl_add_product : Array (Option Value)} (a_add_product : PySem.W.nsIn K mainGlobals "add_product" = some (some (.ref fn_add_product))) (l_add_product : K.lookup fn_add_product = some ⟨oc_add_product, od_add_product, .func (PySem.W.fnOf "add_product" "add_product" (defArgs st_add_product) (defBody st_add_product) (defScope st_add_product) .none kV_add_product dc_add_product pm_add_product an_add_product cd_add_product ct_add_product), sl_add_product⟩) (c_add_product : PySem.W.codeIn K cd_add_product "add_product" = true) (k_add_product : PySem.W.keepIn K (.ref fn_add_product) = true)
    {fn_total : Addr} {oc_total kV_total dc_total pm_total cd_total ct_total : Value} {od_total an_total : Option Addr} {sl_total : Array (Option Value)} (a_total : PySem.W.nsIn K mainGlobals "total" = some (some (.ref fn_total))) (l_total : K.lookup fn_total = some ⟨oc_total, od_total, .func (PySem.W.fnOf "total" "total" (defArgs st_total) (defBody st_total) (defScope st_total) .none kV_total dc_total pm_total an_total cd_total ct_total), sl_total⟩) (c_total : PySem.W.codeIn K cd_total "total" = true) (k_total : PySem.W.keepIn K (.ref fn_total) = true)
    {fn_answers : Addr} {oc_answers kV_answers dc_answers pm_answers cd_answers ct_answers : Value} {od_answers an_answers : Option Addr} {sl_answers : Array (Option Value)} (a_answers : PySem.W.nsIn K mainGlobals "answers" = some (some (.ref fn_answers))) (l_answers : K.lookup fn_answers = some ⟨oc_answers, od_answers, .func (PySem.W.fnOf "answers" "answers" (defArgs st_answers) (defBody st_answers) (defScope st_answers) .none kV_answers dc_answers pm_answers an_answers cd_answers ct_answers), sl_answers⟩) (c_answers : PySem.W.codeIn K cd_answers "answers" = true) (k_answers : PySem.W.keepIn K (.ref fn_answers) = true)
    (pg : PySem.W.plainGet K C_Bench Str.empty = true) (hd : PySem.W.hasDictIn K C_Bench = true) (po : PySem.W.plainOver K C_Bench = true) (sa : PySem.W.findIn K (.ref C_Bench) "__setattr__" = some (some (.builtin "object.__setattr__"))) (mk : PySem.W.makesIn K C_Bench = true) (kc : PySem.W.keepIn K (.ref C_Bench) = true)
    (nW : PySem.W.findIn K (.ref C_Bench) "width" = some none) (nT : PySem.W.findIn K (.ref C_Bench) "tally" = some none)
    {t1 t2 t3 : Tok} (n1 : PySem.W.nsIn K mainGlobals "DONE" = some (some (.int 0 t1))) (n2 : PySem.W.nsIn K mainGlobals "REFUSED" = some (some (.int (-2) t2))) (n3 : PySem.W.nsIn K mainGlobals "OUTSIDE" = some (some (.int 9223372036854775808 t3)))
    (z2 : PySem.W.nsIn K mainGlobals "max" = some none) (z4 : PySem.W.nsIn K mainGlobals "len" = some none)
    {aW aK : Addr} {oW oK : Option Addr} {nW' nK : Nat} {lW lK : Array (Option Value)} {iW iK : Array Value} {u1 u2 u3 u4 : Tok}
    (aW1 : PySem.W.nsIn K mainGlobals "WIDTHS" = some (some (.ref aW))) (aW2 : K.lookup aW = some ⟨.type "tuple", oW, .seq iW nW', lW⟩) (aW3 : iW = #[.int 8 u1, .int 16 u2, .int 32 u3, .int 64 u4])
    {t'0 t'1 t'2 t'3 t'4 t'5 t'6 t'7 t'8 t'9 t'10 t'11 : Addr} {oq0 oq1 oq2 oq3 oq4 oq5 oq6 oq7 oq8 oq9 oq10 oq11 : Option Addr} {nq0 nq1 nq2 nq3 nq4 nq5 nq6 nq7 nq8 nq9 nq10 nq11 : Nat} {lq0 lq1 lq2 lq3 lq4 lq5 lq6 lq7 lq8 lq9 lq10 lq11 : Array (Option Value)} {iq0 iq1 iq2 iq3 iq4 iq5 iq6 iq7 iq8 iq9 iq10 iq11 : Array Value} {tq0 tq1 tq2 tq3 tq4 tq5 tq6 tq7 tq8 tq9 tq10 tq11 : Tok} (aK1 : PySem.W.nsIn K mainGlobals "CALLS" = some (some (.ref aK))) (aK2 : K.lookup aK = some ⟨.type "tuple", oK, .seq iK nK, lK⟩) (aK3 : iK = #[.ref t'0, .ref t'1, .ref t'2, .ref t'3, .ref t'4, .ref t'5, .ref t'6, .ref t'7, .ref t'8, .ref t'9, .ref t'10, .ref t'11]) (q0 : K.lookup t'0 = some ⟨.type "tuple", oq0, .seq iq0 nq0, lq0⟩) (r0 : iq0 = #[.ref fn_begin, .int 1 tq0])
    (q1 : K.lookup t'1 = some ⟨.type "tuple", oq1, .seq iq1 nq1, lq1⟩) (r1 : iq1 = #[.ref fn_op, .int 3 tq1])
    (q2 : K.lookup t'2 = some ⟨.type "tuple", oq2, .seq iq2 nq2, lq2⟩) (r2 : iq2 = #[.ref fn_fma, .int 3 tq2])
    (q3 : K.lookup t'3 = some ⟨.type "tuple", oq3, .seq iq3 nq3, lq3⟩) (r3 : iq3 = #[.ref fn_order, .int 2 tq3])
    (q4 : K.lookup t'4 = some ⟨.type "tuple", oq4, .seq iq4 nq4, lq4⟩) (r4 : iq4 = #[.ref fn_of, .int 1 tq4])
    (q5 : K.lookup t'5 = some ⟨.type "tuple", oq5, .seq iq5 nq5, lq5⟩) (r5 : iq5 = #[.ref fn_whole, .int 1 tq5])
    (q6 : K.lookup t'6 = some ⟨.type "tuple", oq6, .seq iq6 nq6, lq6⟩) (r6 : iq6 = #[.ref fn_pass_to, .int 2 tq6])
    (q7 : K.lookup t'7 = some ⟨.type "tuple", oq7, .seq iq7 nq7, lq7⟩) (r7 : iq7 = #[.ref fn_double, .int 1 tq7])
    (q8 : K.lookup t'8 = some ⟨.type "tuple", oq8, .seq iq8 nq8, lq8⟩) (r8 : iq8 = #[.ref fn_undouble, .int 1 tq8])
    (q9 : K.lookup t'9 = some ⟨.type "tuple", oq9, .seq iq9 nq9, lq9⟩) (r9 : iq9 = #[.ref fn_clear, .int 0 tq9])
    (q10 : K.lookup t'10 = some ⟨.type "tuple", oq10, .seq iq10 nq10, lq10⟩) (r10 : iq10 = #[.ref fn_add_product, .int 3 tq10])
    (q11 : K.lookup t'11 = some ⟨.type "tuple", oq11, .seq iq11 nq11, lq11⟩) (r11 : iq11 = #[.ref fn_total, .int 0 tq11]) :
    ∃ fd : FuncData, (∀ (s : Shared) (us : List Value), us.length = (["calls"] : List Str).length → BindsTo s fd ⟨us, []⟩ ((["calls"] : List Str).zip us)) ∧ ∀ base : Heap, K.In base → base.Ns mainGlobals mg → FnOk P w K mg base CX0 20 fa fd ["calls"] (spAns K) := by
  have e := hfa.symm.trans (PySem.W.mg_of X G a_answers)
  cases e
  have F_Bench___init__ := fun_mk (st := st_Bench___init__) l_Bench___init__ c_Bench___init__ k_Bench___init__
  have b_Bench___init__ := F_Bench___init__.binds (ps := ["self"]) fun _ _ _ _ _ _ us hl => by1 (P := fun us => bindArgs _ ⟨us, []⟩ = pure (List.zip _ us)) (fun _ => rfl) us hl
  have F_Bench_are_patterns := fun_mk (st := st_Bench_are_patterns) l_Bench_are_patterns c_Bench_are_patterns k_Bench_are_patterns
  have b_Bench_are_patterns := F_Bench_are_patterns.binds (ps := ["self", "numbers"]) fun _ _ _ _ _ _ us hl => by2 (P := fun us => bindArgs _ ⟨us, []⟩ = pure (List.zip _ us)) (fun _ _ => rfl) us hl
  have F_Bench_number := fun_mk (st := st_Bench_number) l_Bench_number c_Bench_number k_Bench_number
  have b_Bench_number := F_Bench_number.binds (ps := ["self", "pattern"]) fun _ _ _ _ _ _ us hl => by2 (P := fun us => bindArgs _ ⟨us, []⟩ = pure (List.zip _ us)) (fun _ _ => rfl) us hl
  have F_Bench_pattern := fun_mk (st := st_Bench_pattern) l_Bench_pattern c_Bench_pattern k_Bench_pattern
  have b_Bench_pattern := F_Bench_pattern.binds (ps := ["self", "number"]) fun _ _ _ _ _ _ us hl => by2 (P := fun us => bindArgs _ ⟨us, []⟩ = pure (List.zip _ us)) (fun _ _ => rfl) us hl
  have F_begin := fun_mk (st := st_begin) l_begin c_begin k_begin
  have b_begin := F_begin.binds (ps := ["bench", "numbers"]) fun _ _ _ _ _ _ us hl => by2 (P := fun us => bindArgs _ ⟨us, []⟩ = pure (List.zip _ us)) (fun _ _ => rfl) us hl
  have m_begin := PySem.W.mg_of X G a_begin
  have F_op := fun_mk (st := st_op) l_op c_op k_op
  have b_op := F_op.binds (ps := ["bench", "numbers"]) fun _ _ _ _ _ _ us hl => by2 (P := fun us => bindArgs _ ⟨us, []⟩ = pure (List.zip _ us)) (fun _ _ => rfl) us hl
  have m_op := PySem.W.mg_of X G a_op
  have F_fma := fun_mk (st := st_fma) l_fma c_fma k_fma
  have b_fma := F_fma.binds (ps := ["bench", "numbers"]) fun _ _ _ _ _ _ us hl => by2 (P := fun us => bindArgs _ ⟨us, []⟩ = pure (List.zip _ us)) (fun _ _ => rfl) us hl
  have m_fma := PySem.W.mg_of X G a_fma
  have F_order := fun_mk (st := st_order) l_order c_order k_order
  have b_order := F_order.binds (ps := ["bench", "numbers"]) fun _ _ _ _ _ _ us hl => by2 (P := fun us => bindArgs _ ⟨us, []⟩ = pure (List.zip _ us)) (fun _ _ => rfl) us hl
  have m_order := PySem.W.mg_of X G a_order
  have F_of := fun_mk (st := st_of) l_of c_of k_of
  have b_of := F_of.binds (ps := ["bench", "numbers"]) fun _ _ _ _ _ _ us hl => by2 (P := fun us => bindArgs _ ⟨us, []⟩ = pure (List.zip _ us)) (fun _ _ => rfl) us hl
  have m_of := PySem.W.mg_of X G a_of
  have F_whole := fun_mk (st := st_whole) l_whole c_whole k_whole
  have b_whole := F_whole.binds (ps := ["bench", "numbers"]) fun _ _ _ _ _ _ us hl => by2 (P := fun us => bindArgs _ ⟨us, []⟩ = pure (List.zip _ us)) (fun _ _ => rfl) us hl
  have m_whole := PySem.W.mg_of X G a_whole
  have F_pass_to := fun_mk (st := st_pass_to) l_pass_to c_pass_to k_pass_to
  have b_pass_to := F_pass_to.binds (ps := ["bench", "numbers"]) fun _ _ _ _ _ _ us hl => by2 (P := fun us => bindArgs _ ⟨us, []⟩ = pure (List.zip _ us)) (fun _ _ => rfl) us hl
  have m_pass_to := PySem.W.mg_of X G a_pass_to
  have F_double := fun_mk (st := st_double) l_double c_double k_double
  have b_double := F_double.binds (ps := ["bench", "numbers"]) fun _ _ _ _ _ _ us hl => by2 (P := fun us => bindArgs _ ⟨us, []⟩ = pure (List.zip _ us)) (fun _ _ => rfl) us hl
  have m_double := PySem.W.mg_of X G a_double
  have F_undouble := fun_mk (st := st_undouble) l_undouble c_undouble k_undouble
  have b_undouble := F_undouble.binds (ps := ["bench", "numbers"]) fun _ _ _ _ _ _ us hl => by2 (P := fun us => bindArgs _ ⟨us, []⟩ = pure (List.zip _ us)) (fun _ _ => rfl) us hl
  have m_undouble := PySem.W.mg_of X G a_undouble
  have F_clear := fun_mk (st := st_clear) l_clear c_clear k_clear
  have b_clear := F_clear.binds (ps := ["bench", "numbers"]) fun _ _ _ _ _ _ us hl => by2 (P := fun us => bindArgs _ ⟨us, []⟩ = pure (List.zip _ us)) (fun _ _ => rfl) us hl
  have m_clear := PySem.W.mg_of X G a_clear
  have F_add_product := fun_mk (st := st_add_product) l_add_product c_add_product k_add_product
  have b_add_product := F_add_product.binds (ps := ["bench", "numbers"]) fun _ _ _ _ _ _ us hl => by2 (P := fun us => bindArgs _ ⟨us, []⟩ = pure (List.zip _ us)) (fun _ _ => rfl) us hl
  have m_add_product := PySem.W.mg_of X G a_add_product
  have F_total := fun_mk (st := st_total) l_total c_total k_total
  have b_total := F_total.binds (ps := ["bench", "numbers"]) fun _ _ _ _ _ _ us hl => by2 (P := fun us => bindArgs _ ⟨us, []⟩ = pure (List.zip _ us)) (fun _ _ => rfl) us hl
  have m_total := PySem.W.mg_of X G a_total
  have F_answers := fun_mk (st := st_answers) l_answers c_answers k_answers
  have b_answers := F_answers.binds (ps := ["calls"]) fun _ _ _ _ _ _ us hl => by1 (P := fun us => bindArgs _ ⟨us, []⟩ = pure (List.zip _ us)) (fun _ => rfl) us hl
  have m_answers := PySem.W.mg_of X G a_answers
  subst aW3 aK3
  subst r0 r1 r2 r3 r4 r5 r6 r7 r8 r9 r10 r11
  have T : TxtB K mg C_Bench aW (2 ^ 63) := ⟨rfl, ⟨pg, hd, po, sa⟩, nW, nT, PySem.W.mg_none_of X G z2, PySem.W.mg_none_of X G z4, ⟨_, PySem.W.mg_of X G n1, _, rfl⟩, ⟨_, PySem.W.mg_of X G n2, _, rfl⟩, ⟨_, PySem.W.mg_of X G n3, _, rfl⟩, ⟨_, PySem.W.mg_of X G aW1, rfl⟩,
    tup_of aW2 (by show 4 ≤ sizeLine; decide) (.cons ⟨_, rfl⟩ (.cons ⟨_, rfl⟩ (.cons ⟨_, rfl⟩ (.cons ⟨_, rfl⟩ .nil))))⟩
  refine ⟨PySem.W.fnOf "answers" "answers" (defArgs st_answers) (defBody st_answers) (defScope st_answers) .none kV_answers dc_answers pm_answers an_answers cd_answers ct_answers, fun s us hu => match us, hu with | [_], _ => .of_eq rfl, fun base _ _ => ?_⟩
  have B := BB base
  have hBench : KnC P w K mg base "Bench" C_Bench 4 ["self"] (spBench C_Bench) := ⟨PySem.W.mg_of X G aC, _, _, ⟨mk, a_Bench___init__, i_Bench___init__, kc⟩, b_Bench___init__, ok_Bench F_Bench___init__ T B.zero⟩
  have h1 : KnM P w K mg base C_Bench "are_patterns" 1 ["self", "numbers"] (spArePat K C_Bench) := ⟨T.cl, _, _, ⟨a_Bench_are_patterns, i_Bench_are_patterns, k_Bench_are_patterns⟩, b_Bench_are_patterns, ok_are_patterns F_Bench_are_patterns T⟩
  have h2 : KnM P w K mg base C_Bench "number" 5 ["self", "pattern"] (spNumber C_Exact C_Bench) := ⟨T.cl, _, _, ⟨a_Bench_number, i_Bench_number, k_Bench_number⟩, b_Bench_number, ok_number F_Bench_number T B.number_of⟩
  have h3 : KnM P w K mg base C_Bench "pattern" 5 ["self", "number"] (spPattern C_Exact C_Bench) := ⟨T.cl, _, _, ⟨a_Bench_pattern, i_Bench_pattern, k_Bench_pattern⟩, b_Bench_pattern, ok_pattern F_Bench_pattern T B.pattern_of⟩
  have TC : TxtC P w K mg base C_Bench C_Exact aK := ⟨⟨_, PySem.W.mg_of X G aK1, rfl⟩, PySem.W.mg_none_of X G z4, [t'0, t'1, t'2, t'3, t'4, t'5, t'6, t'7, t'8, t'9, t'10, t'11], tup_of aK2 (by show 12 ≤ sizeLine; decide) (.cons rfl (.cons rfl (.cons rfl (.cons rfl (.cons rfl (.cons rfl (.cons rfl (.cons rfl (.cons rfl (.cons rfl (.cons rfl (.cons rfl .nil)))))))))))), fun p hp => by
    match p, hp with
    | 0, _ => exact ⟨_, _, _, rfl, tup_of q0 (by show 2 ≤ sizeLine; decide) (.cons rfl (.cons ⟨_, rfl⟩ .nil)), k_begin, b_begin, act_begin (ok_begin F_begin T B.zero)⟩
    | 1, _ => exact ⟨_, _, _, rfl, tup_of q1 (by show 2 ≤ sizeLine; decide) (.cons rfl (.cons ⟨_, rfl⟩ .nil)), k_op, b_op, act_op (ok_op F_op T h1 h2 h3 B.is_operation B.operate)⟩
    | 2, _ => exact ⟨_, _, _, rfl, tup_of q2 (by show 2 ≤ sizeLine; decide) (.cons rfl (.cons ⟨_, rfl⟩ .nil)), k_fma, b_fma, act_fma (ok_fma F_fma T h1 h2 h3 B.multiply_add)⟩
    | 3, _ => exact ⟨_, _, _, rfl, tup_of q3 (by show 2 ≤ sizeLine; decide) (.cons rfl (.cons ⟨_, rfl⟩ .nil)), k_order, b_order, act_order (ok_order F_order T h1 B.signed)⟩
    | 4, _ => exact ⟨_, _, _, rfl, tup_of q4 (by show 2 ≤ sizeLine; decide) (.cons rfl (.cons ⟨_, rfl⟩ .nil)), k_of, b_of, act_of (ok_of F_of T B.Exact h3)⟩
    | 5, _ => exact ⟨_, _, _, rfl, tup_of q5 (by show 2 ≤ sizeLine; decide) (.cons rfl (.cons ⟨_, rfl⟩ .nil)), k_whole, b_whole, act_whole (ok_whole F_whole T h1 h2 B.nearest_whole)⟩
    | 6, _ => exact ⟨_, _, _, rfl, tup_of q6 (by show 2 ≤ sizeLine; decide) (.cons rfl (.cons ⟨_, rfl⟩ .nil)), k_pass_to, b_pass_to, act_pass (ok_pass_to F_pass_to T h1 h2 B.pattern_of)⟩
    | 7, _ => exact ⟨_, _, _, rfl, tup_of q7 (by show 2 ≤ sizeLine; decide) (.cons rfl (.cons ⟨_, rfl⟩ .nil)), k_double, b_double, act_double (ok_double F_double T h1 h2 B.double_of)⟩
    | 8, _ => exact ⟨_, _, _, rfl, tup_of q8 (by show 2 ≤ sizeLine; decide) (.cons rfl (.cons ⟨_, rfl⟩ .nil)), k_undouble, b_undouble, act_undouble (ok_undouble F_undouble T B.number_of_double h3)⟩
    | 9, _ => exact ⟨_, _, _, rfl, tup_of q9 (by show 2 ≤ sizeLine; decide) (.cons rfl (.cons ⟨_, rfl⟩ .nil)), k_clear, b_clear, act_clear (ok_clear F_clear T B.zero)⟩
    | 10, _ => exact ⟨_, _, _, rfl, tup_of q10 (by show 2 ≤ sizeLine; decide) (.cons rfl (.cons ⟨_, rfl⟩ .nil)), k_add_product, b_add_product, act_sum (ok_add_product F_add_product T h1 h2 B.opposite B.multiply_add)⟩
    | 11, _ => exact ⟨_, _, _, rfl, tup_of q11 (by show 2 ≤ sizeLine; decide) (.cons rfl (.cons ⟨_, rfl⟩ .nil)), k_total, b_total, act_total (ok_total F_total T h3)⟩
    | n + 12, h => exact absurd h (by (first | lia | omega))⟩
  exact (ok_answers F_answers TC hBench).mono (by decide)
end Tb


set_option Elab.async false
set_option linter.all false
set_option maxRecDepth 100000
set_option maxHeartbeats 4000000
open PySem PySem.W PyProof.Rows
set_option maxRecDepth 100000 in
set_option maxHeartbeats 0 in
theorem PySem.Challenge.cw_taperbench_s01_answers_holds : PySem.Challenge.rw_taperbench_s01_answers.Holds := by
  w_on; k_headS; (case hw => exact ⟨[.list [.int 0, .int 0, .int 8]], by decide +kernel, by decide +kernel⟩)
  k_fillS
  refine L2.walk_specK (r := PySem.Challenge.rw_taperbench_s01_answers) (k := 20) (CX := L2.CX0) (ps := ["calls"]) (sp := Tb.spAns) (by decide +kernel) rfl rfl ⟨rfl, by decide, by decide⟩ (fun w h Y => PySem.W.kIn_of Y) ?F ?S (fun _ _ _ _ z => z)
  case F =>
    intro w mg fa h Y KX G hmg
    have BB := fun (base : Heap) => by
      refine' Tb.below_mk (P := PySem.Challenge.rw_taperbench_s01_answers.prog) (w := w) (base := base) KX G ?aC ?a_Exact___init__ ?i_Exact___init__ ?l_Exact___init__ ?c_Exact___init__ ?k_Exact___init__ ?a_zero ?l_zero ?c_zero ?k_zero ?a_nearest_even ?l_nearest_even ?c_nearest_even ?k_nearest_even ?a_nearest_whole ?l_nearest_whole ?c_nearest_whole ?k_nearest_whole ?a_opposite ?l_opposite ?c_opposite ?k_opposite ?a_add ?l_add ?c_add ?k_add ?a_subtract ?l_subtract ?c_subtract ?k_subtract ?a_multiply ?l_multiply ?c_multiply ?k_multiply ?a_cut_off ?l_cut_off ?c_cut_off ?k_cut_off ?a_divide ?l_divide ?c_divide ?k_divide ?a_floor_root ?l_floor_root ?c_floor_root ?k_floor_root ?a_root ?l_root ?c_root ?k_root ?a_to_whole ?l_to_whole ?c_to_whole ?k_to_whole ?a_multiply_add ?l_multiply_add ?c_multiply_add ?k_multiply_add ?a_is_operation ?l_is_operation ?c_is_operation ?k_is_operation ?a_operate ?l_operate ?c_operate ?k_operate ?a_run_length ?l_run_length ?c_run_length ?k_run_length ?a_number_above_zero ?l_number_above_zero ?c_number_above_zero ?k_number_above_zero ?a_number_of ?l_number_of ?c_number_of ?k_number_of ?a_pattern_above_zero ?l_pattern_above_zero ?c_pattern_above_zero ?k_pattern_above_zero ?a_pattern_of ?l_pattern_of ?c_pattern_of ?k_pattern_of ?a_signed ?l_signed ?c_signed ?k_signed ?a_double_above_zero ?l_double_above_zero ?c_double_above_zero ?k_double_above_zero ?a_double_of ?l_double_of ?c_double_of ?k_double_of ?a_number_of_double ?l_number_of_double ?c_number_of_double ?k_number_of_double ?pg ?hd ?po ?sa ?mk ?kc ?nM ?nP ?aS ?n1 ?n2 ?n3 ?n4 ?n5 ?n6 ?z1 ?z2 ?z3 ?z4 ?aT1 ?aT2 ?aT3 ?aO1 ?aO2 ?aO3
      (case aC => k_is)
      (case a_Exact___init__ => k_is); (case i_Exact___init__ => k_is); (case l_Exact___init__ => k_is); (case c_Exact___init__ => k_is); (case k_Exact___init__ => k_is)
      (case a_zero => k_is); (case l_zero => k_is); (case c_zero => k_is); (case k_zero => k_is)
      (case a_nearest_even => k_is); (case l_nearest_even => k_is); (case c_nearest_even => k_is); (case k_nearest_even => k_is)
      (case a_nearest_whole => k_is); (case l_nearest_whole => k_is); (case c_nearest_whole => k_is); (case k_nearest_whole => k_is)
      (case a_opposite => k_is); (case l_opposite => k_is); (case c_opposite => k_is); (case k_opposite => k_is)
      (case a_add => k_is); (case l_add => k_is); (case c_add => k_is); (case k_add => k_is)
      (case a_subtract => k_is); (case l_subtract => k_is); (case c_subtract => k_is); (case k_subtract => k_is)
      (case a_multiply => k_is); (case l_multiply => k_is); (case c_multiply => k_is); (case k_multiply => k_is)
      (case a_cut_off => k_is); (case l_cut_off => k_is); (case c_cut_off => k_is); (case k_cut_off => k_is)
      (case a_divide => k_is); (case l_divide => k_is); (case c_divide => k_is); (case k_divide => k_is)
      (case a_floor_root => k_is); (case l_floor_root => k_is); (case c_floor_root => k_is); (case k_floor_root => k_is)
      (case a_root => k_is); (case l_root => k_is); (case c_root => k_is); (case k_root => k_is)
      (case a_to_whole => k_is); (case l_to_whole => k_is); (case c_to_whole => k_is); (case k_to_whole => k_is)
      (case a_multiply_add => k_is); (case l_multiply_add => k_is); (case c_multiply_add => k_is); (case k_multiply_add => k_is)
      (case a_is_operation => k_is); (case l_is_operation => k_is); (case c_is_operation => k_is); (case k_is_operation => k_is)
      (case a_operate => k_is); (case l_operate => k_is); (case c_operate => k_is); (case k_operate => k_is)
      (case a_run_length => k_is); (case l_run_length => k_is); (case c_run_length => k_is); (case k_run_length => k_is)
      (case a_number_above_zero => k_is); (case l_number_above_zero => k_is); (case c_number_above_zero => k_is); (case k_number_above_zero => k_is)
      (case a_number_of => k_is); (case l_number_of => k_is); (case c_number_of => k_is); (case k_number_of => k_is)
      (case a_pattern_above_zero => k_is); (case l_pattern_above_zero => k_is); (case c_pattern_above_zero => k_is); (case k_pattern_above_zero => k_is)
      (case a_pattern_of => k_is); (case l_pattern_of => k_is); (case c_pattern_of => k_is); (case k_pattern_of => k_is)
      (case a_signed => k_is); (case l_signed => k_is); (case c_signed => k_is); (case k_signed => k_is)
      (case a_double_above_zero => k_is); (case l_double_above_zero => k_is); (case c_double_above_zero => k_is); (case k_double_above_zero => k_is)
      (case a_double_of => k_is); (case l_double_of => k_is); (case c_double_of => k_is); (case k_double_of => k_is)
      (case a_number_of_double => k_is); (case l_number_of_double => k_is); (case c_number_of_double => k_is); (case k_number_of_double => k_is)
      (case pg => k_is); (case hd => k_is); (case po => k_is); (case sa => k_is); (case mk => k_is); (case kc => k_is); (case nM => k_is); (case nP => k_is)
      (case aS => k_is); (case n1 => k_is); (case n2 => k_is); (case n3 => k_is); (case n4 => k_is); (case n5 => k_is); (case n6 => k_is); (case z1 => k_is); (case z2 => k_is); (case z3 => k_is); (case z4 => k_is)
      (case aT1 => k_is); (case aT2 => k_is); (case aT3 => rfl); (case aO1 => k_is); (case aO2 => k_is); (case aO3 => rfl)
    refine' Tb.ans_mk KX G hmg BB ?aC ?a_Bench___init__ ?i_Bench___init__ ?l_Bench___init__ ?c_Bench___init__ ?k_Bench___init__ ?a_Bench_are_patterns ?i_Bench_are_patterns ?l_Bench_are_patterns ?c_Bench_are_patterns ?k_Bench_are_patterns ?a_Bench_number ?i_Bench_number ?l_Bench_number ?c_Bench_number ?k_Bench_number ?a_Bench_pattern ?i_Bench_pattern ?l_Bench_pattern ?c_Bench_pattern ?k_Bench_pattern ?a_begin ?l_begin ?c_begin ?k_begin ?a_op ?l_op ?c_op ?k_op ?a_fma ?l_fma ?c_fma ?k_fma ?a_order ?l_order ?c_order ?k_order ?a_of ?l_of ?c_of ?k_of ?a_whole ?l_whole ?c_whole ?k_whole ?a_pass_to ?l_pass_to ?c_pass_to ?k_pass_to ?a_double ?l_double ?c_double ?k_double ?a_undouble ?l_undouble ?c_undouble ?k_undouble ?a_clear ?l_clear ?c_clear ?k_clear ?a_add_product ?l_add_product ?c_add_product ?k_add_product ?a_total ?l_total ?c_total ?k_total ?a_answers ?l_answers ?c_answers ?k_answers ?pg ?hd ?po ?sa ?mk ?kc ?nW ?nT ?n1 ?n2 ?n3 ?z2 ?z4 ?aW1 ?aW2 ?aW3 ?aK1 ?aK2 ?aK3 ?q0 ?r0 ?q1 ?r1 ?q2 ?r2 ?q3 ?r3 ?q4 ?r4 ?q5 ?r5 ?q6 ?r6 ?q7 ?r7 ?q8 ?r8 ?q9 ?r9 ?q10 ?r10 ?q11 ?r11
    (case aC => k_is)
    (case a_Bench___init__ => k_is); (case i_Bench___init__ => k_is); (case l_Bench___init__ => k_is); (case c_Bench___init__ => k_is); (case k_Bench___init__ => k_is)
    (case a_Bench_are_patterns => k_is); (case i_Bench_are_patterns => k_is); (case l_Bench_are_patterns => k_is); (case c_Bench_are_patterns => k_is); (case k_Bench_are_patterns => k_is)
    (case a_Bench_number => k_is); (case i_Bench_number => k_is); (case l_Bench_number => k_is); (case c_Bench_number => k_is); (case k_Bench_number => k_is)
    (case a_Bench_pattern => k_is); (case i_Bench_pattern => k_is); (case l_Bench_pattern => k_is); (case c_Bench_pattern => k_is); (case k_Bench_pattern => k_is)
    (case a_begin => k_is); (case l_begin => k_is); (case c_begin => k_is); (case k_begin => k_is)
    (case a_op => k_is); (case l_op => k_is); (case c_op => k_is); (case k_op => k_is)
    (case a_fma => k_is); (case l_fma => k_is); (case c_fma => k_is); (case k_fma => k_is)
    (case a_order => k_is); (case l_order => k_is); (case c_order => k_is); (case k_order => k_is)
    (case a_of => k_is); (case l_of => k_is); (case c_of => k_is); (case k_of => k_is)
    (case a_whole => k_is); (case l_whole => k_is); (case c_whole => k_is); (case k_whole => k_is)
    (case a_pass_to => k_is); (case l_pass_to => k_is); (case c_pass_to => k_is); (case k_pass_to => k_is)
    (case a_double => k_is); (case l_double => k_is); (case c_double => k_is); (case k_double => k_is)
    (case a_undouble => k_is); (case l_undouble => k_is); (case c_undouble => k_is); (case k_undouble => k_is)
    (case a_clear => k_is); (case l_clear => k_is); (case c_clear => k_is); (case k_clear => k_is)
    (case a_add_product => k_is); (case l_add_product => k_is); (case c_add_product => k_is); (case k_add_product => k_is)
    (case a_total => k_is); (case l_total => k_is); (case c_total => k_is); (case k_total => k_is)
    (case a_answers => k_is); (case l_answers => k_is); (case c_answers => k_is); (case k_answers => k_is)
    (case pg => k_is); (case hd => k_is); (case po => k_is); (case sa => k_is); (case mk => k_is); (case kc => k_is); (case nW => k_is); (case nT => k_is)
    (case n1 => k_is); (case n2 => k_is); (case n3 => k_is); (case z2 => k_is); (case z4 => k_is)
    (case aW1 => k_is); (case aW2 => k_is); (case aW3 => rfl); (case aK1 => k_is); (case aK2 => k_is); (case aK3 => rfl)
    (case q0 => k_is); (case r0 => rfl); (case q1 => k_is); (case r1 => rfl); (case q2 => k_is); (case r2 => rfl); (case q3 => k_is); (case r3 => rfl); (case q4 => k_is); (case r4 => rfl); (case q5 => k_is); (case r5 => rfl); (case q6 => k_is); (case r6 => rfl); (case q7 => k_is); (case r7 => rfl); (case q8 => k_is); (case r8 => rfl); (case q9 => k_is); (case r9 => rfl); (case q10 => k_is); (case r10 => rfl); (case q11 => k_is); (case r11 => rfl)
  case S =>
    intro K H xs a hO hwi hask hx
    cases hx with
    | cons h1 h2 =>
      cases h2
      cases h1 with
      | lst hs ha =>
        have e := L2.ints_dw a.1 _ ha
        subst e
        exact ⟨_, a.1, rfl, hs, hask, fun H' p hp => .lst (L2.SqL.of hp) (L2.dw_ints _)⟩


