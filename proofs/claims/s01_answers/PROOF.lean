import PyProof.Rows.All
import Wide.All
import OpenK.AllK
import Wide.FinOn
import PyProof.EqAt
import PyProof.EqKinds
import PyProof.TupleCall
import KE.BitLaws
import Open.SpecLaws
import KE.OsHead
import KE.OsGo
import PySem.Challenge.RW_standgoods_s01_answers
-- text SgLayer
section
set_option Elab.async false
set_option linter.all false
set_option maxRecDepth 100000
/- THE HAND LAYER, for ints, bools, texts, own classes, lists, tuples, dicts, comprehensions, walks over dicts, enumerate, zip, reversed, texts, calls, loops. Paste it whole ahead of your own text; what your proof does not reach may be deleted. -/
namespace L2
open PySem PySem.Spec PyProof.Rows
/- a key: an int or a str -/
noncomputable abbrev Key := Sum Int Str
noncomputable def keyIs : Key → Value → Bool
  | .inl k, v => Value.isInt k v
  | .inr x, v => Value.isStrOf x v
noncomputable def keyH (w : World) : Key → Int
  | .inl k => hashInt k
  | .inr x => hashStr w x
theorem keyIs_shape : ∀ {k : Key} {v : Value}, keyIs k v = true → (∃ i t, k = Sum.inl i ∧ v = Value.int i t) ∨ (∃ x t, k = Sum.inr x ∧ v = Value.str x t)
  | .inl i, v, h => by
    obtain ⟨t, e⟩ := Value.isInt_shape (k := i) (v := v) h
    exact .inl ⟨i, t, rfl, e⟩
  | .inr x, v, h => by
    obtain ⟨t, e⟩ := Value.isStrOf_shape (x := x) (v := v) h
    exact .inr ⟨x, t, rfl, e⟩
theorem keyIs_int (i : Int) (t : Tok) : keyIs (.inl i) (.int i t) = true := by simp [keyIs, Value.isInt]
theorem keyIs_str (x : Str) (t : Tok) : keyIs (.inr x) (.str x t) = true := by simp [keyIs, Value.isStrOf]
theorem key_ll (a b : Int) : decide ((Sum.inl a : Key) = Sum.inl b) = (a == b) := by
  by_cases e : a = b
  · subst e; simp
  · have h : ¬ (Sum.inl a : Key) = Sum.inl b := fun q => e (Sum.inl.inj q)
    rw [decide_eq_false h]
    exact (beq_eq_false_iff_ne.mpr e).symm
theorem key_rr (a b : Str) : decide ((Sum.inr a : Key) = Sum.inr b) = decide (a = b) := by
  by_cases e : a = b
  · subst e; simp
  · have h : ¬ (Sum.inr a : Key) = Sum.inr b := fun q => e (Sum.inr.inj q)
    rw [decide_eq_false h, decide_eq_false e]
theorem key_lr (a : Int) (b : Str) : decide ((Sum.inl a : Key) = Sum.inr b) = false := decide_eq_false (fun q => nomatch q)
theorem key_rl (a : Str) (b : Int) : decide ((Sum.inr a : Key) = Sum.inl b) = false := decide_eq_false (fun q => nomatch q)
noncomputable def mixKind (prog : Program) (w : World) : PySem.KeyKind prog w Key where
  is := keyIs
  hash := keyH w
  inj := fun v a b ha hb => by
    rcases keyIs_shape ha with ⟨i, t, rfl, rfl⟩ | ⟨x, t, rfl, rfl⟩
    · rcases keyIs_shape hb with ⟨j, u, rfl, e⟩ | ⟨y, u, rfl, e⟩
      · injection e with e1 _; rw [e1]
      · exact nomatch e
    · rcases keyIs_shape hb with ⟨j, u, rfl, e⟩ | ⟨y, u, rfl, e⟩
      · exact nomatch e
      · injection e with e1 _; rw [e1]
  byValue := fun k v h => by
    rcases keyIs_shape h with ⟨i, t, rfl, rfl⟩ | ⟨x, t, rfl, rfl⟩ <;> rfl
  pyHash := fun hv h => by
    rcases keyIs_shape hv with ⟨i, t, rfl, rfl⟩ | ⟨x, t, rfl, rfl⟩
    · exact wpAny_pyHash_int h
    · exact wpAny_pyHash_str h
  eqBool := fun hu hv h => by
    rcases keyIs_shape hu with ⟨i, t, rfl, rfl⟩ | ⟨x, t, rfl, rfl⟩
    · rcases keyIs_shape hv with ⟨j, u, rfl, rfl⟩ | ⟨y, u, rfl, rfl⟩
      · rw [key_ll] at h; exact wpAny_eqBool_int h
      · rw [key_lr] at h; exact SeqAt.EqAt.int_str i t y u _ _ _ _ h
    · rcases keyIs_shape hv with ⟨j, u, rfl, rfl⟩ | ⟨y, u, rfl, rfl⟩
      · rw [key_rl] at h; exact SeqAt.EqAt.str_int x t j u _ _ _ _ h
      · rw [key_rr] at h; exact wpAny_eqBool_str h
  «strs» := fun k x t v h => by
    rcases keyIs_shape h with ⟨i, u, rfl, e⟩ | ⟨y, u, rfl, e⟩
    · exact nomatch e
    · injection e with e1 _
      subst e1
      cases v <;> rfl
theorem mixKind_int (prog : Program) (w : World) (i : Int) (t : Tok) : (mixKind prog w).is (.inl i) (.int i t) = true := keyIs_int i t
theorem mixKind_str (prog : Program) (w : World) (x : Str) (t : Tok) : (mixKind prog w).is (.inr x) (.str x t) = true := keyIs_str x t
end L2
namespace L2
open PySem PySem.Spec PyProof.Rows
/- a value, without the heap -/
inductive V where
  | non | bl (b : Bool) | int (i : Int) | str (x : Str) | byt (b : Array UInt8) | flt (b : UInt64) | ref (a : Addr) | ty (n : String)
  deriving DecidableEq
noncomputable def RelV : V → Value → Prop
  | .non, u => u = Value.none
  | .bl b, u => u = Value.bool b
  | .int i, u => ∃ t, u = Value.int i t
  | .str x, u => ∃ t, u = Value.str x t
  | .byt b, u => ∃ t, u = Value.bytes b t
  | .flt b, u => ∃ t, u = Value.float b t
  | .ref a, u => u = Value.ref a
  | .ty n, u => u = Value.type n
noncomputable abbrev Vals : List V → List Value → Prop := Paired RelV
theorem Vals.length {xs : List V} {us : List Value} (r : Vals xs us) : xs.length = us.length := Paired.length r
theorem Vals.get : ∀ {xs : List V} {us : List Value} {i : Nat} {x : V}, Vals xs us → xs[i]? = some x → ∃ u, us[i]? = some u ∧ RelV x u
  | _, _, _, _, .nil, e => by simp at e
  | _, _, 0, _, .cons r _, e => by simp at e; subst e; exact ⟨_, rfl, r⟩
  | _, _, i + 1, x, .cons _ t, e => by
    obtain ⟨u, h1, h2⟩ := Vals.get (i := i) (x := x) t (by simpa using e)
    exact ⟨u, by simpa using h1, h2⟩
theorem Vals.set {x : V} {u : Value} (r : RelV x u) : ∀ {xs : List V} {us : List Value} (i : Nat), Vals xs us → Vals (xs.set i x) (us.set i u)
  | _, _, _, .nil => .nil
  | _, _, 0, .cons _ t => .cons r t
  | _, _, i + 1, .cons q t => .cons q (Vals.set r i t)
theorem Vals.append : ∀ {xs ys : List V} {us ws : List Value}, Vals xs us → Vals ys ws → Vals (xs ++ ys) (us ++ ws)
  | _, _, _, _, .nil, s => s
  | _, _, _, _, .cons r t, s => .cons r (Vals.append t s)
theorem Vals.take : ∀ {xs : List V} {us : List Value} (n : Nat), Vals xs us → Vals (xs.take n) (us.take n)
  | _, _, 0, _ => .nil
  | _, _, _ + 1, .nil => .nil
  | _, _, n + 1, .cons r t => .cons r (Vals.take n t)
theorem Vals.drop : ∀ {xs : List V} {us : List Value} (n : Nat), Vals xs us → Vals (xs.drop n) (us.drop n)
  | _, _, 0, r => r
  | _, _, _ + 1, .nil => .nil
  | _, _, n + 1, .cons _ t => Vals.drop n t
noncomputable def RelO : Option V → Option Value → Prop
  | some v, some u => RelV v u
  | none, none => True
  | _, _ => False
noncomputable def KV {κ : Type} : List (κ × V) → List (κ × Value) → Prop := Paired fun (p : κ × V) (q : κ × Value) => p.1 = q.1 ∧ RelV p.2 q.2
/- a key of a dict (00_mix): an int or a text -/
noncomputable def kV : Key → V
  | .inl i => .int i
  | .inr x => .str x
/- what stands at a tracked address -/
inductive HO where
  /- a list -/
  | lst (xs : List V)
  /- a tuple (never changes) -/
  | tup (xs : List V)
  /- a dict whose keys are ints and texts; one whose keys are tuples of ints and texts (the empty one is both) -/
  | dK (kvs : List (Key × V)) | dT (kvs : List (List Key × V))
  /- a set of ints: its members, its size -/
  | set (S : Int → Bool) (n : Nat)
  /- an instance of the class at C, its dict at dx, its attributes -/
  | ins (C dx : Addr) (fs : List (Str × V))
  /- the dict of the instance at x -/
  | own (x : Addr)
  /- the dict of an exception -/
  | xd (fs : List (Str × V))
  /- a bound method, f of x -/
  | met (f x : Addr)
  /- a range object lo, lo + 1, .. below hi -/
  | rng (lo hi : Int)
  /- a thing that is known to the object (the script; a dict while a loop walks it): read, never written while it is so -/
  | frz (o : Obj) (u : HO)
  /- a code object's table -/
  | tbl (ps : Array Value)
  /- any other thing, by what is true of its one object (a def of one's own: SetO a S n := HO.ext fun h => ..) -/
  | ext (φ : Heap → Prop)
noncomputable abbrev Hp := Addr → Option HO
noncomputable def upd (H : Hp) (a : Addr) (o : HO) : Hp := fun b => if b = a then some o else H b
theorem upd_same {H : Hp} {a : Addr} {o : HO} : upd H a o a = some o := by unfold upd; rw [if_pos rfl]
theorem upd_ne {H : Hp} {a b : Addr} {o : HO} (h : b ≠ a) : upd H a o b = H b := by unfold upd; rw [if_neg h]
/- two objects of different content stand apart -/
theorem ne_of {H : Hp} {a b : Addr} {o u : HO} (h : H a = some o) (h' : H b = some u) (d : o ≠ u) : a ≠ b := by
  intro e; subst e; rw [h] at h'; exact d (Option.some.inj h')
theorem ne_of_none {H : Hp} {a b : Addr} {o : HO} (h : H a = some o) (h' : H b = none) : a ≠ b := by
  intro e; subst e; rw [h] at h'; cases h'
section
variable (P : Program) (w : World)
noncomputable def ObjOk (H : Hp) (h : Heap) (a : Addr) : HO → Prop
  | .lst xs => xs.length ≤ sizeLine ∧ ∃ (its : List Value) (n : Nat), Vals xs its ∧ h.get? a = some { cls := .type "list", data := .seq its.toArray n }
  | .tup xs => xs.length ≤ sizeLine ∧ ∃ its : List Value, Vals xs its ∧ IsTup h a its.toArray
  | .dK kvs => kvs.length ≤ sizeLine ∧ (a == sysModules) = false ∧ ∃ vs, KV kvs vs ∧ h.DictOf (mixKind P w) a vs
  | .dT kvs => kvs.length ≤ sizeLine ∧ (a == sysModules) = false ∧ ∃ xs : List (List Key × Addr × Value),
      Paired (fun (p : List Key × V) (q : List Key × Addr × Value) => p.1 = q.1 ∧ H q.2.1 = some (.tup (p.1.map kV)) ∧ RelV p.2 q.2.2) kvs xs ∧
      ∃ o es ep, h.get? a = some o ∧ o.ExactDict ∧ o.data = .dict es ep ∧ es.toList = xs.map (entryOfKey (tupleKind (mixKind P w))) ∧ (xs.map (·.1)).Nodup
  | .set S n => h.SetOf (intKind P w) a S n
  | .ins C dx fs => H dx = some (.own a) ∧ fs.length ≤ 1000 ∧ dx ≠ a ∧ h.get? a = some (PySem.W.instObj C dx) ∧
      ∃ mA, h.Ns1 dx mA ∧ (∀ f, RelO (fs.lookup f) (mA f)) ∧ PySem.Within mA (fs.map (·.1))
  | .own _ => ∃ o, h.get? a = some o
  | .xd fs => ∃ mA, h.Ns1 a mA ∧ ∀ f, RelO (fs.lookup f) (mA f)
  | .rng lo hi => ∃ t u v, h.get? a = some { cls := .type "range", data := .fields #[.int lo t, .int hi u, .int 1 v] }
  | .frz o u => h.get? a = some o ∧ ObjOk H h a u
  | .tbl ps => h.get? a = some { cls := .none, data := .fields ps }
  | .met f x => h.get? a = some (PySem.W.methodObj (.ref f) (.ref x))
  | .ext φ => φ h ∧ (∃ o, h.get? a = some o) ∧ ∀ h1 h2 : Heap, φ h1 → (∀ o, h1.get? a = some o → h2.get? a = some o) → φ h2
/- the abstract heap is held -/
noncomputable def HOk (H : Hp) (h : Heap) : Prop := ∀ a o, H a = some o → ObjOk P w H h a o
end
section
variable {P : Program} {w : World} {H H' : Hp} {h h' : Heap} {a : Addr} {o : HO}
theorem ObjOk.lt (x : ObjOk P w H h a o) : a < h.objs.size := by
  cases o with
  | lst xs => obtain ⟨_, _, _, _, e⟩ := x; exact Heap.lt_size e
  | tup xs => obtain ⟨_, _, _, p⟩ := x; exact p.lt
  | dK kvs => obtain ⟨_, _, _, _, o, _, _, e, _⟩ := x; exact Heap.lt_size e
  | dT kvs => obtain ⟨_, _, _, _, o, _, _, e, _⟩ := x; exact Heap.lt_size e
  | set S n => obtain ⟨o, _, _, _, e, _⟩ := x; exact Heap.lt_size e
  | ins C dx fs => obtain ⟨_, _, _, e, _⟩ := x; exact Heap.lt_size e
  | own y => obtain ⟨_, e⟩ := x; exact Heap.lt_size e
  | xd fs => obtain ⟨_, ⟨_, _, _, e, _⟩, _⟩ := x; exact Heap.lt_size e
  | rng lo hi => obtain ⟨_, _, _, e⟩ := x; exact Heap.lt_size e
  | frz ob u => obtain ⟨e, _⟩ := x; exact Heap.lt_size e
  | tbl ps => exact Heap.lt_size (show h.get? a = some _ from x)
  | met f y => exact Heap.lt_size (show h.get? a = some _ from x)
  | ext φ => obtain ⟨_, ⟨_, e⟩, _⟩ := x; exact Heap.lt_size e
theorem Paired.mapP {α β : Type} {F G : α → β → Prop} {l₁ : List α} {l₂ : List β} (h : Paired F l₁ l₂) (f : ∀ a b, F a b → G a b) : Paired G l₁ l₂ := by
  induction h with
  | nil => exact .nil
  | cons r t ih => exact .cons (f _ _ r) ih
/- what an object's description leans on: its own object, its own dict, the tuples -/
theorem ObjOk.stay (x : ObjOk P w H h a o) (k : ∀ b u, (b = a ∨ H b = some (.own a)) → h.get? b = some u → h'.get? b = some u)
    (ho : ∀ b, H b = some (.own a) → H' b = some (.own a)) (ht : ∀ b xs, H b = some (.tup xs) → H' b = some (.tup xs)) : ObjOk P w H' h' a o := by
  induction o with
  | lst xs => obtain ⟨z, its, n, r, e⟩ := x; exact ⟨z, its, n, r, k _ _ (.inl rfl) e⟩
  | tup xs => obtain ⟨z, its, r, ob, e, c⟩ := x; exact ⟨z, its, r, ob, k _ _ (.inl rfl) e, c⟩
  | dK kvs => obtain ⟨z, y, vs, r, ob, es, ep, e, c⟩ := x; exact ⟨z, y, vs, r, ob, es, ep, k _ _ (.inl rfl) e, c⟩
  | dT kvs =>
    obtain ⟨z, y, xs, r, ob, es, ep, e, c⟩ := x
    exact ⟨z, y, xs, Paired.mapP r fun p q z => ⟨z.1, ht _ _ z.2.1, z.2.2⟩, ob, es, ep, k _ _ (.inl rfl) e, c⟩
  | set S n => obtain ⟨ob, es, ep, t, e, c⟩ := x; exact ⟨ob, es, ep, t, k _ _ (.inl rfl) e, c⟩
  | ins C dx fs =>
    obtain ⟨d, z, ne, e, mA, ⟨od, es, ep, e2, c⟩, r⟩ := x
    exact ⟨ho _ d, z, ne, k _ _ (.inl rfl) e, mA, ⟨od, es, ep, k _ _ (.inr d) e2, c⟩, r⟩
  | own y => obtain ⟨ob, e⟩ := x; exact ⟨ob, k _ _ (.inl rfl) e⟩
  | xd fs => obtain ⟨mA, ⟨od, es, ep, e, c⟩, r⟩ := x; exact ⟨mA, ⟨od, es, ep, k _ _ (.inl rfl) e, c⟩, r⟩
  | rng lo hi => obtain ⟨t, u, v, e⟩ := x; exact ⟨t, u, v, k _ _ (.inl rfl) e⟩
  | frz ob u ih => obtain ⟨e, q⟩ := x; exact ⟨k _ _ (.inl rfl) e, ih q⟩
  | tbl ps =>
    have e : h.get? a = some { cls := .none, data := .fields ps } := x
    show h'.get? a = some { cls := .none, data := .fields ps }
    exact k a _ (.inl rfl) e
  | met f y =>
    have e : h.get? a = some (PySem.W.methodObj (.ref f) (.ref y)) := x
    show h'.get? a = some (PySem.W.methodObj (.ref f) (.ref y))
    exact k a _ (.inl rfl) e
  | ext φ => obtain ⟨p, ⟨o, e⟩, st⟩ := x; exact ⟨st _ _ p fun o q => k _ _ (.inl rfl) q, ⟨o, k _ _ (.inl rfl) e⟩, st⟩
theorem HOk.lt (x : HOk P w H h) (e : H a = some o) : a < h.objs.size := (x a o e).lt
theorem HOk.fresh (x : HOk P w H h) (e : h.objs.size ≤ a) : H a = none := by
  cases q : H a with
  | none => rfl
  | some u => exact absurd (Nat.lt_of_lt_of_le (x.lt q) e) (Nat.lt_irrefl _)
/- every object of the heap is kept -/
theorem HOk.kept (x : HOk P w H h) (k : ∀ b u, h.get? b = some u → h'.get? b = some u) : HOk P w H h' := fun a o e =>
  (x a o e).stay (fun b u _ q => k b u q) (fun _ q => q) fun _ _ q => q
/- a new object is laid and tracked -/
theorem HOk.laid (x : HOk P w H h) (k : ∀ b u, h.get? b = some u → h'.get? b = some u) (hp : h.objs.size ≤ a) (new : ObjOk P w (upd H a o) h' a o) : HOk P w (upd H a o) h' := fun b u e => by
  have hn := x.fresh hp
  by_cases hb : b = a
  · subst hb; rw [upd_same] at e; cases e; exact new
  · rw [upd_ne hb] at e
    exact (x b u e).stay (fun c v _ q => k c v q) (fun c q => by rw [upd_ne (ne_of_none q hn)]; exact q) fun c xs q => by rw [upd_ne (ne_of_none q hn)]; exact q
end
/- what may be read as u: it is u, or a known u -/
noncomputable def Rd (H : Hp) (a : Addr) (u : HO) : Prop := H a = some u ∨ ∃ o, H a = some (.frz o u)
theorem Rd.ok {P : Program} {w : World} {H : Hp} {h : Heap} {a : Addr} {u : HO} (r : Rd H a u) (x : HOk P w H h) : ObjOk P w H h a u := by
  rcases r with r | ⟨o, r⟩
  · exact x a u r
  · obtain ⟨_, q⟩ := x a _ r
    exact q
/- what may be written -/
noncomputable def Mut : Option HO → Prop
  | some (.lst _) => True
  | some (.dK _) => True
  | some (.dT _) => True
  | some (.set _ _) => True
  | some (.ins _ _ _) => True
  | some (.ext _) => True
  | _ => False
section
variable {P : Program} {w : World} {H : Hp} {h h' : Heap} {x e : Addr} {o' : HO}
/- the object at e is changed: x itself, or the dict of the instance x -/
theorem HOk.write (ok : HOk P w H h) (mu : Mut (H x)) (he : e = x ∨ H e = some (.own x)) (k : ∀ b u, b ≠ e → h.get? b = some u → h'.get? b = some u) (heo : ∃ u, h'.get? e = some u)
    (new : ObjOk P w (upd H x o') h' x o') : HOk P w (upd H x o') h' := fun b u q => by
  have nown : ∀ c y, H c = some (.own y) → c ≠ x := fun c y r z => by subst z; rw [r] at mu; exact mu
  have ntup : ∀ c xs, H c = some (.tup xs) → c ≠ x := fun c xs r z => by subst z; rw [r] at mu; exact mu
  by_cases hb : b = x
  · subst hb; rw [upd_same] at q; cases q; exact new
  · rw [upd_ne hb] at q
    by_cases hbe : b = e
    · have q' : H b = some (.own x) := by
        rcases he with z | z
        · exact absurd (hbe.trans z) hb
        · rw [hbe]; exact z
      rw [q] at q'; cases q'
      obtain ⟨v, hv⟩ := heo
      exact ⟨v, by rw [hbe]; exact hv⟩
    · refine (ok b u q).stay (fun c v hc r => k c v ?_ r) (fun c r => by rw [upd_ne (nown c b r)]; exact r) fun c xs r => by rw [upd_ne (ntup c xs r)]; exact r
      rcases hc with rfl | hc
      · exact hbe
      · rintro rfl
        rcases he with z | z
        · exact nown c b hc z
        · rw [hc] at z; cases z; exact hb rfl
end
/- ### kept unless tracked; of the frames at fs (the callers') the slots may change (an exception that passes writes there); of the records at ex (iterators) nothing is said -/
structure Un (fs ex : List Addr) (H H' : Hp) (h h' : Heap) : Prop where
  keep : ∀ b o, h.get? b = some o → H b = none → b ∉ fs → b ∉ ex → h'.get? b = some o
  slot : ∀ b o, h.get? b = some o → H b = none → b ∈ fs → b ∉ ex → ∃ sl, h'.get? b = some { o with slots := sl }
  free : ∀ b o, h.get? b = some o → H b = none → b ∉ ex → H' b = none
  there : ∀ b o, h.get? b = some o → b ∉ ex → ∃ o', h'.get? b = some o'
  tups : ∀ b xs, H b = some (.tup xs) → H' b = some (.tup xs)
  frzs : ∀ b o u, H b = some (.frz o u) → H' b = some (.frz o u)
  tbls : ∀ b ps, H b = some (.tbl ps) → ∃ more, H' b = some (.tbl (ps ++ more))
section
variable {fs fs' ex ex' : List Addr} {H H1 H2 : Hp} {h h1 h2 h' : Heap} {a x e : Addr} {o : HO}
theorem Un.any (u : Un fs ex H H1 h h1) {b : Addr} {ob : Obj} (q : h.get? b = some ob) (n : H b = none) (hx : b ∉ ex) : ∃ sl, h1.get? b = some { ob with slots := sl } := by
  by_cases hb : b ∈ fs
  · exact u.slot b ob q n hb hx
  · exact ⟨ob.slots, u.keep b ob q n hb hx⟩
theorem Un.kept (k : ∀ b u, h.get? b = some u → h'.get? b = some u) : Un fs ex H H h h' :=
  ⟨fun b ob q _ _ _ => k b ob q, fun b ob q _ _ _ => ⟨ob.slots, k b ob q⟩, fun _ _ _ n _ => n, fun b ob q _ => ⟨ob, k b ob q⟩, fun _ _ q => q, fun _ _ _ q => q, fun _ ps q => ⟨#[], by rw [q]; simp⟩⟩
theorem Un.refl : Un fs ex H H h h := Un.kept fun _ _ q => q
theorem Un.laid (k : ∀ b u, h.get? b = some u → h'.get? b = some u) (hp : h.objs.size ≤ a) (hn : H a = none) : Un fs ex H (upd H a o) h h' where
  keep := fun b u q _ _ _ => k b u q
  slot := fun b u q _ _ _ => ⟨u.slots, k b u q⟩
  free := fun b u q n _ => by rw [upd_ne (Nat.ne_of_lt (Nat.lt_of_lt_of_le (Heap.lt_size q) hp))]; exact n
  there := fun b u q _ => ⟨u, k b u q⟩
  tups := fun b xs q => by rw [upd_ne (ne_of_none q hn)]; exact q
  frzs := fun b u xs q => by rw [upd_ne (ne_of_none q hn)]; exact q
  tbls := fun b ps q => ⟨#[], by rw [upd_ne (ne_of_none q hn), q]; simp⟩
theorem Un.write (mu : Mut (H x)) (he : e = x ∨ H e = some (.own x)) (k : ∀ b u, b ≠ e → h.get? b = some u → h'.get? b = some u) (heo : ∃ u, h'.get? e = some u) : Un fs ex H (upd H x o) h h' := by
  have hx : ∀ b, H b = none → b ≠ x := fun b n z => by subst z; rw [n] at mu; exact mu
  have hb : ∀ b, H b = none → b ≠ e := fun b n z => by
    subst z
    rcases he with r | r
    · exact hx b n r
    · rw [n] at r; cases r
  have hm : ∀ b u, H b = some u → ¬ Mut (some u) → b ≠ x := fun b u q nm z => by subst z; rw [q] at mu; exact nm mu
  refine ⟨fun b u q n _ _ => k b u (hb b n) q, fun b u q n _ _ => ⟨u.slots, k b u (hb b n) q⟩, fun b u q n _ => by rw [upd_ne (hx b n)]; exact n, fun b u q _ => ?_,
    fun b xs q => by rw [upd_ne (hm b _ q fun z => z)]; exact q, fun b u xs q => by rw [upd_ne (hm b _ q fun z => z)]; exact q, fun b ps q => ⟨#[], by rw [upd_ne (hm b _ q fun z => z), q]; simp⟩⟩
  by_cases hbe : b = e
  · subst hbe; exact heo
  · exact ⟨u, k b u hbe q⟩
end
/- ### the heap without what is tracked -/
noncomputable def trk (h : Heap) (H : Hp) : List Addr := (List.range h.objs.size).filter fun a => (H a).isSome
noncomputable def hidT (h : Heap) (H : Hp) : Heap := PySem.W.hideAll h (trk h H)
theorem hidT_size (h : Heap) (H : Hp) : (hidT h H).objs.size = h.objs.size := PySem.W.hideAll_size _ _
theorem hidT_get {h : Heap} {H : Hp} {b : Addr} {o : Obj} (e : h.get? b = some o) (n : H b = none) : (hidT h H).get? b = some o :=
  PySem.W.hideAll_get _ e fun hm => by
    have q : (H b).isSome = true := (List.mem_filter.mp hm).2
    rw [n] at q; simp at q
theorem of_hidT {h : Heap} {H : Hp} {b : Addr} {o : Obj} (e : (hidT h H).get? b = some o) : h.get? b = some o ∧ H b = none := by
  have e' : h.get? b = some o := PySem.W.of_hideAll (trk h H) e
  refine ⟨e', ?_⟩
  cases q : H b with
  | none => rfl
  | some x =>
    have hm : b ∈ trk h H := List.mem_filter.mpr ⟨List.mem_range.mpr (Heap.lt_size e'), by simp [q]⟩
    have z : (hidT h H).get? b = none := PySem.W.hideAll_none (trk h H) hm
    rw [z] at e; cases e
/- ### OpenK's ledger, filled with every new object but one -/
end L2
namespace L2
open PySem PySem.Spec PyProof.Rows
/- the module's facts, over the base: the heap at the law's entry without what is tracked there -/
structure Mod (K : PySem.W.Frag) (mg : Str → Option Value) (base : Heap) : Prop where
  kin : K.In base
  glob : base.Ns mainGlobals mg
  blt : ∃ mb, base.Ns builtinsNs mb ∧ ∀ x : Str, x ≠ "__name__" → mb x = bootBuiltins x
  nolimit : base.NoLimit
/- the context: a def's body (or a comprehension's block) running. base: fixed through the whole law; s₀, H₀: the entry; outer: the frames whose slots others may change (a def's callers); stack: all frames that run;
   ex: iterators that were made ahead of the entry and are walked here (a comprehension's); fn: the names whose cells were made at the entry (a def: all; a comprehension's block: its own); calm: not within an except suite; pn: pins that every state bears; xe: what is wanted of an exception that leaves the code -/
structure Cx where
  prog : Program
  w : World
  K : PySem.W.Frag
  mg : Str → Option Value
  base : Heap
  A : Around
  N : List Str
  s_0 : Shared
  H_0 : Hp
  env : Env
  outer : List Env
  stack : List Env
  ex : List Addr
  fn : Str → Bool
  calm : Bool
  pn : List (Addr × Obj)
  xe : Value → Shared → Prop
/- the callers' frames -/
noncomputable def frs (l : List Env) : List Addr := l.filterMap (·.frame)
noncomputable abbrev Cx.fs (X : Cx) : List Addr := frs X.outer
noncomputable def Vis (sc : Scope) (x : Str) : Prop := sc.names.lookup x = some .local ∨ sc.names.lookup x = some .cell ∨ sc.names.lookup x = some .free
noncomputable def Loc (sc : Scope) (x : Str) : Prop := sc.names.lookup x = some .local ∨ sc.names.lookup x = some .cell
noncomputable def Look (env : Env) (h : Heap) (m : Str → Option Value) (x : Str) (u : Value) : Prop :=
  (env.kindOf x = some .local ∧ m x = some u) ∨ ((env.kindOf x = some .cell ∨ env.kindOf x = some .free) ∧ ∃ c, env.cells.lookup x = some c ∧ h.IsCell c (some u))
structure Cx.Ok (X : Cx) : Prop where
  mod : Mod X.K X.mg X.base
  kind : X.env.scope.kind = .function
  glob : X.env.globals = mainGlobals
  blt : X.env.builtins = builtinsNs
  above : X.s_0.heap.objs.size ≤ X.env.locals
  inj : ∀ x y c, X.env.cells.lookup x = some c → X.env.cells.lookup y = some c → x = y
  has : ∀ x, (X.env.kindOf x = some .cell ∨ X.env.kindOf x = some .free) → ∃ c, X.env.cells.lookup x = some c
  cab : ∀ x c, X.fn x = true → X.env.cells.lookup x = some c → X.s_0.heap.objs.size ≤ c
  hd : X.calm = true → X.A.handled = none
  frames : X.A.frames = some X.stack
  stk : X.stack = X.outer ∨ (X.stack = X.env :: X.outer ∧ X.env.frame = some X.env.locals)
  exf : ∀ b ∈ X.ex, b ≠ X.env.locals ∧ ∀ x c, X.env.cells.lookup x = some c → c ≠ b
  bs : ∀ b o, X.base.get? b = some o → X.s_0.heap.get? b = some o ∧ X.H_0 b = none
  bsz : X.base.objs.size ≤ X.s_0.heap.objs.size
  noex : ∀ b o, X.base.get? b = some o → b ∉ X.ex
  exfs : ∀ b ∈ X.ex, b ∉ X.fs
  funs : X.s_0.heap.FunFrames X.base X.outer
  frf : ∀ b ∈ X.fs, X.H_0 b = none
structure Inv (X : Cx) (pins : List (Addr × Obj)) (σ : List (Option V)) (H : Hp) (s : Shared) : Prop where
  ok : X.Ok
  os : s.os = X.s_0.os
  bare : AllBare s.gens
  base : Un X.fs X.ex X.H_0 H X.s_0.heap s.heap
  loc : ∃ m, s.heap.Ns X.env.locals m ∧ ∀ (i : Nat) (x : Str) (v : V), X.N[i]? = some x → σ[i]? = some (some v) → Vis X.env.scope x → ∃ u, RelV v u ∧ Look X.env s.heap m x u
  cell : ∀ x c, X.env.cells.lookup x = some c → ∃ v, s.heap.IsCell c v
  free : H X.env.locals = none
  freeC : ∀ x c, X.env.cells.lookup x = some c → H c = none
  pin : ∀ p ∈ X.pn ++ pins, s.heap.get? p.1 = some p.2 ∧ H p.1 = none ∧ p.1 ≠ X.env.locals ∧ p.1 ∉ X.fs ∧ ∀ v, p.2.data ≠ .cell v
  hok : HOk X.prog X.w H s.heap
  len : σ.length = X.N.length
section
variable {X : Cx} {pins : List (Addr × Obj)} {σ : List (Option V)} {H H' : Hp} {s : Shared} {h' : Heap}
theorem Cx.Ok.nofr (ok : X.Ok) {b : Addr} {o : Obj} (e : X.base.get? b = some o) : b ∉ X.fs := fun hb => by
  have := (ok.funs.mem hb).1
  rw [e] at this; cases this
theorem Inv.bs (I : Inv X pins σ H s) : ∀ b o, X.base.get? b = some o → s.heap.get? b = some o ∧ H b = none := fun b o e =>
  ⟨I.base.keep b o (I.ok.bs b o e).1 (I.ok.bs b o e).2 (I.ok.nofr e) (I.ok.noex b o e), I.base.free b o (I.ok.bs b o e).1 (I.ok.bs b o e).2 (I.ok.noex b o e)⟩
theorem Inv.bk (I : Inv X pins σ H s) : ∀ b o, X.base.get? b = some o → s.heap.get? b = some o := fun b o e => (I.bs b o e).1
theorem Inv.mod (I : Inv X pins σ H s) : Mod X.K X.mg X.base := I.ok.mod
theorem Inv.kIn (I : Inv X pins σ H s) : X.K.In s.heap := I.ok.mod.kin.keeps I.bk
theorem Inv.lt (I : Inv X pins σ H s) : X.env.locals < s.heap.objs.size := let ⟨_, hn, _⟩ := I.loc; hn.lt
theorem Inv.sz (I : Inv X pins σ H s) : X.s_0.heap.objs.size ≤ s.heap.objs.size := Nat.le_trans I.ok.above (Nat.le_of_lt I.lt)
theorem Inv.nofs (I : Inv X pins σ H s) {a : Addr} (h : s.heap.objs.size ≤ a) : a ∉ X.fs := fun hb => by
  obtain ⟨_, o, ho, _⟩ := I.ok.funs.mem hb
  exact absurd (Nat.lt_of_lt_of_le (Heap.lt_size ho) (Nat.le_trans I.sz h)) (Nat.lt_irrefl _)
theorem Inv.cne (I : Inv X pins σ H s) : ∀ x c, X.env.cells.lookup x = some c → c ≠ X.env.locals := fun x c e z => by
  obtain ⟨v, o, ho, hd⟩ := I.cell x c e
  obtain ⟨m, ⟨o', es, ep, ho', hd', _⟩, _⟩ := I.loc
  rw [z, ho'] at ho; cases ho; rw [hd'] at hd; cases hd
theorem Inv.funs (I : Inv X pins σ H s) : s.heap.FunFrames X.base X.outer := by
  have all : ∀ (l : List Env), (∀ b ∈ frs l, b ∈ X.fs) → X.s_0.heap.FunFrames X.base l → s.heap.FunFrames X.base l := by
    intro l
    induction l with
    | nil => intro _ _; trivial
    | cons env r ih =>
      intro hs hl
      obtain ⟨hk, ⟨L, o, hf, hn, ho, hd⟩, hr⟩ := hl
      have hL : L ∈ X.fs := hs L (by unfold frs; rw [List.filterMap_cons, hf]; exact List.mem_cons_self)
      obtain ⟨sl, e⟩ := I.base.slot L o ho (I.ok.frf L hL) hL fun z => I.ok.exfs L z hL
      exact ⟨hk, ⟨L, _, hf, hn, e, hd⟩, ih (fun b hb => hs b (by unfold frs; rw [List.filterMap_cons, hf]; exact List.mem_cons_of_mem _ hb)) hr⟩
  exact all X.outer (fun _ hb => hb) I.ok.funs
/- the frames that run, for a call -/
theorem Inv.stack (I : Inv X pins σ H s) : s.heap.FunFrames X.base X.stack := by
  rcases I.ok.stk with e | ⟨e, hf⟩
  · rw [e]; exact I.funs
  · rw [e]
    obtain ⟨m, hn, _⟩ := I.loc
    refine .cons (by rw [I.ok.kind]; decide) hf hn ?_ I.funs
    exact Heap.get?_none_of_le (Nat.le_trans I.ok.bsz I.ok.above)
theorem Inv.stkSub (I : Inv X pins σ H s) : ∀ b ∈ frs X.stack, b ∈ X.env.locals :: X.fs := fun b hb => by
  rcases I.ok.stk with e | ⟨e, hf⟩
  · rw [e] at hb; exact List.mem_cons_of_mem _ hb
  · rw [e] at hb
    unfold frs at hb
    rw [List.filterMap_cons, hf] at hb
    exact hb
theorem Inv.stkFree (I : Inv X pins σ H s) : ∀ b ∈ frs X.stack, H b = none := fun b hb => by
  rcases List.mem_cons.mp (I.stkSub b hb) with e | hb
  · rw [e]; exact I.free
  · obtain ⟨_, o, ho, _⟩ := I.ok.funs.mem hb
    exact I.base.free b o ho (I.ok.frf b hb) fun z => I.ok.exfs b z hb
/- THE STEP: the untracked objects but the frame and the records at ch are kept (the callers' frames up to slots), the frame's map is kept, the new abstract heap is held -/
theorem Inv.step {g' : Array GenState} {t' : Nat} {d' : Drawn} {ch : List Addr} (I : Inv X pins σ H s)
    (hch : ∀ b ∈ ch, (b ∈ X.ex ∨ X.s_0.heap.objs.size ≤ b) ∧ b ≠ X.env.locals ∧ (∀ x c, X.env.cells.lookup x = some c → c ≠ b) ∧ ∀ p ∈ X.pn ++ pins, p.1 ≠ b)
    (keep : ∀ b o, b ≠ X.env.locals → b ∉ X.fs → b ∉ ch → s.heap.get? b = some o → H b = none → h'.get? b = some o)
    (slot : ∀ b o, b ≠ X.env.locals → b ∈ X.fs → b ∉ ch → s.heap.get? b = some o → H b = none → ∃ sl, h'.get? b = some { o with slots := sl }) (free : ∀ b o, b ∉ ch → s.heap.get? b = some o → H b = none → H' b = none)
    (there : ∀ b o, b ∉ ch → s.heap.get? b = some o → ∃ o', h'.get? b = some o')
    (tups : ∀ b xs, H b = some (.tup xs) → H' b = some (.tup xs)) (frzs : ∀ b o u, H b = some (.frz o u) → H' b = some (.frz o u)) (tbls : ∀ b ps, H b = some (.tbl ps) → ∃ more, H' b = some (.tbl (ps ++ more)))
    (ns : ∀ m, s.heap.Ns X.env.locals m → h'.Ns X.env.locals m) (hok : HOk X.prog X.w H' h') (hg : AllBare g') :
    Inv X pins σ H' { s with heap := h', gens := g', drawn := d', toks := t' } := by
  have neL : ∀ b o, X.s_0.heap.get? b = some o → b ≠ X.env.locals := fun b o e => Nat.ne_of_lt (Nat.lt_of_lt_of_le (Heap.lt_size e) I.ok.above)
  have neC : ∀ b o, X.s_0.heap.get? b = some o → b ∉ X.ex → b ∉ ch := fun b o e hx hb => by
    rcases (hch b hb).1 with z | z
    · exact hx z
    · exact absurd (Nat.lt_of_lt_of_le (Heap.lt_size e) z) (Nat.lt_irrefl _)
  have cellK : ∀ x c, X.env.cells.lookup x = some c → ∀ v, s.heap.IsCell c v → h'.IsCell c v := fun x c e v ⟨o, ho, hd⟩ => by
    have nch : c ∉ ch := fun z => (hch c z).2.2.1 x c e rfl
    by_cases hc : c ∈ X.fs
    · obtain ⟨sl, q⟩ := slot c o (I.cne x c e) hc nch ho (I.freeC x c e)
      exact ⟨_, q, hd⟩
    · exact ⟨o, keep c o (I.cne x c e) hc nch ho (I.freeC x c e), hd⟩
  refine ⟨I.ok, I.os, hg, ⟨fun b o e n hb hx => ?_, fun b o e n hb hx => ?_, fun b o e n hx => ?_, fun b o e hx => ?_, fun b xs e => tups b xs (I.base.tups b xs e), fun b o xs e => frzs b o xs (I.base.frzs b o xs e), fun b ps e => ?_⟩, ?_, fun x c e => ?_, ?_, fun x c e => ?_, fun p hp => ?_, hok, I.len⟩
  · exact keep b o (neL b o e) hb (neC b o e hx) (I.base.keep b o e n hb hx) (I.base.free b o e n hx)
  · obtain ⟨sl, e1⟩ := I.base.slot b o e n hb hx
    obtain ⟨sl', e2⟩ := slot b _ (neL b o e) hb (neC b o e hx) e1 (I.base.free b o e n hx)
    exact ⟨sl', e2⟩
  · obtain ⟨o', e1⟩ := I.base.there b o e hx
    exact free b o' (neC b o e hx) e1 (I.base.free b o e n hx)
  · obtain ⟨o', e1⟩ := I.base.there b o e hx
    exact there b o' (neC b o e hx) e1
  · obtain ⟨m1, e1⟩ := I.base.tbls b ps e
    obtain ⟨m2, e2⟩ := tbls b _ e1
    exact ⟨m1 ++ m2, by rw [e2, Array.append_assoc]⟩
  · obtain ⟨m, hn, hl⟩ := I.loc
    refine ⟨m, ns m hn, fun i x v e1 e2 e3 => ?_⟩
    obtain ⟨u, r, l⟩ := hl i x v e1 e2 e3
    refine ⟨u, r, ?_⟩
    rcases l with l | ⟨k, c, e, z⟩
    · exact .inl l
    · exact .inr ⟨k, c, e, cellK x c e _ z⟩
  · obtain ⟨v, z⟩ := I.cell x c e
    exact ⟨v, cellK x c e v z⟩
  · obtain ⟨m, ⟨o, _, _, ho, _⟩, _⟩ := I.loc
    exact free _ o (fun z => (hch _ z).2.1 rfl) ho I.free
  · obtain ⟨v, o, ho, hd⟩ := I.cell x c e
    exact free c o (fun z => (hch c z).2.2.1 x c e rfl) ho (I.freeC x c e)
  · obtain ⟨e, n, ne, nf, d⟩ := I.pin p hp
    have nch : p.1 ∉ ch := fun z => (hch p.1 z).2.2.2 p hp rfl
    exact ⟨keep p.1 p.2 ne nf nch e n, free p.1 p.2 nch e n, ne, nf, d⟩
/- .. where the frame's own object is kept too -/
theorem Inv.un {t' : Nat} (I : Inv X pins σ H s) (u : Un X.fs [] H H' s.heap h') (hok : HOk X.prog X.w H' h') : Inv X pins σ H' { s with heap := h', toks := t' } := by
  obtain ⟨m, ⟨o, es, ep, ho, r⟩, _⟩ := id I.loc
  obtain ⟨sl, hL⟩ := u.any ho I.free (by simp)
  exact I.step (g' := s.gens) (d' := s.drawn) (ch := []) (fun _ z => nomatch z) (fun b o _ hb _ e n => u.keep b o e n hb (by simp)) (fun b o _ hb _ e n => u.slot b o e n hb (by simp)) (fun b o _ e n => u.free b o e n (by simp)) (fun b o _ e => u.there b o e (by simp)) u.tups u.frzs u.tbls (fun m' hm => by
    obtain ⟨o', es', ep', ho', r'⟩ := hm
    rw [ho] at ho'; cases ho'
    exact ⟨_, es', ep', hL, r'⟩) hok I.bare
/- behind a call (or a comprehension's block): the slots of this frame may have changed too, the records at ch may have turned -/
theorem Inv.call {g' : Array GenState} {t' : Nat} {d' : Drawn} {ch : List Addr} (I : Inv X pins σ H s) (u : Un (frs X.stack) ch H H' s.heap h') (hok : HOk X.prog X.w H' h') (hg : AllBare g')
    (hch : ∀ b ∈ ch, (b ∈ X.ex ∨ X.s_0.heap.objs.size ≤ b) ∧ b ≠ X.env.locals ∧ (∀ x c, X.env.cells.lookup x = some c → c ≠ b) ∧ ∀ p ∈ X.pn ++ pins, p.1 ≠ b) :
    Inv X pins σ H' { s with heap := h', gens := g', drawn := d', toks := t' } := by
  obtain ⟨m, ⟨o, es, ep, ho, r⟩, _⟩ := id I.loc
  obtain ⟨sl, hL⟩ := u.any ho I.free fun z => (hch _ z).2.1 rfl
  exact I.step (ch := ch) hch (fun b o hL hb hc e n => u.keep b o e n (fun z => (List.mem_cons.mp (I.stkSub b z)).elim hL hb) hc) (fun b o _ _ hc e n => u.any e n hc) (fun b o hc e n => u.free b o e n hc) (fun b o hc e => u.there b o e hc) u.tups u.frzs u.tbls (fun m' hm => by
    obtain ⟨o', es', ep', ho', r'⟩ := hm
    rw [ho] at ho'; cases ho'
    exact ⟨_, es', ep', hL, r'⟩) hok hg
/- an untracked record of ours (an iterator) has turned -/
theorem Inv.turned {t' : Nat} {it : Addr} (I : Inv X pins σ H s) (k : ∀ b o, b ≠ it → s.heap.get? b = some o → h'.get? b = some o) (hn : H it = none) (hL : it ≠ X.env.locals)
    (h1 : it ∈ X.ex ∨ X.s_0.heap.objs.size ≤ it) (h2 : ∀ x c, X.env.cells.lookup x = some c → c ≠ it) (h3 : ∀ p ∈ X.pn ++ pins, p.1 ≠ it) : Inv X pins σ H { s with heap := h', toks := t' } := by
  have nit : ∀ b u, H b = some u → b ≠ it := fun b u e z => by rw [z, hn] at e; cases e
  refine I.step (g' := s.gens) (d' := s.drawn) (ch := [it]) (fun b hb => ?_) (fun b o _ _ hc e _ => k b o (fun z => hc (by simp [z])) e) (fun b o _ _ hc e _ => ⟨o.slots, k b o (fun z => hc (by simp [z])) e⟩) (fun _ _ _ _ n => n)
    (fun b o hc e => ⟨o, k b o (fun z => hc (by simp [z])) e⟩) (fun _ _ e => e) (fun _ _ _ e => e) (fun b ps e => ⟨#[], by rw [e]; simp⟩) (fun m hm => ?_) (fun b u e => ?_) I.bare
  · have e : b = it := by simpa using hb
    subst e
    exact ⟨h1, hL, h2, h3⟩
  · obtain ⟨o, es, ep, ho, r⟩ := hm
    exact ⟨o, es, ep, k _ o (Ne.symm hL) ho, r⟩
  · refine (I.hok b u e).stay (fun c v hc q => k c v ?_ q) (fun _ q => q) fun _ _ q => q
    rcases hc with z | z
    · rw [z]; exact nit b u e
    · exact nit c _ z
theorem Inv.tok (I : Inv X pins σ H s) (t : Nat) : Inv X pins σ H { s with toks := t } := I.un (h' := s.heap) (t' := t) Un.refl I.hok
/- all objects kept -/
theorem Inv.kept {t' : Nat} (I : Inv X pins σ H s) (k : ∀ b u, s.heap.get? b = some u → h'.get? b = some u) : Inv X pins σ H { s with heap := h', toks := t' } := I.un (Un.kept k) (I.hok.kept k)
/- a new object laid and tracked -/
theorem Inv.laid {a : Addr} {o : HO} {t' : Nat} (I : Inv X pins σ H s) (k : ∀ b u, s.heap.get? b = some u → h'.get? b = some u) (hp : s.heap.objs.size ≤ a) (new : ObjOk X.prog X.w (upd H a o) h' a o) :
    Inv X pins σ (upd H a o) { s with heap := h', toks := t' } := I.un (Un.laid k hp (I.hok.fresh hp)) (I.hok.laid k hp new)
/- an object written -/
theorem Inv.write {x e : Addr} {o : HO} {t' : Nat} (I : Inv X pins σ H s) (mu : Mut (H x)) (he : e = x ∨ H e = some (.own x)) (k : ∀ b u, b ≠ e → s.heap.get? b = some u → h'.get? b = some u) (heo : ∃ u, h'.get? e = some u)
    (new : ObjOk X.prog X.w (upd H x o) h' x o) : Inv X pins σ (upd H x o) { s with heap := h', toks := t' } := I.un (Un.write mu he k heo) (I.hok.write mu he k heo new)
/- forgetting slots, pins -/
theorem Inv.weak {σ' : List (Option V)} (I : Inv X pins σ H s) (hl : σ'.length = σ.length) (w : ∀ (i : Nat) v, σ'[i]? = some (some v) → σ[i]? = some (some v)) : Inv X pins σ' H s :=
  ⟨I.ok, I.os, I.bare, I.base, let ⟨m, hn, hl'⟩ := I.loc; ⟨m, hn, fun i x v e1 e2 e3 => hl' i x v e1 (w i v e2) e3⟩, I.cell, I.free, I.freeC, I.pin, I.hok, hl.trans I.len⟩
theorem Inv.pins_of {pins' : List (Addr × Obj)} (I : Inv X pins σ H s) (h : ∀ p ∈ pins', s.heap.get? p.1 = some p.2 ∧ H p.1 = none ∧ p.1 ≠ X.env.locals ∧ p.1 ∉ X.fs ∧ ∀ v, p.2.data ≠ .cell v) : Inv X pins' σ H s :=
  ⟨I.ok, I.os, I.bare, I.base, I.loc, I.cell, I.free, I.freeC, fun p hp => (List.mem_append.mp hp).elim (fun z => I.pin p (List.mem_append_left _ z)) (h p), I.hok, I.len⟩
theorem nodup_ix {N : List Str} (hN : N.Nodup) {i j : Nat} {x : Str} (a : N[i]? = some x) (b : N[j]? = some x) : i = j := by
  obtain ⟨h1, e1⟩ := List.getElem?_eq_some_iff.mp a
  obtain ⟨h2, e2⟩ := List.getElem?_eq_some_iff.mp b
  exact (List.getElem_inj hN).mp (e1.trans e2.symm)
/- a name is stored; what changed -/
theorem store_ok2 {M : Model} {A : Around} {E : Value → Shared → Prop} {i : Nat} {x : Str} {v : V} {u : Value} {Q : Unit → Shared → Prop} (I : Inv X pins σ H s) (hN : X.N.Nodup) (hi : X.N[i]? = some x) (hx : Loc X.env.scope x) (r : RelV v u)
    (h : ∀ s', Inv X pins (σ.set i (some v)) H s' → (∃ a, Heap.SameBut a s.heap s'.heap ∧ (a = X.env.locals ∨ X.env.cells.lookup x = some a)) → Q () s') (hf : X.fn x = true ∨ X.env.scope.names.lookup x = some .local := by first | exact .inl rfl | exact .inr rfl | assumption) : wpAny M A (storeName X.env x u) Q E s := by
  obtain ⟨m, hn, hl⟩ := id I.loc
  have hcls : (X.env.scope.kind == .class || (X.env.scope.kind == .module && X.env.locals != X.env.globals)) = false := by rw [I.ok.kind]; rfl
  have hiσ : i < σ.length := by rw [I.len]; exact (List.getElem?_eq_some_iff.mp hi).1
  have cne := I.cne
  have tracked : ∀ {a : Addr} {h' : Heap}, (∃ o, s.heap.get? a = some o ∧ H a = none) → Heap.SameBut a s.heap h' → HOk X.prog X.w H h' := fun {a h'} ha hs b ob e => by
    obtain ⟨_, _, hfree⟩ := ha
    refine (I.hok b ob e).stay (fun c w' hc q => (hs.2 c ?_).trans q) (fun _ q => q) fun _ _ q => q
    rintro rfl
    rcases hc with rfl | hc
    · rw [hfree] at e; cases e
    · rw [hfree] at hc; cases hc
  rcases hx with hk | hk
  · refine wpAny_storeName_local hk hn (fun h' hn' hs => ?_) hcls
    obtain ⟨oL, _, _, hoL, _⟩ := id hn
    refine h _ ⟨I.ok, I.os, I.bare, ⟨fun b o e n hb hx => ?_, fun b o e n hb hx => ?_, I.base.free, fun b o e hx => ?_, I.base.tups, I.base.frzs, I.base.tbls⟩, ⟨_, hn', fun j y v' e1 e2 e3 => ?_⟩, fun y c e => ?_, I.free, I.freeC, fun p hp => ?_, tracked ⟨oL, hoL, I.free⟩ hs, by simpa using I.len⟩ ⟨_, hs, .inl rfl⟩
    · exact (hs.2 b (Nat.ne_of_lt (Nat.lt_of_lt_of_le (Heap.lt_size e) I.ok.above))).trans (I.base.keep b o e n hb hx)
    · obtain ⟨sl, e1⟩ := I.base.slot b o e n hb hx
      exact ⟨sl, (hs.2 b (Nat.ne_of_lt (Nat.lt_of_lt_of_le (Heap.lt_size e) I.ok.above))).trans e1⟩
    · obtain ⟨o', e1⟩ := I.base.there b o e hx
      exact ⟨o', (hs.2 b (Nat.ne_of_lt (Nat.lt_of_lt_of_le (Heap.lt_size e) I.ok.above))).trans e1⟩
    · by_cases hj : j = i
      · subst hj
        rw [hi] at e1; cases e1
        rw [List.getElem?_set_self hiσ] at e2
        cases e2
        exact ⟨u, r, .inl ⟨hk, by simp⟩⟩
      · rw [List.getElem?_set_ne (Ne.symm hj)] at e2
        obtain ⟨u', r', q⟩ := hl j y v' e1 e2 e3
        refine ⟨u', r', ?_⟩
        rcases q with ⟨k, e⟩ | ⟨k, c, e, z⟩
        · refine .inl ⟨k, ?_⟩
          have : y ≠ x := fun e => hj (nodup_ix hN e1 (e ▸ hi))
          simp [this, e]
        · exact .inr ⟨k, c, e, z.sameBut hs (cne y c e)⟩
    · obtain ⟨w', z⟩ := I.cell y c e
      exact ⟨w', z.sameBut hs (cne y c e)⟩
    · obtain ⟨e, n, ne, nf, d⟩ := I.pin p hp
      exact ⟨(hs.2 p.1 ne).trans e, n, ne, nf, d⟩
  · have hfn : X.fn x = true := by
      rcases hf with z | z
      · exact z
      · rw [z] at hk; cases hk
    obtain ⟨c, hc⟩ := I.ok.has x (.inl hk)
    obtain ⟨w', z⟩ := I.cell x c hc
    refine wpAny_storeName_cell I.ok.kind hk hc z (fun h' hc' hs => ?_)
    obtain ⟨oc, hoc, hocd⟩ := id z
    refine h { s with heap := h' } ⟨I.ok, I.os, I.bare, ⟨fun b o e n hb hx => ?_, fun b o e n hb hx => ?_, I.base.free, fun b o e hx => ?_, I.base.tups, I.base.frzs, I.base.tbls⟩, ⟨m, hn.sameBut hs (Ne.symm (cne x c hc)), fun j y v' e1 e2 e3 => ?_⟩, fun y c' e => ?_, I.free, I.freeC, fun p hp => ?_, tracked ⟨oc, hoc, I.freeC x c hc⟩ hs, by simpa using I.len⟩ ⟨c, hs, .inr hc⟩
    · exact (hs.2 b (Nat.ne_of_lt (Nat.lt_of_lt_of_le (Heap.lt_size e) (I.ok.cab x c hfn hc)))).trans (I.base.keep b o e n hb hx)
    · obtain ⟨sl, e1⟩ := I.base.slot b o e n hb hx
      exact ⟨sl, (hs.2 b (Nat.ne_of_lt (Nat.lt_of_lt_of_le (Heap.lt_size e) (I.ok.cab x c hfn hc)))).trans e1⟩
    · obtain ⟨o', e1⟩ := I.base.there b o e hx
      exact ⟨o', (hs.2 b (Nat.ne_of_lt (Nat.lt_of_lt_of_le (Heap.lt_size e) (I.ok.cab x c hfn hc)))).trans e1⟩
    · by_cases hj : j = i
      · subst hj
        rw [hi] at e1; cases e1
        rw [List.getElem?_set_self hiσ] at e2
        cases e2
        exact ⟨u, r, .inr ⟨.inl hk, c, hc, hc'⟩⟩
      · rw [List.getElem?_set_ne (Ne.symm hj)] at e2
        obtain ⟨u', r', q⟩ := hl j y v' e1 e2 e3
        refine ⟨u', r', ?_⟩
        rcases q with q | ⟨k, c', e, z'⟩
        · exact .inl q
        · refine .inr ⟨k, c', e, z'.sameBut hs ?_⟩
          rintro rfl
          exact hj (nodup_ix hN e1 (I.ok.inj _ _ _ e hc ▸ hi))
    · by_cases hcc : c' = c
      · subst hcc; exact ⟨_, hc'⟩
      · obtain ⟨w2, z2⟩ := I.cell y c' e
        exact ⟨w2, z2.sameBut hs hcc⟩
    · obtain ⟨e, n, ne, nf, d⟩ := I.pin p hp
      refine ⟨(hs.2 p.1 ?_).trans e, n, ne, nf, d⟩
      intro q
      rw [q, hoc] at e
      have q' : oc = p.2 := Option.some.inj e
      exact d w' (by rw [← q']; exact hocd)
theorem store_ok {M : Model} {A : Around} {E : Value → Shared → Prop} {i : Nat} {x : Str} {v : V} {u : Value} {Q : Unit → Shared → Prop} (I : Inv X pins σ H s) (hN : X.N.Nodup) (hi : X.N[i]? = some x) (hx : Loc X.env.scope x) (r : RelV v u)
    (h : ∀ s', Inv X pins (σ.set i (some v)) H s' → Q () s') (hf : X.fn x = true ∨ X.env.scope.names.lookup x = some .local := by first | exact .inl rfl | exact .inr rfl | assumption) : wpAny M A (storeName X.env x u) Q E s :=
  store_ok2 I hN hi hx r (fun s' I' _ => h s' I') hf
/- behind a call or a block, the state as it is -/
theorem Inv.call' {s' : Shared} {ch : List Addr} (I : Inv X pins σ H s) (ho : s'.os = s.os) (u : Un (frs X.stack) ch H H' s.heap s'.heap) (hok : HOk X.prog X.w H' s'.heap) (hg : AllBare s'.gens)
    (hch : ∀ b ∈ ch, (b ∈ X.ex ∨ X.s_0.heap.objs.size ≤ b) ∧ b ≠ X.env.locals ∧ (∀ x c, X.env.cells.lookup x = some c → c ≠ b) ∧ ∀ p ∈ X.pn ++ pins, p.1 ≠ b) : Inv X pins σ H' s' := by
  obtain ⟨h', g', d', t', o'⟩ := s'
  have e : o' = s.os := ho
  subst e
  exact I.call (g' := g') (t' := t') (d' := d') u hok hg hch
end
/- ### the judgements -/
/- an exception: its class, its own dict's address (where it has one), the abstract heap behind it -/
noncomputable abbrev XK := Value → Option Addr → Hp → Prop
noncomputable abbrev St := List (Option V)
noncomputable abbrev VK := V → Hp → Prop
/- an expression's reading; a test's; an argument list's -/
noncomputable abbrev TE := St → Hp → VK → Prop
noncomputable abbrev TT := St → Hp → (Bool → Hp → Prop) → Prop
noncomputable abbrev TA := St → Hp → (List V → Hp → Prop) → Prop
/- what is wanted behind a statement -/
structure Ends where
  nx : St → Hp → Prop
  rt : VK
  bk : St → Hp → Prop := fun _ _ => False
  ct : St → Hp → Prop := fun _ _ => False
noncomputable abbrev TS := Ends → St → Hp → Prop
noncomputable def EP (X : Cx) (pins : List (Addr × Obj)) (σ : St) (Q : VK) (u : Value) (s' : Shared) : Prop := ∃ v H', Inv X pins σ H' s' ∧ RelV v u ∧ Q v H'
noncomputable def TP (X : Cx) (pins : List (Addr × Obj)) (σ : St) (Q : Bool → Hp → Prop) (b : Bool) (s' : Shared) : Prop := ∃ H', Inv X pins σ H' s' ∧ Q b H'
noncomputable def AP (X : Cx) (pins : List (Addr × Obj)) (σ : St) (Q : List V → Hp → Prop) (us : List Value) (s' : Shared) : Prop := ∃ vs H', Inv X pins σ H' s' ∧ Vals vs us ∧ Q vs H'
noncomputable def SP (X : Cx) (pins : List (Addr × Obj)) (D : Ends) (f : Flow) (s' : Shared) : Prop :=
  match f with
  | .next => ∃ σ' H', Inv X pins σ' H' s' ∧ D.nx σ' H'
  | .brk => ∃ σ' H', Inv X pins σ' H' s' ∧ D.bk σ' H'
  | .cont => ∃ σ' H', Inv X pins σ' H' s' ∧ D.ct σ' H'
  | .ret u => ∃ v σ' H', Inv X pins σ' H' s' ∧ RelV v u ∧ D.rt v H'
noncomputable def PE (X : Cx) (e : Expr) (t : TE) : Prop :=
  ∀ (pins : List (Addr × Obj)) (s : Shared) (σ : St) (H : Hp) (Q : VK), Inv X pins σ H s → t σ H Q → wpAny (model X.prog X.w) X.A (eval e X.env) (EP X pins σ Q) X.xe s
noncomputable def PT (X : Cx) (e : Expr) (t : TT) : Prop :=
  ∀ (pins : List (Addr × Obj)) (s : Shared) (σ : St) (H : Hp) (Q : Bool → Hp → Prop), Inv X pins σ H s → t σ H Q → wpAny (model X.prog X.w) X.A (isTrue e X.env (eval e X.env)) (TP X pins σ Q) X.xe s
/- a test whatever its 'whole' is (and, or) -/
noncomputable def PW (X : Cx) (e : Expr) (t : TT) : Prop :=
  ∀ (whole : Sem Value) (pins : List (Addr × Obj)) (s : Shared) (σ : St) (H : Hp) (Q : Bool → Hp → Prop), Inv X pins σ H s → t σ H Q → wpAny (model X.prog X.w) X.A (isTrue e X.env whole) (TP X pins σ Q) X.xe s
theorem PW.pt {X : Cx} {e : Expr} {t : TT} (h : PW X e t) : PT X e t := h _
/- an argument list (no star), from the left -/
noncomputable def PA (X : Cx) (es : List Expr) (t : TA) : Prop :=
  ∀ (pos : Pos) (pins : List (Addr × Obj)) (s : Shared) (σ : St) (H : Hp) (Q : List V → Hp → Prop), Inv X pins σ H s → t σ H Q → wpAny (model X.prog X.w) X.A (spliced (backTo pos (starEach es X.env))) (AP X pins σ Q) X.xe s
noncomputable def PS (X : Cx) (st : Stmt) (t : TS) : Prop :=
  ∀ (pins : List (Addr × Obj)) (s : Shared) (σ : St) (H : Hp) (D : Ends), Inv X pins σ H s → t D σ H → wpAny (model X.prog X.w) X.A (exec st X.env) (SP X pins D) X.xe s
noncomputable def PSs (X : Cx) (st : List Stmt) (t : TS) : Prop :=
  ∀ (pins : List (Addr × Obj)) (s : Shared) (σ : St) (H : Hp) (D : Ends), Inv X pins σ H s → t D σ H → wpAny (model X.prog X.w) X.A (execs st X.env) (SP X pins D) X.xe s
/- weaken the end -/
theorem thn {α : Type} {t : Sem α} {Q Q' : α → Shared → Prop} {M : Model} {A : Around} {E : Value → Shared → Prop} {s : Shared} (h : wpAny M A t Q E s) (hQ : ∀ a s, Q a s → Q' a s) : wpAny M A t Q' E s := wpAny_mono h hQ fun _ _ x => x
end L2
namespace L2
open PySem PySem.Spec PyProof.Rows
section
variable {X : Cx}
/- ### names and constants -/
noncomputable def tVar (i : Nat) : TE := fun σ H Q => ∃ v, σ[i]? = some (some v) ∧ Q v H
noncomputable def tC (v : V) : TE := fun _ H Q => Q v H
theorem pe_var {i : Nat} {x : Str} {pos : Pos} (hN : X.N[i]? = some x) (hv : Vis X.env.scope x) (hd : (x == ("__debug__" : Str)) = false := by decide) (hcd : (x == ("__classdict__" : Str)) = false := by decide) : PE X (.Name x pos) (tVar i) := by
  intro pins s σ H Q I h
  obtain ⟨v, e, h⟩ := h
  obtain ⟨m, hn, hl⟩ := I.loc
  obtain ⟨u, r, l⟩ := hl i x v hN e hv
  have fin : EP X pins σ Q u s := ⟨v, H, I, r, h⟩
  rcases l with ⟨hk, hm⟩ | ⟨hk, c, hc, hcell⟩
  · exact wpAny_Name (wpAny_loadName_local I.ok.kind hk hn hm fin) hd
  · rcases hk with hk | hk
    · exact wpAny_Name (wpAny_loadName_cell I.ok.kind hk hc hcell fin) hd
    · exact wpAny_Name (wpAny_loadName_free I.ok.kind hk hc hcell fin hcd) hd
theorem pe_int {i j pos} : PE X (.Constant (.int i) j pos) (tC (.int i)) := fun _ _ _ H _ I h => wpAny_Constant_int ⟨.int i, H, I.tok _, ⟨_, rfl⟩, h⟩
theorem pe_bl {b j pos} : PE X (.Constant (.bool b) j pos) (tC (.bl b)) := fun _ _ _ H _ I h => Constant_bool ⟨.bl b, H, I, rfl, h⟩
/- a global name of the def -/
noncomputable def Gl (X : Cx) (x : Str) : Prop := X.env.kindOf x = some .globalImplicit
theorem ld_glob {E : Value → Shared → Prop} {pins : List (Addr × Obj)} {s : Shared} {σ : St} {H : Hp} {x : Str} {u : Value} {pos : Pos} {Q : Value → Shared → Prop} (I : Inv X pins σ H s) (hg : Gl X x) (hm : X.mg x = some u) (h : Q u s)
    (hd : (x == ("__debug__" : Str)) = false := by decide) : wpAny (model X.prog X.w) X.A (eval (.Name x pos) X.env) Q E s :=
  Calls.Name_function_global I.ok.kind hg (Calls.loadGlobal_global (by rw [I.ok.glob]; exact I.mod.glob.keeps I.bk) hm h) hd
theorem ld_blt {E : Value → Shared → Prop} {pins : List (Addr × Obj)} {s : Shared} {σ : St} {H : Hp} {x : Str} {u : Value} {pos : Pos} {Q : Value → Shared → Prop} (I : Inv X pins σ H s) (hg : Gl X x) (hm : X.mg x = none) (hv : bootBuiltins x = some u) (h : Q u s)
    (hn : x ≠ "__name__" := by decide) (hd : (x == ("__debug__" : Str)) = false := by decide) : wpAny (model X.prog X.w) X.A (eval (.Name x pos) X.env) Q E s := by
  obtain ⟨mb, h1, h2⟩ := I.mod.blt
  exact Calls.Name_function_global I.ok.kind hg (Calls.loadGlobal_builtin (by rw [I.ok.glob]; exact I.mod.glob.keeps I.bk) hm (by rw [I.ok.blt]; exact h1.keeps I.bk) ((h2 x hn).trans hv) h) hd
/- a module's constant, a class, a function, as a value -/
theorem pe_glob {x : Str} {v : V} {u : Value} {pos : Pos} (hg : Gl X x) (hm : X.mg x = some u) (r : RelV v u) (hd : (x == ("__debug__" : Str)) = false := by decide) : PE X (.Name x pos) (tC v) :=
  fun _ _ _ H _ I h => ld_glob I hg hm ⟨v, H, I, r, h⟩ hd
/- ### arithmetic -/
variable {a b : Expr} {ta tb : TE} {pos : Pos}
/- ### comparisons -/
noncomputable def PC (X : Cx) (op : CmpOp) (a b : Expr) (t : TE) : Prop :=
  ∀ (pins : List (Addr × Obj)) (s : Shared) (σ : St) (H : Hp) (Q : VK), Inv X pins σ H s → t σ H Q →
    wpAny (model X.prog X.w) X.A (eval a X.env) (fun v s₁ => wpAny (model X.prog X.w) X.A (eval b X.env) (fun u s₂ => wpAny (model X.prog X.w) X.A (compareOp op v u) (EP X pins σ Q) X.xe s₂) X.xe s₁) X.xe s
/- a comparison as a value, as a test -/
noncomputable def tB (t : TE) : TT := fun σ H Q => t σ H fun x H1 => ∃ c, x = .bl c ∧ Q c H1
theorem pt_cmp {op : CmpOp} {t : TE} (h : PC X op a b t) (h1 : behindInMarks op b = false := by first | exact nobehind _ (by decide) (by decide) | rfl) : PT X (.Compare a [op] [b] pos) (tB t) := by
  intro pins s σ H Q I hw
  refine wpAny_isTrue_Compare1 (thn (h pins s σ H _ I hw) fun v s1 h1 => thn h1 fun u s2 h2 => thn h2 fun c s3 zq => ?_) h1
  obtain ⟨x, H1, I1, r1, q1⟩ := zq
  obtain ⟨d, rfl, q⟩ := q1
  cases r1
  exact wpAny_truthy_bool ⟨H1, I1, q⟩
/- an expression whose value is a bool, as a test -/
theorem pt_val {e : Expr} {t : TE} (h : PE X e t) (he : ∀ whole, isTrue e X.env whole = (do let v ← whole; standAt e.pos; holding [v] (truthy v)) := by intro _; rfl) : PT X e (tB t) := by
  intro pins s σ H Q I hw
  refine isTrue_plain (thn (h pins s σ H _ I hw) fun v s1 zq => ?_) (he _)
  obtain ⟨x, H1, I1, r1, q1⟩ := zq
  obtain ⟨d, rfl, q⟩ := q1
  cases r1
  exact wpAny_truthy_bool ⟨H1, I1, q⟩
/- ### and, or, not -/
variable {tA tB' : TT} {rest : List Expr}
noncomputable def tAnd (t u : TT) : TT := fun σ H Q => t σ H fun c H1 => if c = true then u σ H1 Q else Q false H1
noncomputable def tOr (t u : TT) : TT := fun σ H Q => t σ H fun c H1 => if c = true then Q true H1 else u σ H1 Q
noncomputable def tNot (t : TT) : TT := fun σ H Q => t σ H fun c H1 => Q (!c) H1
theorem pw_and1 (ha : PT X a tA) : PW X (.BoolOp .And [a] pos) tA := by
  intro wh pins s σ H Q I h
  refine isTrue_and (thn (ha pins s σ H Q I h) fun c s1 e => ?_)
  cases c with
  | true => exact isTrue_and_nil e
  | false => exact e
theorem pw_or1 (ha : PT X a tA) : PW X (.BoolOp .Or [a] pos) tA := by
  intro wh pins s σ H Q I h
  refine isTrue_or (thn (ha pins s σ H Q I h) fun c s1 e => ?_)
  cases c with
  | false => exact isTrue_or_nil e
  | true => exact e
theorem pw_and (ha : PT X a tA) (hb : PW X (.BoolOp .And (b :: rest) pos) tB') : PW X (.BoolOp .And (a :: b :: rest) pos) (tAnd tA tB') := by
  intro wh pins s σ H Q I h
  refine isTrue_and (thn (ha pins s σ H _ I h) fun c s1 zq => ?_)
  obtain ⟨H1, I1, q1⟩ := zq
  cases c with
  | true => exact hb wh pins s1 σ H1 Q I1 q1
  | false => exact ⟨H1, I1, q1⟩
theorem pw_or (ha : PT X a tA) (hb : PW X (.BoolOp .Or (b :: rest) pos) tB') : PW X (.BoolOp .Or (a :: b :: rest) pos) (tOr tA tB') := by
  intro wh pins s σ H Q I h
  refine isTrue_or (thn (ha pins s σ H _ I h) fun c s1 zq => ?_)
  obtain ⟨H1, I1, q1⟩ := zq
  cases c with
  | true => exact ⟨H1, I1, q1⟩
  | false => exact hb wh pins s1 σ H1 Q I1 q1
theorem pt_not (ha : PT X a tA) : PT X (.UnaryOp .Not a pos) (tNot tA) := by
  intro pins s σ H Q I h
  exact isTrue_not (ha pins s σ H (fun c H1 => Q (!c) H1) I h)
/- .. as values (bools) -/
noncomputable def tAndV (ta tb : TE) : TE := fun σ H Q => ta σ H fun x H1 => ∃ c, x = .bl c ∧ if c = true then tb σ H1 Q else Q (.bl false) H1
theorem pe_one {op} {t : TE} (h : PE X a t) : PE X (.BoolOp op [a] pos) t := fun pins s σ H Q I hw => BoolOp_one (h pins s σ H Q I hw)
theorem pe_and (ha : PE X a ta) (hb : PE X (.BoolOp .And (b :: rest) pos) tb) : PE X (.BoolOp .And (a :: b :: rest) pos) (tAndV ta tb) := by
  intro pins s σ H Q I h
  refine BoolOp_and (thn (ha pins s σ H _ I h) fun v s1 zq => ?_)
  obtain ⟨x, H1, I1, r1, q1⟩ := zq
  obtain ⟨c, rfl, q1⟩ := q1
  cases r1
  refine wpAny_truthy_bool ?_
  cases c with
  | true => exact hb pins s1 σ H1 Q I1 q1
  | false => exact ⟨.bl false, H1, I1, rfl, q1⟩
end
end L2
namespace L2
open PySem PySem.Spec PyProof.Rows
/- ### a list, a tuple that is read: tracked, frozen, or an object of the module -/
noncomputable def SqL (K : PySem.W.Frag) (H : Hp) (a : Addr) (xs : List V) : Prop :=
  Rd H a (.lst xs) ∨
    ∃ (o : Obj) (its : Array Value) (n : Nat), K.lookup a = some o ∧ o.cls = .type "list" ∧ o.dict = none ∧ o.data = .seq its n ∧ its.size ≤ sizeLine ∧ Vals xs its.toList
noncomputable def SqT (K : PySem.W.Frag) (H : Hp) (a : Addr) (xs : List V) : Prop :=
  Rd H a (.tup xs) ∨
    ∃ (o : Obj) (its : Array Value) (n : Nat), K.lookup a = some o ∧ o.cls = .type "tuple" ∧ o.data = .seq its n ∧ its.size ≤ sizeLine ∧ Vals xs its.toList
noncomputable def absV : Value → Option V
  | .none => some .non
  | .bool b => some (.bl b)
  | .int i _ => some (.int i)
  | .str x _ => some (.str x)
  | .bytes b _ => some (.byt b)
  | .float b _ => some (.flt b)
  | .ref a => some (.ref a)
  | .type n => some (.ty n)
  | _ => none
theorem RelV.abs {x : V} {u : Value} (r : RelV x u) : absV u = some x := by
  cases x with
  | non => cases r; rfl
  | bl _ => cases r; rfl
  | int _ => obtain ⟨t, rfl⟩ := r; rfl
  | str _ => obtain ⟨t, rfl⟩ := r; rfl
  | byt _ => obtain ⟨t, rfl⟩ := r; rfl
  | flt _ => obtain ⟨t, rfl⟩ := r; rfl
  | ref _ => cases r; rfl
  | ty _ => cases r; rfl
theorem RelV.inj {x y : V} {u : Value} (r : RelV x u) (q : RelV y u) : x = y := Option.some.inj (r.abs.symm.trans q.abs)
theorem Vals.inj {xs ys : List V} {us : List Value} (h : Vals xs us) : Vals ys us → xs = ys := by
  induction h generalizing ys with
  | nil =>
    intro k
    cases k
    rfl
  | cons r t ih =>
    intro k
    cases k with
    | cons r' t' => rw [r.inj r', ih t']
section
variable {X : Cx} {pins : List (Addr × Obj)} {σ : St} {H : Hp} {s : Shared} {a : Addr} {xs ys : List V}
theorem SqL.of {K : PySem.W.Frag} (h : H a = some (.lst xs)) : SqL K H a xs := .inl (.inl h)
theorem SqT.of {K : PySem.W.Frag} (h : H a = some (.tup xs)) : SqT K H a xs := .inl (.inl h)
theorem Inv.list (I : Inv X pins σ H s) (h : SqL X.K H a xs) : ∃ its : List Value, Vals xs its ∧ PlainL s.heap a its.toArray ∧ xs.length ≤ sizeLine := by
  rcases h with h | ⟨o, its, n, hk, hc, hd, hs, hz, r⟩
  · obtain ⟨z, its, n, r, e⟩ := h.ok I.hok
    exact ⟨its, r, ⟨_, n, e, rfl, rfl, rfl⟩, z⟩
  · refine ⟨its.toList, r, ⟨o, n, I.kIn a o hk, hc, hd, by simpa using hs⟩, ?_⟩
    have e := r.length
    simp only [Array.length_toList] at e
    lia
theorem Inv.tuple (I : Inv X pins σ H s) (h : SqT X.K H a xs) : ∃ its : List Value, Vals xs its ∧ IsTup s.heap a its.toArray ∧ xs.length ≤ sizeLine := by
  rcases h with h | ⟨o, its, n, hk, hc, hs, hz, r⟩
  · obtain ⟨z, its, r, p⟩ := h.ok I.hok
    exact ⟨its, r, p, z⟩
  · refine ⟨its.toList, r, ⟨o, I.kIn a o hk, hc, n, by simpa using hs⟩, ?_⟩
    have e := r.length
    simp only [Array.length_toList] at e
    lia
theorem Inv.list_inj (I : Inv X pins σ H s) (h : SqL X.K H a xs) (h' : SqL X.K H a ys) : xs = ys := by
  obtain ⟨its, r, ⟨o, n, e, _, _, d⟩, _⟩ := I.list h
  obtain ⟨its', r', ⟨o', n', e', _, _, d'⟩, _⟩ := I.list h'
  rw [e] at e'; cases e'
  rw [d] at d'
  injection d' with d1 _
  have : its = its' := by simpa using congrArg Array.toList d1
  subst this
  exact r.inj r'
end
/- ### another wish about exceptions -/
noncomputable abbrev Cx.wish (X : Cx) (E : Value → Shared → Prop) : Cx := { X with xe := E }
/- no exception leaves -/
noncomputable abbrev Cx.nox (X : Cx) : Cx := X.wish fun _ _ => False
theorem Cx.Ok.wish {X : Cx} (ok : X.Ok) (E : Value → Shared → Prop) : (X.wish E).Ok :=
  ⟨ok.mod, ok.kind, ok.glob, ok.blt, ok.above, ok.inj, ok.has, ok.cab, ok.hd, ok.frames, ok.stk, ok.exf, ok.bs, ok.bsz, ok.noex, ok.exfs, ok.funs, ok.frf⟩
theorem Cx.Ok.unwish {X : Cx} {E : Value → Shared → Prop} (ok : (X.wish E).Ok) : X.Ok :=
  ⟨ok.mod, ok.kind, ok.glob, ok.blt, ok.above, ok.inj, ok.has, ok.cab, ok.hd, ok.frames, ok.stk, ok.exf, ok.bs, ok.bsz, ok.noex, ok.exfs, ok.funs, ok.frf⟩
section
variable {X : Cx} {pins : List (Addr × Obj)} {σ : St} {H : Hp} {s : Shared} {E : Value → Shared → Prop}
theorem Inv.wish (I : Inv X pins σ H s) (E : Value → Shared → Prop) : Inv (X.wish E) pins σ H s := ⟨I.ok.wish E, I.os, I.bare, I.base, I.loc, I.cell, I.free, I.freeC, I.pin, I.hok, I.len⟩
theorem Inv.unwish (I : Inv (X.wish E) pins σ H s) : Inv X pins σ H s := ⟨I.ok.unwish, I.os, I.bare, I.base, I.loc, I.cell, I.free, I.freeC, I.pin, I.hok, I.len⟩
theorem SP.unwish {D : Ends} {f : Flow} {s' : Shared} (h : SP (X.wish E) pins D f s') : SP X pins D f s' := by
  cases f with
  | next => obtain ⟨σ', H', I, q⟩ := h; exact ⟨σ', H', I.unwish, q⟩
  | brk => obtain ⟨σ', H', I, q⟩ := h; exact ⟨σ', H', I.unwish, q⟩
  | cont => obtain ⟨σ', H', I, q⟩ := h; exact ⟨σ', H', I.unwish, q⟩
  | ret u => obtain ⟨v, σ', H', I, r, q⟩ := h; exact ⟨v, σ', H', I.unwish, r, q⟩
theorem PSs.nox {st : List Stmt} {t : TS} (h : PSs X.nox st t) : PSs X st t := fun pins s σ H D I hw =>
  wpAny_mono (h pins s σ H D (I.wish _) hw) (fun _ _ q => q.unwish) fun _ _ z => False.elim z
end
/- ### blocks and small statements -/
section
variable {X : Cx} {st : Stmt} {rest : List Stmt} {t u : TS} {e : Expr} {te : TE} {pos : Pos}
noncomputable def tNext : TS := fun D σ H => D.nx σ H
noncomputable def tSeq (t u : TS) : TS := fun D σ H => t { D with nx := u D } σ H
theorem pss_nil : PSs X [] tNext := fun _ _ σ H _ I h => wpAny_execs_nil ⟨σ, H, I, h⟩
theorem pss_cons (h1 : PS X st t) (h2 : PSs X rest u) : PSs X (st :: rest) (tSeq t u) := by
  intro pins s σ H D I h
  refine wpAny_execs_cons (thn (h1 pins s σ H { D with nx := u D } I h) fun f s1 q => ?_)
  cases f with
  | next =>
    obtain ⟨σ', H', I', q⟩ := q
    exact h2 pins s1 σ' H' D I' q
  | ret v => exact q
  | brk => exact q
  | cont => exact q
theorem pss_one (h1 : PS X st t) : PSs X [st] t := by
  intro pins s σ H D I h
  refine wpAny_execs_cons (thn (h1 pins s σ H D I h) fun f s1 q => ?_)
  cases f with
  | next => exact wpAny_execs_nil q
  | ret v => exact q
  | brk => exact q
  | cont => exact q
/- in a def's body nothing is shown -/
theorem Inv.quiet {pins : List (Addr × Obj)} {σ : St} {H : Hp} {s : Shared} (I : Inv X pins σ H s) : interactive X.env = false := by simp [interactive, I.ok.kind]
/- an expression whose value is dropped -/
noncomputable def tDrop (te : TE) : TS := fun D σ H => te σ H fun _ H1 => D.nx σ H1
theorem ps_expr (he : PE X e te) (hs : swapsWith e none pos.line X.env = pure false := by rfl) : PS X (.Expr e pos) (tDrop te) := by
  intro pins s σ H D I h
  exact wpAny_Expr_any (thn (he pins s σ H _ I h) fun v s1 ⟨x, H1, I1, r1, q1⟩ => ⟨σ, H1, I1, q1⟩) I.quiet hs
noncomputable def tRet (te : TE) : TS := fun D σ H => te σ H D.rt
theorem ps_ret (he : PE X e te) : PS X (.Return (some e) pos) (tRet te) := by
  intro pins s σ H D I h
  exact wpAny_Return_some (thn (he pins s σ H _ I h) fun v s1 ⟨x, H1, I1, r1, q1⟩ => ⟨x, σ, H1, I1, r1, q1⟩)
noncomputable def tIfS (c : TT) (t u : TS) : TS := fun D σ H => c σ H fun b H1 => if b = true then t D σ H1 else u D σ H1
theorem ps_if {c : Expr} {a b : List Stmt} {tc : TT} (hc : PT X c tc) (ha : PSs X a t) (hb : PSs X b u) : PS X (.If c a b pos) (tIfS tc t u) := by
  intro pins s σ H D I h
  refine wpAny_If (thn (hc pins s σ H _ I h) fun d s1 zq => ?_)
  obtain ⟨H1, I1, q1⟩ := zq
  cases d with
  | true => exact ha pins s1 σ H1 D I1 q1
  | false => exact hb pins s1 σ H1 D I1 q1
end
/- ### targets -/
noncomputable abbrev TG := V → St → Hp → (St → Hp → Prop) → Prop
noncomputable abbrev TGs := List V → St → Hp → (St → Hp → Prop) → Prop
noncomputable def PG (X : Cx) (target : Expr) (t : TG) : Prop :=
  ∀ (pins : List (Addr × Obj)) (s : Shared) (σ : St) (H : Hp) (v : V) (u : Value) (Q : St → Hp → Prop), Inv X pins σ H s → RelV v u → t v σ H Q →
    wpAny (model X.prog X.w) X.A (assign target X.env u) (fun _ s' => ∃ σ' H', Inv X pins σ' H' s' ∧ Q σ' H') X.xe s
/- several targets, one after another -/
noncomputable def PGs (X : Cx) (ts : List Expr) (t : TGs) : Prop :=
  ∀ (pins : List (Addr × Obj)) (s : Shared) (σ : St) (H : Hp) (vs : List V) (us : List Value) (Q : St → Hp → Prop), Inv X pins σ H s → Vals vs us → t vs σ H Q →
    wpAny (model X.prog X.w) X.A (assignInOrder ((assignEach ts X.env).map (·.2)) us) (fun _ s' => ∃ σ' H', Inv X pins σ' H' s' ∧ Q σ' H') X.xe s
/- o[i] = v, by values -/
noncomputable abbrev TSet := V → V → V → Hp → (Hp → Prop) → Prop
noncomputable def PSet (X : Cx) (t : TSet) : Prop :=
  ∀ (pins : List (Addr × Obj)) (s : Shared) (σ : St) (H : Hp) (o i v : V) (ov iv u : Value) (Q : Hp → Prop), Inv X pins σ H s → RelV o ov → RelV i iv → RelV v u → t o i v H Q →
    wpAny (model X.prog X.w) X.A (setItem ov iv u) (fun _ s' => ∃ H', Inv X pins σ H' s' ∧ Q H') X.xe s
/- a op= b, by values -/
noncomputable abbrev TIp := V → V → Hp → VK → Prop
noncomputable def PIp (X : Cx) (op : Operator) (t : TIp) : Prop :=
  ∀ (pins : List (Addr × Obj)) (s : Shared) (σ : St) (H : Hp) (x y : V) (v u : Value) (Q : VK), Inv X pins σ H s → RelV x v → RelV y u → t x y H Q →
    wpAny (model X.prog X.w) X.A (inplaceOp op v u) (EP X pins σ Q) X.xe s
section
variable {X : Cx} {pos : Pos}
noncomputable def gName (i : Nat) : TG := fun v σ H Q => Q (σ.set i (some v)) H
theorem pg_name {i : Nat} {x : Str} (hN : X.N.Nodup) (hi : X.N[i]? = some x) (hx : Loc X.env.scope x) (hf : X.fn x = true ∨ X.env.scope.names.lookup x = some .local := by first | exact .inl rfl | exact .inr rfl | assumption) : PG X (.Name x pos) (gName i) := by
  intro pins s σ H v u Q I r h
  exact wpAny_assign_Name (store_ok I hN hi hx r (fun s' I' => ⟨_, H, I', h⟩) hf)
noncomputable def gNil : TGs := fun vs σ H Q => vs = [] ∧ Q σ H
noncomputable def gCons (t : TG) (u : TGs) : TGs := fun vs σ H Q => ∃ v r, vs = v :: r ∧ t v σ H fun σ' H' => u r σ' H' Q
theorem pgs_nil : PGs X [] gNil := by
  intro pins s σ H vs us Q I r h
  obtain ⟨e, h⟩ := h
  subst e
  cases r
  exact assignInOrder_nil ⟨σ, H, I, h⟩
theorem pgs_cons {e : Expr} {es : List Expr} {t : TG} {u : TGs} (h1 : PG X e t) (h2 : PGs X es u)
    (hs : (assignEach (e :: es) X.env).map (·.2) = assign e X.env :: (assignEach es X.env).map (·.2) := by rfl) : PGs X (e :: es) (gCons t u) := by
  intro pins s σ H vs us Q I r h
  obtain ⟨v, vr, e1, h⟩ := h
  subst e1
  cases r with
  | cons r rr =>
    rw [hs]
    refine assignInOrder_cons (thn (h1 pins s σ H _ _ _ I r h) fun _ s1 zq => ?_)
    obtain ⟨σ1, H1, I1, q1⟩ := zq
    exact h2 pins s1 σ1 H1 _ _ Q I1 rr q1
/- (a, b, ..) = a tuple of that length -/
noncomputable def gTup (K : PySem.W.Frag) (n : Nat) (t : TGs) : TG := fun v σ H Q => ∃ a xs, v = .ref a ∧ SqT K H a xs ∧ xs.length = n ∧ t xs σ H Q
theorem pg_tup {es : List Expr} {k : Nat} {t : TGs} {n : Nat} (hc : X.calm = true) (h : PGs X es t)
    (hn : (assignEach es X.env).length = n := by rfl) (hst : (assignEach es X.env).findIdx? (·.1) = none := by rfl) : PG X (.Tuple es k pos) (gTup X.K n t) := by
  intro pins s σ H v u Q I r hw
  obtain ⟨a, xs, e1, hq, hl, hw⟩ := hw
  subst e1
  cases r
  obtain ⟨its, rv, ht, hz⟩ := I.tuple hq
  refine assign_Tuple_tuple (I.ok.hd hc) ht (by simp [hn, ← hl, rv.length]) hst fun h' hx => ?_
  have I1 : Inv X pins σ H { s with heap := h' } := I.kept (t' := s.toks) fun b o e => hx b o (Nat.ne_of_lt (Heap.lt_size e)) e
  exact h pins _ σ H xs _ Q I1 (by simpa using rv) hw
/- o[i] = .. -/
noncomputable def gSub (to ti : TE) (t : TSet) : TG := fun v σ H Q => to σ H fun o H1 => ti σ H1 fun i H2 => t o i v H2 fun H3 => Q σ H3
theorem pg_sub {o i : Expr} {to ti : TE} {t : TSet} (ho : PE X o to) (hi : PE X i ti) (hs : PSet X t)
    (ha : ∀ v, assign (.Subscript o i pos) X.env v = (do
      let ov ← holding [v] (eval o X.env)
      let iv ← holding [v, ov] (eval i X.env)
      standAt pos
      holding [v, ov, iv] (setItem ov iv v)
      release [v, ov, iv] []) := by intro _; rfl) : PG X (.Subscript o i pos) (gSub to ti t) := by
  intro pins s σ H v u Q I r h
  rw [ha]
  refine wpAny_bind (wpAny_holding (thn (ho pins s σ H _ I h) fun ov s1 zq => ?_))
  obtain ⟨x, H1, I1, r1, q1⟩ := zq
  refine wpAny_bind (wpAny_holding (thn (hi pins s1 σ H1 _ I1 q1) fun iv s2 zq => ?_))
  obtain ⟨y, H2, I2, r2, q2⟩ := zq
  refine wpAny_bind (wpAny_standAt (wpAny_bind (wpAny_holding (thn (hs pins s2 σ H2 x y v ov iv u _ I2 r1 r2 r q2) fun _ s3 zq => ?_))))
  obtain ⟨H3, I3, q3⟩ := zq
  exact wpAny_release ⟨σ, H3, I3, q3⟩
/- target = value -/
noncomputable def tAsg (te : TE) (g : TG) : TS := fun D σ H => te σ H fun x H1 => g x σ H1 D.nx
theorem ps_asg {tg e : Expr} {te : TE} {g : TG} (he : PE X e te) (hg : PG X tg g) (hs : swapsWithSole [tg] e pos.line X.env = pure false := by rfl) (hw : swappedStores [tg] e X.env = pure none := by rfl)
    (h1 : (assignEach [tg] X.env).map (·.2) = [assign tg X.env] := by rfl) : PS X (.Assign [tg] e pos) (tAsg te g) := by
  intro pins s σ H D I h
  refine wpAny_Assign_stores (thn (he pins s σ H _ I h) fun v s1 zq => ?_) hs hw
  obtain ⟨x, H1, I1, r1, q1⟩ := zq
  rw [h1]
  exact thn (hg pins s1 σ H1 x v _ I1 r1 q1) fun _ s2 q => q
/- name = value -/
theorem ps_set {i : Nat} {x : Str} {e : Expr} {te : TE} {pos' : Pos} (hN : X.N.Nodup) (hi : X.N[i]? = some x) (hx : Loc X.env.scope x) (he : PE X e te) (hs : swapsWith e (some (.Name x pos')) pos.line X.env = pure false := by rfl) (hf : X.fn x = true ∨ X.env.scope.names.lookup x = some .local := by first | exact .inl rfl | exact .inr rfl | assumption) :
    PS X (.Assign [.Name x pos'] e pos) (tAsg te (gName i)) := by
  intro pins s σ H D I h
  refine wpAny_Assign_Name (thn (he pins s σ H _ I h) fun v s1 zq => ?_) hs
  obtain ⟨y, H1, I1, r1, q1⟩ := zq
  exact store_ok I1 hN hi hx r1 (fun s2 I2 => ⟨_, H1, I2, q1⟩) hf
/- name op= e -/
noncomputable def tAug (i : Nat) (te : TE) (ti : TIp) : TS := fun D σ H => ∃ x, σ[i]? = some (some x) ∧ te σ H fun y H1 => ti x y H1 fun z H2 => D.nx (σ.set i (some z)) H2
theorem ps_aug {i : Nat} {x : Str} {e : Expr} {te : TE} {op : Operator} {ti : TIp} {pos' : Pos} (hN : X.N.Nodup) (hi : X.N[i]? = some x) (hx : Loc X.env.scope x) (he : PE X e te) (ho : PIp X op ti) (hf : X.fn x = true ∨ X.env.scope.names.lookup x = some .local := by first | exact .inl rfl | exact .inr rfl | assumption) :
    PS X (.AugAssign (.Name x pos') op e pos) (tAug i te ti) := by
  intro pins s σ H D I h
  obtain ⟨v, e1, h⟩ := h
  obtain ⟨m, hn, hl⟩ := I.loc
  have vis : Vis X.env.scope x := by rcases hx with k | k; exact .inl k; exact .inr (.inl k)
  obtain ⟨u, r, l⟩ := hl i x v hi e1 vis
  refine wpAny_AugAssign_Name ?_
  have go : wpAny (model X.prog X.w) X.A (eval e X.env) (fun w s₂ => wpAny (model X.prog X.w) X.A (inplaceOp op u w) (fun r s₃ => wpAny (model X.prog X.w) X.A (storeName X.env x r) (fun _ => SP X pins D .next) X.xe s₃) X.xe s₂) X.xe s := by
    refine thn (he pins s σ H _ I h) fun w s1 zq => ?_
    obtain ⟨y, H1, I1, r1, q1⟩ := zq
    refine thn (ho pins s1 σ H1 v y u w _ I1 r r1 q1) fun z s2 zq => ?_
    obtain ⟨zv, H2, I2, r2, q2⟩ := zq
    exact store_ok I2 hN hi hx r2 (fun s3 I3 => ⟨_, H2, I3, q2⟩) hf
  rcases l with ⟨hk, hm⟩ | ⟨hk, c, hc, hcell⟩
  · exact wpAny_loadName_local I.ok.kind hk hn hm go
  · rcases hk with hk | hk
    · exact wpAny_loadName_cell I.ok.kind hk hc hcell go
    · rcases hx with k | k
      · have : X.env.scope.names.lookup x = some .free := hk
        rw [k] at this; cases this
      · have : X.env.scope.names.lookup x = some .free := hk
        rw [k] at this; cases this
/- o[i] op= e -/
noncomputable def tAugS (to ti te : TE) (tget : V → V → Hp → VK → Prop) (tip : TIp) (tset : TSet) : TS := fun D σ H => to σ H fun o H1 => ti σ H1 fun i H2 => tget o i H2 fun x H3 => te σ H3 fun y H4 => tip x y H4 fun z H5 => tset o i z H5 fun H6 => D.nx σ H6
/- o[i], by values -/
noncomputable def PGet (X : Cx) (t : V → V → Hp → VK → Prop) : Prop :=
  ∀ (pins : List (Addr × Obj)) (s : Shared) (σ : St) (H : Hp) (o i : V) (ov iv : Value) (Q : VK), Inv X pins σ H s → RelV o ov → RelV i iv → t o i H Q →
    wpAny (model X.prog X.w) X.A (getItem ov iv) (EP X pins σ Q) X.xe s
theorem ps_augS {o i e : Expr} {to ti te : TE} {tget : V → V → Hp → VK → Prop} {tip : TIp} {tset : TSet} {op : Operator} {tpos : Pos} (ho : PE X o to) (hi : PE X i ti) (hg : PGet X tget) (he : PE X e te) (hp : PIp X op tip) (hs : PSet X tset)
    (ha : ∀ ov iv new, augStore i ov iv new = (do holding [new, ov, iv] (setItem ov iv new); release [new, ov, iv] []; pure .next) := by intros; rfl) : PS X (.AugAssign (.Subscript o i tpos) op e pos) (tAugS to ti te tget tip tset) := by
  intro pins s σ H D I h
  refine wpAny_AugAssign_SubscriptAny (thn (ho pins s σ H _ I h) fun ov s1 zq => ?_) ha
  obtain ⟨x1, H1, I1, r1, q1⟩ := zq
  refine thn (hi pins s1 σ H1 _ I1 q1) fun iv s2 zq => ?_
  obtain ⟨x2, H2, I2, r2, q2⟩ := zq
  refine thn (hg pins s2 σ H2 x1 x2 ov iv _ I2 r1 r2 q2) fun old s3 zq => ?_
  obtain ⟨x3, H3, I3, r3, q3⟩ := zq
  refine thn (he pins s3 σ H3 _ I3 q3) fun v s4 zq => ?_
  obtain ⟨x4, H4, I4, r4, q4⟩ := zq
  refine thn (hp pins s4 σ H4 x3 x4 old v _ I4 r3 r4 q4) fun new s5 zq => ?_
  obtain ⟨x5, H5, I5, r5, q5⟩ := zq
  exact thn (hs pins s5 σ H5 x1 x2 x5 ov iv new _ I5 r1 r2 r5 q5) fun _ s6 ⟨H6, I6, q6⟩ => ⟨σ, H6, I6, q6⟩
/- ints -/
noncomputable def ipI (f : Int → Int → Int) : TIp := fun x y H Q => ∃ i j, x = .int i ∧ y = .int j ∧ Q (.int (f i j)) H
theorem ip_add : PIp X .Add (ipI fun i j => i + j) := by
  intro pins s σ H x y v u Q I r1 r2 h
  obtain ⟨i, j, e1, e2, q⟩ := h
  subst e1; subst e2
  obtain ⟨t, rfl⟩ := r1
  obtain ⟨t', rfl⟩ := r2
  exact iadd_int ⟨.int _, H, I.tok _, ⟨_, rfl⟩, q⟩
theorem ip_sub : PIp X .Sub (ipI fun i j => i - j) := by
  intro pins s σ H x y v u Q I r1 r2 h
  obtain ⟨i, j, e1, e2, q⟩ := h
  subst e1; subst e2
  obtain ⟨t, rfl⟩ := r1
  obtain ⟨t', rfl⟩ := r2
  exact isub_int ⟨.int _, H, I.tok _, ⟨_, rfl⟩, q⟩
end
/- ### while -/
section
variable {X : Cx} {pos : Pos}
/- the invariant W with its measure -/
noncomputable def tWhile (c : TT) (tb : TS) : TS := fun D σ H => ∃ W : Nat → St → Hp → Prop, (∃ m, W m σ H) ∧ ∀ m σ H, W m σ H →
  c σ H fun b H1 => if b = true then ∃ N : St → Hp → Prop, (∀ σ' H', N σ' H' → ∃ m', m' < m ∧ W m' σ' H') ∧ tb { D with nx := N, ct := N, bk := D.nx } σ H1 else D.nx σ H1
theorem ps_while {c : Expr} {body : List Stmt} {tc : TT} {tb : TS} (hp : PassesOwn (model X.prog X.w) X.A X.env X.xe) (hc : PT X c tc) (hb : PSs X body tb) : PS X (.While c body [] pos) (tWhile tc tb) := by
  intro pins s σ H D I h
  obtain ⟨W, ⟨m0, w0⟩, turn⟩ := h
  refine wpAny_While (codeAny_whileLoop (fun n s' => ∃ σ' H', Inv X pins σ' H' s' ∧ W n σ' H') ?_ m0 ⟨σ, H, I, w0⟩)
  rintro n s1 ⟨σ1, H1, I1, w1⟩
  refine wpAny_passesOwn hp (thn (hc pins s1 σ1 H1 _ I1 (turn n σ1 H1 w1)) fun b s2 zq => ?_)
  obtain ⟨H2, I2, q2⟩ := zq
  cases b with
  | true =>
    obtain ⟨N, hN, q2⟩ := q2
    rw [if_pos rfl]
    refine wpAny_passesOwn hp (thn (hb pins s2 σ1 H2 _ I2 q2) fun f s3 q3 => ?_)
    cases f with
    | next =>
      obtain ⟨σ3, H3, I3, n3⟩ := q3
      obtain ⟨m', hm, w3⟩ := hN σ3 H3 n3
      exact ⟨m', hm, σ3, H3, I3, w3⟩
    | cont =>
      obtain ⟨σ3, H3, I3, n3⟩ := q3
      obtain ⟨m', hm, w3⟩ := hN σ3 H3 n3
      exact ⟨m', hm, σ3, H3, I3, w3⟩
    | brk => exact q3
    | ret v => exact q3
  | false =>
    rw [if_neg Bool.false_ne_true]
    exact wpAny_execs_nil ⟨σ1, H2, I2, q2⟩
end
/- ### what a loop or a comprehension walks -/
/- at turn i: it yields x (the heap may grow), or it stops -/
structure It where
  go : Nat → Hp → Prop
  yld : Nat → Hp → V → Hp → Prop
  stop : Nat → Hp → Prop
/- the iterator's own objects may turn: they are not the frame's, not pinned, younger than the entry (or a comprehension's own) -/
noncomputable def FpOk (X : Cx) (pins : List (Addr × Obj)) (H : Hp) (b : Addr) : Prop :=
  H b = none ∧ b ≠ X.env.locals ∧ b ∉ X.fs ∧ (b ∈ X.ex ∨ X.s_0.heap.objs.size ≤ b) ∧ (∀ x c, X.env.cells.lookup x = some c → c ≠ b) ∧ ∀ p ∈ X.pn ++ pins, p.1 ≠ b
theorem Inv.fpOk {X : Cx} {pins : List (Addr × Obj)} {σ : St} {H H' : Hp} {s : Shared} {b : Addr} (I : Inv X pins σ H s) (hb : s.heap.objs.size ≤ b) (hn : H' b = none) : FpOk X pins H' b := by
  refine ⟨hn, Nat.ne_of_gt (Nat.lt_of_lt_of_le I.lt hb), I.nofs hb, .inr (Nat.le_trans I.sz hb), fun x c e z => ?_, fun p hp z => ?_⟩
  · obtain ⟨v, q⟩ := I.cell x c e
    exact absurd (Nat.lt_of_lt_of_le q.lt (by rw [z]; exact hb)) (Nat.lt_irrefl _)
  · exact absurd (Nat.lt_of_lt_of_le (Heap.lt_size (I.pin p hp).1) (by rw [z]; exact hb)) (Nat.lt_irrefl _)
structure Turn (P : Program) (w : World) (K : PySem.W.Frag) (tg : Expr) (J : It) (fp : List Addr) (it : Addr) (tn : Nat → Heap → Prop) : Prop where
  mem : it ∈ fp
  obj : ∀ i h, tn i h → ∀ b ∈ fp, ∃ o, h.get? b = some o ∧ ∀ v, o.data ≠ .cell v
  keep : ∀ i h h', tn i h → (∀ b ∈ fp, ∀ o, h.get? b = some o → h'.get? b = some o) → tn i h'
  item : ∀ (X : Cx), X.prog = P → X.w = w → X.K = K → X.calm = true → ∀ (i : Nat) (pins : List (Addr × Obj)) (s : Shared) (σ : St) (H : Hp) (E : Value → Shared → Prop), Inv X pins σ H s → (∀ b ∈ fp, FpOk X pins H b) → tn i s.heap → J.go i H →
    wpAny (model P w) X.A (pyNext (.ref it)) (fun r s1 => ∃ u, r = some u ∧
      wpAny (model P w) X.A (letOwnedTupleGo tg (.ref it) u) (fun _ s2 => ∃ x H', Inv X pins σ H' s2 ∧ RelV x u ∧ J.yld i H x H' ∧ tn (i + 1) s2.heap ∧ ∀ b ∈ fp, H' b = none) E s1) E s
  done : ∀ (X : Cx), X.prog = P → X.w = w → X.K = K → X.calm = true → ∀ (i : Nat) (pins : List (Addr × Obj)) (s : Shared) (σ : St) (H : Hp) (E : Value → Shared → Prop), Inv X pins σ H s → (∀ b ∈ fp, FpOk X pins H b) → tn i s.heap → J.stop i H →
    wpAny (model P w) X.A (pyNext (.ref it)) (fun r s1 => r = none ∧ Inv X pins σ H s1) E s
  self : ∀ (A : Around) (i : Nat) (s : Shared) (Q : Value → Shared → Prop) (E : Value → Shared → Prop), tn i s.heap → Q (.ref it) s → wpAny (model P w) A (pyIter (.ref it)) Q E s
noncomputable abbrev TI := St → Hp → (It → Hp → Prop) → Prop
/- an iterator has come -/
noncomputable def PIE (X : Cx) (pins : List (Addr × Obj)) (σ : St) (tg : Expr) (R : It → Hp → Prop) (itv : Value) (s2 : Shared) : Prop :=
  ∃ (it : Addr) (fp : List Addr) (tn : Nat → Heap → Prop) (J : It) (H' : Hp), itv = .ref it ∧ Inv X pins σ H' s2 ∧ Turn X.prog X.w X.K tg J fp it tn ∧ tn 0 s2.heap ∧ (∀ b ∈ fp, FpOk X pins H' b) ∧ R J H'
noncomputable def PI (X : Cx) (tg iter : Expr) (wi : TI) : Prop :=
  ∀ (pins : List (Addr × Obj)) (s : Shared) (σ : St) (H : Hp) (R : It → Hp → Prop), Inv X pins σ H s → wi σ H R →
    wpAny (model X.prog X.w) X.A (eval iter X.env) (fun v s1 => wpAny (model X.prog X.w) X.A (pyIter v) (PIE X pins σ tg R) X.xe s1) X.xe s
/- the step ahead of the store is nothing for an iterator that keeps no tuple -/
theorem go_of {M : Model} {A : Around} {E : Value → Shared → Prop} {s : Shared} {tg : Expr} {it : Addr} {u : Value} {o : Obj} {n : String} {vs : Array Value} {Q : Unit → Shared → Prop} (ho : s.heap.get? it = some o) (hc : o.cls = .type n) (hd : o.data = .fields vs)
    (hn : ["enumerate", "zip", "dict_itemiterator", "dict_reverseitemiterator", "odict_iterator", "itertools.zip_longest", "itertools.pairwise"].contains n = false) (hQ : Q () s) : wpAny M A (letOwnedTupleGo tg (.ref it) u) Q E s := by
  unfold letOwnedTupleGo
  cases tg <;> first
    | exact wpAny_pure hQ
    | (cases u <;> first
        | exact wpAny_pure hQ
        | (refine wpAny_bind (wpAny_load ho ?_)
           rw [hc, hd]
           show wpAny M A (if (["enumerate", "zip", "dict_itemiterator", "dict_reverseitemiterator", "odict_iterator", "itertools.zip_longest", "itertools.pairwise"].contains n && vs[0]? == some (rawInt _)) = true then _ else _) Q E s
           rw [if_neg (by intro h; rw [hn, Bool.false_and] at h; cases h)]
           exact wpAny_pure hQ))
/- the list at a, as it stands at each turn (a loop may append to it) -/
noncomputable def Itl (K : PySem.W.Frag) (a : Addr) : It :=
  ⟨fun i H => ∃ xs x, SqL K H a xs ∧ xs[i]? = some x, fun i H x H' => H' = H ∧ ∀ xs, SqL K H a xs → xs[i]? = some x, fun i H => ∃ xs, SqL K H a xs ∧ xs.length ≤ i⟩
/- lo, lo + 1, .. (n of them) -/
noncomputable def Itr (lo : Int) (n : Nat) : It := ⟨fun i _ => i < n, fun i H x H' => H' = H ∧ x = .int (lo + i), fun i _ => n ≤ i⟩
theorem turn_list {P : Program} {w : World} {K : PySem.W.Frag} {tg : Expr} (a it : Addr) : Turn P w K tg (Itl K a) [it] it (fun i h => h.IsListIter it a i) where
  mem := by simp
  obj := fun i h st b hb => by
    have e : b = it := by simpa using hb
    subst e
    obtain ⟨o, e, c, d⟩ := st
    exact ⟨o, e, fun v z => by rw [d] at z; cases z⟩
  keep := fun i h h' st k => st.at fun o e => k it (by simp) o e
  item := by
    intro X hP hw hK hc i pins s σ H E I hf st hg
    subst hP hw hK
    obtain ⟨xs, x, hq, hx⟩ := hg
    obtain ⟨its, rv, p, hz⟩ := I.list hq
    obtain ⟨u, hu, ru⟩ := rv.get hx
    obtain ⟨f0, f1, f2, f3, f4, f5⟩ := hf it (by simp)
    refine wpAny_pyNext_list_item st p.isList (x := u) (by simpa using hu) fun h' st' sb => ?_
    have I1 : Inv X pins σ H { s with heap := h' } := I.turned (t' := s.toks) (fun b o hb e => (sb.2 b hb).trans e) f0 f1 f3 f4 f5
    obtain ⟨o, e, c, d⟩ := id st'
    exact ⟨u, rfl, go_of (s := { s with heap := h' }) e c d (by decide) ⟨x, H, I1, ru, ⟨rfl, fun ys hy => by rw [I.list_inj hy hq]; exact hx⟩, st', fun b hb => (hf b hb).1⟩⟩
  done := by
    intro X hP hw hK hc i pins s σ H E I hf st hg
    subst hP hw hK
    obtain ⟨xs, hq, hx⟩ := hg
    obtain ⟨its, rv, p, hz⟩ := I.list hq
    obtain ⟨f0, f1, f2, f3, f4, f5⟩ := hf it (by simp)
    have hl := rv.length
    exact wpAny_pyNext_list_end (I.ok.hd hc) st p.isList (by simp; lia) fun h' eb => ⟨rfl, I.turned (t' := s.toks) (fun b o hb e => eb b o hb e) f0 f1 f3 f4 f5⟩
  self := fun _ _ _ _ _ st h => wpAny_pyIter_listiter st h
theorem turn_range {P : Program} {w : World} {K : PySem.W.Frag} {tg : Expr} (it : Addr) (lo : Int) (n : Nat) : Turn P w K tg (Itr lo n) [it] it (fun i h => IsRangeIter h it (lo + (i : Nat) * 1) ((n : Int) - (i : Nat)) 1) where
  mem := by simp
  obj := fun i h st b hb => by
    have e : b = it := by simpa using hb
    subst e
    exact ⟨_, st, fun v z => by
      have z' : Data.fields _ = Data.cell v := z
      cases z'⟩
  keep := fun i h h' st k => k it (by simp) _ st
  item := by
    intro X hP hw hK hc i pins s σ H E I hf st hg
    subst hP hw hK
    obtain ⟨f0, f1, f2, f3, f4, f5⟩ := hf it (by simp)
    have W := Walks.range (prog := X.prog) (w := X.w) (I.ok.hd hc) it lo 1 n
    refine W.item i s _ _ hg st fun v h' tk hv st' kk => ?_
    obtain ⟨t, rfl⟩ := hv
    have I1 : Inv X pins σ H { s with heap := h', toks := tk } := I.turned (fun b o hb e => kk b o (by simpa using hb) e) f0 f1 f3 f4 f5
    refine ⟨_, rfl, go_of (s := { s with heap := h', toks := tk }) (n := "range_iterator") st' rfl rfl (by decide) ⟨.int (lo + i), H, I1, ⟨t, ?_⟩, ⟨rfl, rfl⟩, st', fun b hb => (hf b hb).1⟩⟩
    rw [Int.mul_one]
  done := by
    intro X hP hw hK hc i pins s σ H E I hf st hg
    subst hP hw hK
    obtain ⟨f0, f1, f2, f3, f4, f5⟩ := hf it (by simp)
    exact wpAny_pyNext_range_end (I.ok.hd hc) st (by have : n ≤ i := hg; lia) fun h' eb => ⟨rfl, I.turned (t' := s.toks) (fun b o hb e => eb b o hb e) f0 f1 f3 f4 f5⟩
  self := fun _ _ _ _ _ st h => wpAny_pyIter_rangeiter st h
end L2
namespace L2
open PySem PySem.Spec PyProof.Rows
section
variable {X : Cx} {tg : Expr}
noncomputable def iList (K : PySem.W.Frag) (tl : TE) : TI := fun σ H R => tl σ H fun x H1 => ∃ a, x = .ref a ∧ (∃ xs, SqL K H1 a xs) ∧ R (Itl K a) H1
theorem pi_list {l : Expr} {tl : TE} (hl : PE X l tl) : PI X tg l (iList X.K tl) := by
  intro pins s σ H R I h
  refine thn (hl pins s σ H _ I h) fun v s1 zq => ?_
  obtain ⟨x, H1, I1, r1, q1⟩ := zq
  obtain ⟨a, e, ⟨xs, hq⟩, q⟩ := q1
  subst e
  cases r1
  obtain ⟨its, rv, p, hz⟩ := I1.list hq
  refine wpAny_pyIter_list p.isList ?_
  refine ⟨s1.heap.objs.size, [s1.heap.objs.size], _, _, H1, rfl, I1.kept (t' := s1.toks) fun b o e => Heap.get?_push_of_some _ e, turn_list a _, ⟨_, Heap.get?_push_size _ rfl, rfl, rfl⟩, fun b hb => ?_, q⟩
  have e : b = s1.heap.objs.size := by simpa using hb
  subst e
  exact I1.fpOk (Nat.le_refl _) (I1.hok.fresh (Nat.le_refl _))
/- a range object just made, walked -/
theorem range_it {pins : List (Addr × Obj)} {σ : St} {H : Hp} {s : Shared} {R : It → Hp → Prop} {E : Value → Shared → Prop} {lo hi : Int} {t u v : Tok} {tk : Nat} (I : Inv X pins σ H s) (h1 : -(2 ^ 62) ≤ lo) (h2 : lo < 2 ^ 62) (h3 : -(2 ^ 62) ≤ hi) (h4 : hi < 2 ^ 62)
    (q : R (Itr lo (hi - lo).toNat) H) : wpAny (model X.prog X.w) X.A (pyIter (.ref s.heap.objs.size)) (PIE X pins σ tg R) E { s with heap := s.heap.push { cls := .type "range", data := .fields #[.int lo t, .int hi u, .int 1 v] }, toks := tk } := by
  refine wpAny_pyIter_range (IsRange.new ..) (small_one h1 h2 h3 h4) ?_
  have I1 : Inv X pins σ H { s with heap := s.heap.push { cls := .type "range", data := .fields #[.int lo t, .int hi u, .int 1 v] }, toks := tk } := I.kept fun b o e => Heap.get?_push_of_some _ e
  refine ⟨(s.heap.push { cls := .type "range", data := .fields #[.int lo t, .int hi u, .int 1 v] }).objs.size, [(s.heap.push { cls := .type "range", data := .fields #[.int lo t, .int hi u, .int 1 v] }).objs.size], _, _, H, rfl,
    I1.kept (t' := tk) fun b o e => Heap.get?_push_of_some _ e, turn_range _ lo (hi - lo).toNat, ?_, fun b hb => ?_, q⟩
  · have e1 : lo + ((0 : Nat) : Int) * 1 = lo := by simp
    have e2 : (((hi - lo).toNat : Nat) : Int) - ((0 : Nat) : Int) = Builtin.Range.rangeSize lo hi 1 := by rw [rangeSize_one]; split <;> lia
    show IsRangeIter _ _ (lo + ((0 : Nat) : Int) * 1) ((((hi - lo).toNat : Nat) : Int) - ((0 : Nat) : Int)) 1
    rw [e1, e2]
    exact Heap.get?_push_size _ rfl
  · have e : b = (s.heap.push { cls := .type "range", data := .fields #[.int lo t, .int hi u, .int 1 v] }).objs.size := by simpa using hb
    subst e
    exact I1.fpOk (Nat.le_refl _) (I1.hok.fresh (Nat.le_refl _))
noncomputable def iRng1 (ta : TA) : TI := fun σ H R => ta σ H fun vs H1 => ∃ j : Int, vs = [.int j] ∧ -(2 ^ 62) ≤ j ∧ j < 2 ^ 62 ∧ R (Itr 0 j.toNat) H1
theorem pi_range1 {a : Expr} {ta : TA} {p pos : Pos} (hg : Gl X "range") (hm : X.mg "range" = none) (ha : PA X [a] ta) (hs : starEach [a] X.env = [(false, eval a X.env)] := by rfl) : PI X tg (.Call (.Name "range" p) [a] [] pos) (iRng1 ta) := by
  intro pins s σ H R I h
  refine Call_ (ld_blt I hg hm boot_range (PyProof.Rows.callWith_type1 (thn (ha pos pins s σ H _ I h) fun us s1 zq => ?_) hs rfl))
  obtain ⟨vs, H1, I1, r1, q1⟩ := zq
  obtain ⟨j, e, q1, q2, q⟩ := q1
  subst e
  cases r1 with
  | cons r rr =>
    cases rr
    obtain ⟨t, rfl⟩ := r
    exact call_range_1 (range_it I1 (by lia) (by lia) q1 q2 (by simpa using q))
/- ### for -/
/- W: the invariant by the turn and a measure; N: what the body is to reach -/
noncomputable def tFor (wi : TI) (g : TG) (tb : TS) : TS := fun D σ H => wi σ H fun J H1 => ∃ W : Nat → Nat → St → Hp → Prop, (∃ m, W 0 m σ H1) ∧ ∀ i m σ H, W i m σ H →
  (J.stop i H ∧ D.nx σ H) ∨ (J.go i H ∧ ∃ N : St → Hp → Prop, (∀ σ' H', N σ' H' → ∃ m', m' < m ∧ W (i + 1) m' σ' H') ∧ ∀ x H', J.yld i H x H' → g x σ H' fun σ2 H2 => tb { D with nx := N, ct := N, bk := D.nx } σ2 H2)
/- the records at fp as they stand -/
noncomputable def pinsAt (fp : List Addr) (h : Heap) : List (Addr × Obj) := fp.filterMap fun b => (h.get? b).map fun o => (b, o)
theorem mem_pinsAt {fp : List Addr} {h : Heap} {b : Addr} {o : Obj} (hb : b ∈ fp) (e : h.get? b = some o) : (b, o) ∈ pinsAt fp h := List.mem_filterMap.mpr ⟨b, hb, by rw [e]; rfl⟩
theorem of_pinsAt {fp : List Addr} {h : Heap} {p : Addr × Obj} (hp : p ∈ pinsAt fp h) : p.1 ∈ fp ∧ h.get? p.1 = some p.2 := by
  obtain ⟨b, hb, e⟩ := List.mem_filterMap.mp hp
  cases q : h.get? b with
  | none => rw [q] at e; cases e
  | some o =>
    rw [q] at e
    have e' : (b, o) = p := Option.some.inj e
    subst e'
    exact ⟨hb, q⟩
theorem Inv.pinned {pins : List (Addr × Obj)} {σ : St} {H : Hp} {s : Shared} {fp : List Addr} (I : Inv X pins σ H s) (hf : ∀ b ∈ fp, FpOk X pins H b) (ho : ∀ b ∈ fp, ∃ o, s.heap.get? b = some o ∧ ∀ v, o.data ≠ .cell v) : Inv X (pins ++ pinsAt fp s.heap) σ H s :=
  I.pins_of fun p hp => (List.mem_append.mp hp).elim (fun z => I.pin p (List.mem_append_right _ z)) fun z => by
    obtain ⟨hb, e⟩ := of_pinsAt z
    obtain ⟨f0, f1, f2, _⟩ := hf p.1 hb
    obtain ⟨o, e', d⟩ := ho p.1 hb
    rw [e] at e'; cases e'
    exact ⟨e, f0, f1, f2, d⟩
theorem Inv.unpinned {pins pl : List (Addr × Obj)} {σ : St} {H : Hp} {s : Shared} (I : Inv X (pins ++ pl) σ H s) : Inv X pins σ H s := I.pins_of fun p hp => I.pin p (List.mem_append_right _ (List.mem_append_left _ hp))
theorem ps_for {iter : Expr} {body : List Stmt} {wi : TI} {g : TG} {tb : TS} {pos : Pos} (hp : PassesOwn (model X.prog X.w) X.A X.env X.xe) (hc : X.calm = true) (hi : PI X tg iter wi) (hg : PG X tg g) (hb : PSs X body tb)
    (hs : ∀ x, foldedSetIterable iter X.env x = pure x := by intro _; rfl) : PS X (.For tg iter body [] pos) (tFor wi g tb) := by
  intro pins s σ H D I h
  refine wpAny_For (thn (hi pins s σ H _ I h) fun v s1 h1 => thn h1 fun itv s2 h2 => ?_) hs
  obtain ⟨it, fp, tn, J, H2, e, I2, T, st2, f2, W, ⟨m0, w0⟩, turn⟩ := h2
  subst e
  -- what stays true of the iterator's objects through the loop
  have stat : ∀ {H' : Hp}, (∀ b ∈ fp, H' b = none) → ∀ b ∈ fp, FpOk X pins H' b := fun hn b hb => ⟨hn b hb, (f2 b hb).2⟩
  refine codeAny_forLoop_any (fun n s' => ∃ i σ' H', Inv X pins σ' H' s' ∧ tn i s'.heap ∧ (∀ b ∈ fp, H' b = none) ∧ W i n σ' H') ?_ m0 ⟨0, σ, H2, I2, st2, fun b hb => (f2 b hb).1, w0⟩
  rintro n s3 ⟨i, σ3, H3, I3, st3, fr3, w3⟩
  rcases turn i n σ3 H3 w3 with ⟨stop, qn⟩ | ⟨go, N, hN, step⟩
  · refine wpAny_passesOwn hp (thn (T.done X rfl rfl rfl hc i pins s3 σ3 H3 X.xe I3 (stat fr3) st3 stop) fun r s4 zq => ?_)
    obtain ⟨hr, I4⟩ := zq
    subst hr
    exact wpAny_execs_nil ⟨σ3, H3, I4, qn⟩
  · refine wpAny_passesOwn hp (thn (T.item X rfl rfl rfl hc i pins s3 σ3 H3 X.xe I3 (stat fr3) st3 go) fun r s4 zq => ?_)
    obtain ⟨u, hr, h4⟩ := zq
    subst hr
    refine wpAny_passesOwn hp (thn h4 fun _ s5 zq => ?_)
    obtain ⟨x, H5, I5, r5, y5, st5, fr5⟩ := zq
    have I5' := I5.pinned (stat fr5) (T.obj _ _ st5)
    refine wpAny_passesOwn hp (thn (hg _ s5 σ3 H5 x u _ I5' r5 (step x H5 y5)) fun _ s6 zq => ?_)
    obtain ⟨σ6, H6, I6, q6⟩ := zq
    refine wpAny_passesOwn hp (thn (hb _ s6 σ6 H6 _ I6 q6) fun f s7 q7 => ?_)
    have again : ∀ {σ7 : St} {H7 : Hp}, Inv X (pins ++ pinsAt fp s5.heap) σ7 H7 s7 → N σ7 H7 → ∃ m, m < n ∧ ∃ i σ' H', Inv X pins σ' H' s7 ∧ tn i s7.heap ∧ (∀ b ∈ fp, H' b = none) ∧ W i m σ' H' := fun {σ7 H7} I7 n7 => by
      obtain ⟨m', hm, w7⟩ := hN σ7 H7 n7
      refine ⟨m', hm, i + 1, σ7, H7, I7.unpinned, T.keep _ _ _ st5 fun b hb o e => (I7.pin (b, o) (List.mem_append_right _ (List.mem_append_right _ (mem_pinsAt hb e)))).1, fun b hb => ?_, w7⟩
      obtain ⟨o, e, d⟩ := T.obj _ _ st5 b hb
      exact (I7.pin (b, o) (List.mem_append_right _ (List.mem_append_right _ (mem_pinsAt hb e)))).2.1
    cases f with
    | next => obtain ⟨σ7, H7, I7, n7⟩ := q7; exact again I7 n7
    | cont => obtain ⟨σ7, H7, I7, n7⟩ := q7; exact again I7 n7
    | brk => obtain ⟨σ7, H7, I7, q7⟩ := q7; exact ⟨σ7, H7, I7.unpinned, q7⟩
    | ret v => obtain ⟨x7, σ7, H7, I7, r7, q7⟩ := q7; exact ⟨x7, σ7, H7, I7.unpinned, r7, q7⟩
end
/- ### the forms one uses -/
/- over a list that the body leaves as it is -/
theorem for_list {K : PySem.W.Frag} {a : Addr} {xs : List V} {g : TG} {tb : TS} {D : Ends} {σ : St} {H : Hp} (Pv : Nat → St → Hp → Prop) (h0 : Pv 0 σ H) (hl : ∀ i σ H, i ≤ xs.length → Pv i σ H → SqL K H a xs)
    (hs : ∀ i x σ H, xs[i]? = some x → Pv i σ H → g x σ H fun σ2 H2 => tb { D with nx := Pv (i + 1), ct := Pv (i + 1), bk := D.nx } σ2 H2) (hd : ∀ σ H, Pv xs.length σ H → D.nx σ H) :
    ∃ W : Nat → Nat → St → Hp → Prop, (∃ m, W 0 m σ H) ∧ ∀ i m σ H, W i m σ H →
      ((Itl K a).stop i H ∧ D.nx σ H) ∨ ((Itl K a).go i H ∧ ∃ N : St → Hp → Prop, (∀ σ' H', N σ' H' → ∃ m', m' < m ∧ W (i + 1) m' σ' H') ∧ ∀ x H', (Itl K a).yld i H x H' → g x σ H' fun σ2 H2 => tb { D with nx := N, ct := N, bk := D.nx } σ2 H2) := by
  refine ⟨fun i m σ H => m = xs.length - i ∧ i ≤ xs.length ∧ Pv i σ H, ⟨xs.length, by simp, Nat.zero_le _, h0⟩, ?_⟩
  rintro i m σ H ⟨rfl, hi, p⟩
  have q := hl i σ H hi p
  by_cases hlt : i < xs.length
  · refine .inr ⟨⟨xs, xs[i], q, by simp [hlt]⟩, Pv (i + 1), fun σ' H' p' => ⟨xs.length - (i + 1), by lia, rfl, hlt, p'⟩, fun x H' y => ?_⟩
    obtain ⟨e, y⟩ := y
    subst e
    exact hs i x σ _ (y xs q) p
  · have e : i = xs.length := by lia
    subst e
    exact .inl ⟨⟨xs, q, Nat.le_refl _⟩, hd σ H p⟩
theorem for_range {lo : Int} {n : Nat} {g : TG} {tb : TS} {D : Ends} {σ : St} {H : Hp} (Pv : Nat → St → Hp → Prop) (h0 : Pv 0 σ H)
    (hs : ∀ i σ H, i < n → Pv i σ H → g (.int (lo + i)) σ H fun σ2 H2 => tb { D with nx := Pv (i + 1), ct := Pv (i + 1), bk := D.nx } σ2 H2) (hd : ∀ σ H, Pv n σ H → D.nx σ H) :
    ∃ W : Nat → Nat → St → Hp → Prop, (∃ m, W 0 m σ H) ∧ ∀ i m σ H, W i m σ H →
      ((Itr lo n).stop i H ∧ D.nx σ H) ∨ ((Itr lo n).go i H ∧ ∃ N : St → Hp → Prop, (∀ σ' H', N σ' H' → ∃ m', m' < m ∧ W (i + 1) m' σ' H') ∧ ∀ x H', (Itr lo n).yld i H x H' → g x σ H' fun σ2 H2 => tb { D with nx := N, ct := N, bk := D.nx } σ2 H2) := by
  refine ⟨fun i m σ H => m = n - i ∧ i ≤ n ∧ Pv i σ H, ⟨n, by simp, Nat.zero_le _, h0⟩, ?_⟩
  rintro i m σ H ⟨rfl, hi, p⟩
  by_cases hlt : i < n
  · refine .inr ⟨hlt, Pv (i + 1), fun σ' H' p' => ⟨n - (i + 1), by lia, rfl, hlt, p'⟩, fun x H' y => ?_⟩
    obtain ⟨e, y⟩ := y
    subst e y
    exact hs i σ _ hlt p
  · have e : i = n := by lia
    subst e
    exact .inl ⟨Nat.le_refl _, hd σ H p⟩
/- while, by a word and a measure of the state -/
theorem while_by {c : TT} {tb : TS} {D : Ends} {σ : St} {H : Hp} (Pv : St → Hp → Prop) (μ : St → Hp → Nat) (h0 : Pv σ H)
    (hs : ∀ σ H, Pv σ H → c σ H fun b H1 => if b = true then tb { D with nx := fun σ' H' => Pv σ' H' ∧ μ σ' H' < μ σ H, ct := fun σ' H' => Pv σ' H' ∧ μ σ' H' < μ σ H, bk := D.nx } σ H1 else D.nx σ H1)
    (mono : ∀ σ H Q Q', (∀ b H1, Q b H1 → Q' b H1) → c σ H Q → c σ H Q') : tWhile c tb D σ H := by
  refine ⟨fun m σ H => m = μ σ H ∧ Pv σ H, ⟨_, rfl, h0⟩, ?_⟩
  rintro m σ H ⟨rfl, p⟩
  refine mono σ H _ _ (fun b H1 q => ?_) (hs σ H p)
  cases b with
  | true => exact ⟨_, fun σ' H' ⟨p', l⟩ => ⟨_, l, rfl, p'⟩, q⟩
  | false => exact q
end L2
namespace L2
open PySem PySem.Spec PyProof.Rows
noncomputable abbrev R2 := V → V → Hp → VK → Prop
/- a two-place operation on values: f is binaryOp op, inplaceOp op or compareOp op -/
noncomputable def OpR (X : Cx) (f : Value → Value → Sem Value) (r : R2) : Prop :=
  ∀ (pins : List (Addr × Obj)) (s : Shared) (σ : St) (H : Hp) (x y : V) (v u : Value) (Q : VK), Inv X pins σ H s → RelV x v → RelV y u → r x y H Q →
    wpAny (model X.prog X.w) X.A (f v u) (EP X pins σ Q) X.xe s
/- a one-place operation -/
noncomputable def UnR (X : Cx) (f : Value → Sem Value) (r : V → Hp → VK → Prop) : Prop :=
  ∀ (pins : List (Addr × Obj)) (s : Shared) (σ : St) (H : Hp) (x : V) (v : Value) (Q : VK), Inv X pins σ H s → RelV x v → r x H Q →
    wpAny (model X.prog X.w) X.A (f v) (EP X pins σ Q) X.xe s
/- a call of a value that is known (a builtin, a type) with values -/
noncomputable def CallR (X : Cx) (f : Value) (r : List V → Hp → VK → Prop) : Prop :=
  ∀ (pins : List (Addr × Obj)) (s : Shared) (σ : St) (H : Hp) (xs : List V) (us : List Value) (Q : VK), Inv X pins σ H s → Vals xs us → r xs H Q →
    wpAny (model X.prog X.w) X.A (call f us) (EP X pins σ Q) X.xe s
noncomputable def tOp (r : R2) (ta tb : TE) : TE := fun σ H Q => ta σ H fun x H1 => tb σ H1 fun y H2 => r x y H2 Q
noncomputable def tUn (r : V → Hp → VK → Prop) (ta : TE) : TE := fun σ H Q => ta σ H fun x H1 => r x H1 Q
noncomputable def rI0 (g : Int → Int → V) : R2 := fun x y H Q => ∃ i j, x = .int i ∧ y = .int j ∧ Q (g i j) H
noncomputable def rU (g : Int → V) : V → Hp → VK → Prop := fun x H Q => ∃ i, x = .int i ∧ Q (g i) H
section
variable {X : Cx} {a b c : Expr} {ta tb tc : TE} {pos : Pos}
theorem binT (ha : PE X a ta) (hb : PE X b tb) {pins : List (Addr × Obj)} {s : Shared} {σ : St} {H : Hp} {R : V → V → Hp → Prop} (I : Inv X pins σ H s)
    (h : ta σ H fun x H1 => tb σ H1 fun y H2 => R x y H2) {Q : Value → Shared → Prop} {f : Value → Value → Sem Value}
    (hf : ∀ v u s2 x y H2, Inv X pins σ H2 s2 → RelV x v → RelV y u → R x y H2 → wpAny (model X.prog X.w) X.A (f v u) Q X.xe s2) :
    wpAny (model X.prog X.w) X.A (eval a X.env) (fun v s₁ => wpAny (model X.prog X.w) X.A (eval b X.env) (fun u s₂ => wpAny (model X.prog X.w) X.A (f v u) Q X.xe s₂) X.xe s₁) X.xe s := by
  refine thn (ha pins s σ H _ I h) fun v s1 zq => ?_
  obtain ⟨x, H1, I1, r1, q1⟩ := zq
  refine thn (hb pins s1 σ H1 _ I1 q1) fun u s2 zq => ?_
  obtain ⟨y, H2, I2, r2, q2⟩ := zq
  exact hf v u s2 x y H2 I2 r1 r2 q2
theorem pe_op {op : Operator} {r : R2} (ho : OpR X (binaryOp op) r) (ha : PE X a ta) (hb : PE X b tb) : PE X (.BinOp a op b pos) (tOp r ta tb) := by
  intro pins s σ H Q I h
  exact wpAny_BinOp (binT ha hb I h fun v u s2 x y H2 I2 rx ry q => ho pins s2 σ H2 x y v u Q I2 rx ry q)
theorem pe_un {op : UnaryOp} {r : V → Hp → VK → Prop} (ho : UnR X (unaryOp op) r) (ha : PE X a ta) : PE X (.UnaryOp op a pos) (tUn r ta) := by
  intro pins s σ H Q I h
  exact UnaryOp_ (thn (ha pins s σ H _ I h) fun v s1 ⟨x, H1, I1, r1, q1⟩ => ho pins s1 σ H1 x v Q I1 r1 q1)
/- ### ints -/
theorem opI0 {f : Value → Value → Sem Value} {g : Int → Int → Int}
    (rule : ∀ (i j : Int) (t u : Tok) (s : Shared) (Q : Value → Shared → Prop) (E : Value → Shared → Prop), Q (.int (g i j) s.toks) { s with toks := s.toks + 1 } → wpAny (model X.prog X.w) X.A (f (.int i t) (.int j u)) Q E s) :
    OpR X f (rI0 fun i j => .int (g i j)) := by
  intro pins s σ H x y v u Q I rx ry h
  obtain ⟨i, j, rfl, rfl, q⟩ := h
  obtain ⟨t, rfl⟩ := rx
  obtain ⟨t', rfl⟩ := ry
  exact rule i j t t' s _ _ ⟨.int (g i j), H, I.tok _, ⟨_, rfl⟩, q⟩
theorem opB0 {f : Value → Value → Sem Value} {g : Int → Int → Bool}
    (rule : ∀ (i j : Int) (t u : Tok) (s : Shared) (Q : Value → Shared → Prop) (E : Value → Shared → Prop), Q (.bool (g i j)) s → wpAny (model X.prog X.w) X.A (f (.int i t) (.int j u)) Q E s) :
    OpR X f (rI0 fun i j => .bl (g i j)) := by
  intro pins s σ H x y v u Q I rx ry h
  obtain ⟨i, j, rfl, rfl, q⟩ := h
  obtain ⟨t, rfl⟩ := rx
  obtain ⟨t', rfl⟩ := ry
  exact rule i j t t' s _ _ ⟨.bl (g i j), H, I, rfl, q⟩
theorem op_add : OpR X (binaryOp .Add) (rI0 fun i j => .int (i + j)) := opI0 fun _ _ _ _ _ _ _ q => add_int q
theorem op_sub : OpR X (binaryOp .Sub) (rI0 fun i j => .int (i - j)) := opI0 fun _ _ _ _ _ _ _ q => sub_int q
theorem unI {f : Value → Sem Value} {g : Int → Int}
    (rule : ∀ (i : Int) (t : Tok) (s : Shared) (Q : Value → Shared → Prop) (E : Value → Shared → Prop), Q (.int (g i) s.toks) { s with toks := s.toks + 1 } → wpAny (model X.prog X.w) X.A (f (.int i t)) Q E s) :
    UnR X f (rU fun i => .int (g i)) := by
  intro pins s σ H x v Q I rx h
  obtain ⟨i, rfl, q⟩ := h
  obtain ⟨t, rfl⟩ := rx
  exact rule i t s _ _ ⟨.int (g i), H, I.tok _, ⟨_, rfl⟩, q⟩
theorem un_neg : UnR X (unaryOp .USub) (rU fun i => .int (-i)) := unI fun _ _ _ _ _ q => neg_int q
/- ### bools among ints: n += (a < b) -/
end
/- ### comparisons -/
/- two ints (the program compares nothing else) -/
noncomputable def scalI : V → V → Bool
  | .int _, .int _ => true
  | _, _ => false
noncomputable def rEq : R2 := fun x y H Q => scalI x y = true ∧ Q (.bl (decide (x = y))) H
noncomputable def rNe : R2 := fun x y H Q => scalI x y = true ∧ Q (.bl (!decide (x = y))) H
theorem dec_int {i j : Int} : decide (V.int i = V.int j) = (i == j) := by
  rw [Bool.eq_iff_iff]
  simp
section
variable {X : Cx} {a b c : Expr} {ta tb tc : TE} {pos : Pos}
theorem fin_bl {pins : List (Addr × Obj)} {σ : St} {H : Hp} {s : Shared} {Q : VK} {k k' : Bool} (I : Inv X pins σ H s) (q : Q (.bl k) H) (e : k = k') : EP X pins σ Q (.bool k') s := by
  subst e
  exact ⟨.bl k, H, I, rfl, q⟩
theorem op_eq : OpR X (compareOp .Eq) rEq := by
  intro pins s σ H x y v u Q I rx ry h
  obtain ⟨hs, q⟩ := h
  cases x with
  | int i =>
    cases y with
    | int j =>
      obtain ⟨t, rfl⟩ := rx
      obtain ⟨t2, rfl⟩ := ry
      exact eq_int (fin_bl I q dec_int)
    | _ => exact absurd (show false = true from hs) Bool.false_ne_true
  | _ => exact absurd (show false = true from hs) Bool.false_ne_true
theorem op_ne : OpR X (compareOp .NotEq) rNe := by
  intro pins s σ H x y v u Q I rx ry h
  obtain ⟨hs, q⟩ := h
  cases x with
  | int i =>
    cases y with
    | int j =>
      obtain ⟨t, rfl⟩ := rx
      obtain ⟨t2, rfl⟩ := ry
      exact ne_int (fin_bl I q (congrArg not dec_int))
    | _ => exact absurd (show false = true from hs) Bool.false_ne_true
  | _ => exact absurd (show false = true from hs) Bool.false_ne_true
theorem op_lt : OpR X (compareOp .Lt) (rI0 fun i j => .bl (decide (i < j))) := opB0 fun _ _ _ _ _ _ _ q => lt_int q
theorem op_gt : OpR X (compareOp .Gt) (rI0 fun i j => .bl (decide (j < i))) := opB0 fun _ _ _ _ _ _ _ q => gt_int q
theorem nomark (b : Expr) {op : CmpOp} (h : op ≠ .In := by decide) (h2 : op ≠ .NotIn := by decide) : behindInMarks op b = false := by
  have e1 : (op == CmpOp.In) = false := by cases op <;> first | rfl | exact absurd rfl h
  have e2 : (op == CmpOp.NotIn) = false := by cases op <;> first | rfl | exact absurd rfl h2
  cases b <;> simp [behindInMarks, e1, e2]
/- a comparison as a value; hm: nomark b, or (for in, not in) by with_unfolding_all rfl -/
theorem pe_cmpR {op : CmpOp} {r : R2} (ho : OpR X (compareOp op) r) (ha : PE X a ta) (hb : PE X b tb) (hm : behindInMarks op b = false) : PE X (.Compare a [op] [b] pos) (tOp r ta tb) := by
  intro pins s σ H Q I h
  exact wpAny_Compare1 (binT ha hb I h fun v u s2 x y H2 I2 rx ry q => ho pins s2 σ H2 x y v u Q I2 rx ry q) hm
/- a reading of a value as a test -/
noncomputable def tTest (t : TE) : TT := fun σ H Q => t σ H fun x H' => ∃ k, x = .bl k ∧ Q k H'
theorem pt_cmpR {op : CmpOp} {r : R2} (ho : OpR X (compareOp op) r) (ha : PE X a ta) (hb : PE X b tb) (hm : behindInMarks op b = false) : PT X (.Compare a [op] [b] pos) (tTest (tOp r ta tb)) := by
  intro pins s σ H Q I h
  refine wpAny_isTrue_Compare1 (thn (ha pins s σ H _ I h) fun v s1 ⟨x, H1, I1, r1, q1⟩ => thn (hb pins s1 σ H1 _ I1 q1) fun u s2 ⟨y, H2, I2, r2, q2⟩ =>
    thn (ho pins s2 σ H2 x y v u _ I2 r1 r2 q2) fun c s3 ⟨z, H3, I3, r3, k, e, q3⟩ => ?_) hm
  subst e
  cases r3
  exact wpAny_truthy_bool ⟨H3, I3, q3⟩
/- ### truth -/
theorem line63 : (sizeLine : Nat) < 2 ^ 63 := by rw [sizeLine_eq]; decide
/- ### strs and bytes -/
/- ### scalar builtins, by CallR -/
theorem vals1 {x : V} {us : List Value} (r : Vals [x] us) : ∃ u, us = [u] ∧ RelV x u := by
  cases r with
  | cons r1 r2 => cases r2; exact ⟨_, rfl, r1⟩
end
end L2
namespace L2
open PySem PySem.Spec PyProof.Rows
/- ### an instance, its attributes a map -/
structure ObjM (h : Heap) (x dx C : Addr) (mA : Str → Option Value) : Prop where
  obj : h.get? x = some (PySem.W.instObj C dx)
  ns : h.Ns1 dx mA
  ne : dx ≠ x
theorem lookIn_ns {h : Heap} {dx : Addr} {mA : Str → Option Value} (n : h.Ns1 dx mA) : ∃ od, h.get? dx = some od ∧ ∀ name, PySem.W.lookIn name od = some (mA name) := by
  obtain ⟨o, es, ep, ho, hd, hk, _, hm⟩ := n
  refine ⟨o, ho, fun name => ?_⟩
  have e := hm name
  unfold nsFind findBy at e
  rw [← Array.find?_toList] at e
  unfold PySem.W.lookIn
  rw [hd]
  dsimp only
  split
  · rename_i y q
    rw [q] at e
    exact congrArg some e
  · rename_i q
    rw [q] at e
    have a : es.toList.any (·.refKey) = false := by
      rw [List.any_eq_false]
      intro y hy
      obtain ⟨z, t, hkey⟩ := hk y (Array.mem_toList_iff.mp hy)
      simp [DictEntry.refKey, hkey]
    have a' : ¬ es.toList.any (·.refKey) = true := by rw [a]; exact Bool.false_ne_true
    rw [if_neg a']
    exact congrArg some e
theorem ObjM.look {h : Heap} {x dx C : Addr} {mA : Str → Option Value} (I : ObjM h x dx C mA) : ∃ od, PySem.W.InstAt h x (PySem.W.instObj C dx) C (some od) ∧ ∀ name, PySem.W.lookIn name od = some (mA name) :=
  let ⟨od, ho, hl⟩ := lookIn_ns I.ns
  ⟨od, ⟨I.obj, rfl, rfl, ho⟩, hl⟩
section
variable {prog : Program} {w : World} {A : Around} {E : Value → Shared → Prop} {s : Shared} {K : PySem.W.Frag} {x dx C f : Addr} {mA : Str → Option Value} {name : Str} {v : Value}
theorem get_map {expr : Bool} {Q : Value → Shared → Prop} (X : K.In s.heap) (I : ObjM s.heap x dx C mA) (hg : PySem.W.plainGet K C name = true) (hh : PySem.W.hasDictIn K C = true)
    (ha : PySem.W.findIn K (.ref C) name = some none) (hv : mA name = some v) (hv' : PySem.W.handedIn v = true) (h : Q v { s with toks := s.toks + 1 }) :
    wpAny (model prog w) A (getAttr (.ref x) name expr) Q E s := by
  obtain ⟨od, J, hl⟩ := I.look
  exact PySem.W.get_value X J (PySem.W.plainGet_of hg).1 (PySem.W.findObj_own hh ha rfl (by rw [hl, hv])) hv' h
theorem get_meth {pl : Sem Bool} {Q : Value × List Value → Shared → Prop} (X : K.In s.heap) (I : ObjM s.heap x dx C mA) (hg : PySem.W.plainGet K C name = true)
    (hf : PySem.W.findIn K (.ref C) name = some (some (.ref f))) (ht : PySem.W.isFn K (.ref f) = true) (hv : mA name = none) (h : Q (.ref f, [.ref x]) s) :
    wpAny (model prog w) A (getMethod (.ref x) name pl) Q E s := by
  obtain ⟨od, J, hl⟩ := I.look
  exact PySem.W.method_fn X J (PySem.W.plainGet_of hg).1 (PySem.W.plainGet_of hg).2 hf (beq_iff_eq.mp ht) (by show (PySem.W.lookIn name od).map (·.isSome) = some false; rw [hl, hv]; rfl) h
theorem set_map {ns : List Str} {Q : Unit → Shared → Prop} (X : K.In s.heap) (I : ObjM s.heap x dx C mA)
    (hs : PySem.W.findIn K (.ref C) "__setattr__" = some (some (.builtin "object.__setattr__"))) (hp : PySem.W.plainOver K C = true) (ht : PySem.W.takerIn K C name = some none) (hh : PySem.W.hasDictIn K C = true)
    (hw : PySem.Within mA ns) (hsz : ns.length ≤ sizeLine)
    (h : ∀ h', ObjM h' x dx C (fun y => if y = name then some v else mA y) → Heap.SameBut dx s.heap h' → Q () { s with heap := h', toks := s.toks + 2 }) :
    wpAny (model prog w) A (setAttr (.ref x) name v) Q E s := by
  obtain ⟨od, J, hl⟩ := I.look
  refine PySem.W.set_plain X J hs (PySem.W.osa_open (s := { s with toks := s.toks + 1 }) (r := none) X J hp ht fun b => ?_)
  obtain ⟨cd, hc, hd'⟩ := PySem.W.any_some hh
  have hx : s.heap.get? x = some ⟨.ref C, some dx, .plain, #[]⟩ := I.obj
  refine wpAny_bind (wpAny_pure (wpAny_bind (wpAny_bind (wpAny_loadPart hx (wpAny_bind (PySem.W.Looks.here (s := { s with toks := s.toks + 1 }) (PySem.W.looks_clsIn X hc) ?_))))))
  rw [hd']
  refine wpAny_pure (a := some dx) (wpAny_bind (wpAny_pure (wpAny_bind ?_)))
  refine wpAny_nsSet1 (s := { s with toks := s.toks + 1 }) I.ns fun h' hn2 hs2 => ?_
  obtain ⟨oD, esD, epD, hoD, hdD, hcD⟩ := hn2.count (PySem.Within.cons name v hw)
  refine wpAny_bind (wpAny_lookBehind hoD (by rw [hdD]; exact pastItsLine_dict (Nat.le_trans hcD (by rw [List.length_cons]; lia))) ?_)
  exact wpAny_pure (h _ ⟨(hs2.2 _ (Ne.symm I.ne)).trans I.obj, hn2, I.ne⟩ hs2)
/- C(..): the dict at the heap's end, the instance behind it; then its __init__ -/
theorem make_map {R : Result → Shared → Prop} {vs : List Value} {kw : List (Str × Value)} (X : K.In s.heap) (hm : PySem.W.makesIn K C = true)
    (hi : PySem.W.findIn K (.ref C) "__init__" = some (some (.ref f))) (hf : PySem.W.typeIn K (.ref f) = some (.type "function"))
    (h : codeAny (model prog w) (A.under (.builtin "type.__call__" ⟨.ref C :: vs, kw⟩)) (.call (.ref f) ⟨.ref (s.heap.objs.size + 1) :: vs, kw⟩) (PySem.W.InitBack (s.heap.objs.size + 1) R)
      { s with heap := (s.heap.push PySem.W.emptyDict).push (PySem.W.instObj C s.heap.objs.size) }) :
    codeAny (model prog w) A (.call (.ref C) ⟨vs, kw⟩) R s := by
  obtain ⟨hh, g, d, t, os⟩ := s
  exact PySem.W.make_core (PySem.W.makes_of X hm) (PySem.W.looks_findIn X hi) (fun self => PySem.W.bind_fn X self hf) (.inl rfl) h
end
/- ### the attributes as a list of pairs -/
noncomputable def putF (f : Str) (v : V) : List (Str × V) → List (Str × V)
  | [] => [(f, v)]
  | (g, x) :: r => if g = f then (g, v) :: r else (g, x) :: putF f v r
theorem lookup_putF (f g : Str) (v : V) : ∀ fs : List (Str × V), (putF f v fs).lookup g = if g = f then some v else fs.lookup g
  | [] => by
    show List.lookup g [(f, v)] = _
    by_cases h : g = f
    · have hb : (g == f) = true := beq_iff_eq.mpr h
      simp only [List.lookup, hb, if_pos h]
    · have hb : (g == f) = false := beq_eq_false_iff_ne.mpr h
      simp only [List.lookup, hb, if_neg h]
  | (k, x) :: r => by
    have ih := lookup_putF f g v r
    rw [show putF f v ((k, x) :: r) = (if k = f then (k, v) :: r else (k, x) :: putF f v r) from rfl]
    by_cases hk : k = f
    · rw [if_pos hk]
      by_cases h : g = k
      · have hb : (g == k) = true := beq_iff_eq.mpr h
        simp only [List.lookup, hb, if_pos (h.trans hk)]
      · have hb : (g == k) = false := beq_eq_false_iff_ne.mpr h
        simp only [List.lookup, hb, if_neg (fun e : g = f => h (e.trans hk.symm))]
    · rw [if_neg hk]
      by_cases h : g = k
      · have hb : (g == k) = true := beq_iff_eq.mpr h
        simp only [List.lookup, hb, if_neg (fun e : g = f => hk (h.symm.trans e))]
      · have hb : (g == k) = false := beq_eq_false_iff_ne.mpr h
        simp only [List.lookup, hb]
        exact ih
theorem keys_putF (f : Str) (v : V) : ∀ fs : List (Str × V), f ∈ (putF f v fs).map (·.1) ∧ ∀ g, g ∈ fs.map (·.1) → g ∈ (putF f v fs).map (·.1)
  | [] => ⟨by simp [putF], fun g h => by simp at h⟩
  | (k, x) :: r => by
    obtain ⟨i1, i2⟩ := keys_putF f v r
    rw [show putF f v ((k, x) :: r) = (if k = f then (k, v) :: r else (k, x) :: putF f v r) from rfl]
    by_cases hk : k = f
    · rw [if_pos hk]
      subst hk
      exact ⟨by simp, fun g h => by simpa using h⟩
    · rw [if_neg hk]
      refine ⟨?_, fun g h => ?_⟩
      · rw [List.map_cons]
        exact List.mem_cons_of_mem _ i1
      · rw [List.map_cons] at h ⊢
        rcases List.mem_cons.mp h with e | e
        · exact List.mem_cons.mpr (.inl e)
        · exact List.mem_cons_of_mem _ (i2 g e)
theorem length_putF (f : Str) (v : V) : ∀ fs : List (Str × V), (putF f v fs).length ≤ fs.length + 1
  | [] => by simp [putF]
  | (k, x) :: r => by
    have ih := length_putF f v r
    rw [show putF f v ((k, x) :: r) = (if k = f then (k, v) :: r else (k, x) :: putF f v r) from rfl]
    by_cases hk : k = f
    · rw [if_pos hk, List.length_cons, List.length_cons]; lia
    · rw [if_neg hk, List.length_cons, List.length_cons]; lia
theorem RelO.some_of {v : V} {o : Option Value} (r : RelO (some v) o) : ∃ u, o = some u ∧ RelV v u := by
  cases o with
  | none => exact (show False from r).elim
  | some u => exact ⟨u, rfl, r⟩
theorem RelO.none_of {o : Option Value} (r : RelO none o) : o = none := by
  cases o with
  | none => rfl
  | some u => exact (show False from r).elim
theorem handed_of {v : V} {u : Value} (r : RelV v u) : PySem.W.handedIn u = true := by
  cases v with
  | non => cases (show u = Value.none from r); rfl
  | bl b => cases (show u = Value.bool b from r); rfl
  | int i => obtain ⟨t, e⟩ := (show ∃ t, u = Value.int i t from r); cases e; rfl
  | str x => obtain ⟨t, e⟩ := (show ∃ t, u = Value.str x t from r); cases e; rfl
  | byt b => obtain ⟨t, e⟩ := (show ∃ t, u = Value.bytes b t from r); cases e; rfl
  | flt b => obtain ⟨t, e⟩ := (show ∃ t, u = Value.float b t from r); cases e; rfl
  | ref a => cases (show u = Value.ref a from r); rfl
  | ty n => cases (show u = Value.type n from r); rfl
section
variable {P : Program} {w : World} {H H' : Hp} {h h' : Heap} {a C dx : Addr} {fs fs' : List (Str × V)}
theorem ins_get (hok : HOk P w H h) (e : H a = some (.ins C dx fs)) : ∃ mA, ObjM h a dx C mA ∧ (∀ f, RelO (fs.lookup f) (mA f)) ∧ PySem.Within mA (fs.map (·.1)) ∧ fs.length ≤ 1000 ∧ H dx = some (.own a) := by
  obtain ⟨d, z, ne, ob, mA, n, r, q⟩ := (show ObjOk P w H h a (.ins C dx fs) from hok a _ e)
  exact ⟨mA, ⟨ob, n, ne⟩, r, q, z, d⟩
end
/- ### what of the text a class must have -/
structure Cls (K : PySem.W.Frag) (C : Addr) : Prop where
  pg : PySem.W.plainGet K C Str.empty = true
  hd : PySem.W.hasDictIn K C = true
  po : PySem.W.plainOver K C = true
  sa : PySem.W.findIn K (.ref C) "__setattr__" = some (some (.builtin "object.__setattr__"))
theorem Cls.get {K : PySem.W.Frag} {C : Addr} (c : Cls K C) (f : Str) : PySem.W.plainGet K C f = true := c.pg
/- no class of it has the name -/
noncomputable def NoAttr (K : PySem.W.Frag) (C : Addr) (f : Str) : Prop := PySem.W.findIn K (.ref C) f = some none
theorem NoAttr.taker {K : PySem.W.Frag} {C : Addr} {f : Str} (n : NoAttr K C f) : PySem.W.takerIn K C f = some none := by
  unfold PySem.W.takerIn
  rw [show PySem.W.findIn K (.ref C) f = some none from n]
  rfl
/- a method: a plain def of the class or of one above it -/
structure Meth (K : PySem.W.Frag) (C : Addr) (m : Str) (f : Addr) : Prop where
  at_ : PySem.W.findIn K (.ref C) m = some (some (.ref f))
  fn : PySem.W.isFn K (.ref f) = true
  kp : PySem.W.keepIn K (.ref f) = true
section
variable {X : Cx} {pins : List (Addr × Obj)} {σ : St} {H : Hp} {s : Shared} {a C dx : Addr} {fs : List (Str × V)} {f : Str} {v : V} {A : Around} {E : Value → Shared → Prop}
theorem getattr_ok {b : Bool} {Q : Value → Shared → Prop} (I : Inv X pins σ H s) (e : H a = some (.ins C dx fs)) (c : Cls X.K C) (n : NoAttr X.K C f) (l : fs.lookup f = some v)
    (h : ∀ u s', Inv X pins σ H s' → RelV v u → Q u s') : wpAny (model X.prog X.w) A (getAttr (.ref a) f b) Q E s := by
  obtain ⟨mA, O, r, _, _, _⟩ := ins_get I.hok e
  obtain ⟨u, hu, ru⟩ := RelO.some_of (v := v) (o := mA f) (by rw [← l]; exact r f)
  exact get_map I.kIn O (c.get f) c.hd n hu (handed_of ru) (h u _ (I.tok _) ru)
theorem getmeth_ok {m : Str} {g : Addr} {pl : Sem Bool} {Q : Value × List Value → Shared → Prop} (I : Inv X pins σ H s) (e : H a = some (.ins C dx fs)) (c : Cls X.K C) (k : Meth X.K C m g) (l : fs.lookup m = none)
    (h : Q (.ref g, [.ref a]) s) : wpAny (model X.prog X.w) A (getMethod (.ref a) m pl) Q E s := by
  obtain ⟨mA, O, r, _, _, _⟩ := ins_get I.hok e
  have hn : mA m = none := RelO.none_of (by rw [← l]; exact r m)
  exact get_meth I.kIn O (c.get m) k.at_ k.fn hn h
theorem setattr_ok {y : V} {u : Value} {Q : Unit → Shared → Prop} (I : Inv X pins σ H s) (e : H a = some (.ins C dx fs)) (c : Cls X.K C) (n : NoAttr X.K C f) (hl : fs.length < 1000) (ry : RelV y u)
    (h : ∀ s', Inv X pins σ (upd H a (.ins C dx (putF f y fs))) s' → Q () s') : wpAny (model X.prog X.w) A (setAttr (.ref a) f u) Q E s := by
  obtain ⟨mA, O, r, wi, _, ho⟩ := ins_get I.hok e
  have hz : (fs.map (·.1)).length ≤ sizeLine := by rw [List.length_map, sizeLine_eq]; lia
  refine set_map I.kIn O c.sa c.po n.taker c.hd wi hz fun h' O' sb => h _ ?_
  have hd : ∃ o, h'.get? dx = some o := let ⟨o, _, _, e', _⟩ := O'.ns; ⟨o, e'⟩
  refine I.write (x := a) (e := dx) (by rw [e]; exact True.intro) (.inr ho) (fun b q hb z => (sb.2 b hb).trans z) hd ?_
  refine ⟨by rw [upd_ne O.ne]; exact ho, ?_, O.ne, O'.obj, _, O'.ns, fun g => ?_, fun g hg => ?_⟩
  · have := length_putF f y fs; lia
  · show RelO ((putF f y fs).lookup g) (if g = f then some u else mA g)
    rw [lookup_putF]
    by_cases q : g = f
    · rw [if_pos q, if_pos q]; exact ry
    · rw [if_neg q, if_neg q]; exact r g
  · by_cases q : g = f
    · rw [q]; exact (keys_putF f y fs).1
    · refine (keys_putF f y fs).2 g (wi g fun z => hg ?_)
      show (if g = f then some u else mA g) = none
      rw [if_neg q]; exact z
/- a new instance, tracked, without attributes -/
theorem Inv.made (I : Inv X pins σ H s) : Inv X pins σ (upd (upd H s.heap.objs.size (.own (s.heap.objs.size + 1))) (s.heap.objs.size + 1) (.ins C s.heap.objs.size []))
    { s with heap := (s.heap.push PySem.W.emptyDict).push (PySem.W.instObj C s.heap.objs.size) } := by
  have e1 : (s.heap.push PySem.W.emptyDict).get? s.heap.objs.size = some PySem.W.emptyDict := Heap.get?_push_size s.heap rfl
  have e2 : ((s.heap.push PySem.W.emptyDict).push (PySem.W.instObj C s.heap.objs.size)).get? (s.heap.objs.size + 1) = some (PySem.W.instObj C s.heap.objs.size) := by
    have := Heap.get?_push_size (s.heap.push PySem.W.emptyDict) (o := PySem.W.instObj C s.heap.objs.size) rfl
    rwa [Heap.size_push] at this
  have e3 : (s.heap.push PySem.W.emptyDict).Ns s.heap.objs.size (fun _ => none) := ⟨PySem.W.emptyDict, #[], _, e1, rfl, (fun e he => absurd he (by simp)), fun _ => rfl⟩
  have I1 := I.laid (a := s.heap.objs.size) (o := .own (s.heap.objs.size + 1)) (h' := s.heap.push PySem.W.emptyDict) (t' := s.toks) (fun b u q => Heap.get?_push_of_some _ q) (Nat.le_refl _) ⟨_, e1⟩
  refine I1.laid (a := s.heap.objs.size + 1) (o := .ins C s.heap.objs.size []) (t' := s.toks) (fun b u q => Heap.get?_push_of_some _ q) (Nat.le_of_eq (Heap.size_push _ _)) ?_
  have ne : s.heap.objs.size ≠ s.heap.objs.size + 1 := Nat.ne_of_lt (Nat.lt_succ_self _)
  refine ⟨by rw [upd_ne ne, upd_same], Nat.zero_le _, ne, e2, fun _ => none, (Heap.Ns1.of_empty e3).at fun o q => Heap.get?_push_of_some _ q, fun _ => True.intro, fun y hy => absurd rfl hy⟩
/- e.f where nothing but the object is asked: through attributeBase (super) and the last hold -/
theorem attr_of {prog : Program} {w : World} {env : Env} {e : Expr} {f : Str} {pos : Pos} {s : Shared} {Q : Value → Shared → Prop} (hb : attributeBase e f env (eval e env) = eval e env)
    (h : wpAny (model prog w) A (eval e env) (fun o s₁ => wpAny (model prog w) A (getAttr o f true) Q E s₁) E s) : wpAny (model prog w) A (eval (.Attribute e f pos) env) Q E s :=
  Attribute_any_ h (by rw [arm_eval_Attribute, hb])
end
/- ### readings and rules -/
/- e.f, an attribute of the instance -/
noncomputable def tFld (K : PySem.W.Frag) (ta : TE) (f : Str) : TE := fun σ H Q => ta σ H fun x H1 => ∃ a C dx fs v, x = .ref a ∧ H1 a = some (.ins C dx fs) ∧ Cls K C ∧ NoAttr K C f ∧ fs.lookup f = some v ∧ Q v H1
/- e.f = value -/
noncomputable def sFld (K : PySem.W.Frag) (ta tv : TE) (f : Str) : TS := fun D σ H => tv σ H fun y H1 => ta σ H1 fun x H2 => ∃ a C dx fs, x = .ref a ∧ H2 a = some (.ins C dx fs) ∧ Cls K C ∧ NoAttr K C f ∧ fs.length < 1000 ∧
  D.nx σ (upd H2 a (.ins C dx (putF f y fs)))
section
variable {X : Cx} {o e value : Expr} {f : Str} {pos pos' tpos : Pos} {ta tv : TE}
theorem pe_fld (he : PE X e ta) (hb : attributeBase e f X.env (eval e X.env) = eval e X.env) : PE X (.Attribute e f pos) (tFld X.K ta f) := by
  intro pins s σ H Q I h
  refine attr_of hb (thn (he pins s σ H _ I h) fun u s1 zq => ?_)
  obtain ⟨x, H1, I1, rx, a, C, dx, fs, v, ex, ea, c, n, l, q⟩ := zq
  subst ex
  obtain rfl : u = Value.ref a := rx
  exact getattr_ok I1 ea c n l fun u' s2 I2 ru => ⟨v, H1, I2, ru, q⟩
theorem ps_fld (ha : PE X o ta) (hv : PE X value tv) (hs : swapsWith value (some (.Attribute o f pos')) pos.line X.env = pure false) : PS X (.Assign [.Attribute o f pos'] value pos) (sFld X.K ta tv f) := by
  intro pins s σ H D I h
  refine plainObj_wpAny_Assign_Attribute (thn (hv pins s σ H _ I h) fun u s1 ⟨y, H1, I1, ry, q⟩ => thn (ha pins s1 σ H1 _ I1 q) fun ov s2 zq => ?_) hs
  obtain ⟨x, H2, I2, rx, a, C, dx, fs, ex, ea, c, n, l, q2⟩ := zq
  subst ex
  obtain rfl : ov = Value.ref a := rx
  exact setattr_ok I2 ea c n l ry fun s3 I3 => ⟨σ, _, I3, q2⟩
end
/- ### isinstance -/
section
variable {X : Cx} {pins : List (Addr × Obj)} {σ : St} {H : Hp} {s : Shared} {A : Around} {E : Value → Shared → Prop} {Q : Value → Shared → Prop} {c : Value} {b : Bool}
end
end L2
namespace L2
open PySem PySem.Spec PyProof.Rows
/- ### room -/
structure Room (k : Nat) (A : Around) : Prop where
  hd : A.handled = none
  dp : A.depth + 3 * k + 5 < recursionLimit
  un : A.units + 16 * k + 200 < cLine
theorem Room.mono {j k : Nat} {A : Around} (r : Room k A) (h : j ≤ k) : Room j A := ⟨r.hd, by have := r.dp; lia, by have := r.un; lia⟩
theorem Room.deeper {k : Nat} {A : Around} (r : Room (k + 1) A) (env : Env) : Room k (A.deeper env) :=
  ⟨r.hd, by have := r.dp; show A.depth + 1 + 3 * k + 5 < _; lia, by have := r.un; show A.units + 3 + 16 * k + 200 < _; lia⟩
theorem make_depth {A : Around} {C : Addr} {us : List Value} {kw : List (Str × Value)} : (A.under (.builtin "type.__call__" ⟨.ref C :: us, kw⟩)).depth = A.depth + 1 := by
  first | rfl | simp [Around.under, Code.weight, Code.isCreation, Code.isGuard, Code.isCaller, Code.frames, Code.isFrame, guardIds]
theorem make_units {A : Around} {C : Addr} {us : List Value} {kw : List (Str × Value)} : (A.under (.builtin "type.__call__" ⟨.ref C :: us, kw⟩)).units = A.units + 1 := by
  first | rfl | simp [Around.under, Code.cUnits, Code.frames, Code.isFrame]
theorem Room.make {k : Nat} {A : Around} (r : Room (k + 1) A) (C : Addr) (us : List Value) (kw : List (Str × Value)) : Room k (A.under (.builtin "type.__call__" ⟨.ref C :: us, kw⟩)) :=
  ⟨r.hd, by have := r.dp; rw [make_depth]; lia, by have := r.un; rw [make_units]; lia⟩
theorem Room.depth {k : Nat} {A : Around} (r : Room k A) : A.depth < recursionLimit := by have := r.dp; lia
theorem Room.units {k : Nat} {A : Around} (r : Room k A) : A.units + 64 < cLine := by have := r.un; lia
/- ### argument lists and displays -/
noncomputable def tNil : TA := fun _ H Q => Q [] H
noncomputable def tCons (ta : TE) (tr : TA) : TA := fun σ H Q => ta σ H fun x H1 => tr σ H1 fun xs H2 => Q (x :: xs) H2
section
variable {X : Cx} {e : Expr} {es : List Expr} {te : TE} {t : TA} {pos : Pos}
theorem pa_nil : PA X [] tNil := fun _ _ _ _ H Q I h => Calls.spliced_nil ⟨[], H, I, .nil, h⟩
theorem pa_cons (ha : PE X e te) (hr : PA X es t) (hs : starEach (e :: es) X.env = (false, eval e X.env) :: starEach es X.env := by rfl) : PA X (e :: es) (tCons te t) := by
  intro pos pins s σ H Q I h
  rw [hs]
  show wpAny _ _ (spliced ((false, eval e X.env) :: backTo pos (starEach es X.env))) _ _ s
  refine Calls.spliced_cons (thn (ha pins s σ H _ I h) fun u s1 zq => ?_)
  obtain ⟨x, H1, I1, r1, q1⟩ := zq
  exact thn (hr pos pins s1 σ H1 _ I1 q1) fun us s2 ⟨xs, H2, I2, r2, q2⟩ => ⟨x :: xs, H2, I2, .cons r1 r2, q2⟩
/- a tuple, a list of written items -/
noncomputable def tTup (t : TA) : TE := fun σ H Q => t σ H fun xs H1 => xs.length ≤ sizeLine ∧ ∀ p, H1 p = none → Q (.ref p) (upd H1 p (.tup xs))
noncomputable def tLst (t : TA) : TE := fun σ H Q => t σ H fun xs H1 => xs.length ≤ sizeLine ∧ ∀ p, H1 p = none → Q (.ref p) (upd H1 p (.lst xs))
theorem pe_tup {x1} (h : PA X es t) : PE X (.Tuple es x1 pos) (tTup t) := by
  intro pins s σ H Q I hq
  refine wpAny_Tuple_spliced (thn (h pos pins s σ H _ I hq) fun us s1 ⟨xs, H1, I1, r, z, q⟩ => ⟨by rw [← r.length]; exact z, ?_⟩)
  have hf : H1 s1.heap.objs.size = none := I1.hok.fresh (Nat.le_refl _)
  refine ⟨.ref s1.heap.objs.size, upd H1 s1.heap.objs.size (.tup xs), I1.laid (t' := s1.toks) (fun b u e => Heap.get?_push_of_some _ e) (Nat.le_refl _) ?_, rfl, q _ hf⟩
  exact ⟨z, us, r, ⟨_, Heap.get?_push_size _ rfl, rfl, _, rfl⟩⟩
theorem pe_lst (h : PA X es t) : PE X (.List es pos) (tLst t) := by
  intro pins s σ H Q I hq
  refine wpAny_List_spliced (thn (h pos pins s σ H _ I hq) fun us s1 ⟨xs, H1, I1, r, z, q⟩ => ⟨by rw [← r.length]; exact z, ?_⟩)
  have hf : H1 s1.heap.objs.size = none := I1.hok.fresh (Nat.le_refl _)
  refine ⟨.ref s1.heap.objs.size, upd H1 s1.heap.objs.size (.lst xs), I1.laid (t' := s1.toks) (fun b u e => Heap.get?_push_of_some _ e) (Nat.le_refl _) ?_, rfl, q _ hf⟩
  exact ⟨z, us, 0, r, Heap.get?_push_size _ rfl⟩
end
/- ### what a def promises -/
/- a def's promise: the bound arguments in the parameters' order, the heap, the wanted end, the wanted exception -/
noncomputable abbrev Sp := List V → Hp → VK → XK → Prop
/- how an exception lies behind a call (file 08 gives it): the callers' frames, abstract heap and state ahead of the call, the wish, the exception, the state -/
noncomputable abbrev CXT := List Env → Hp → Shared → XK → Value → Shared → Prop
/- the state at a call -/
structure Env0 (P : Program) (w : World) (K : PySem.W.Frag) (mg : Str → Option Value) (base : Heap) (A : Around) (outer : List Env) (s : Shared) (H : Hp) : Prop where
  frames : A.frames = some outer
  mod : Mod K mg base
  bs : ∀ b o, base.get? b = some o → s.heap.get? b = some o ∧ H b = none
  bsz : base.objs.size ≤ s.heap.objs.size
  funs : s.heap.FunFrames base outer
  frf : ∀ b ∈ frs outer, H b = none
  hok : HOk P w H s.heap
  bare : AllBare s.gens
/- a call's end -/
noncomputable def CE (outer : List Env) (P : Program) (w : World) (H : Hp) (s : Shared) (Q : VK) (u : Value) (s' : Shared) : Prop :=
  ∃ v H', s'.os = s.os ∧ AllBare s'.gens ∧ Un (frs outer) [] H H' s.heap s'.heap ∧ HOk P w H' s'.heap ∧ RelV v u ∧ Q v H'
noncomputable def CR (CX : CXT) (outer : List Env) (P : Program) (w : World) (H : Hp) (s : Shared) (Q : VK) (E : XK) (r : Result) (s' : Shared) : Prop :=
  match r with
  | .ok (.ret u) => CE outer P w H s Q u s'
  | .ok _ => False
  | .error e => CX outer H s E e s'
structure FnOk (P : Program) (w : World) (K : PySem.W.Frag) (mg : Str → Option Value) (base : Heap) (CX : CXT) (k : Nat) (f : Addr) (fd : FuncData) (ps : List Str) (sp : Sp) : Prop where
  len : ∀ vs H Q E, sp vs H Q E → vs.length = ps.length
  run : ∀ (A : Around) (outer : List Env) (s : Shared) (H : Hp) (args : Args) (us : List Value) (vs : List V) (Q : VK) (E : XK), Room k A → Env0 P w K mg base A outer s H → BindsTo s fd args (ps.zip us) → Vals vs us → sp vs H Q E →
    codeAny (model P w) A (.call (.ref f) args) (CR CX outer P w H s Q E) s
theorem Env0.make {P : Program} {w : World} {K : PySem.W.Frag} {mg : Str → Option Value} {base : Heap} {A : Around} {outer : List Env} {s : Shared} {H : Hp} (e : Env0 P w K mg base A outer s H) (C : Addr) (us : List Value) (kw : List (Str × Value)) :
    Env0 P w K mg base (A.under (.builtin "type.__call__" ⟨.ref C :: us, kw⟩)) outer s H := ⟨by first | exact e.frames | (simpa [Around.under, Code.envs, Code.isFrame, pushEnvs] using e.frames), e.mod, e.bs, e.bsz, e.funs, e.frf, e.hok, e.bare⟩
section
variable {X : Cx} {pins : List (Addr × Obj)} {σ : St} {H : Hp} {s s' : Shared}
/- from a body: what a callee wants -/
theorem Inv.env0 (I : Inv X pins σ H s) : Env0 X.prog X.w X.K X.mg X.base X.A X.stack s H :=
  ⟨I.ok.frames, I.ok.mod, I.bs, Nat.le_trans I.ok.bsz I.sz, I.stack, I.stkFree, I.hok, I.bare⟩
/- behind a call -/
theorem Inv.after {Q : VK} {u : Value} (I : Inv X pins σ H s) (h : CE X.stack X.prog X.w H s Q u s') : EP X pins σ Q u s' := by
  obtain ⟨v, H', os, bare, un, hok, r, q⟩ := h
  obtain ⟨hh, g, d, t, os'⟩ := s'
  obtain rfl : os' = s.os := os
  exact ⟨v, H', I.call (h' := hh) (g' := g) (d' := d) (t' := t) (ch := []) un hok bare (fun b z => absurd z (by simp)), r, q⟩
end
/- ### calls -/
/- f(..): the written arguments, then the defaults dvs; E: what is wanted of an exception -/
noncomputable def tCall (sp : Sp) (dvs : List V) (E : XK) (t : TA) : TE := fun σ H Q => t σ H fun vs H1 => sp (vs ++ dvs) H1 Q E
/- o.m(..) of an instance of the class at C -/
noncomputable def tMeth (C : Addr) (m : Str) (sp : Sp) (dvs : List V) (E : XK) (ta : TE) (t : TA) : TE := fun σ H Q => ta σ H fun x H1 => ∃ a dx fs, x = .ref a ∧ H1 a = some (.ins C dx fs) ∧ fs.lookup m = none ∧
  t σ H1 fun vs H2 => sp (x :: (vs ++ dvs)) H2 Q E
/- C(..): a new instance and its dict, then __init__ -/
noncomputable def tMake (C : Addr) (sp : Sp) (dvs : List V) (E : XK) (t : TA) : TE := fun σ H Q => t σ H fun vs H1 => ∀ x dx, H1 x = none → H1 dx = none → dx ≠ x →
  sp (.ref x :: (vs ++ dvs)) (upd (upd H1 dx (.own x)) x (.ins C dx [])) (fun v H2 => v = .non ∧ Q (.ref x) H2) E
/- how the parameters are bound: us the positional arguments, kw the keywords' values by name, ds the defaults that fill up -/
noncomputable def Binds (K : PySem.W.Frag) (fd : FuncData) (ps : List Str) (ds : List Value) : Prop :=
  ∀ (s : Shared) (us : List Value), K.In s.heap → (us ++ ds).length = ps.length → BindsTo s fd ⟨us, []⟩ (ps.zip (us ++ ds))
/- every parameter is given -/
theorem Binds.all {K : PySem.W.Frag} {fd : FuncData} {ps : List Str} (h : ∀ us : List Value, us.length = ps.length → bindArgs fd ⟨us, []⟩ = pure (ps.zip us)) : Binds K fd ps [] := fun s us _ hl => by
  rw [List.append_nil] at hl ⊢
  exact .of_eq (h us hl)
/- an exception of a callee reaches what this body wants of exceptions -/
noncomputable def Passes (CX : CXT) (X : Cx) (E : XK) : Prop := ∀ (pins : List (Addr × Obj)) (σ : St) (H : Hp) (s : Shared) (e : Value) (s' : Shared), Inv X pins σ H s → CX X.stack H s E e s' → X.xe e s'
section
variable {X : Cx} {CX : CXT} {k : Nat} {f C : Addr} {fd : FuncData} {ps : List Str} {sp : Sp} {dvs : List V} {ds : List Value} {E : XK} {x m : Str} {p pos apos : Pos} {e o : Expr} {es : List Expr} {ta : TE} {t : TA}
/- the callee runs -/
theorem run_fn {pins : List (Addr × Obj)} {σ : St} {H : Hp} {s : Shared} {Q : VK} {us : List Value} {vs : List V} (F : FnOk X.prog X.w X.K X.mg X.base CX k f fd ps sp) (hr : Room k X.A) (hb : Binds X.K fd ps ds) (hd : Vals dvs ds) (hx : Passes CX X E)
    (I : Inv X pins σ H s) (r : Vals vs us) (h : sp (vs ++ dvs) H Q E) : wpAny (model X.prog X.w) X.A (call (.ref f) us) (EP X pins σ Q) X.xe s := by
  have r2 : Vals (vs ++ dvs) (us ++ ds) := r.append hd
  have hl : (us ++ ds).length = ps.length := by rw [← r2.length]; exact F.len _ _ _ _ h
  refine wpAny_call (codeAny_mono (F.run X.A X.stack s H ⟨us, []⟩ (us ++ ds) (vs ++ dvs) Q E hr I.env0 (hb s us I.kIn hl) r2 h) fun r s' hq => ?_)
  cases r with
  | error e => exact hx pins σ H s e s' I hq
  | ok fl =>
    cases fl with
    | ret u => exact I.after hq
    | next => exact False.elim hq
    | brk => exact False.elim hq
    | cont => exact False.elim hq
theorem pe_call (F : FnOk X.prog X.w X.K X.mg X.base CX k f fd ps sp) (hr : Room k X.A) (hg : Gl X x) (hm : X.mg x = some (.ref f)) (hk : PySem.W.keepIn X.K (.ref f) = true) (hb : Binds X.K fd ps ds) (hd : Vals dvs ds) (hx : Passes CX X E)
    (ha : PA X (e :: es) t) (hdb : (x == ("__debug__" : Str)) = false := by decide) (he : starEach (e :: es) X.env = (false, eval e X.env) :: starEach es X.env := by rfl) (hpl : (backTo pos (starEach es X.env)).any (·.1) = false := by rfl) :
    PE X (.Call (.Name x p) (e :: es) [] pos) (tCall sp dvs E t) := by
  intro pins s σ H Q I h
  refine wpAny_Call_Name_kw (ld_glob I hg hm ?_ hdb)
  refine PySem.W.callWith_K (h₀ := X.base) I.ok.mod.kin hk (thn (ha pos pins s σ H _ I h) fun us s1 ⟨vs, H1, I1, r, q⟩ => ⟨I1.kIn, ?_⟩) he hpl
  exact run_fn F hr hb hd hx I1 r q
/- o.m(e, ..) -/
theorem pe_meth {pl : Sem Bool} (he : PE X o ta) (c : Cls X.K C) (hm : Meth X.K C m f) (F : FnOk X.prog X.w X.K X.mg X.base CX k f fd ps sp) (hr : Room k X.A) (hb : Binds X.K fd ps ds) (hd : Vals dvs ds) (hx : Passes CX X E) (ha : PA X (e :: es) t)
    (hst : starEach (e :: es) X.env = (false, eval e X.env) :: starEach es X.env := by rfl) (hpl : (backTo pos (starEach es X.env)).any (·.1) = false := by rfl)
    (ht : eval (.Call (.Attribute o m apos) (e :: es) [] pos) X.env = (do
      let ov ← eval o X.env
      standAt apos.atName
      let (f, first) ← holding [ov] (getMethod ov m pl)
      callWith pos f first (backTo pos (starEach (e :: es) X.env)) (backToKw pos (keywordEach [] X.env))) := by rfl) :
    PE X (.Call (.Attribute o m apos) (e :: es) [] pos) (tMeth C m sp dvs E ta t) := by
  intro pins s σ H Q I h
  refine PySem.W.methodCall_KW (pl := pl) (thn (he pins s σ H _ I h) fun u s1 zq => ?_) ht
  obtain ⟨x, H1, I1, rx, a, dx, fs, ex, ea, l, q⟩ := zq
  subst ex
  obtain rfl : u = Value.ref a := rx
  refine getmeth_ok I1 ea c hm l ?_
  refine PySem.W.callWith_K (first := [.ref a]) (h₀ := X.base) I.ok.mod.kin hm.kp (thn (ha pos pins s1 σ H1 _ I1 q) fun us s2 ⟨vs, H2, I2, r, q2⟩ => ⟨I2.kIn, ?_⟩) hst hpl
  exact run_fn (us := .ref a :: us) (vs := .ref a :: vs) F hr hb hd hx I2 (.cons rfl r) q2
/- o.m() -/
theorem pe_meth0 {pl : Sem Bool} (he : PE X o ta) (c : Cls X.K C) (hm : Meth X.K C m f) (F : FnOk X.prog X.w X.K X.mg X.base CX k f fd ps sp) (hr : Room k X.A) (hb : Binds X.K fd ps ds) (hd : Vals dvs ds) (hx : Passes CX X E)
    (ht : eval (.Call (.Attribute o m apos) [] [] pos) X.env = (do
      let ov ← eval o X.env
      standAt apos.atName
      let (f, first) ← holding [ov] (getMethod ov m pl)
      callWith pos f first (backTo pos (starEach [] X.env)) (backToKw pos (keywordEach [] X.env))) := by rfl) :
    PE X (.Call (.Attribute o m apos) [] [] pos) (tMeth C m sp dvs E ta tNil) := by
  intro pins s σ H Q I h
  refine PySem.W.methodCall_KW (pl := pl) (thn (he pins s σ H _ I h) fun u s1 zq => ?_) ht
  obtain ⟨x, H1, I1, rx, a, dx, fs, ex, ea, l, q⟩ := zq
  subst ex
  obtain rfl : u = Value.ref a := rx
  refine getmeth_ok I1 ea c hm l ?_
  exact PySem.W.callWith_K0 (first := [.ref a]) I1.kIn hm.kp (run_fn (us := [.ref a]) (vs := [.ref a]) F hr hb hd hx I1 (.cons rfl .nil) q)
/- what a class must have to be made -/
structure Mk (K : PySem.W.Frag) (C f : Addr) : Prop where
  makes : PySem.W.makesIn K C = true
  init : PySem.W.findIn K (.ref C) "__init__" = some (some (.ref f))
  fn : PySem.W.isFn K (.ref f) = true
  kp : PySem.W.keepIn K (.ref C) = true
theorem run_make {pins : List (Addr × Obj)} {σ : St} {H : Hp} {s : Shared} {Q : VK} {us : List Value} {vs : List V} (M : Mk X.K C f) (F : FnOk X.prog X.w X.K X.mg X.base CX k f fd ps sp) (hr : Room (k + 1) X.A) (hb : Binds X.K fd ps ds) (hd : Vals dvs ds)
    (hx : Passes CX X E) (I : Inv X pins σ H s) (r : Vals vs us)
    (h : ∀ x dx, H x = none → H dx = none → dx ≠ x → sp (.ref x :: (vs ++ dvs)) (upd (upd H dx (.own x)) x (.ins C dx [])) (fun v H2 => v = .non ∧ Q (.ref x) H2) E) :
    wpAny (model X.prog X.w) X.A (call (.ref C) us) (EP X pins σ Q) X.xe s := by
  have hq := h (s.heap.objs.size + 1) s.heap.objs.size (I.hok.fresh (Nat.le_succ _)) (I.hok.fresh (Nat.le_refl _)) (Nat.ne_of_lt (Nat.lt_succ_self _))
  have I2 := Inv.made (C := C) I
  have r2 : Vals (V.ref (s.heap.objs.size + 1) :: (vs ++ dvs)) (Value.ref (s.heap.objs.size + 1) :: (us ++ ds)) := .cons rfl (r.append hd)
  have hl : (Value.ref (s.heap.objs.size + 1) :: us ++ ds).length = ps.length := by
    have e := r2.length
    rw [F.len _ _ _ _ hq] at e
    exact e.symm
  refine wpAny_call (make_map (f := f) I.kIn M.makes M.init (beq_iff_eq.mp M.fn) (codeAny_mono (F.run _ X.stack _ _ ⟨Value.ref (s.heap.objs.size + 1) :: us, []⟩ (Value.ref (s.heap.objs.size + 1) :: (us ++ ds)) _ _ E (hr.make C us [])
    (I2.env0.make C us []) (hb _ (Value.ref (s.heap.objs.size + 1) :: us) I2.kIn hl) r2 hq) fun r s' hq' => ?_))
  cases r with
  | error e => exact hx pins σ _ _ e s' I2 hq'
  | ok fl =>
    cases fl with
    | ret u =>
      obtain ⟨v, H', I3, rv, ev, q3⟩ := I2.after hq'
      subst ev
      exact ⟨rv, ⟨V.ref (s.heap.objs.size + 1), H', I3, rfl, q3⟩⟩
    | next => exact False.elim hq'
    | brk => exact False.elim hq'
    | cont => exact False.elim hq'
theorem pe_make0 (M : Mk X.K C f) (F : FnOk X.prog X.w X.K X.mg X.base CX k f fd ps sp) (hr : Room (k + 1) X.A) (hg : Gl X x) (hm : X.mg x = some (.ref C)) (hb : Binds X.K fd ps ds) (hd : Vals dvs ds) (hx : Passes CX X E)
    (hdb : (x == ("__debug__" : Str)) = false := by decide) : PE X (.Call (.Name x p) [] [] pos) (tMake C sp dvs E tNil) := by
  intro pins s σ H Q I h
  refine wpAny_Call_Name_kw (ld_glob I hg hm ?_ hdb)
  exact PySem.W.callWith_K0 I.kIn M.kp (run_make (us := []) M F hr hb hd hx I .nil h)
end
/- ### keywords -/
section
variable {X : Cx} {CX : CXT} {k : Nat} {f C : Addr} {fd : FuncData} {ps ks : List Str} {sp : Sp} {E : XK} {x m : Str} {p pos apos kpos : Pos} {e o : Expr} {es : List Expr} {kws : List Keyword} {te ta : TE} {t tk : TA} {nm : Option Str}
variable {g : List Value → List Value → List Value} {gV : List V → List V → List V}
end
/- ### a def's body keeps its promise -/
/- names: the parameters first -/
structure FnScope (N P : List Str) (sc : Scope) : Prop where
  kind : sc.kind = .function
  co : sc.isCoroutine = false
  gen : sc.isGenerator = false
  nd : N.Nodup
  pre : N.take P.length = P
  par : ∀ x ∈ P, sc.names.lookup x = some .local ∨ sc.names.lookup x = some .cell
  nofree : ∀ y ∈ sc.names, y.2 ≠ .free
theorem bindL_out {kindOf : Str → Option NameKind} {x : Str} : ∀ {binds : List (Str × Value)} {m : Str → Option Value}, (∀ v, (x, v) ∉ binds) → bindL kindOf binds m x = m x
  | [], _, _ => rfl
  | (n, v) :: r, m, h => by
    unfold bindL
    rw [bindL_out fun w hw => h w (List.mem_cons_of_mem _ hw)]
    split
    · have : x ≠ n := by rintro rfl; exact h v List.mem_cons_self
      simp [this]
    · rfl
theorem bindC_out {kindOf : Str → Option NameKind} {x : Str} : ∀ {binds : List (Str × Value)} {m : Str → Option Value}, (∀ v, (x, v) ∉ binds) → bindC kindOf binds m x = m x
  | [], _, _ => rfl
  | (n, v) :: r, m, h => by
    unfold bindC
    rw [bindC_out fun w hw => h w (List.mem_cons_of_mem _ hw)]
    split
    · rfl
    · have : x ≠ n := by rintro rfl; exact h v List.mem_cons_self
      simp [this]
theorem bindL_get {kindOf : Str → Option NameKind} {x : Str} {v : Value} : ∀ {P : List Str} {vs : List Value} {i : Nat} {m : Str → Option Value}, P.Nodup → P[i]? = some x → vs[i]? = some v → kindOf x = some .local →
    bindL kindOf (P.zip vs) m x = some v
  | [], _, _, _, _, h, _, _ => by simp at h
  | _ :: _, [], _, _, _, _, h, _ => by simp at h
  | p :: P, w :: vs, 0, m, nd, h1, h2, hk => by
    simp at h1 h2; subst h1; subst h2
    show bindL kindOf ((p, w) :: P.zip vs) m p = _
    unfold bindL
    rw [bindL_out fun v hv => (List.nodup_cons.mp nd).1 (List.of_mem_zip hv).1, if_pos hk]
    simp
  | p :: P, w :: vs, i + 1, m, nd, h1, h2, hk => by
    show bindL kindOf ((p, w) :: P.zip vs) m x = _
    unfold bindL
    exact bindL_get (i := i) (List.nodup_cons.mp nd).2 (by simpa using h1) (by simpa using h2) hk
theorem bindC_get {kindOf : Str → Option NameKind} {x : Str} {v : Value} : ∀ {P : List Str} {vs : List Value} {i : Nat} {m : Str → Option Value}, P.Nodup → P[i]? = some x → vs[i]? = some v → kindOf x ≠ some .local →
    bindC kindOf (P.zip vs) m x = some v
  | [], _, _, _, _, h, _, _ => by simp at h
  | _ :: _, [], _, _, _, _, h, _ => by simp at h
  | p :: P, w :: vs, 0, m, nd, h1, h2, hk => by
    simp at h1 h2; subst h1; subst h2
    show bindC kindOf ((p, w) :: P.zip vs) m p = _
    unfold bindC
    rw [bindC_out fun v hv => (List.nodup_cons.mp nd).1 (List.of_mem_zip hv).1, if_neg hk]
    simp
  | p :: P, w :: vs, i + 1, m, nd, h1, h2, hk => by
    show bindC kindOf ((p, w) :: P.zip vs) m x = _
    unfold bindC
    exact bindC_get (i := i) (List.nodup_cons.mp nd).2 (by simpa using h1) (by simpa using h2) hk
/- the names' values at the entry -/
noncomputable def start (N : List Str) (vs : List V) : St := vs.map some ++ List.replicate (N.length - vs.length) none
/- the context of a def's body, at its entry; an exception leaves the frame, then lies as CX says -/
noncomputable def cxOf (CX : CXT) (P : Program) (w : World) (K : PySem.W.Frag) (mg : Str → Option Value) (base : Heap) (N : List Str) (qual : Str) (scope : Scope) (f : Addr) (cd : Value) (A : Around) (outer : List Env) (s : Shared) (H : Hp) (E : XK) : Cx where
  prog := P
  w := w
  K := K
  mg := mg
  base := base
  A := A.deeper (envOfC qual scope s.heap.objs.size f cd)
  N := N
  s_0 := s
  H_0 := H
  env := envOfC qual scope s.heap.objs.size f cd
  outer := outer
  stack := envOfC qual scope s.heap.objs.size f cd :: outer
  ex := []
  calm := true
  fn := fun _ => true
  pn := []
  xe := fun e s' => wpAny (model P w) (A.deeper (envOfC qual scope s.heap.objs.size f cd)) (leaving (envOfC qual scope s.heap.objs.size f cd) e) (fun _ s'' => CX outer H s E e s'') (fun e' s'' => CX outer H s E e' s'') s'
theorem cell_has {sc : Scope} {n : Nat} {x : Str} (h : sc.names.lookup x = some .cell) : ∃ c, (cellsFrom n sc.names []).lookup x = some c := by
  have q := PySem.W.cellsFrom_some sc.names n [] (.inl h)
  exact Option.isSome_iff_exists.mp q
theorem inv_start {CX : CXT} {P : Program} {w : World} {K : PySem.W.Frag} {mg : Str → Option Value} {base : Heap} {N ps : List Str} {qual : Str} {scope : Scope} {f : Addr} {cd : Value} {A : Around} {outer : List Env} {s s1 : Shared} {H : Hp} {E : XK} {us : List Value} {vs : List V}
    (S : FnScope N ps scope) (hd : A.handled = none) (e0 : Env0 P w K mg base A outer s H) (hl : vs.length = ps.length) (r : Vals vs us)
    (x : InCallC s s.heap.objs.size (bindL (envOfC qual scope s.heap.objs.size f cd).kindOf (ps.zip us) fun _ => none) (cellsFrom (s.heap.objs.size + 1) scope.names []) (bindC (envOfC qual scope s.heap.objs.size f cd).kindOf (ps.zip us) fun _ => none) s1) :
    Inv (cxOf CX P w K mg base N qual scope f cd A outer s H E) [] (start N vs) H s1 := by
  have hpl : ps.length ≤ N.length := by have := congrArg List.length S.pre; rw [List.length_take] at this; lia
  obtain ⟨h1, tk, rfl, hk⟩ := x.done
  have noA : ∀ b : Addr, b ∉ (cxOf CX P w K mg base N qual scope f cd A outer s H E).ex := fun b z => absurd (show b ∈ ([] : List Addr) from z) (by simp)
  refine ⟨⟨e0.mod, S.kind, rfl, rfl, Nat.le_refl _, fun y z c h1 h2 => ?_, fun y hy => ?_, fun y c _ h => ?_, fun _ => hd, Around.frames_deeper e0.frames, .inr ⟨rfl, rfl⟩, fun b z => absurd z (noA b), e0.bs, e0.bsz, fun b _ _ => noA b, fun b z => absurd z (noA b), e0.funs, e0.frf⟩,
    rfl, e0.bare, Un.kept hk, ⟨_, x.toInCall.ns, fun i y v h1 h2 h3 => ?_⟩, fun y c h => ⟨_, x.cell y c h⟩, e0.hok.fresh (Nat.le_refl _), fun y c h => ?_, fun p hp => absurd (show p ∈ ([] : List (Addr × Obj)) from hp) (by simp), e0.hok.kept hk, ?_⟩
  · exact name_of_addr x.apart (PySem.mem_of_lookup h1) (PySem.mem_of_lookup h2)
  · have hy : scope.names.lookup y = some .cell ∨ scope.names.lookup y = some .free := hy
    rcases hy with hy | hy
    · exact cell_has hy
    · exact absurd rfl (S.nofree _ (PySem.mem_of_lookup hy))
  · exact Nat.le_of_lt (x.above y c (PySem.mem_of_lookup h))
  · have hi : i < vs.length := by
      unfold start at h2
      by_cases hi : i < vs.length
      · exact hi
      · rw [List.getElem?_append_right (by simpa using hi)] at h2
        rw [List.getElem?_replicate] at h2
        split at h2 <;> cases h2
    have ha : vs[i]? = some v := by
      unfold start at h2
      rw [List.getElem?_append_left (by simpa using hi), List.getElem?_map] at h2
      cases e : vs[i]? with
      | none => rw [e] at h2; cases h2
      | some a => rw [e] at h2; cases h2; rfl
    obtain ⟨u, hu, rv⟩ := r.get ha
    have hp : ps[i]? = some y := by
      rw [← S.pre, List.getElem?_take_of_lt (by lia)]; exact h1
    have ndP : ps.Nodup := by rw [← S.pre]; exact S.nd.sublist (List.take_sublist _ _)
    refine ⟨u, rv, ?_⟩
    rcases S.par y (List.mem_of_getElem? hp) with k | k
    · exact .inl ⟨k, bindL_get ndP hp hu k⟩
    · obtain ⟨c, e⟩ := cell_has (n := s.heap.objs.size + 1) k
      refine .inr ⟨.inl k, c, e, ?_⟩
      have q := x.cell y c e
      rw [bindC_get ndP hp hu (by show scope.names.lookup y ≠ _; rw [k]; decide)] at q
      exact q
  · exact e0.hok.fresh (Nat.le_of_lt (x.above y c (PySem.mem_of_lookup h)))
  · unfold start
    show _ = N.length
    rw [List.length_append, List.length_map, List.length_replicate]
    lia
/- THE RULE: a def (or a method) of the text, by its body. The body's reading t is chosen for each entry; it is run at the parameters' values -/
theorem fn_of {CX : CXT} {P : Program} {w : World} {K : PySem.W.Frag} {mg : Str → Option Value} {base : Heap} {k : Nat} {f : Addr} {name qual : Str} {params : Arguments} {body : List Stmt} {scope : Scope} {dV kV doc pm cdv ct oc : Value} {an od : Option Addr}
    {osl : Array (Option Value)} {N ps : List Str} {sp : Sp} (lk : K.lookup f = some ⟨oc, od, .func (PySem.W.fnOf name qual params body scope dV kV doc pm an cdv ct), osl⟩) (hcd : PySem.W.codeIn K cdv qual = true) (S : FnScope N ps scope)
    (len : ∀ vs H Q E, sp vs H Q E → vs.length = ps.length)
    (hbody : ∀ (A : Around) (outer : List Env) (s : Shared) (H : Hp) (vs : List V) (Q : VK) (E : XK), Room k (A.deeper (envOfC qual scope s.heap.objs.size f cdv)) → sp vs H Q E →
      ∃ t, PSs (cxOf CX P w K mg base N qual scope f cdv A outer s H E) body t ∧ t { nx := fun _ H' => Q .non H', rt := Q } (start N vs) H) :
    FnOk P w K mg base CX (k + 1) f (PySem.W.fnOf name qual params body scope dV kV doc pm an cdv ct) ps sp := by
  refine ⟨len, fun A outer s H args us vs Q E hr e0 hb r hsp => ?_⟩
  have hl := len _ _ _ _ hsp
  have KX : K.In s.heap := e0.mod.kin.keeps fun b o e => (e0.bs b o e).1
  have lim : s.heap.NoLimit := e0.mod.nolimit.keeps fun b o e => (e0.bs b o e).1
  have hkind : ∀ y ∈ ps.zip us, scope.names.lookup y.1 = some .local ∨ (scope.names.lookup y.1 = some .cell ∧ ((cellsFrom (s.heap.objs.size + 1) scope.names []).lookup y.1).isSome = true) := fun ⟨n, v⟩ hy => by
    rcases S.par n (List.of_mem_zip hy).1 with q | q
    · exact .inl q
    · exact .inr ⟨q, PySem.W.cellsFrom_some _ _ _ (.inl q)⟩
  refine codeAny_call_function hr.depth (KX _ _ lk) rfl S.co S.gen rfl (PySem.W.codeRec_of KX hcd) (hb _ _ _ _ ?_)
  refine wpAny_newFunctionEnv_cells S.kind hkind fun env he s1 x => ?_
  subst he
  refine ⟨lim.keeps x.toInCall.keep, codeAny_func ?_⟩
  obtain ⟨t, ht, hq⟩ := hbody A outer s H vs Q E (hr.deeper _) hsp
  have I : Inv (cxOf CX P w K mg base N qual scope f cdv A outer s H E) [] (start N vs) H s1 := inv_start S hr.hd e0 hl r x
  refine wpAny_mono (ht [] s1 (start N vs) H _ I hq) (fun fl s' hs => ?_) fun e s' hs => hs
  have fin : ∀ {σ' : St} {H' : Hp} {v : V} {u : Value}, Inv (cxOf CX P w K mg base N qual scope f cdv A outer s H E) [] σ' H' s' → RelV v u → Q v H' → CE outer P w H s Q u s' :=
    fun {σ' H' v u} J rv q => ⟨v, H', J.os, J.bare, J.base, J.hok, rv, q⟩
  cases fl with
  | ret u =>
    obtain ⟨v, σ', H', J, rv, q⟩ := hs
    exact fin J rv q
  | next =>
    obtain ⟨σ', H', J, q⟩ := hs
    exact fin (v := V.non) (u := Value.none) J rfl q
  | brk =>
    obtain ⟨_, _, _, q⟩ := hs
    exact False.elim q
  | cont =>
    obtain ⟨_, _, _, q⟩ := hs
    exact False.elim q
end L2
namespace L2
open PySem PySem.Spec PyProof.Rows
section
variable {X : Cx} {x : Str} {p pos : Pos} {e : Expr} {es : List Expr} {t : TA} {id T : String} {r : List V → Hp → VK → Prop}
noncomputable def tCB (r : List V → Hp → VK → Prop) (t : TA) : TE := fun σ H Q => t σ H fun vs H1 => r vs H1 Q
/- f(e, ..), f a built-in function -/
theorem pe_callB (hc : CallR X (.builtin id) r) (hg : Gl X x) (hm : X.mg x = none) (hv : bootBuiltins x = some (.builtin id)) (ha : PA X (e :: es) t) (hn : x ≠ "__name__" := by decide) (hdb : (x == ("__debug__" : Str)) = false := by decide)
    (he : starEach (e :: es) X.env = (false, eval e X.env) :: starEach es X.env := by rfl) (hpl : (backTo pos (starEach es X.env)).any (·.1) = false := by rfl) : PE X (.Call (.Name x p) (e :: es) [] pos) (tCB r t) := by
  intro pins s σ H Q I h
  refine wpAny_Call_Name_kw (ld_blt I hg hm hv ?_ hn hdb)
  exact PyProof.Rows.callWith_builtin1 (thn (ha pos pins s σ H _ I h) fun us s1 ⟨vs, H1, I1, r1, q1⟩ => hc pins s1 σ H1 vs us Q I1 r1 q1) he hpl
/- T(e, ..), T a built-in type -/
theorem pe_callTy (hc : CallR X (.type T) r) (hg : Gl X x) (hm : X.mg x = none) (hv : bootBuiltins x = some (.type T)) (ha : PA X (e :: es) t) (hn : x ≠ "__name__" := by decide) (hdb : (x == ("__debug__" : Str)) = false := by decide)
    (he : starEach (e :: es) X.env = (false, eval e X.env) :: starEach es X.env := by rfl) (hpl : (backTo pos (starEach es X.env)).any (·.1) = false := by rfl) : PE X (.Call (.Name x p) (e :: es) [] pos) (tCB r t) := by
  intro pins s σ H Q I h
  refine wpAny_Call_Name_kw (ld_blt I hg hm hv ?_ hn hdb)
  exact PyProof.Rows.callWith_type1 (thn (ha pos pins s σ H _ I h) fun us s1 ⟨vs, H1, I1, r1, q1⟩ => hc pins s1 σ H1 vs us Q I1 r1 q1) he hpl
end
end L2
namespace HT
open PySem PyProof.Rows
/- t < u of tuples of ints -/
noncomputable def lexLt : List Int → List Int → Bool
  | [], [] => false
  | [], _ :: _ => true
  | _ :: _, [] => false
  | x :: xs, y :: ys => if x = y then lexLt xs ys else decide (x < y)
theorem lexLt_cons (x y : Int) (xs ys : List Int) : lexLt (x :: xs) (y :: ys) = if x = y then lexLt xs ys else decide (x < y) := rfl
theorem lexLt_nil_nil : lexLt [] [] = false := rfl
theorem lexLt_nil_cons (y : Int) (ys : List Int) : lexLt [] (y :: ys) = true := rfl
theorem lexLt_cons_nil (x : Int) (xs : List Int) : lexLt (x :: xs) [] = false := rfl
theorem eqAt_int (A : Around) (s : Shared) (a : Int) (t : Tok) (c : Int) (u : Tok) : ∃ e, SeqAt.EqAt A s (.int a t) (.int c u) e ∧ (e = true ↔ a = c) :=
  ⟨(a == c), SeqAt.EqAt.int_int a t c u, by simp⟩
section
open PySem.SeqAt
open PySem.AutoSeq1 (wpAny_loadPart')
open PySem.MeetsSeq PySem.MeetsSeq2 PySem.MeetsSeq3
end
section
variable {prog : Program} {w : World} {A : Around} {E : Value → Shared → Prop} {s : Shared}
/- ### t[a:b], not the whole -/
/- a slice's bound as a place among n (d where it is left out) -/
noncomputable def sIx (n d : Nat) : Option Int → Nat
  | none => d
  | some v => if v < 0 then (v + (n : Int)).toNat else min v.toNat n
theorem sIx_none (n d : Nat) : sIx n d none = d := rfl
theorem sIx_nat (n d k : Nat) : sIx n d (some (k : Int)) = min k n := by
  show (if (k : Int) < 0 then ((k : Int) + (n : Int)).toNat else min (k : Int).toNat n) = min k n
  rw [if_neg (by lia), Int.toNat_natCast]
end
end HT
namespace L2
open PySem PySem.Spec PyProof.Rows
/- ### the parts of a slice -/
noncomputable abbrev TO := St → Hp → (Option Int → Hp → Prop) → Prop
/- a slice's part (left out, or an int) -/
noncomputable def PO (X : Cx) (e : Option Expr) (t : TO) : Prop :=
  ∀ (pins : List (Addr × Obj)) (s : Shared) (σ : St) (H : Hp) (Q : Option Int → Hp → Prop), Inv X pins σ H s → t σ H Q →
    wpAny (model X.prog X.w) X.A (evalPart e X.env) (fun u s' => ∃ o H', Inv X pins σ H' s' ∧ IsPart u o ∧ Q o H') X.xe s
noncomputable def tNoPart : TO := fun _ H Q => Q none H
noncomputable def tPart (t : TE) : TO := fun σ H Q => t σ H fun x H1 => ∃ i, x = .int i ∧ Q (some i) H1
theorem intsAre_of {ns : List Int} : ∀ {us : List Value}, Vals (ns.map V.int) us → IntsAre us ns := by
  induction ns with
  | nil => intro us r; rw [List.map_nil] at r; cases r; exact .nil
  | cons n ns ih =>
    intro us r
    rw [List.map_cons] at r
    cases r with
    | cons r1 r2 =>
      obtain ⟨t, e⟩ := r1
      subst e
      exact .cons n t (ih r2)
section
variable {X : Cx} {e : Expr} {te : TE} {lo hi : Option Expr} {tl th : TO} {pos p2 : Pos}
theorem po_none : PO X none tNoPart := by
  intro pins s σ H Q I h
  rw [evalPart_none]
  exact wpAny_pure ⟨none, H, I, .none, h⟩
theorem po_some (h : PE X e te) : PO X (some e) (tPart te) := by
  intro pins s σ H Q I hw
  rw [evalPart_some]
  refine thn (h pins s σ H _ I hw) fun u s1 zq => ?_
  obtain ⟨x, H1, I1, r1, q1⟩ := zq
  obtain ⟨i, rfl, q⟩ := q1
  obtain ⟨t, rfl⟩ := r1
  exact ⟨some i, H1, I1, .int i t, q⟩
/- what a slice of a value is, by values: the slice object stands at sl -/
noncomputable def SlR (X : Cx) (r : V → Option Int → Option Int → Hp → VK → Prop) : Prop :=
  ∀ (pins : List (Addr × Obj)) (s : Shared) (σ : St) (H : Hp) (x : V) (v vl vu : Value) (lo hi : Option Int) (sl : Addr) (Q : VK), Inv X pins σ H s → RelV x v → s.heap.IsSliceOf sl vl vu .none → IsPart vl lo → IsPart vu hi → r x lo hi H Q →
    ∃ T id, typeLookup (.type T) "__getitem__" = pure (some (.builtin id)) ∧ s.TypeIs v T ∧ wpAny (model X.prog X.w) X.A (getItem v (.ref sl)) (EP X pins σ Q) X.xe s
noncomputable def tSl (r : V → Option Int → Option Int → Hp → VK → Prop) (te : TE) (tl th : TO) : TE := fun σ H Q => te σ H fun x H1 => tl σ H1 fun l H2 => th σ H2 fun u H3 => r x l u H3 Q
/- a[lo:hi], any a -/
theorem pe_slice {r : V → Option Int → Option Int → Hp → VK → Prop} (hr : SlR X r) (he : PE X e te) (hl : PO X lo tl) (hu : PO X hi th) : PE X (.Subscript e (.Slice lo hi none p2) pos) (tSl r te tl th) := by
  intro pins s σ H Q I h
  refine Subscript_ (thn (he pins s σ H _ I h) fun v s1 zq => ?_)
  obtain ⟨x, H1, I1, r1, q1⟩ := zq
  refine wpAny_Slice (thn (hl pins s1 σ H1 _ I1 q1) fun vl s2 ⟨l, H2, I2, pl, q2⟩ => thn (hu pins s2 σ H2 _ I2 q2) fun vu s3 zq => ?_)
  obtain ⟨u, H3, I3, pu, q3⟩ := zq
  rw [evalPart_none]
  refine wpAny_pure ?_
  have I4 : Inv X pins σ H3 { s3 with heap := s3.heap.push { cls := .type "slice", data := .fields #[vl, vu, .none] } } := I3.kept (t' := s3.toks) fun b ob q => Heap.get?_push_of_some _ q
  obtain ⟨T, id, hT, ht, hg⟩ := hr pins { s3 with heap := s3.heap.push { cls := .type "slice", data := .fields #[vl, vu, .none] } } σ H3 x v vl vu l u s3.heap.objs.size Q I4 r1 (Heap.IsSliceOf.new ..) pl pu q3
  show wpAny (model X.prog X.w) X.A (subscriptTail e (.Slice lo hi none p2) v (.ref s3.heap.objs.size)) (EP X pins σ Q) X.xe { s3 with heap := s3.heap.push { cls := .type "slice", data := .fields #[vl, vu, .none] } }
  exact tail_any (ops := [.ref s3.heap.objs.size, v]) ht hT hg (by with_unfolding_all rfl)
/- the items of xs[lo:hi] -/
noncomputable def cutV (xs : List V) (lo hi : Option Int) : List V := (xs.drop (HT.sIx xs.length 0 lo)).take (HT.sIx xs.length xs.length hi - HT.sIx xs.length 0 lo)
theorem cutV_length (xs : List V) (lo hi : Option Int) : (cutV xs lo hi).length ≤ xs.length := by
  unfold cutV
  rw [List.length_take, List.length_drop]
  lia
/- ### t < u, t + u -/
end
end L2
namespace L2
open PySem PySem.Spec PyProof.Rows
/- ### places -/
/- the place that an index of any sign means -/
noncomputable def ixN (n : Nat) (i : Int) : Option Nat := if 0 ≤ i then (if i < n then some i.toNat else none) else if -(n : Int) ≤ i then some (i + n).toNat else none
noncomputable def atI {α : Type} (xs : List α) (i : Int) : Option α := (ixN xs.length i).bind fun j => xs[j]?
theorem ixN_seq {n : Nat} {i : Int} {j : Nat} (h : ixN n i = some j) : seqIndex? i n = some j ∧ j < n ∧ -(n : Int) ≤ i ∧ i < n := by
  unfold ixN at h
  by_cases h0 : 0 ≤ i
  · rw [if_pos h0] at h
    by_cases h1 : i < n
    · rw [if_pos h1] at h
      have e : i.toNat = j := Option.some.inj h
      exact ⟨by rw [seqIndex_of h0 h1, e], by lia, by lia, h1⟩
    · rw [if_neg h1] at h; cases h
  · rw [if_neg h0] at h
    by_cases h1 : -(n : Int) ≤ i
    · rw [if_pos h1] at h
      have e : (i + n).toNat = j := Option.some.inj h
      exact ⟨by rw [seqIndex_neg (by lia) h1, e], by lia, h1, by lia⟩
    · rw [if_neg h1] at h; cases h
theorem atI_get {α : Type} {xs : List α} {i : Int} {v : α} (h : atI xs i = some v) : ∃ j, seqIndex? i xs.length = some j ∧ xs[j]? = some v ∧ j < xs.length ∧ -(xs.length : Int) ≤ i ∧ i < xs.length := by
  unfold atI at h
  cases e : ixN xs.length i with
  | none => rw [e] at h; cases h
  | some j =>
    rw [e] at h
    obtain ⟨h1, h2, h3, h4⟩ := ixN_seq e
    exact ⟨j, h1, h, h2, h3, h4⟩
theorem atI_nat {α : Type} {xs : List α} {j : Nat} {v : α} (h : xs[j]? = some v) : atI xs (j : Int) = some v := by
  have hj : j < xs.length := (List.getElem?_eq_some_iff.mp h).1
  have e : ixN xs.length (j : Int) = some j := by
    unfold ixN
    rw [if_pos (by lia), if_pos (by lia)]; simp
  unfold atI; rw [e]; exact h
/- ### what may be subscripted -/
/- what stands as an index of a plain subscript -/
noncomputable def PlainIx (b : Expr) : Prop := ∀ o i, subscripted b false o i = operate [o, i] (getItem o i)
/- a subscript by values -/
noncomputable def IxR (X : Cx) (r : R2) : Prop :=
  ∀ (value slice : Expr) (pins : List (Addr × Obj)) (s : Shared) (σ : St) (H : Hp) (x y : V) (v u : Value) (Q : VK), Inv X pins σ H s → RelV x v → RelV y u → r x y H Q →
    subscripted slice false v u = operate [v, u] (getItem v u) → wpAny (model X.prog X.w) X.A (subscriptTail value slice v u) (EP X pins σ Q) X.xe s
/- a call of a builtin's method by values: the receiver, the arguments -/
noncomputable def MtR (X : Cx) (id : String) (r : V → List V → Hp → VK → Prop) : Prop :=
  ∀ (pins : List (Addr × Obj)) (s : Shared) (σ : St) (H : Hp) (x : V) (xs : List V) (v : Value) (us : List Value) (Q : VK), Inv X pins σ H s → RelV x v → Vals xs us → r x xs H Q →
    wpAny (model X.prog X.w) X.A (call (.builtin id) (v :: us)) (EP X pins σ Q) X.xe s
section
variable {X : Cx} {a b : Expr} {ta tb : TE} {pos : Pos}
/- a[b] -/
theorem pe_ix {r : R2} (hr : IxR X r) (ha : PE X a ta) (hb : PE X b tb) (hs : PlainIx b) : PE X (.Subscript a b pos) (tOp r ta tb) := by
  intro pins s σ H Q I h
  exact Subscript_ (binT ha hb I h fun v u s2 x y H2 I2 rx ry q => hr a b pins s2 σ H2 x y v u Q I2 rx ry q (hs _ _))
noncomputable def rIxL (K : PySem.W.Frag) : R2 := fun x y H Q => ∃ p xs i v, x = .ref p ∧ y = .int i ∧ SqL K H p xs ∧ atI xs i = some v ∧ Q v H
noncomputable def rIxT (K : PySem.W.Frag) : R2 := fun x y H Q => ∃ p xs i v, x = .ref p ∧ y = .int i ∧ SqT K H p xs ∧ atI xs i = some v ∧ Q v H
theorem ix_list : IxR X (rIxL X.K) := by
  intro value slice pins s σ H x y v u Q I rx ry h hs
  obtain ⟨p, xs, i, z, rfl, rfl, hq, he, q⟩ := h
  cases rx
  obtain ⟨t, rfl⟩ := ry
  obtain ⟨its, r, pl, hz⟩ := I.list hq
  obtain ⟨j, h1, h2, h3, h4, h5⟩ := atI_get he
  obtain ⟨w, ew, rw'⟩ := r.get h2
  have hl := r.length
  have hn := line63
  have fin : EP X pins σ Q w s := ⟨z, H, I, rw', q⟩
  by_cases h0 : 0 ≤ i
  · have hj : i.toNat = j := by
      rw [seqIndex_of h0 h5] at h1
      exact Option.some.inj h1
    exact item_listR pl.isList h0 (by lia) (by rw [hj]; simpa using ew) fin hs
  · have hj : (i + (its.toArray.size : Int)).toNat = j := by
      rw [seqIndex_neg (by lia) h4] at h1
      rw [List.size_toArray, ← hl]
      exact Option.some.inj h1
    exact subscriptTail_builtinR (x := w) pl.isList.typeIs slot_list_getitem.lookup
      (wpAny_getItem_list_neg (Q := fun r s' => r = w ∧ EP X pins σ Q r s') pl.isList (by lia) (by rw [List.size_toArray] <;> lia) (by lia) (by rw [hj]; simpa using ew) ⟨rfl, fin⟩) hs
theorem ix_tup : IxR X (rIxT X.K) := by
  intro value slice pins s σ H x y v u Q I rx ry h hs
  obtain ⟨p, xs, i, z, rfl, rfl, hq, he, q⟩ := h
  cases rx
  obtain ⟨t, rfl⟩ := ry
  obtain ⟨its, r, pl, hz⟩ := I.tuple hq
  obtain ⟨j, h1, h2, h3, h4, h5⟩ := atI_get he
  obtain ⟨w, ew, rw'⟩ := r.get h2
  have hl := r.length
  have hn := line63
  have fin : EP X pins σ Q w s := ⟨z, H, I, rw', q⟩
  exact subscriptTail_builtinR (x := w) pl.typeIs slot_tuple_getitem.lookup
    (getItem_tuple (j := j) (Q := fun r s' => r = w ∧ EP X pins σ Q r s') pl (by lia) (by lia) (by rw [List.size_toArray, ← hl]; exact h1) (by simpa using ew) ⟨rfl, fin⟩) hs
/- ### xs[i] = v, any sign -/
/- the list's object behind a store -/
theorem mapSeq_set (its : List Value) (n j : Nat) (u : Value) : Obj.mapSeq (·.setIfInBounds j u) { cls := .type "list", data := .seq its.toArray n } = { cls := .type "list", data := .seq (its.set j u).toArray n } := by
  simp [Obj.mapSeq]
theorem Inv.lst {pins : List (Addr × Obj)} {σ : St} {H : Hp} {s : Shared} {p : Addr} {xs : List V} (I : Inv X pins σ H s) (h : H p = some (.lst xs)) :
    ∃ (its : List Value) (n : Nat), Vals xs its ∧ s.heap.get? p = some { cls := .type "list", data := .seq its.toArray n } ∧ xs.length ≤ sizeLine := by
  obtain ⟨z, its, n, r, e⟩ := I.hok p _ h
  exact ⟨its, n, r, e, z⟩
/- the list at p is written by an update of its object -/
theorem Inv.lstUpd {pins : List (Addr × Obj)} {σ : St} {H : Hp} {s : Shared} {p : Addr} {xs ys : List V} {its its' : List Value} {n n' : Nat} {f : Obj → Obj} (I : Inv X pins σ H s) (h : H p = some (.lst xs))
    (ho : s.heap.get? p = some { cls := .type "list", data := .seq its.toArray n }) (hf : f { cls := .type "list", data := .seq its.toArray n } = { cls := .type "list", data := .seq its'.toArray n' }) (r : Vals ys its') (hz : ys.length ≤ sizeLine) (t : Nat) :
    Inv X pins σ (upd H p (.lst ys)) { s with heap := s.heap.update p f, toks := t } := by
  have e : (s.heap.update p f).get? p = some { cls := .type "list", data := .seq its'.toArray n' } := by
    rw [Heap.get?_update_self f ho (by rw [hf] <;> rfl), hf]
  refine I.write (x := p) (e := p) (by rw [h]; trivial) (.inl rfl) (fun b u hb q => (Heap.get?_update_other _ _ (Ne.symm hb)).trans q) ⟨_, e⟩ ?_
  exact ⟨hz, its', n', r, e⟩
noncomputable def rSetL : V → V → V → Hp → (Hp → Prop) → Prop := fun o i v H Q => ∃ p xs k j, o = .ref p ∧ i = .int k ∧ H p = some (.lst xs) ∧ ixN xs.length k = some j ∧ Q (upd H p (.lst (xs.set j v)))
theorem set_list : PSet X rSetL := by
  intro pins s σ H o i v ov iv u Q I ro ri rv h
  obtain ⟨p, xs, k, j, rfl, rfl, hp, hj, q⟩ := h
  cases ro
  obtain ⟨t, rfl⟩ := ri
  obtain ⟨its, n, r, ho, hz⟩ := I.lst hp
  obtain ⟨h1, h2, h3, h4⟩ := ixN_seq hj
  have hl := r.length
  have hn := line63
  have I' : Inv X pins σ (upd H p (.lst (xs.set j v))) { s with heap := s.heap.update p (Obj.mapSeq (·.setIfInBounds j u)) } :=
    I.lstUpd hp ho (mapSeq_set its n j u) (r.set rv j) (by rw [List.length_set]; exact hz) s.toks
  by_cases h0 : 0 ≤ k
  · have hk : k.toNat = j := by
      rw [seqIndex_of h0 h4] at h1
      exact Option.some.inj h1
    exact PySem.W.ki_setAt ho h0 (by lia) (by rw [List.size_toArray, ← hl]; exact h4) (by rw [hk]; exact ⟨_, I', q⟩)
  · have hk : (k + (its.toArray.size : Int)).toNat = j := by
      rw [seqIndex_neg (by lia) h3] at h1
      rw [List.size_toArray, ← hl]
      exact Option.some.inj h1
    exact PySem.W.ki_setBack ho (by lia) (by rw [List.size_toArray, ← hl]; exact h3) (by lia) (by rw [hk]; exact ⟨_, I', q⟩)
/- ### slices -/
theorem slice_bounds (lo hi : Option Int) (n : Nat) : (sliceBounds lo hi none n).1 = ((HT.sIx n 0 lo : Nat) : Int) ∧ (sliceBounds lo hi none n).2.1 = ((HT.sIx n n hi : Nat) : Int) ∧ (sliceBounds lo hi none n).2.2 = 1 := by
  refine ⟨?_, ?_, rfl⟩
  · cases lo with
    | none => simp [sliceBounds, HT.sIx]
    | some i =>
      simp only [sliceBounds, HT.sIx, Option.getD_none, show (1 : Int) > 0 by decide, if_true]
      by_cases h : i < 0
      · simp only [h, if_true] <;> lia
      · simp only [h, if_false] <;> lia
  · cases hi with
    | none => simp [sliceBounds, HT.sIx]
    | some i =>
      simp only [sliceBounds, HT.sIx, Option.getD_none, show (1 : Int) > 0 by decide, if_true]
      by_cases h : i < 0
      · simp only [h, if_true] <;> lia
      · simp only [h, if_false] <;> lia
theorem slicePick_cut (its : List Value) (lo hi : Option Int) : slicePick its.toArray lo hi none = ((its.drop (HT.sIx its.length 0 lo)).take (HT.sIx its.length its.length hi - HT.sIx its.length 0 lo)).toArray := by
  obtain ⟨h1, h2, h3⟩ := slice_bounds lo hi its.toArray.size
  unfold slicePick
  rw [h1, h2, h3]
  simp only [sliceRange_one, pick_run, List.size_toArray] <;> rfl
/- xs[lo:hi] of a list: a new list -/
noncomputable def rSlL (K : PySem.W.Frag) : V → Option Int → Option Int → Hp → VK → Prop := fun x lo hi H Q => ∃ a xs, x = .ref a ∧ SqL K H a xs ∧ ∀ p, H p = none → Q (.ref p) (upd H p (.lst (cutV xs lo hi)))
theorem sl_list : SlR X (rSlL X.K) := by
  intro pins s σ H x v vl vu lo hi sl Q I rx hs pl pu h
  obtain ⟨a, xs, rfl, hx, q⟩ := h
  cases rx
  obtain ⟨its, r, ht, hz⟩ := I.list hx
  have hlen := r.length
  refine ⟨"list", _, slot_list_getitem.lookup, ht.isList.typeIs, ?_⟩
  refine wpAny_getItem_list_slice ht.isList hs pl pu .none (by simp) ?_ (by rw [List.size_toArray] <;> lia)
  rw [slicePick_cut, ← hlen]
  refine ⟨.ref s.heap.objs.size, _, I.laid (t' := s.toks) (o := .lst (cutV xs lo hi)) (fun b ob q => Heap.get?_push_of_some _ q) (Nat.le_refl _) ?_, rfl, q _ (I.hok.fresh (Nat.le_refl _))⟩
  exact ⟨Nat.le_trans (cutV_length xs lo hi) hz, _, 0, (r.drop (HT.sIx xs.length 0 lo)).take (HT.sIx xs.length xs.length hi - HT.sIx xs.length 0 lo), Heap.get?_push_size _ rfl⟩
/- ### in, not in: flat items -/
noncomputable def flatV : V → Bool
  | .non => true
  | .bl _ => true
  | .int _ => true
  | .str _ => true
  | _ => false
/- == of flat values -/
noncomputable def eqV : V → V → Bool
  | .non, .non => true
  | .bl a, .bl b => a == b
  | .bl a, .int b => (if a then 1 else 0) == b
  | .int a, .bl b => a == (if b then 1 else 0)
  | .int a, .int b => a == b
  | .str a, .str b => a == b
  | _, _ => false
theorem eqAt_V {A : Around} {s : Shared} {y x : V} {u v : Value} (ry : RelV y u) (rx : RelV x v) (fy : flatV y = true) (fx : flatV x = true) : SeqAt.EqAt A s u v (eqV y x) := by
  cases y with
  | non =>
    cases ry
    cases x with
    | non => cases rx; exact SeqAt.EqAt.same _
    | bl b => cases rx; exact SeqAt.EqAt.none_bool b
    | int b => obtain ⟨t, rfl⟩ := rx; exact SeqAt.EqAt.none_int b t
    | str b => obtain ⟨t, rfl⟩ := rx; exact SeqAt.EqAt.none_str b t
    | _ => exact absurd (show false = true from fx) Bool.false_ne_true
  | bl a =>
    cases ry
    cases x with
    | non => cases rx; exact SeqAt.EqAt.bool_none a
    | bl b => cases rx; exact SeqAt.EqAt.bool_bool a b
    | int b => obtain ⟨t, rfl⟩ := rx; exact SeqAt.EqAt.bool_int a b t
    | str b => obtain ⟨t, rfl⟩ := rx; exact SeqAt.EqAt.bool_str a b t
    | _ => exact absurd (show false = true from fx) Bool.false_ne_true
  | int a =>
    obtain ⟨t', rfl⟩ := ry
    cases x with
    | non => cases rx; exact SeqAt.EqAt.int_none a t'
    | bl b => cases rx; exact SeqAt.EqAt.int_bool a t' b
    | int b => obtain ⟨t, rfl⟩ := rx; exact SeqAt.EqAt.int_int a t' b t
    | str b => obtain ⟨t, rfl⟩ := rx; exact SeqAt.EqAt.int_str a t' b t
    | _ => exact absurd (show false = true from fx) Bool.false_ne_true
  | str a =>
    obtain ⟨t', rfl⟩ := ry
    cases x with
    | non => cases rx; exact SeqAt.EqAt.str_none a t'
    | bl b => cases rx; exact SeqAt.EqAt.str_bool a t' b
    | int b => obtain ⟨t, rfl⟩ := rx; exact SeqAt.EqAt.str_int a t' b t
    | str b => obtain ⟨t, rfl⟩ := rx; exact SeqAt.EqAt.str_str a t' b t
    | _ => exact absurd (show false = true from fx) Bool.false_ne_true
  | _ => exact absurd (show false = true from fy) Bool.false_ne_true
/- the items' answers, read off the values (a value's own answer does not lean on its token) -/
noncomputable def eqU (x : V) (u : Value) : Bool := match u with
  | .none => eqV .non x
  | .bool b => eqV (.bl b) x
  | .int i _ => eqV (.int i) x
  | .str z _ => eqV (.str z) x
  | _ => false
theorem eqU_of {x y : V} {u : Value} (r : RelV y u) (f : flatV y = true) : eqU x u = eqV y x := by
  cases y with
  | non => cases r; rfl
  | bl b => cases r; rfl
  | int i => obtain ⟨t, rfl⟩ := r; rfl
  | str z => obtain ⟨t, rfl⟩ := r; rfl
  | _ => exact absurd (show false = true from f) Bool.false_ne_true
theorem any_eqU {x : V} : ∀ {xs : List V} {us : List Value}, Vals xs us → xs.all flatV = true → us.any (eqU x) = xs.any fun y => eqV y x
  | _, _, .nil, _ => rfl
  | y :: xs, u :: us, .cons r t, f => by
    rw [List.all_cons, Bool.and_eq_true] at f
    rw [List.any_cons, List.any_cons, eqU_of r f.1, any_eqU t f.2]
theorem mem_eqAt {A : Around} {s : Shared} {x : V} {v : Value} (rx : RelV x v) (fx : flatV x = true) : ∀ {xs : List V} {us : List Value}, Vals xs us → xs.all flatV = true → ∀ u ∈ us, SeqAt.EqAt A s u v (eqU x u)
  | _, _, .nil, _ => fun u hu => by cases hu
  | y :: xs, u :: us, .cons r t, f => fun u' hu => by
    rw [List.all_cons, Bool.and_eq_true] at f
    rcases List.mem_cons.mp hu with rfl | hu
    · rw [eqU_of r f.1]; exact eqAt_V r rx f.1 fx
    · exact mem_eqAt rx fx t f.2 u' hu
noncomputable def inV (x : V) (xs : List V) : Bool := xs.any fun y => eqV y x
/- x in a list or tuple of flat items -/
noncomputable def rIn (K : PySem.W.Frag) (neg : Bool) : R2 := fun x y H Q => ∃ p xs, y = .ref p ∧ (SqL K H p xs ∨ SqT K H p xs) ∧ flatV x = true ∧ xs.all flatV = true ∧ Q (.bl (if neg then !inV x xs else inV x xs)) H
theorem op_in_seq : OpR X (compareOp .In) (rIn X.K false) := by
  intro pins s σ H x y v u Q I rx ry h
  obtain ⟨p, xs, rfl, hq, fx, fs, q⟩ := h
  cases ry
  rcases hq with hq | hq
  · obtain ⟨its, r, pl, hz⟩ := I.list hq
    refine SeqAt.in_listAt (eqU x) pl.isList (fun w hw => mem_eqAt rx fx r fs w (by simpa using hw)) ⟨.bl _, H, I, rfl, ?_⟩
    rw [show its.toArray.any (eqU x) = its.any (eqU x) by simp, any_eqU r fs]
    exact q
  · obtain ⟨its, r, pl, hz⟩ := I.tuple hq
    refine SeqAt.in_tupleAt (eqU x) pl (fun w hw => mem_eqAt rx fx r fs w (by simpa using hw)) ⟨.bl _, H, I, rfl, ?_⟩
    rw [show its.toArray.any (eqU x) = its.any (eqU x) by simp, any_eqU r fs]
    exact q
/- ### len, list(x), tuple(x) of any list or tuple that is read -/
theorem call_len_seq : CallR X (.builtin "len") (fun xs H Q => ∃ p ys, xs = [.ref p] ∧ (SqL X.K H p ys ∨ SqT X.K H p ys) ∧ Q (.int ys.length) H) := by
  intro pins s σ H xs us Q I r h
  obtain ⟨p, ys, rfl, hq, q⟩ := h
  obtain ⟨u, rfl, rx⟩ := vals1 r
  cases rx
  have hn := line63
  rcases hq with hq | hq
  · obtain ⟨its, r', pl, hz⟩ := I.list hq
    have hlen := r'.length
    exact Calls.call_len_list pl.isList (by simp only [List.size_toArray] <;> lia) ⟨.int ys.length, H, I.tok _, ⟨s.toks + 1, by rw [List.size_toArray, hlen]⟩, q⟩
  · obtain ⟨its, r', pl, hz⟩ := I.tuple hq
    have hlen := r'.length
    exact len_tuple pl (by simp only [List.size_toArray] <;> lia) ⟨.int ys.length, H, I.tok _, ⟨s.toks + 1, by rw [List.size_toArray, hlen]⟩, q⟩
theorem call_list_of : CallR X (.type "list") (fun xs H Q => ∃ p ys, xs = [.ref p] ∧ (SqL X.K H p ys ∨ SqT X.K H p ys) ∧ ∀ l, H l = none → Q (.ref l) (upd H l (.lst ys))) := by
  intro pins s σ H xs us Q I r h
  obtain ⟨p, ys, rfl, hq, q⟩ := h
  obtain ⟨u, rfl, rx⟩ := vals1 r
  cases rx
  have fin : ∀ (its : List Value), Vals ys its → ys.length ≤ sizeLine → ∀ (h' : Heap) (c' : Nat), (∀ b o', s.heap.get? b = some o' → h'.get? b = some o') →
      h'.get? s.heap.objs.size = some { cls := .type "list", dict := none, data := .seq its.toArray c', slots := #[] } → EP X pins σ Q (.ref s.heap.objs.size) { s with heap := h' } := fun its r' hz h' c' kp e =>
    ⟨.ref s.heap.objs.size, _, I.laid (t' := s.toks) kp (Nat.le_refl _) (show ObjOk X.prog X.w _ h' _ (.lst ys) from ⟨hz, its, c', r', e⟩), rfl, q _ (I.hok.fresh (Nat.le_refl _))⟩
  rcases hq with hq | hq
  · obtain ⟨its, r', pl, hz⟩ := I.list hq
    have hlen := r'.length
    obtain ⟨o, ho, hc, n, hd⟩ := pl.isList
    exact call_list_seq p (.inl rfl) ho hc hd (fun h' c' kp e => fin its r' hz h' c' kp e) (by simp only [List.size_toArray] <;> lia)
  · obtain ⟨its, r', pl, hz⟩ := I.tuple hq
    have hlen := r'.length
    obtain ⟨o, ho, hc, n, hd⟩ := pl
    exact call_list_seq p (.inr rfl) ho hc hd (fun h' c' kp e => fin its r' hz h' c' kp e) (by simp only [List.size_toArray] <;> lia)
/- ### the call of a builtin's method: o.m(..) -/
/- the value is of that builtin type -/
noncomputable def tyV (K : PySem.W.Frag) (T : String) (x : V) (H : Hp) : Prop := match x with
  | .str _ => T = "str"
  | .int _ => T = "int"
  | .ref p => (T = "list" ∧ ∃ xs, SqL K H p xs) ∨ (T = "tuple" ∧ ∃ o, K.lookup p = some o ∧ o.cls = .type "tuple" ∧ o.dict = none) ∨
      (T = "dict" ∧ ((∃ kvs, H p = some (.dK kvs)) ∨ ∃ kvs, H p = some (.dT kvs))) ∨ (T = "set" ∧ ∃ S n, H p = some (.set S n))
  | _ => False
theorem tyV_is {pins : List (Addr × Obj)} {σ : St} {H : Hp} {s : Shared} {T : String} {x : V} {v : Value} (I : Inv X pins σ H s) (r : RelV x v) (ty : tyV X.K T x H) :
    s.TypeIs v T ∧ ∀ a, v = .ref a → ∃ ob, s.heap.get? a = some ob ∧ ob.dict = none := by
  cases x with
  | str z =>
    obtain ⟨t, rfl⟩ := r
    cases (show T = "str" from ty)
    exact ⟨typeIs_str s z t, fun _ e => nomatch e⟩
  | int i =>
    obtain ⟨t, rfl⟩ := r
    cases (show T = "int" from ty)
    exact ⟨typeIs_int s i t, fun _ e => nomatch e⟩
  | ref p =>
    cases r
    rcases ty with ⟨rfl, xs, hq⟩ | ⟨rfl, o, hk, hc, hd⟩ | ⟨rfl, hk⟩ | ⟨rfl, S, n, hk⟩
    · obtain ⟨its, _, pl, _⟩ := I.list hq
      refine ⟨pl.isList.typeIs, fun a e => ?_⟩
      cases e
      obtain ⟨o, n, e, c, hd, _⟩ := pl
      exact ⟨o, e, hd⟩
    · refine ⟨⟨o, I.kIn p o hk, hc⟩, fun a e => ?_⟩
      cases e
      exact ⟨o, I.kIn _ o hk, hd⟩
    · have z : ∃ o, s.heap.get? p = some o ∧ o.ExactDict := by
        rcases hk with ⟨kvs, hk⟩ | ⟨kvs, hk⟩
        · obtain ⟨_, _, _, _, o, _, _, e, ex, _⟩ := I.hok p _ hk
          exact ⟨o, e, ex⟩
        · obtain ⟨_, _, _, _, o, _, _, e, ex, _⟩ := I.hok p _ hk
          exact ⟨o, e, ex⟩
      obtain ⟨o, e, ex⟩ := z
      refine ⟨⟨o, e, ex.1⟩, fun a e2 => ?_⟩
      cases e2
      exact ⟨o, e, ex.2.1⟩
    · obtain ⟨o, _, _, _, e, ex, _⟩ := I.hok p _ hk
      refine ⟨⟨o, e, ex.1⟩, fun a e2 => ?_⟩
      cases e2
      exact ⟨o, e, ex.2.1⟩
  | _ => exact False.elim ty
noncomputable def tBM (K : PySem.W.Frag) (T : String) (r : V → List V → Hp → VK → Prop) (to : TE) (t : TA) : TE := fun σ H Q => to σ H fun x H1 => tyV K T x H1 ∧ t σ H1 fun xs H2 => r x xs H2 Q
variable {o e : Expr} {es : List Expr} {to : TE} {t : TA} {name : Str} {apos cpos : Pos} {T id : String} {r : V → List V → Hp → VK → Prop}
theorem pe_bm (pa : PlainAttrs T) (slot : Slot T name id) (hty : typeOf (.builtin id) = pure (.type "method_descriptor")) (hm : MtR X id r) (ho : PE X o to) (ha : PA X (e :: es) t)
    (hbase : attributeBase o name X.env (eval o X.env) = eval o X.env := by rfl)
    (hfew : ((backTo cpos (starEach (e :: es) X.env)).all (fun x => !x.1) && (backToKw cpos (keywordEach [] X.env)).all (fun x => x.1.isSome)
      && decide ((e :: es).length + ([] : List Keyword).length + (if ([] : List Keyword).isEmpty then 0 else 1) < 30)) = true := by rfl)
    (hline : (apos.endLine == cpos.line) = true := by rfl) (hs : starEach (e :: es) X.env = (false, eval e X.env) :: starEach es X.env := by rfl) (hplain : (backTo cpos (starEach es X.env)).any (·.1) = false := by rfl) :
    PE X (.Call (.Attribute o name apos) (e :: es) [] cpos) (tBM X.K T r to t) := by
  intro pins s σ H Q I h
  refine wpAny_Call_method_late hbase hfew hline rfl (thn (ho pins s σ H _ I h) fun v s1 zq => ?_)
  obtain ⟨x, H1, I1, r1, ty, q1⟩ := zq
  obtain ⟨h1, h2⟩ := tyV_is I1 r1 ty
  refine ⟨T, id, pa, slot, hty, h1, h2, ?_⟩
  have hA := ha cpos pins s1 σ H1 _ I1 q1
  rw [hs] at hA ⊢
  refine Calls.callWith_builtin (by show (false || (backTo cpos (starEach es X.env)).any (·.1)) = false; rw [hplain] <;> rfl) (Calls.evalArgs_plain ?_)
  exact thn hA fun us s2 ⟨vs, H2, I2, r2, q2⟩ => hm pins s2 σ H2 x vs v us Q I2 r1 r2 q2
/- xs.append(e), list.index on a module's tuple .. are MtR facts of 06m -/
end
end L2
namespace L2
open PySem PySem.Spec PyProof.Rows
noncomputable def MtM (X : Cx) (id : String) (r : V → List V → Hp → VK → Prop) : Prop :=
  ∀ (pins : List (Addr × Obj)) (s : Shared) (σ : St) (H : Hp) (x : V) (xs : List V) (v : Value) (us : List Value) (Q : VK), Inv X pins σ H s → RelV x v → Vals xs us → r x xs H Q →
    wpAny (model X.prog X.w) X.A (call (.builtin id) (v :: us)) (EP X pins σ Q) X.xe s
/- ### lists of values -/
theorem Vals.one {x : V} {us : List Value} (h : Vals [x] us) : ∃ u, us = [u] ∧ RelV x u := by
  cases h with
  | cons r t =>
    cases t
    exact ⟨_, rfl, r⟩
theorem Vals.eraseIdx : ∀ {xs : List V} {us : List Value} (i : Nat), Vals xs us → Vals (xs.eraseIdx i) (us.eraseIdx i)
  | _, _, _, .nil => .nil
  | _, _, 0, .cons _ t => t
  | _, _, i + 1, .cons r t => .cons r (Vals.eraseIdx i t)
theorem len_erase {α : Type} : ∀ (l : List α) (i : Nat), (l.eraseIdx i).length ≤ l.length
  | [], _ => Nat.le_refl _
  | _ :: _, 0 => Nat.le_succ _
  | _ :: r, i + 1 => Nat.succ_le_succ (len_erase r i)
section
variable {X : Cx} {pins : List (Addr × Obj)} {σ : St} {H : Hp} {s : Shared} {l b : Addr} {xs ys zs : List V}
/- ### the two steps: a tracked list is rewritten, a new list is laid -/
theorem Inv.lset {its its' : List Value} {n : Nat} {f : Array Value → Array Value} {t' : Nat} (I : Inv X pins σ H s) (hH : H l = some (.lst xs))
    (e : s.heap.get? l = some { cls := .type "list", data := .seq its.toArray n }) (hf : f its.toArray = its'.toArray) (hv : Vals ys its') (hz : ys.length ≤ sizeLine) :
    Inv X pins σ (upd H l (.lst ys)) { s with heap := s.heap.update l (Obj.mapSeq f), toks := t' } := by
  have q := PySem.IsL.update e f
  rw [hf] at q
  refine I.write (x := l) (e := l) (by rw [hH]; exact trivial) (.inl rfl) (fun b' u hb hu => (Heap.get?_update_other s.heap (Obj.mapSeq f) (Ne.symm hb)).trans hu) ⟨_, q⟩ ?_
  exact ⟨hz, its', _, hv, q⟩
theorem Inv.lnew {its : List Value} {t' : Nat} (I : Inv X pins σ H s) (hv : Vals ys its) (hz : ys.length ≤ sizeLine) :
    Inv X pins σ (upd H s.heap.objs.size (.lst ys)) { s with heap := s.heap.push { cls := .type "list", data := .seq its.toArray }, toks := t' } :=
  I.laid (fun _ _ q => Heap.get?_push_of_some _ q) (Nat.le_refl _) ⟨hz, its, 0, hv, Heap.get?_push_size _ rfl⟩
theorem Inv.fresh (I : Inv X pins σ H s) : H s.heap.objs.size = none := I.hok.fresh (Nat.le_refl _)
theorem Inv.lstM (I : Inv X pins σ H s) (hH : H l = some (.lst xs)) : xs.length ≤ sizeLine ∧ ∃ (its : List Value) (n : Nat), Vals xs its ∧ xs.length = its.length ∧ s.heap.get? l = some { cls := .type "list", data := .seq its.toArray n } := by
  obtain ⟨z, its, n, r, e⟩ := I.hok l _ hH
  exact ⟨z, its, n, r, r.length, e⟩
theorem notLongL {n : Nat} (h : n ≤ sizeLine) : Builtin.List.listTooLong n = false := by
  unfold Builtin.List.listTooLong
  exact decide_eq_false (by lia)
end
section
variable {X : Cx}
/- ### methods -/
noncomputable def rAppend : V → List V → Hp → VK → Prop := fun x vs H Q => ∃ l xs y, x = .ref l ∧ vs = [y] ∧ H l = some (.lst xs) ∧ xs.length < sizeLine ∧ Q .non (upd H l (.lst (xs ++ [y])))
theorem mt_append : MtM X "list.append" rAppend := by
  intro pins s σ H x vs v us Q I rx rv h
  obtain ⟨l, xs, y, rfl, rfl, hH, hz, q⟩ := h
  cases rx
  obtain ⟨u, rfl, ru⟩ := rv.one
  obtain ⟨z, its, n, r, hl, e⟩ := I.lstM hH
  refine call_meets F.slot_list_append ⟨_, e, rfl⟩ F.entry_list_append (F.args_list_append_2 _ _) (PySem.list_append l its.toArray n u (by rw [List.size_toArray]; lia)) ⟨e, ?_⟩
  refine ⟨.non, _, I.lset (its' := its ++ [u]) hH e (by simp) (r.append (.cons ru .nil)) ?_, rfl, q⟩
  rw [List.length_append, List.length_singleton]
  lia
noncomputable def rExtend : V → List V → Hp → VK → Prop := fun x vs H Q => ∃ l b xs zs, x = .ref l ∧ vs = [.ref b] ∧ H l = some (.lst xs) ∧ H b = some (.lst zs) ∧ xs.length + zs.length ≤ sizeLine ∧ Q .non (upd H l (.lst (xs ++ zs)))
theorem mt_extend : MtM X "list.extend" rExtend := by
  intro pins s σ H x vs v us Q I rx rv h
  obtain ⟨l, b, xs, zs, rfl, rfl, hH, hB, hz, q⟩ := h
  cases rx
  obtain ⟨u, rfl, ru⟩ := rv.one
  cases ru
  obtain ⟨z, its, n, r, hl, e⟩ := I.lstM hH
  obtain ⟨z2, its2, n2, r2, hl2, e2⟩ := I.lstM hB
  have hsz : its.toArray.size + its2.toArray.size ≤ sizeLine := by rw [List.size_toArray, List.size_toArray]; lia
  have hlong : ¬ (!its.toArray.isEmpty && Builtin.List.listTooLong (its.toArray.size + its2.toArray.size)) = true := by
    rw [notLongL hsz, Bool.and_false]
    exact Bool.false_ne_true
  refine call_meets F.slot_list_extend ⟨_, e, rfl⟩ F.entry_list_extend (F.args_list_extend_2 _ _)
    (AutoSeq1.list_extend_list_list_0 l its.toArray n b its2.toArray n2 hlong (by rw [List.size_toArray]; lia) (by lia)) ⟨e, e2, ?_⟩
  refine ⟨.non, _, I.lset (its' := its ++ its2) hH e (by simp) (r.append r2) ?_, rfl, q⟩
  rw [List.length_append]
  lia
noncomputable def rPopAt : V → List V → Hp → VK → Prop := fun x vs H Q => ∃ l xs i k y, x = .ref l ∧ vs = [.int i] ∧ H l = some (.lst xs) ∧ -(2 ^ 63) ≤ i ∧ i < 2 ^ 63 ∧ seqIndex? i xs.length = some k ∧ xs[k]? = some y ∧ Q y (upd H l (.lst (xs.eraseIdx k)))
theorem mt_popAt : MtM X "list.pop" rPopAt := by
  intro pins s σ H x vs v us Q I rx rv h
  obtain ⟨l, xs, i, k, y, rfl, rfl, hH, h1, h2, hk, hy, q⟩ := h
  cases rx
  obtain ⟨u, rfl, ru⟩ := rv.one
  obtain ⟨t, rfl⟩ := ru
  obtain ⟨z, its, n, r, hl, e⟩ := I.lstM hH
  obtain ⟨w, hw, rw'⟩ := r.get hy
  refine call_meets F.slot_list_pop ⟨_, e, rfl⟩ F.entry_list_pop (F.args_list_pop_2 _ _)
    (MeetsSeq.list_pop_at l its.toArray n i t k w (fitsIndex_both h1 h2) (by rw [List.size_toArray, ← hl]; exact hk) (by rw [← Array.getElem?_toList]; exact hw) (by rw [List.size_toArray]; lia)) ⟨e, ?_⟩
  refine ⟨y, _, I.lset (its' := its.eraseIdx k) hH e ?_ (r.eraseIdx k) ?_, rw', q⟩
  · show its.toArray.eraseIdxIfInBounds k = (its.eraseIdx k).toArray
    rw [List.eraseIdxIfInBounds_toArray]
  · have := len_erase xs k
    lia
/- ### list + list, list += list, list * int -/
noncomputable def rCat : R2 := fun x y H Q => ∃ l b xs zs, x = .ref l ∧ y = .ref b ∧ H l = some (.lst xs) ∧ H b = some (.lst zs) ∧ xs.length + zs.length ≤ sizeLine ∧ ∀ p, H p = none → Q (.ref p) (upd H p (.lst (xs ++ zs)))
theorem op_cat : OpR X (binaryOp .Add) rCat := by
  intro pins s σ H x y v u Q I rx ry h
  obtain ⟨l, b, xs, zs, rfl, rfl, hH, hB, hz, q⟩ := h
  cases rx
  cases ry
  obtain ⟨z, its, n, r, hl, e⟩ := I.lstM hH
  obtain ⟨z2, its2, n2, r2, hl2, e2⟩ := I.lstM hB
  refine PySem.P.add_list e e2 ?_ (by rw [List.size_toArray, List.size_toArray]; lia)
  have ea : its.toArray ++ its2.toArray = (its ++ its2).toArray := by simp
  rw [ea]
  exact ⟨.ref _, _, I.lnew (t' := s.toks) (r.append r2) (by rw [List.length_append]; lia), rfl, q _ I.fresh⟩
/- ### del xs[i] -/
end
/- ### xs[a:b] = ys -/
section
variable {prog : Program} {w : World} {A : Around} {E : Value → Shared → Prop} {s : Shared}
end
section
variable {X : Cx}
end
end L2
namespace L2
open PySem PySem.Spec PyProof.Rows
theorem Vals.ints : ∀ {ns : List Int} {us : List Value}, Vals (ns.map V.int) us → IntsAre us ns
  | [], us, h => by
    rw [List.map_nil] at h
    cases h
    exact IntsAre.nil
  | n :: ns, us, h => by
    rw [List.map_cons] at h
    cases h with
    | cons r t =>
      obtain ⟨k, rfl⟩ := r
      exact IntsAre.cons n k (Vals.ints t)
theorem Vals.bls : ∀ {bs : List Bool} {us : List Value}, Vals (bs.map V.bl) us → us = bs.map Value.bool
  | [], us, h => by
    rw [List.map_nil] at h
    cases h
    rfl
  | b :: bs, us, h => by
    rw [List.map_cons] at h
    cases h with
    | cons r t =>
      cases r
      rw [Vals.bls t, List.map_cons]
theorem Vals.ref1 {a : Addr} {us : List Value} (r : Vals [V.ref a] us) : us = [Value.ref a] := by
  cases r with
  | cons r t =>
    cases t
    cases r
    rfl
/- ### the library's walks over a list of ints, kept objects alone -/
section
variable {prog : Program} {w : World} {A : Around} {E : Value → Shared → Prop} {s : Shared} {l : Addr} {its : List Value} {ns : List Int} {Q : Value → Shared → Prop}
theorem sum_raw (hh : A.handled = none) (hl : s.heap.IsList l its.toArray) (hi : IntsAre its ns)
    (h : ∀ h' tk t', (∀ b o, s.heap.get? b = some o → h'.get? b = some o) → Q (.int ns.sum t') { s with heap := h', toks := tk }) : wpAny (model prog w) A (call (.builtin "sum") [.ref l]) Q E s := by
  obtain ⟨xs, e⟩ := hi.allInts.items
  have hn : numsOf (intItems xs).toList = ns := by rw [← e]; exact hi.numsOf
  rw [nums_intItems] at hn
  rw [e] at hl
  refine PySem.sum_intListG hh hl fun h' tk t' hk => ?_
  have := h h' tk t' hk
  rw [preSum_eq, List.take_of_length_le (by simp), hn]; exact this
end
/- ### the calls, by values (CallR of 03t; MtR of 06l) -/
section
variable {X : Cx}
/- sum(xs) of a list of ints -/
noncomputable def rSum (K : PySem.W.Frag) : List V → Hp → VK → Prop := fun vs H Q => ∃ (a : Addr) (ns : List Int), vs = [V.ref a] ∧ SqL K H a (ns.map V.int) ∧ Q (.int ns.sum) H
theorem cr_sum (hc : X.calm = true) : CallR X (.builtin "sum") (rSum X.K) := by
  intro pins s σ H vs us Q I r h
  obtain ⟨a, ns, rfl, hs, q⟩ := h
  obtain ⟨its, rv, hl, _⟩ := I.list hs
  rw [Vals.ref1 r]
  exact sum_raw (I.ok.hd hc) hl.isList rv.ints fun h' tk t' hk => ⟨.int _, H, I.kept hk, ⟨_, rfl⟩, q⟩
/- sorted, sort (fewer than 64 items: the library's own bound) -/
end
/- ### list.index, flat items -/
section
variable {X : Cx}
noncomputable def rIndex (K : PySem.W.Frag) : V → List V → Hp → VK → Prop := fun x xs H Q => ∃ (a : Addr) (ys : List V) (y : V) (j : Nat) (z : V), x = V.ref a ∧ xs = [y] ∧ SqL K H a ys ∧ flatV y = true ∧ ys.all flatV = true ∧ ys[j]? = some z ∧ eqV z y = true ∧
  (∀ (m : Nat) (z' : V), m < j → ys[m]? = some z' → eqV z' y = false) ∧ Q (.int (j : Nat)) H
theorem flat_at {ys : List V} (f : ys.all flatV = true) {j : Nat} {z : V} (h : ys[j]? = some z) : flatV z = true := List.all_eq_true.mp f z (List.mem_of_getElem? h)
theorem mt_index : MtR X "list.index" (rIndex X.K) := by
  intro pins s σ H x xs v us Q I rx rxs h
  obtain ⟨a, ys, y, j, z, rfl, rfl, hs, fy, fys, hz, hzj, hno, q⟩ := h
  cases rx
  cases rxs with
  | cons ry rt =>
    rename_i uy ut
    cases rt
    obtain ⟨its, rv, ⟨⟨cls, dd, data, sl⟩, n, ho, hc, hdn, hd⟩, hlen⟩ := I.list hs
    simp only at hc hd
    subst hc hd
    obtain ⟨u, hu, ru⟩ := rv.get hz
    obtain ⟨hjl, hje⟩ := List.getElem?_eq_some_iff.mp hu
    have hvl := rv.length
    have hj : j < its.toArray.size := by simpa using hjl
    have hsl := sizeLine_eq
    refine call_meets PySem.F.slot_list_index ⟨_, ho, rfl⟩ PySem.F.entry_list_index (PySem.F.args_list_index_2 _ _)
      (SeqAt.list_indexAt a its.toArray n dd sl uy (eqU y) j hj (by lia) ?_ ?_) ⟨ho, fun u' hu' => mem_eqAt ry fy rv fys u' (by simpa using hu'), ?_⟩
    · have e1 : its.toArray[j] = u := by simpa using hje
      rw [e1, eqU_of ru (flat_at fys hz)]
      exact hzj
    · intro m hm hmj
      have hml : m < its.length := by simpa using hm
      have hmy : m < ys.length := by lia
      have hy' : ys[m]? = some ys[m] := List.getElem?_eq_getElem hmy
      obtain ⟨u2, hu2, ru2⟩ := rv.get hy'
      obtain ⟨_, hme⟩ := List.getElem?_eq_some_iff.mp hu2
      have e1 : its.toArray[m] = u2 := by simpa using hme
      rw [e1, eqU_of ru2 (flat_at fys hy')]
      exact hno m _ hmj hy'
    · exact ⟨.int (j : Nat), H, I.tok _, ⟨_, rfl⟩, q⟩
end
/- ### type(x) of an own instance; is, is not of a module's class -/
section
variable {X : Cx}
end
/- ### any(xs), all(xs) of a list of bools -/
theorem iter_any {prog : Program} {w : World} {A : Around} {E : Value → Shared → Prop} {s : Shared} {l : Addr} {items : Array Value} {Q : Value → Shared → Prop} (hl : s.heap.IsList l items)
    (h : ∀ s₂ : Shared, s₂ = { s with heap := s.heap.push { cls := .type "list_iterator", data := .fields #[.ref l, .int 0 0] } } →
      (s₂.heap.IsListIter s.heap.objs.size l 0 ∧ s₂.heap.IsList l items) → l ≠ s.heap.objs.size → Q (.ref s.heap.objs.size) s₂) : wpAny (model prog w) A (pyIter (.ref l)) Q E s := by
  have hlt : l < s.heap.objs.size := by obtain ⟨_, e, _⟩ := hl; exact Heap.lt_size e
  exact wpAny_pyIter_list hl (h _ rfl ⟨⟨_, Heap.get?_push_size _ rfl, rfl, rfl⟩, hl.push _⟩ (Nat.ne_of_lt hlt))
theorem truth_bools {prog : Program} {w : World} {A : Around} {bs : List Bool} {its : List Value} (e : its = bs.map Value.bool) :
    TruthOf prog w A (fun i v => its.toArray[i]? = some v) (fun i => bs.getD i false) := fun i v s Q E hv hq => by
  have hv' : its[i]? = some v := by simpa using hv
  rw [e, List.getElem?_map] at hv'
  obtain ⟨b, hb, rfl⟩ := Option.map_eq_some_iff.mp hv'
  have hg : bs.getD i false = b := by rw [List.getD_eq_getElem?_getD, hb] <;> rfl
  have hq' : Q (bs.getD i false) s := hq
  rw [hg] at hq'
  exact wpAny_truthy_bool hq'
theorem all_range : ∀ bs : List Bool, (List.range bs.length).all (fun i => bs.getD i false) = bs.all id
  | [] => rfl
  | b :: bs => by
    rw [List.length_cons, List.range_succ_eq_map, List.all_cons, List.all_map, List.all_cons, ← all_range bs]
    all_goals rfl
section
variable {X : Cx}
noncomputable def rAll (K : PySem.W.Frag) : List V → Hp → VK → Prop := fun vs H Q => ∃ (a : Addr) (bs : List Bool), vs = [V.ref a] ∧ SqL K H a (bs.map V.bl) ∧ Q (.bl (bs.all id)) H
theorem cr_all (hc : X.calm = true) : CallR X (.builtin "all") (rAll X.K) := by
  intro pins s σ H vs us Q I r h
  obtain ⟨a, bs, rfl, hs, q⟩ := h
  obtain ⟨its, rv, hl, _⟩ := I.list hs
  rw [Vals.ref1 r]
  have hb := rv.bls
  refine call_all_walk (iter_any hl.isList fun s₂ e2 st hne => ?_)
  subst e2
  refine ⟨_, _, _, _, _, _, _, rfl, Walks.list (A := X.A.in1) (I.ok.hd hc) _ a hne its.toArray, st, truth_bools hb, fun h' tk hk => ?_⟩
  refine ⟨.bl _, H, I.kept fun b o eo => hk b o (fun hmem => ?_) (Heap.get?_push_of_some _ eo), ?_, q⟩
  · rcases List.mem_cons.mp hmem with e1 | hmem
    · exact absurd (e1 ▸ Heap.lt_size eo) (Nat.lt_irrefl _)
    · cases hmem
  · show Value.bool _ = Value.bool _
    rw [← all_range, hb, List.size_toArray, List.length_map]
end
/- ### == and != of data at any depth: none, bools, ints, texts, lists, tuples -/
section
variable {X : Cx} {pins : List (Addr × Obj)} {σ : St} {H : Hp} {s : Shared}
end
section
variable {X : Cx}
end
end L2
namespace L2
open PySem PySem.Spec PyProof.Rows
noncomputable abbrev CellAt (h : Heap) (c : Addr) (v : Option Value) : Prop := h.IsCell c v
noncomputable def relS (scope sc : Scope) : Scope :=
  { scope with names := scope.names.map fun (n, k) => if (k == .free && sc.kind == .function && sc.names.lookup n == some .cell) then (n, .cell) else (n, k) }
noncomputable def cloFrom (cells : List (Str × Addr)) : List (Str × NameKind) → List (Str × Addr) → List (Str × Addr)
  | [], acc => acc
  | (n, k) :: r, acc => if k == .free then cloFrom cells r ((n, (cells.lookup n).getD 0) :: acc) else cloFrom cells r acc
theorem closure_loop (env : Env) (f : Str × NameKind → List (Str × Addr) → Sem (ForInStep (List (Str × Addr))))
    (hf : ∀ n k c, f (n, k) c = if k == .free then (do let a ← cellOf env n; pure (.yield ((n, a) :: c))) else pure (.yield c)) :
    ∀ (names : List (Str × NameKind)) (acc : List (Str × Addr)), (∀ y ∈ names, y.2 = .free → ∃ c, env.cells.lookup y.1 = some c) → forIn names acc f = pure (cloFrom env.cells names acc)
  | [], acc, _ => by rw [List.forIn_nil]; rfl
  | (n, k) :: r, acc, h => by
    rw [List.forIn_cons, hf]
    have ih := fun acc => closure_loop env f hf r acc fun y hy => h y (List.mem_cons_of_mem _ hy)
    unfold cloFrom
    by_cases hk : (k == NameKind.free) = true
    · rw [if_pos hk, if_pos hk]
      obtain ⟨c, hc⟩ := h (n, k) List.mem_cons_self (by simpa using hk)
      have e : cellOf env n = pure c := by unfold cellOf; rw [hc]
      rw [e]
      have e2 : (env.cells.lookup n).getD 0 = c := by rw [hc]; rfl
      rw [e2]
      exact ih _
    · rw [if_neg hk, if_neg hk]
      exact ih _
theorem closure_ok {scope : Scope} {env : Env} (h : ∀ y ∈ scope.names, y.2 = .free → ∃ c, env.cells.lookup y.1 = some c) : closureFor scope env = pure (cloFrom env.cells scope.names []) := by
  simp only [closureFor]
  rw [closure_loop env _ (fun n k c => rfl) scope.names [] h]
  rfl
theorem mem_lookup {α : Type} : ∀ {l : List (Str × α)} {n : Str} {c : α}, (n, c) ∈ l → ∃ c', l.lookup n = some c'
  | (k, v) :: r, n, c, h => by
    rw [List.lookup_cons]
    cases hb : n == k with
    | true => exact ⟨_, rfl⟩
    | false =>
      rcases List.mem_cons.mp h with e | h
      · cases e; simp at hb
      · exact mem_lookup h
theorem cloFrom_mem {cells : List (Str × Addr)} : ∀ {names : List (Str × NameKind)} {acc : List (Str × Addr)} {n : Str} {c : Addr}, (n, c) ∈ cloFrom cells names acc → (n, c) ∈ acc ∨ ((n, .free) ∈ names ∧ c = (cells.lookup n).getD 0)
  | [], _, _, _, h => .inl h
  | (m, k) :: r, acc, n, c, h => by
    unfold cloFrom at h
    split at h
    · rename_i hk
      have hk : k = .free := by simpa using hk
      rcases cloFrom_mem h with h | ⟨h1, h2⟩
      · rcases List.mem_cons.mp h with e | h
        · cases e; exact .inr ⟨hk ▸ List.mem_cons_self, rfl⟩
        · exact .inl h
      · exact .inr ⟨List.mem_cons_of_mem _ h1, h2⟩
    · rcases cloFrom_mem h with h | ⟨h1, h2⟩
      · exact .inl h
      · exact .inr ⟨List.mem_cons_of_mem _ h1, h2⟩
theorem cloFrom_acc {cells : List (Str × Addr)} : ∀ {names : List (Str × NameKind)} {acc : List (Str × Addr)} {p : Str × Addr}, p ∈ acc → p ∈ cloFrom cells names acc
  | [], _, _, h => h
  | (m, k) :: r, acc, p, h => by
    unfold cloFrom
    split
    · exact cloFrom_acc (List.mem_cons_of_mem _ h)
    · exact cloFrom_acc h
theorem cloFrom_has {cells : List (Str × Addr)} : ∀ {names : List (Str × NameKind)} {acc : List (Str × Addr)} {n : Str}, (n, .free) ∈ names → (n, (cells.lookup n).getD 0) ∈ cloFrom cells names acc
  | (m, k) :: r, acc, n, h => by
    unfold cloFrom
    rcases List.mem_cons.mp h with e | h
    · cases e
      exact cloFrom_acc List.mem_cons_self
    · split
      · exact cloFrom_has h
      · exact cloFrom_has h
theorem cells_mem : ∀ {names : List (Str × NameKind)} {h : Heap} {acc : List (Str × Addr)} {x : Str} {c : Addr}, (x, c) ∈ cellsFrom h.objs.size names acc →
    (x, c) ∈ acc ∨ ((x, .cell) ∈ names ∧ h.objs.size ≤ c ∧ CellAt (pushCells h names) c none)
  | [], _, _, _, _, h => .inl h
  | (n, k) :: r, h, acc, x, c, hm => by
    unfold cellsFrom at hm
    unfold pushCells
    split at hm
    · rename_i hk
      rw [if_pos hk]
      have hk : k = .cell := by simpa using hk
      rw [← Heap.size_push h { cls := .type "cell", data := .cell none }] at hm
      rcases cells_mem hm with hm | ⟨h1, h2, h3⟩
      · rcases List.mem_cons.mp hm with e | hm
        · cases e
          exact .inr ⟨hk ▸ List.mem_cons_self, Nat.le_refl _, _, pushCells_keeps r _ _ _ (Heap.get?_push_size _ rfl), rfl⟩
        · exact .inl hm
      · rw [Heap.size_push] at h2
        exact .inr ⟨List.mem_cons_of_mem _ h1, Nat.le_of_succ_le h2, h3⟩
    · rename_i hk
      rw [if_neg hk]
      rcases cells_mem hm with hm | ⟨h1, h2, h3⟩
      · exact .inl hm
      · exact .inr ⟨List.mem_cons_of_mem _ h1, h2, h3⟩
theorem cells_acc : ∀ {names : List (Str × NameKind)} {n : Nat} {acc : List (Str × Addr)} {p : Str × Addr}, p ∈ acc → p ∈ cellsFrom n names acc
  | [], _, _, _, h => h
  | (m, k) :: r, n, acc, p, h => by
    unfold cellsFrom
    split
    · exact cells_acc (List.mem_cons_of_mem _ h)
    · exact cells_acc h
theorem cells_has : ∀ {names : List (Str × NameKind)} {n : Nat} {acc : List (Str × Addr)} {x : Str}, (x, .cell) ∈ names → ∃ c, (x, c) ∈ cellsFrom n names acc
  | (m, k) :: r, n, acc, x, h => by
    unfold cellsFrom
    rcases List.mem_cons.mp h with e | h
    · cases e
      exact ⟨n, cells_acc List.mem_cons_self⟩
    · split
      · exact cells_has h
      · exact cells_has h
theorem cells_inj : ∀ {names : List (Str × NameKind)} {h : Heap} {acc : List (Str × Addr)} {x y : Str} {c : Addr}, (∀ p ∈ acc, p.2 < h.objs.size) → (∀ x y c, (x, c) ∈ acc → (y, c) ∈ acc → x = y) →
    (x, c) ∈ cellsFrom h.objs.size names acc → (y, c) ∈ cellsFrom h.objs.size names acc → x = y
  | [], _, _, _, _, _, _, hi, h1, h2 => hi _ _ _ h1 h2
  | (n, k) :: r, h, acc, x, y, c, hl, hi, h1, h2 => by
    unfold cellsFrom at h1 h2
    split at h1
    · rename_i hk
      rw [if_pos hk] at h2
      rw [← Heap.size_push h { cls := .type "cell", data := .cell none }] at h1 h2
      refine cells_inj (h := h.push _) (fun p hp => ?_) (fun x y c a b => ?_) h1 h2
      · rw [Heap.size_push]
        rcases List.mem_cons.mp hp with rfl | hp
        · exact Nat.lt_succ_self _
        · exact Nat.lt_succ_of_lt (hl p hp)
      · rcases List.mem_cons.mp a with e | a <;> rcases List.mem_cons.mp b with e' | b
        · cases e; cases e'; rfl
        · cases e; exact absurd (hl _ b) (Nat.lt_irrefl _)
        · cases e'; exact absurd (hl _ a) (Nat.lt_irrefl _)
        · exact hi _ _ _ a b
    · rename_i hk
      rw [if_neg hk] at h2
      exact cells_inj hl hi h1 h2
theorem newEnv_comp {M : Model} {A : Around} {E : Value → Shared → Prop} {s : Shared} {scope : Scope} {globals : Addr} {closure : List (Str × Addr)} {qual : Str} {func : Option Addr} {code : Value} {around : Env} {builtins : Addr} {Q : Env → Shared → Prop}
    (h : Q (newEnv scope s.heap.objs.size globals (cellsFrom (s.heap.objs.size + 1) scope.names closure) qual func code (some around) builtins)
      { s with heap := pushCells (s.heap.push { cls := .type "dict", data := .dict #[] }) scope.names }) :
    wpAny M A (newFunctionEnv scope globals closure [] qual func code (some around) builtins) Q E s := by
  simp only [newFunctionEnv, Option.isSome_some, if_true]
  refine wpAny_bind (wpAny_alloc ?_)
  refine wpAny_bind (wpAny_layCells _ (fun n k c => rfl) scope.names closure _ _ ?_)
  rw [show ({ s with heap := s.heap.push { cls := .type "dict", data := .dict #[] } } : Shared).heap.objs.size = s.heap.objs.size + 1 from Heap.size_push ..]
  rw [List.forIn_nil]
  exact wpAny_bind (wpAny_pure (wpAny_pure h))
/- every name of the written scope, in the scope that runs -/
theorem lookup_relS {sc : Scope} : ∀ {names : List (Str × NameKind)} {x : Str} {k : NameKind},
    (names.map fun (n, k) => if (k == NameKind.free && sc.kind == .function && sc.names.lookup n == some .cell) then (n, NameKind.cell) else (n, k)).lookup x = some k →
    ∃ k', names.lookup x = some k' ∧ (k = k' ∨ (k' = .free ∧ k = .cell))
  | [], _, _, h => by simp at h
  | (n, k₀) :: r, x, k, h => by
    have ih := @lookup_relS sc r x k
    have h' : List.lookup x ((if (k₀ == NameKind.free && sc.kind == .function && sc.names.lookup n == some .cell) = true then (n, NameKind.cell) else (n, k₀)) :: (r.map _)) = some k := h
    cases hx : x == n with
    | true =>
      simp only [List.lookup_cons, hx]
      by_cases hc : (k₀ == NameKind.free && sc.kind == .function && sc.names.lookup n == some .cell) = true
      · rw [if_pos hc] at h'
        simp only [List.lookup_cons, hx] at h'
        cases h'
        simp only [Bool.and_eq_true, beq_iff_eq] at hc
        exact ⟨k₀, rfl, .inr ⟨hc.1.1, rfl⟩⟩
      · rw [if_neg hc] at h'
        simp only [List.lookup_cons, hx] at h'
        cases h'
        exact ⟨_, rfl, .inl rfl⟩
    | false =>
      simp only [List.lookup_cons, hx]
      by_cases hc : (k₀ == NameKind.free && sc.kind == .function && sc.names.lookup n == some .cell) = true
      · rw [if_pos hc] at h'
        simp only [List.lookup_cons, hx] at h'
        exact ih h'
      · rw [if_neg hc] at h'
        simp only [List.lookup_cons, hx] at h'
        exact ih h'
/- the names of a comprehension's block: its own (with their places in N), or captured -/
structure BlkOk (N : List Str) (sc scope : Scope) (own : List (Str × Nat)) : Prop where
  kind : scope.kind = .function
  uniq : ∀ y ∈ scope.names, scope.names.lookup y.1 = some y.2
  ix : ∀ p ∈ own, N[p.2]? = some p.1
  free : ∀ y ∈ scope.names, y.2 = .free → sc.names.lookup y.1 = some .cell ∨ sc.names.lookup y.1 = some .free
  own : ∀ y ∈ scope.names, y.2 = .local ∨ y.2 = .cell → y.1 ∈ own.map (·.1) ∨ y.1 ∉ N
/- the slots of the block's own names forgotten -/
noncomputable def wipe (σ : St) : List Nat → St
  | [] => σ
  | v :: vs => (wipe σ vs).set v none
theorem wipe_length (σ : St) : ∀ vs : List Nat, (wipe σ vs).length = σ.length
  | [] => rfl
  | v :: vs => by unfold wipe; rw [List.length_set, wipe_length σ vs]
theorem wipe_some {σ : St} {i : Nat} {x : V} : ∀ {vs : List Nat}, (wipe σ vs)[i]? = some (some x) → σ[i]? = some (some x) ∧ i ∉ vs
  | [], h => ⟨h, by simp⟩
  | v :: vs, h => by
    unfold wipe at h
    by_cases hi : v = i
    · subst hi
      by_cases hv : v < (wipe σ vs).length
      · rw [List.getElem?_set_self hv] at h; cases h
      · rw [List.getElem?_eq_none (by simpa using hv)] at h; cases h
    · rw [List.getElem?_set_ne hi] at h
      obtain ⟨h1, h2⟩ := wipe_some h
      exact ⟨h1, by simp only [List.mem_cons, not_or]; exact ⟨fun e => hi e.symm, h2⟩⟩
/- the context of a block that starts at s, its iterator's objects at fp -/
noncomputable abbrev Cx.blk (X : Cx) (s : Shared) (H : Hp) (scope : Scope) (cenv : Env) (fp : List Addr) : Cx := { X with s_0 := s, H_0 := H, env := cenv, outer := X.stack, ex := fp, fn := fun x => scope.names.lookup x == some .cell, pn := [], xe := fun _ _ => False }
section
variable {X : Cx} {pins : List (Addr × Obj)} {σ : St} {H : Hp} {s : Shared}
theorem block_start {scope : Scope} {own : List (Str × Nat)} {fp : List Addr} (I : Inv X pins σ H s) (ok : BlkOk X.N X.env.scope scope own) (hN : X.N.Nodup) (hfp : ∀ b ∈ fp, FpOk X pins H b ∧ b < s.heap.objs.size) :
    Inv (X.blk s H scope (compEnvC scope (cellsFrom (s.heap.objs.size + 1) scope.names (cloFrom X.env.cells scope.names [])) s.heap.objs.size X.env) fp) [] (wipe σ (own.map (·.2))) H { s with heap := pushCells (s.heap.push { cls := .type "dict", data := .dict #[] }) scope.names } := by
  have hfree : ∀ y ∈ scope.names, y.2 = .free → ∃ c, X.env.cells.lookup y.1 = some c := fun y hy e => by
    rcases ok.free y hy e with k | k
    · exact I.ok.has _ (.inl k)
    · exact I.ok.has _ (.inr k)
  generalize hcenv : compEnvC scope (cellsFrom (s.heap.objs.size + 1) scope.names (cloFrom X.env.cells scope.names [])) s.heap.objs.size X.env = cenv
  have kp : ∀ b o, s.heap.get? b = some o → (pushCells (s.heap.push { cls := .type "dict", data := .dict #[] }) scope.names).get? b = some o := fun b o e => pushCells_keeps _ _ _ _ (Heap.get?_push_of_some _ e)
  have hL : cenv.locals = s.heap.objs.size := by rw [← hcenv]; rfl
  have hcl : cenv.cells = cellsFrom (s.heap.objs.size + 1) scope.names (cloFrom X.env.cells scope.names []) := by rw [← hcenv]; rfl
  have hsc : cenv.scope = relS scope X.env.scope := by rw [← hcenv]; rfl
  rw [← Heap.size_push s.heap { cls := .type "dict", data := .dict #[] }] at hcl
  have cm : ∀ {y c}, (y, c) ∈ cloFrom X.env.cells scope.names [] → X.env.cells.lookup y = some c ∧ c < s.heap.objs.size := fun {y c} hm => by
    rcases cloFrom_mem hm with hm | ⟨h1, rfl⟩
    · cases hm
    · obtain ⟨c, hc⟩ := hfree _ h1 rfl
      rw [hc]
      obtain ⟨w, z⟩ := I.cell _ _ hc
      exact ⟨rfl, z.lt⟩
  have mem : ∀ {y c}, cenv.cells.lookup y = some c → (X.env.cells.lookup y = some c ∧ c < s.heap.objs.size) ∨ (s.heap.objs.size + 1 ≤ c ∧ CellAt (pushCells (s.heap.push { cls := .type "dict", data := .dict #[] }) scope.names) c none) := fun {y c} e => by
    rw [hcl] at e
    rcases cells_mem (PySem.mem_of_lookup e) with hm | ⟨_, h2, h3⟩
    · exact .inl (cm hm)
    · rw [Heap.size_push] at h2; exact .inr ⟨h2, h3⟩
  have look : ∀ {y}, scope.names.lookup y = some .free → ∃ c, cenv.cells.lookup y = some c ∧ X.env.cells.lookup y = some c := fun {y} hl => by
    have hy : (y, NameKind.free) ∈ scope.names := PySem.mem_of_lookup hl
    obtain ⟨c', e'⟩ := mem_lookup (cells_acc (names := scope.names) (n := (s.heap.push { cls := .type "dict", data := .dict #[] }).objs.size) (cloFrom_has (cells := X.env.cells) (acc := []) hy))
    rw [← hcl] at e'
    refine ⟨c', e', ?_⟩
    rw [hcl] at e'
    rcases cells_mem (PySem.mem_of_lookup e') with hm | ⟨h1, _, _⟩
    · exact (cm hm).1
    · have := ok.uniq _ h1
      rw [hl] at this; cases this
  have okB : (X.blk s H scope cenv fp).Ok := by
    refine ⟨I.ok.mod, by show cenv.scope.kind = _; rw [hsc]; exact ok.kind, by show cenv.globals = _; rw [← hcenv]; exact I.ok.glob, by show cenv.builtins = _; rw [← hcenv]; exact I.ok.blt, by show s.heap.objs.size ≤ cenv.locals; rw [hL]; exact Nat.le_refl _,
      fun y z c e1 e2 => ?_, fun y hy => ?_, fun y c z e => ?_, I.ok.hd, I.ok.frames, .inl rfl, fun b hb => ⟨?_, fun y c e z => ?_⟩, I.bs, Nat.le_trans I.ok.bsz I.sz, fun b o e hb => ?_, fun b hb z => ?_, I.stack, I.stkFree⟩
    · have e1 : cenv.cells.lookup y = some c := e1
      have e2 : cenv.cells.lookup z = some c := e2
      rw [hcl] at e1 e2
      refine cells_inj (fun p hp => ?_) (fun y z c a b => I.ok.inj y z c (cm a).1 (cm b).1) (PySem.mem_of_lookup e1) (PySem.mem_of_lookup e2)
      rw [Heap.size_push]
      exact Nat.lt_succ_of_lt (cm (y := p.1) (c := p.2) hp).2
    · show ∃ c, cenv.cells.lookup y = some c
      have key : ∀ k, cenv.kindOf y = some k → (k = .cell ∨ k = .free) → ∃ c, cenv.cells.lookup y = some c := fun k hk hk' => by
        unfold Env.kindOf at hk
        rw [hsc] at hk
        obtain ⟨k', e, r⟩ := lookup_relS hk
        have : k' = .cell ∨ k' = .free := by
          rcases r with rfl | ⟨rfl, _⟩
          · exact hk'
          · exact .inr rfl
        rcases this with rfl | rfl
        · obtain ⟨c, hm⟩ := cells_has (n := (s.heap.push { cls := .type "dict", data := .dict #[] }).objs.size) (acc := cloFrom X.env.cells scope.names []) (PySem.mem_of_lookup e)
          obtain ⟨c', e'⟩ := mem_lookup hm
          exact ⟨c', by rw [hcl]; exact e'⟩
        · obtain ⟨c, h1, _⟩ := look e
          exact ⟨c, h1⟩
      rcases hy with hy | hy
      · exact key _ hy (.inl rfl)
      · exact key _ hy (.inr rfl)
    · have z : (scope.names.lookup y == some NameKind.cell) = true := z
      have z : scope.names.lookup y = some .cell := by simpa using z
      have e : cenv.cells.lookup y = some c := e
      rw [hcl] at e
      rcases cells_mem (PySem.mem_of_lookup e) with hm | ⟨_, h2, _⟩
      · rcases cloFrom_mem hm with hm | ⟨h1, _⟩
        · cases hm
        · have q := ok.uniq _ h1
          rw [z] at q; cases q
      · rw [Heap.size_push] at h2
        exact Nat.le_of_succ_le h2
    · show b ≠ cenv.locals
      rw [hL]; exact Nat.ne_of_lt (hfp b hb).2
    · have e : cenv.cells.lookup y = some c := e
      rcases mem e with ⟨h1, _⟩ | ⟨h1, _⟩
      · exact (hfp b hb).1.2.2.2.2.1 y c h1 z
      · have h2 : s.heap.objs.size + 1 ≤ b := by rw [← z]; exact h1
        exact absurd (Nat.lt_of_lt_of_le (hfp b hb).2 (Nat.le_of_succ_le h2)) (Nat.lt_irrefl _)
    · rcases (hfp b hb).1.2.2.2.1 with z | z
      · exact I.ok.noex b o e z
      · exact absurd (Nat.lt_of_lt_of_le (Heap.lt_size e) (Nat.le_trans I.ok.bsz z)) (Nat.lt_irrefl _)
    · rcases List.mem_cons.mp (I.stkSub b z) with z | z
      · exact (hfp b hb).1.2.1 z
      · exact (hfp b hb).1.2.2.1 z
  refine ⟨okB, rfl, I.bare, Un.kept kp, ⟨fun _ => none, ?_, fun i y av e1 e2 e3 => ?_⟩, fun y c e => ?_, ?_, fun y c e => ?_, fun p hp => ?_, I.hok.kept kp, by rw [wipe_length]; exact I.len⟩
  · show Heap.Ns _ cenv.locals _
    rw [hL]
    exact Heap.Ns.keeps (Heap.Ns.new ..) fun b o e => pushCells_keeps _ _ _ _ e
  · obtain ⟨e2, hne⟩ := wipe_some e2
    have hfr : scope.names.lookup y = some .free ∧ (cenv.kindOf y = some .cell ∨ cenv.kindOf y = some .free) := by
      have key : ∀ k, cenv.scope.names.lookup y = some k → k = .local ∨ k = .cell ∨ k = .free → scope.names.lookup y = some .free ∧ (cenv.kindOf y = some .cell ∨ cenv.kindOf y = some .free) := fun k hk hk' => by
        have hk0 := hk
        rw [hsc] at hk
        obtain ⟨k', e, r⟩ := lookup_relS hk
        have no : ¬ (k' = .local ∨ k' = .cell) := fun hh => by
          rcases ok.own _ (PySem.mem_of_lookup e) hh with e' | e'
          · obtain ⟨p, hp, hpy⟩ := List.mem_map.mp e'
            have e3 := ok.ix p hp
            have : p.1 = y := hpy
            rw [this] at e3
            exact hne (List.mem_map.mpr ⟨p, hp, nodup_ix hN e3 e1⟩)
          · exact e' (List.mem_of_getElem? e1)
        rcases r with rfl | ⟨rfl, rfl⟩
        · rcases hk' with rfl | rfl | rfl
          · exact absurd (.inl rfl) no
          · exact absurd (.inr rfl) no
          · exact ⟨e, .inr hk0⟩
        · exact ⟨e, .inl hk0⟩
      have e3 : Vis cenv.scope y := e3
      rcases e3 with e3 | e3 | e3
      · exact key _ e3 (.inl rfl)
      · exact key _ e3 (.inr (.inl rfl))
      · exact key _ e3 (.inr (.inr rfl))
    obtain ⟨m, hn, hl⟩ := I.loc
    have hvis : Vis X.env.scope y := (ok.free _ (PySem.mem_of_lookup hfr.1) rfl).elim (fun k => .inr (.inl k)) (fun k => .inr (.inr k))
    obtain ⟨w, r, q⟩ := hl i y av e1 e2 hvis
    refine ⟨w, r, .inr ⟨hfr.2, ?_⟩⟩
    obtain ⟨c, h1, h2⟩ := look hfr.1
    rcases q with ⟨k, _⟩ | ⟨_, c', e', z⟩
    · have k : X.env.scope.names.lookup y = some .local := k
      rcases ok.free _ (PySem.mem_of_lookup hfr.1) rfl with k' | k' <;> rw [show X.env.scope.names.lookup y = _ from k'] at k <;> cases k
    · rw [h2] at e'; cases e'
      exact ⟨c, h1, z.keeps kp⟩
  · have e : cenv.cells.lookup y = some c := e
    rcases mem e with ⟨h1, _⟩ | ⟨_, z⟩
    · obtain ⟨w, z⟩ := I.cell y c h1
      exact ⟨w, z.keeps kp⟩
    · exact ⟨_, z⟩
  · show H cenv.locals = none
    rw [hL]; exact I.hok.fresh (Nat.le_refl _)
  · have e : cenv.cells.lookup y = some c := e
    rcases mem e with ⟨h1, _⟩ | ⟨h1, _⟩
    · exact I.freeC y c h1
    · exact I.hok.fresh (Nat.le_of_succ_le h1)
  · exact absurd (show p ∈ ([] : List (Addr × Obj)) ++ [] from hp) (by simp)
/- an item appended to a tracked list -/
theorem app_ok {E : Value → Shared → Prop} {D : Addr} {xs : List V} {y : V} {v : Value} {Q : Value → Shared → Prop} (I : Inv X pins σ H s) (hD : H D = some (.lst xs)) (hz : xs.length < sizeLine) (r : RelV y v)
    (h : ∀ s', Inv X pins σ (upd H D (.lst (xs ++ [y]))) s' → Q .none s') : wpAny (model X.prog X.w) X.A (call (.builtin "list.append") [.ref D, v]) Q E s := by
  obtain ⟨hz', its, n, ri, e⟩ := I.hok D _ hD
  have hl := ri.length
  refine append_at (hsz := by rw [List.size_toArray]; lia) e fun h' sb ho' => ?_
  refine h { s with heap := h' } (I.write (t' := s.toks) (by rw [hD]; trivial) (.inl rfl) (fun b u hb q => (sb.2 b hb).trans q) ⟨_, ho'⟩ ⟨by rw [List.length_append]; exact hz, its ++ [v], n + 1, ri.append (.cons r .nil), ?_⟩)
  rw [ho']
  simp
/- a clause's tests -/
noncomputable def PTs (X : Cx) (ifs : List Expr) (t : TT) : Prop :=
  ∀ (pins : List (Addr × Obj)) (s : Shared) (σ : St) (H : Hp) (Q : Bool → Hp → Prop), Inv X pins σ H s → t σ H Q →
    wpAny (model X.prog X.w) X.A (forIn ifs true fun c r => if r = true then do let ok ← isTrue c X.env (eval c X.env); pure (ForInStep.yield ok) else pure (ForInStep.yield r)) (TP X pins σ Q) X.xe s
noncomputable def tYes : TT := fun _ H Q => Q true H
theorem pts_nil : PTs X [] tYes := fun _ _ _ H _ I h => wpAny_tests_nil ⟨H, I, h⟩
theorem pts_one {c : Expr} {t : TT} (h : PT X c t) : PTs X [c] t := fun pins s σ H Q I hw => wpAny_tests_one (h pins s σ H Q I hw)
end
theorem thnF {α : Type} {t : Sem α} {Q Q' : α → Shared → Prop} {M : Model} {A : Around} {E : Value → Shared → Prop} {s : Shared} (h : wpAny M A t Q (fun _ _ => False) s) (hQ : ∀ a s, Q a s → Q' a s) : wpAny M A t Q' E s := wpAny_mono h hQ fun _ _ z => False.elim z
/- the loop of a list comprehension's block, the target of any form (codeAny_compLoop_tests asks a target that no tuple goes to; statement and proof follow it, PyProof/CompMap.lean:41-61, with the step letOwnedTupleGo kept) -/
theorem compLoop_any {prog : Program} {w : World} {A : Around} {R : Result → Shared → Prop} {s : Shared} {elt target iter : Expr} {ifs : List Expr} {scope : Scope} {pos : Pos} {it acc : Value} {env : Env} (I : Nat → Shared → Prop)
    (turn : ∀ n s, I n s → wpAny (model prog w) A (pyNext it) (fun r s₁ => match r with
      | none => R (.ok .next) s₁
      | some v => wpAny (model prog w) A (letOwnedTupleGo target it v) (fun _ s₁' => wpAny (model prog w) A (assign target env v) (fun _ s₂ =>
          wpAny (model prog w) A (forIn ifs true fun c r => if r = true then do let ok ← isTrue c env (eval c env); pure (ForInStep.yield ok) else pure (ForInStep.yield r)) (fun ok s₃ =>
            if ok = true then wpAny (model prog w) A (eval elt env) (fun x s₄ =>
              wpAny (model prog w) A (call (.builtin "list.append") [acc, x]) (fun _ s₅ => ∃ m, m < n ∧ I m s₅) (notedBy (model prog w) A env fun e s' => R (.error e) s') s₄) (notedBy (model prog w) A env fun e s' => R (.error e) s') s₃
            else ∃ m, m < n ∧ I m s₃) (notedBy (model prog w) A env fun e s' => R (.error e) s') s₂) (notedBy (model prog w) A env fun e s' => R (.error e) s') s₁') (notedBy (model prog w) A env fun e s' => R (.error e) s') s₁) (notedBy (model prog w) A env fun e s' => R (.error e) s') s)
    (n : Nat) (h : I n s) :
    codeAny (model prog w) A (.compLoop (.ListComp elt [⟨target, iter, ifs, 0⟩] scope pos) 0 it acc env) R s := by
  refine codeAny_loop rfl I (fun n s hI => ?_) n h
  show wpAny _ A ((compTurn (.ListComp elt [⟨target, iter, ifs, 0⟩] scope pos) 0 it acc env).onRaise (fun x => do noteFrame x env; theTreesLotGoes x)) _ _ s
  refine wpAny_noted ?_
  rw [compTurn_list]
  refine wpAny_bind (wpAny_standAt (wpAny_bind (wpAny_mono (turn n s hI) (fun r s₁ h₁ => ?_) fun _ _ h' => h')))
  cases r with
  | none => exact wpAny_pure h₁
  | some v =>
    refine wpAny_bind (wpAny_mono h₁ (fun _ s₁' h₁' => ?_) fun _ _ h' => h')
    refine wpAny_bind (wpAny_mono h₁' (fun _ s₂ h₂ => wpAny_bind (wpAny_mono h₂ (fun ok s₃ h₃ => ?_) fun _ _ h' => h')) fun _ _ h' => h')
    cases ok with
    | false => exact wpAny_pure ⟨rfl, h₃⟩
    | true =>
      exact wpAny_bind (wpAny_bind (wpAny_mono h₃ (fun x s₄ h₄ => wpAny_bind (wpAny_mono h₄ (fun _ s₅ h₅ => wpAny_pure (wpAny_pure ⟨rfl, h₅⟩)) fun _ _ h' => h')) fun _ _ h' => h'))
section
variable {X : Cx}
/- [elt for target in iter if ..]: D the new list; W by the turn and a measure, Nx what a turn is to reach -/
noncomputable def tLc (wi : TI) (g : TG) (tt : TT) (te : TE) (vs : List Nat) : TE := fun σ H Q => wi σ H fun J H1 => ∀ D, H1 D = none → ∃ W : Nat → Nat → Hp → Prop, (∃ m, W 0 m (upd H1 D (.lst []))) ∧ ∀ i m H, W i m H →
  (J.stop i H ∧ Q (.ref D) H) ∨ (J.go i H ∧ ∃ Nx : Hp → Prop, (∀ H', Nx H' → ∃ m', m' < m ∧ W (i + 1) m' H') ∧ ∀ x H', J.yld i H x H' → g x (wipe σ vs) H' fun σ2 H2 => wipe σ2 vs = wipe σ vs ∧ tt σ2 H2 fun b H3 =>
    if b = true then te σ2 H3 fun y H4 => ∃ acc, H4 D = some (.lst acc) ∧ acc.length < sizeLine ∧ Nx (upd H4 D (.lst (acc ++ [y]))) else Nx H3)
theorem lc_core {pins : List (Addr × Obj)} {s : Shared} {σ : St} {H : Hp} {Q : VK} {elt tg iter : Expr} {ifs : List Expr} {scope : Scope} {own : List (Str × Nat)} {pos pos' : Pos} {wi : TI} {g : TG} {tt : TT} {te : TE} {use : Option (Value → Sem Unit)} {Qf : Value → Shared → Prop}
    (hc : X.calm = true) (hN : X.N.Nodup) (I : Inv X pins σ H s) (hi : PI X tg iter wi) (ok : BlkOk X.N X.env.scope scope own)
    (hg : ∀ (s : Shared) (H : Hp) (C : Addr) (cl : List (Str × Addr)) (fp : List Addr), PG (X.blk s H scope (compEnvC scope cl C X.env) fp) tg g) (ht : ∀ (s : Shared) (H : Hp) (C : Addr) (cl : List (Str × Addr)) (fp : List Addr), PTs (X.blk s H scope (compEnvC scope cl C X.env) fp) ifs tt)
    (he : ∀ (s : Shared) (H : Hp) (C : Addr) (cl : List (Str × Addr)) (fp : List Addr), PE (X.blk s H scope (compEnvC scope cl C X.env) fp) elt te) (hs : ∀ x, foldedSetIterable iter X.env x = pure x)
    (h : tLc wi g tt te (own.map (·.2)) σ H Q)
    (hRR : ∀ D C s' m H', Inv X pins σ H' s' → Q (.ref D) H' → s'.heap.Ns C m → FpOk X pins H' C → compPost (model X.prog X.w) X.A X.xe use Qf (.ref D) C (.ok .next) s') :
    wpAny (model X.prog X.w) X.A (comprehension (.ListComp elt [⟨tg, iter, ifs, 0⟩] scope pos) scope X.env pos' (newList []) false (eval iter X.env) use) Qf X.xe s := by
  have hfree : ∀ y ∈ scope.names, y.2 = .free → ∃ c, X.env.cells.lookup y.1 = some c := fun y hy e => by
    rcases ok.free y hy e with k | k
    · exact I.ok.has _ (.inl k)
    · exact I.ok.has _ (.inr k)
  refine wpAny_comprehension_free (use := use) rfl hs (closure_ok hfree) ok.kind (fun y hy e => by rw [ok.uniq y hy, e])
    (thn (hi pins s σ H _ I h) fun xv s1 hx => thn hx fun itv s2 h2 => ?_)
  obtain ⟨it, fp, tn, J, H2, e, I2, T, st2, f2, q⟩ := h2
  subst e
  refine wpAny_newObj_type (newEnv_comp ?_) (by show 0 ≤ sizeLine; decide)
  generalize hD : s2.heap.objs.size = D
  have hDn : H2 D = none := I2.hok.fresh (Nat.le_of_eq hD)
  obtain ⟨W, ⟨m0, w0⟩, turn⟩ := q D hDn
  -- the new list
  generalize hs3 : ({ s2 with heap := s2.heap.push { cls := .type "list", data := .seq ([] : List Value).toArray } } : Shared) = s3
  have I3 : Inv X pins σ (upd H2 D (.lst [])) s3 := by
    rw [← hs3]
    refine I2.laid (t' := s2.toks) (fun b o e => Heap.get?_push_of_some _ e) (Nat.le_of_eq hD) ⟨Nat.zero_le _, [], 0, .nil, ?_⟩
    rw [← hD]
    exact Heap.get?_push_size _ rfl
  have h3 : s3.heap = s2.heap.push { cls := .type "list", data := .seq ([] : List Value).toArray } := by rw [← hs3]
  have sz : ∀ b ∈ fp, b < s2.heap.objs.size := fun b hb => by
    obtain ⟨o, e, _⟩ := T.obj _ _ st2 b hb
    exact Heap.lt_size e
  have f3 : ∀ b ∈ fp, FpOk X pins (upd H2 D (.lst [])) b ∧ b < s3.heap.objs.size := fun b hb => by
    have hlt := sz b hb
    refine ⟨⟨?_, (f2 b hb).2⟩, by rw [h3, Heap.size_push]; exact Nat.lt_succ_of_lt hlt⟩
    rw [upd_ne (by rw [← hD]; exact Nat.ne_of_lt hlt)]
    exact (f2 b hb).1
  have st3 : tn 0 s3.heap := T.keep _ _ _ st2 fun b _ o e => by rw [h3]; exact Heap.get?_push_of_some _ e
  have I4 := block_start I3 ok hN f3
  have pg := hg s3 (upd H2 D (.lst [])) s3.heap.objs.size (cellsFrom (s3.heap.objs.size + 1) scope.names (cloFrom X.env.cells scope.names [])) fp
  have pt := ht s3 (upd H2 D (.lst [])) s3.heap.objs.size (cellsFrom (s3.heap.objs.size + 1) scope.names (cloFrom X.env.cells scope.names [])) fp
  have pe := he s3 (upd H2 D (.lst [])) s3.heap.objs.size (cellsFrom (s3.heap.objs.size + 1) scope.names (cloFrom X.env.cells scope.names [])) fp
  show codeAny _ _ (.compStart (.ListComp elt [⟨tg, iter, ifs, 0⟩] scope pos) 0 (.ref it) (.ref D) (compEnvC scope (cellsFrom (s3.heap.objs.size + 1) scope.names (cloFrom X.env.cells scope.names [])) s3.heap.objs.size X.env)) (compPost (model X.prog X.w) X.A X.xe use Qf (.ref D) s3.heap.objs.size) { s3 with heap := pushCells (s3.heap.push { cls := .type "dict", data := .dict #[] }) scope.names }
  have nfp : ∀ b ∈ fp, (upd H2 D (.lst [])) b = none := fun b hb => (f3 b hb).1.1
  generalize hce : compEnvC scope (cellsFrom (s3.heap.objs.size + 1) scope.names (cloFrom X.env.cells scope.names [])) s3.heap.objs.size X.env = ce at I4 pg pt pe ⊢
  have cL : ce.locals = s3.heap.objs.size := by subst hce; rfl
  generalize hH3 : upd H2 D (.lst []) = H3 at I3 I4 pg pt pe w0 nfp f3
  generalize hs4 : ({ s3 with heap := pushCells (s3.heap.push { cls := .type "dict", data := .dict #[] }) scope.names } : Shared) = s4 at I4 ⊢
  have st4 : tn 0 s4.heap := T.keep _ _ _ st3 fun b _ o e => by rw [← hs4]; exact pushCells_keeps _ _ _ _ (Heap.get?_push_of_some _ e)
  have stat : ∀ {σ' : St} {H' : Hp} {s' : Shared}, Inv (X.blk s3 H3 scope ce fp) [] σ' H' s' → (∀ b ∈ fp, H' b = none) → ∀ b ∈ fp, FpOk (X.blk s3 H3 scope ce fp) [] H' b := fun {σ' H' s'} I' hn b hb =>
    ⟨hn b hb, (I'.ok.exf b hb).1, I'.ok.exfs b hb, .inl hb, fun x c e => (I'.ok.exf b hb).2 x c e, fun p hp => absurd (show p ∈ ([] : List (Addr × Obj)) ++ [] from hp) (by simp)⟩
  have loop : codeAny (model X.prog X.w) X.A (.compLoop (.ListComp elt [⟨tg, iter, ifs, 0⟩] scope pos) 0 (.ref it) (.ref D) ce) (compPost (model X.prog X.w) X.A X.xe use Qf (.ref D) s3.heap.objs.size) s4 := by
    refine compLoop_any (fun n s' => ∃ i H', Inv (X.blk s3 H3 scope ce fp) [] (wipe σ (own.map (·.2))) H' s' ∧ tn i s'.heap ∧ (∀ b ∈ fp, H' b = none) ∧ W i n H') ?_ m0 ⟨0, H3, I4, st4, nfp, w0⟩
    rintro n s5 ⟨i, H5, I5, st5, n5, w5⟩
    rcases turn i n H5 w5 with ⟨stop, qq⟩ | ⟨go, Nx, hNx, step⟩
    · have td := T.done (X.blk s3 H3 scope ce fp) rfl rfl rfl hc i [] s5 _ H5 (fun _ _ => False) I5 (stat I5 n5) st5 stop
      refine thnF td fun r s6 zq => ?_
      obtain ⟨hr, I6⟩ := zq
      subst hr
      -- back in the def's context
      have I7 : Inv X pins σ H5 s6 := I3.call' (ch := fp) I6.os I6.base I6.hok I6.bare fun b hb => ⟨(f3 b hb).1.2.2.2.1, (f3 b hb).1.2.1, (f3 b hb).1.2.2.2.2.1, (f3 b hb).1.2.2.2.2.2⟩
      have nC : H5 s3.heap.objs.size = none := by
        have z : H5 ce.locals = none := I6.free
        rw [cL] at z
        exact z
      obtain ⟨m, hn, _⟩ := I6.loc
      have hn : s6.heap.Ns ce.locals m := hn
      rw [cL] at hn
      exact hRR D s3.heap.objs.size s6 m H5 I7 qq hn (I3.fpOk (Nat.le_refl _) nC)
    · have ti := T.item (X.blk s3 H3 scope ce fp) rfl rfl rfl hc i [] s5 _ H5 (fun _ _ => False) I5 (stat I5 n5) st5 go
      refine thnF ti fun r s6 zq => ?_
      obtain ⟨u, hr, h6⟩ := zq
      subst hr
      refine thnF h6 fun _ s7 zq => ?_
      obtain ⟨x, H7, I7, r7, y7, st7, n7⟩ := zq
      have I7' := I7.pinned (stat I7 n7) (T.obj _ _ st7)
      refine thnF (pg _ s7 _ H7 x u _ I7' r7 (step x H7 y7)) fun _ s8 zq => ?_
      obtain ⟨σ8, H8, I8, hw8, q8⟩ := zq
      refine thnF (pt _ s8 σ8 H8 _ I8 q8) fun b s9 zq => ?_
      obtain ⟨H9, I9, q9⟩ := zq
      -- the turn's end
      have fin : ∀ {s' : Shared} {H' : Hp}, Inv (X.blk s3 H3 scope ce fp) ([] ++ pinsAt fp s7.heap) σ8 H' s' → Nx H' → ∃ m, m < n ∧ ∃ i H', Inv (X.blk s3 H3 scope ce fp) [] (wipe σ (own.map (·.2))) H' s' ∧ tn i s'.heap ∧ (∀ b ∈ fp, H' b = none) ∧ W i m H' := fun {s' H'} I' nx => by
        obtain ⟨m', hm, w'⟩ := hNx H' nx
        have pin' : ∀ b ∈ fp, ∀ o, s7.heap.get? b = some o → s'.heap.get? b = some o ∧ H' b = none := fun b hb o e =>
          let z := I'.pin (b, o) (List.mem_append_right _ (List.mem_append_right _ (mem_pinsAt hb e)))
          ⟨z.1, z.2.1⟩
        have hl : (wipe σ (own.map (·.2))).length = σ8.length := by rw [← hw8, wipe_length]
        refine ⟨m', hm, i + 1, H', (I'.unpinned (pins := [])).weak hl (fun j v e => ?_), T.keep _ _ _ st7 fun b hb o e => (pin' b hb o e).1, fun b hb => ?_, w'⟩
        · rw [← hw8] at e
          exact (wipe_some e).1
        · obtain ⟨o, e, _⟩ := T.obj _ _ st7 b hb
          exact (pin' b hb o e).2
      cases b with
      | false =>
        simp only [Bool.false_eq_true, if_false] at q9 ⊢
        exact fin I9 q9
      | true =>
        simp only [if_true] at q9 ⊢
        refine thnF (pe _ s9 σ8 H9 _ I9 q9) fun z s10 zq => ?_
        obtain ⟨yv, H10, I10, r10, acc, hD10, hz10, nx⟩ := zq
        exact app_ok (X := X.blk s3 H3 scope ce fp) I10 hD10 hz10 r10 fun s11 I11 => fin I11 nx
  exact codeAny_compStart_list loop (T.self X.A 0 _ _ _ st4 loop)
/- as a value -/
theorem pe_lc {elt tg iter : Expr} {ifs : List Expr} {scope : Scope} {own : List (Str × Nat)} {pos : Pos} {wi : TI} {g : TG} {tt : TT} {te : TE} (hc : X.calm = true) (hN : X.N.Nodup) (hi : PI X tg iter wi) (ok : BlkOk X.N X.env.scope scope own)
    (hg : ∀ (s : Shared) (H : Hp) (C : Addr) (cl : List (Str × Addr)) (fp : List Addr), PG (X.blk s H scope (compEnvC scope cl C X.env) fp) tg g) (ht : ∀ (s : Shared) (H : Hp) (C : Addr) (cl : List (Str × Addr)) (fp : List Addr), PTs (X.blk s H scope (compEnvC scope cl C X.env) fp) ifs tt)
    (he : ∀ (s : Shared) (H : Hp) (C : Addr) (cl : List (Str × Addr)) (fp : List Addr), PE (X.blk s H scope (compEnvC scope cl C X.env) fp) elt te) (hs : ∀ x, foldedSetIterable iter X.env x = pure x := by intro _; rfl) :
    PE X (.ListComp elt [⟨tg, iter, ifs, 0⟩] scope pos) (tLc wi g tt te (own.map (·.2))) := by
  intro pins s σ H Q I h
  rw [eval_ListComp]
  refine lc_core hc hN I hi ok hg ht he hs h fun D C s' m H' I' q hn f => ⟨m, hn, fun h'' sb => ?_⟩
  obtain ⟨f0, f1, f2, f3, f4, f5⟩ := f
  exact ⟨.ref D, H', I'.turned (t' := s'.toks) (fun b o hb e => (sb.2 b hb).trans e) f0 f1 f3 f4 f5, rfl, q⟩
/- name = [..] on one line, the name a local -/
theorem ps_setLc {i : Nat} {y : Str} {py : Pos} {elt tg iter : Expr} {ifs : List Expr} {scope : Scope} {own : List (Str × Nat)} {pos spos : Pos} {wi : TI} {g : TG} {tt : TT} {te : TE} (hc : X.calm = true) (hN : X.N.Nodup) (hy : X.N[i]? = some y) (hyl : X.env.scope.names.lookup y = some .local)
    (hsw : swapsWith (.ListComp elt [⟨tg, iter, ifs, 0⟩] scope pos) (some (.Name y py)) spos.line X.env = pure true) (hi : PI X tg iter wi) (ok : BlkOk X.N X.env.scope scope own)
    (hg : ∀ (s : Shared) (H : Hp) (C : Addr) (cl : List (Str × Addr)) (fp : List Addr), PG (X.blk s H scope (compEnvC scope cl C X.env) fp) tg g) (ht : ∀ (s : Shared) (H : Hp) (C : Addr) (cl : List (Str × Addr)) (fp : List Addr), PTs (X.blk s H scope (compEnvC scope cl C X.env) fp) ifs tt)
    (he : ∀ (s : Shared) (H : Hp) (C : Addr) (cl : List (Str × Addr)) (fp : List Addr), PE (X.blk s H scope (compEnvC scope cl C X.env) fp) elt te) (hs : ∀ x, foldedSetIterable iter X.env x = pure x := by intro _; rfl) :
    PS X (.Assign [.Name y py] (.ListComp elt [⟨tg, iter, ifs, 0⟩] scope pos) spos) (tAsg (tLc wi g tt te (own.map (·.2))) (gName i)) := by
  intro pins s σ H D I h
  rw [exec_Assign_Name_used _ _ _ _ hsw]
  refine wpAny_bind (wpAny_standAt (wpAny_bind ?_))
  show wpAny _ X.A (do let _ ← comprehension (.ListComp elt [⟨tg, iter, ifs, 0⟩] scope pos) scope X.env (firstIterPos [⟨tg, iter, ifs, 0⟩] pos) (newList []) false (eval iter X.env) (some (assign (.Name y py) X.env))) _ _ s
  have h : tLc wi g tt te (own.map (·.2)) σ H (fun x H1 => gName i x σ H1 D.nx) := h
  refine wpAny_bind (thn (lc_core (Qf := fun _ s' => SP X pins D .next s') hc hN I hi ok hg ht he hs h fun L C s' m H' I' q hn f => ?_) fun _ s' hq => wpAny_pure (wpAny_pure hq))
  show wpAny _ _ (assign (.Name y py) X.env (.ref L)) _ _ _
  refine wpAny_assign_Name (store_ok2 (v := V.ref L) I' hN hy (.inl hyl) rfl (fun s2 I2 zq => ?_) (.inr hyl))
  obtain ⟨a, sb, ha⟩ := zq
  obtain ⟨f0, f1, f2, f3, f4, f5⟩ := f
  have haC : C ≠ a := by
    rcases ha with z | z
    · rw [z]; exact f1
    · exact fun e => f4 y a z e.symm
  refine ⟨m, hn.sameBut sb haC, fun h3 sb3 => ?_⟩
  exact ⟨_, H', I2.turned (t' := s2.toks) (fun b o hb e => (sb3.2 b hb).trans e) f0 f1 f3 f4 f5, q⟩
theorem sw_true {elt : Expr} {gs : List Comprehension} {scope : Scope} {pos py : Pos} {y : Str} {l : Nat} {env : Env} (hk : env.scope.kind = .function) (hy : env.scope.names.lookup y = some .local) (hl : (py.line == pos.line) = true)
    (ha : (scope.names.any fun (n, k) => n == y && (k == .local || k == .cell)) = false) : swapsWith (.ListComp elt gs scope pos) (some (.Name y py)) l env = pure true := by
  have ky : env.kindOf y = some .local := hy
  have hb : env.blockKind = .function := by unfold Env.blockKind; rw [hk]; rfl
  have hp : (Expr.ListComp elt gs scope pos).pos = pos := rfl
  unfold swapsWith
  simp only [hb, ky, ha, hp, hl]
  rfl
end
/- ### the forms one uses -/
/- over a range: Pv by the turn and the heap (the new list at D within) -/
theorem lc_range {lo : Int} {n : Nat} {g : TG} {tt : TT} {te : TE} {vs : List Nat} {σ : St} {H1 : Hp} {D : Addr} {Qd : Hp → Prop} (Pv : Nat → Hp → Prop) (h0 : Pv 0 (upd H1 D (.lst [])))
    (hs : ∀ i H, i < n → Pv i H → g (.int (lo + i)) (wipe σ vs) H fun σ2 H2 => wipe σ2 vs = wipe σ vs ∧ tt σ2 H2 fun b H3 =>
      if b = true then te σ2 H3 fun y H4 => ∃ acc, H4 D = some (.lst acc) ∧ acc.length < sizeLine ∧ Pv (i + 1) (upd H4 D (.lst (acc ++ [y]))) else Pv (i + 1) H3) (hd : ∀ H, Pv n H → Qd H) :
    ∃ W : Nat → Nat → Hp → Prop, (∃ m, W 0 m (upd H1 D (.lst []))) ∧ ∀ i m H, W i m H →
      ((Itr lo n).stop i H ∧ Qd H) ∨ ((Itr lo n).go i H ∧ ∃ Nx : Hp → Prop, (∀ H', Nx H' → ∃ m', m' < m ∧ W (i + 1) m' H') ∧ ∀ x H', (Itr lo n).yld i H x H' → g x (wipe σ vs) H' fun σ2 H2 => wipe σ2 vs = wipe σ vs ∧ tt σ2 H2 fun b H3 =>
        if b = true then te σ2 H3 fun y H4 => ∃ acc, H4 D = some (.lst acc) ∧ acc.length < sizeLine ∧ Nx (upd H4 D (.lst (acc ++ [y]))) else Nx H3) := by
  refine ⟨fun i m H => m = n - i ∧ i ≤ n ∧ Pv i H, ⟨n, by simp, Nat.zero_le _, h0⟩, ?_⟩
  rintro i m H ⟨rfl, hi, p⟩
  by_cases hlt : i < n
  · refine .inr ⟨hlt, Pv (i + 1), fun H' p' => ⟨n - (i + 1), by lia, rfl, hlt, p'⟩, fun x H' y => ?_⟩
    obtain ⟨e, y⟩ := y
    subst e y
    exact hs i _ hlt p
  · have e : i = n := by lia
    subst e
    exact .inl ⟨Nat.le_refl _, hd H p⟩
/- over a list that the block leaves as it is -/
theorem lc_list {K : PySem.W.Frag} {a : Addr} {xs : List V} {g : TG} {tt : TT} {te : TE} {vs : List Nat} {σ : St} {H1 : Hp} {D : Addr} {Qd : Hp → Prop} (Pv : Nat → Hp → Prop) (h0 : Pv 0 (upd H1 D (.lst []))) (hl : ∀ i H, i ≤ xs.length → Pv i H → SqL K H a xs)
    (hs : ∀ i x H, xs[i]? = some x → Pv i H → g x (wipe σ vs) H fun σ2 H2 => wipe σ2 vs = wipe σ vs ∧ tt σ2 H2 fun b H3 =>
      if b = true then te σ2 H3 fun y H4 => ∃ acc, H4 D = some (.lst acc) ∧ acc.length < sizeLine ∧ Pv (i + 1) (upd H4 D (.lst (acc ++ [y]))) else Pv (i + 1) H3) (hd : ∀ H, Pv xs.length H → Qd H) :
    ∃ W : Nat → Nat → Hp → Prop, (∃ m, W 0 m (upd H1 D (.lst []))) ∧ ∀ i m H, W i m H →
      ((Itl K a).stop i H ∧ Qd H) ∨ ((Itl K a).go i H ∧ ∃ Nx : Hp → Prop, (∀ H', Nx H' → ∃ m', m' < m ∧ W (i + 1) m' H') ∧ ∀ x H', (Itl K a).yld i H x H' → g x (wipe σ vs) H' fun σ2 H2 => wipe σ2 vs = wipe σ vs ∧ tt σ2 H2 fun b H3 =>
        if b = true then te σ2 H3 fun y H4 => ∃ acc, H4 D = some (.lst acc) ∧ acc.length < sizeLine ∧ Nx (upd H4 D (.lst (acc ++ [y]))) else Nx H3) := by
  refine ⟨fun i m H => m = xs.length - i ∧ i ≤ xs.length ∧ Pv i H, ⟨xs.length, by simp, Nat.zero_le _, h0⟩, ?_⟩
  rintro i m H ⟨rfl, hi, p⟩
  have q := hl i H hi p
  by_cases hlt : i < xs.length
  · refine .inr ⟨⟨xs, xs[i], q, by simp [hlt]⟩, Pv (i + 1), fun H' p' => ⟨xs.length - (i + 1), by lia, rfl, hlt, p'⟩, fun x H' y => ?_⟩
    obtain ⟨e, y⟩ := y
    subst e
    exact hs i x _ (y xs q) p
  · have e : i = xs.length := by lia
    subst e
    exact .inl ⟨⟨xs, q, Nat.le_refl _⟩, hd H p⟩
noncomputable def blkC (N : List Str) (sc scope : Scope) (own : List (Str × Nat)) : Bool :=
  (match scope.kind with | .function => true | _ => false) && (scope.names.all fun y => decide (scope.names.lookup y.1 = some y.2)) && (own.all fun p => decide (N[p.2]? = some p.1)) &&
    (scope.names.all fun y => match y.2 with
      | .free => (match sc.names.lookup y.1 with | some .cell => true | some .free => true | _ => false)
      | .local => decide (y.1 ∈ own.map (·.1)) || decide (y.1 ∉ N)
      | .cell => decide (y.1 ∈ own.map (·.1)) || decide (y.1 ∉ N)
      | _ => true)
theorem blkOk_by {N : List Str} {sc scope : Scope} {own : List (Str × Nat)} (h : blkC N sc scope own = true) : BlkOk N sc scope own := by
  unfold blkC at h
  simp only [Bool.and_eq_true, List.all_eq_true, decide_eq_true_eq] at h
  obtain ⟨⟨⟨h1, h2⟩, h3⟩, h4⟩ := h
  refine ⟨?_, h2, h3, fun y hy e => ?_, fun y hy e => ?_⟩
  · split at h1
    · assumption
    · cases h1
  · have q := h4 y hy
    simp only [e] at q
    split at q <;> first | exact .inl (by assumption) | exact .inr (by assumption) | cases q
  · have q := h4 y hy
    rcases e with e | e <;> (simp only [e, Bool.or_eq_true, decide_eq_true_eq] at q; exact q)
end L2
namespace L2
open PySem PySem.Spec PyProof.Rows
section
variable {prog : Program} {w : World} {A : Around} {R : Result → Shared → Prop} {s : Shared} {elt t0 i0 t1 i1 : Expr} {ifs0 ifs1 : List Expr} {scope : Scope} {pos : Pos} {it acc : Value} {env : Env}
end
section
variable {X : Cx}
end
end L2
namespace L2
open PySem PySem.Spec PyProof.Rows
/- ### lists of pairs as tables -/
section
variable {κ : Type} [DecidableEq κ]
noncomputable def valV (kvs : List (κ × V)) (k : κ) : Option V := (kvs.find? fun kv => decide (kv.1 = k)).map (·.2)
/- in its place, or at the end -/
noncomputable def putK (kvs : List (κ × V)) (k : κ) (v : V) : List (κ × V) :=
  if (kvs.any fun kv => decide (kv.1 = k)) = true then kvs.map (fun kv => if kv.1 = k then (kv.1, v) else kv) else kvs ++ [(k, v)]
theorem valV_pos {p : κ × V} {r : List (κ × V)} {k : κ} (e : p.1 = k) : valV (p :: r) k = some p.2 := by simp [valV, List.find?_cons, e]
theorem valV_neg {p : κ × V} {r : List (κ × V)} {k : κ} (e : ¬ p.1 = k) : valV (p :: r) k = valV r k := by simp [valV, List.find?_cons, e]
theorem valV_any (k : κ) : ∀ kvs : List (κ × V), (kvs.any fun kv => decide (kv.1 = k)) = (valV kvs k).isSome
  | [] => rfl
  | p :: r => by
    rw [List.any_cons]
    by_cases e : p.1 = k
    · simp only [valV_pos e, decide_eq_true e, Bool.true_or, Option.isSome_some]
    · rw [valV_neg e, decide_eq_false e, Bool.false_or]; exact valV_any k r
theorem length_putK (kvs : List (κ × V)) (k : κ) (v : V) : (putK kvs k v).length ≤ kvs.length + 1 := by
  unfold putK
  split
  · rw [List.length_map]; lia
  · rw [List.length_append, List.length_cons, List.length_nil]; lia
theorem putK_new {kvs : List (κ × V)} {k : κ} (v : V) (h : valV kvs k = none) : putK kvs k v = kvs ++ [(k, v)] := by
  unfold putK
  rw [valV_any, h]
  exact if_neg (by decide)
theorem RelO.isSome_eq {o : Option V} {u : Option Value} (r : RelO o u) : o.isSome = u.isSome := by
  cases o with
  | none => cases u with
    | none => rfl
    | some _ => exact (show False from r).elim
  | some _ => cases u with
    | none => exact (show False from r).elim
    | some _ => rfl
/- raw tables of the same keys -/
theorem KV.val {kvs : List (κ × V)} {vs : List (κ × Value)} (r : KV kvs vs) (k : κ) : RelO (valV kvs k) (valueAt vs k) := by
  unfold KV at r
  induction r with
  | nil => exact True.intro
  | @cons p q ps qs h t ih =>
    obtain ⟨h1, h2⟩ := h
    by_cases e : p.1 = k
    · have e' : q.1 = k := h1.symm.trans e
      have b : valueAt (q :: qs) k = some q.2 := by simp [valueAt, List.find?_cons, e']
      rw [valV_pos e, b]; exact h2
    · have e' : ¬ q.1 = k := fun z => e (h1.trans z)
      have b : valueAt (q :: qs) k = valueAt qs k := by simp [valueAt, List.find?_cons, e']
      rw [valV_neg e, b]; exact ih
theorem KV.any {kvs : List (κ × V)} {vs : List (κ × Value)} (r : KV kvs vs) (k : κ) : (kvs.any fun kv => decide (kv.1 = k)) = vs.any fun kv => decide (kv.1 = k) := by
  unfold KV at r
  induction r with
  | nil => rfl
  | cons h t ih => rw [List.any_cons, List.any_cons, ih, h.1]
theorem KV.repl {kvs : List (κ × V)} {vs : List (κ × Value)} (r : KV kvs vs) (k : κ) {y : V} {u : Value} (ry : RelV y u) :
    KV (kvs.map fun kv => if kv.1 = k then (kv.1, y) else kv) (vs.map fun kv => if kv.1 = k then (kv.1, u) else kv) := by
  unfold KV at r ⊢
  induction r with
  | nil => exact .nil
  | @cons p q ps qs h t ih =>
    rw [List.map_cons, List.map_cons]
    refine .cons ?_ ih
    obtain ⟨h1, h2⟩ := h
    by_cases e : p.1 = k
    · rw [if_pos e, if_pos (h1.symm.trans e)]; exact ⟨h1, ry⟩
    · rw [if_neg e, if_neg (fun z => e (h1.trans z))]; exact ⟨h1, h2⟩
theorem KV.put {kvs : List (κ × V)} {vs : List (κ × Value)} (r : KV kvs vs) (k : κ) {y : V} {u : Value} (ry : RelV y u) : KV (putK kvs k y) (stored vs k u) := by
  unfold putK stored
  rw [r.any k]
  by_cases e : (vs.any fun kv => decide (kv.1 = k)) = true
  · rw [if_pos e, if_pos e]; exact r.repl k ry
  · rw [if_neg e, if_neg e]; exact Paired.snoc r ⟨rfl, ry⟩
theorem KV.length {kvs : List (κ × V)} {vs : List (κ × Value)} (r : KV kvs vs) : kvs.length = vs.length := Paired.length r
end
/- ### a tracked dict, its keys ints and texts or tuples of these -/
theorem kV_is {P : Program} {w : World} {k : Key} {u : Value} (r : RelV (kV k) u) : (mixKind P w).is k u = true := by
  cases k with
  | inl i => obtain ⟨t, e⟩ := (show ∃ t, u = Value.int i t from r); subst e; exact mixKind_int P w i t
  | inr x => obtain ⟨t, e⟩ := (show ∃ t, u = Value.str x t from r); subst e; exact mixKind_str P w x t
theorem items_are {P : Program} {w : World} : ∀ {ks : List Key} {us : List Value}, Vals (ks.map kV) us → ItemsAre (mixKind P w) ks us
  | [], _, r => by rw [List.map_nil] at r; cases r; exact .nil
  | k :: ks, _, r => by
    rw [List.map_cons] at r
    cases r with
    | cons h t => exact .cons (kV_is h) (items_are t)
/- raw entries of a dict with tuple keys -/
noncomputable abbrev KT (H : Hp) : List (List Key × V) → List (List Key × Addr × Value) → Prop := Paired fun p q => p.1 = q.1 ∧ H q.2.1 = some (.tup (p.1.map kV)) ∧ RelV p.2 q.2.2
theorem KT.val {H : Hp} {kvs : List (List Key × V)} {xs : List (List Key × Addr × Value)} (r : KT H kvs xs) (k : List Key) : RelO (valV kvs k) ((atKey xs k).map (·.2)) := by
  induction r with
  | nil => exact True.intro
  | @cons p q ps qs h t ih =>
    obtain ⟨h1, _, h2⟩ := h
    by_cases e : p.1 = k
    · have e' : q.1 = k := h1.symm.trans e
      have b : atKey (q :: qs) k = some q.2 := by simp [atKey, List.find?_cons, e']
      rw [valV_pos e, b]; exact h2
    · have e' : ¬ q.1 = k := fun z => e (h1.trans z)
      have b : atKey (q :: qs) k = atKey qs k := by simp [atKey, List.find?_cons, e']
      rw [valV_neg e, b]; exact ih
theorem KT.repl {H : Hp} {kvs : List (List Key × V)} {xs : List (List Key × Addr × Value)} (r : KT H kvs xs) (k : List Key) {y : V} {u : Value} (ry : RelV y u) :
    KT H (kvs.map fun kv => if kv.1 = k then (kv.1, y) else kv) (xs.map (putAt k u)) := by
  induction r with
  | nil => exact .nil
  | @cons p q ps qs h t ih =>
    rw [List.map_cons, List.map_cons]
    refine .cons ?_ ih
    obtain ⟨h1, h2, h3⟩ := h
    unfold putAt
    by_cases e : p.1 = k
    · rw [if_pos e, if_pos (h1.symm.trans e)]; exact ⟨h1, h2, ry⟩
    · rw [if_neg e, if_neg (fun z => e (h1.trans z))]; exact ⟨h1, h2, h3⟩
theorem KT.put {H : Hp} {kvs : List (List Key × V)} {xs : List (List Key × Addr × Value)} (r : KT H kvs xs) (k : List Key) {b : Addr} {y : V} {u : Value} (hb : H b = some (.tup (k.map kV))) (ry : RelV y u) :
    KT H (putK kvs k y) (storedH xs k b u) := by
  have e : (kvs.any fun kv => decide (kv.1 = k)) = (atKey xs k).isSome := by
    rw [valV_any, (r.val k).isSome_eq, Option.isSome_map]
  unfold putK storedH
  rw [e]
  by_cases q : (atKey xs k).isSome = true
  · rw [if_pos q, if_pos q]; exact r.repl k ry
  · rw [if_neg q, if_neg q]; exact Paired.snoc r ⟨rfl, hb, ry⟩
theorem KT.keeps {H H' : Hp} {kvs : List (List Key × V)} {xs : List (List Key × Addr × Value)} (r : KT H kvs xs) (ht : ∀ b ys, H b = some (.tup ys) → H' b = some (.tup ys)) : KT H' kvs xs :=
  Paired.mapP r fun _ _ z => ⟨z.1, ht _ _ z.2.1, z.2.2⟩
section
variable {P : Program} {w : World} {H : Hp} {h : Heap} {a : Addr}
theorem rd_of {u : HO} (ok : HOk P w H h) (e : Rd H a u) : ObjOk P w H h a u := e.ok ok
theorem dk_rd {kvs : List (Key × V)} (ok : HOk P w H h) (e : Rd H a (.dK kvs)) : kvs.length ≤ sizeLine ∧ (a == sysModules) = false ∧ ∃ vs, KV kvs vs ∧ h.DictOf (mixKind P w) a vs :=
  show ObjOk P w H h a (.dK kvs) from rd_of ok e
theorem dk_of {kvs : List (Key × V)} (ok : HOk P w H h) (e : H a = some (.dK kvs)) : kvs.length ≤ sizeLine ∧ (a == sysModules) = false ∧ ∃ vs, KV kvs vs ∧ h.DictOf (mixKind P w) a vs := dk_rd ok (.inl e)
/- a tracked tuple of ints and texts is a key -/
theorem key_of {ks : List Key} (ok : HOk P w H h) (e : H a = some (.tup (ks.map kV))) : (tupleKind (mixKind P w)).is h ks a := by
  obtain ⟨_, its, r, o, h1, h2, n, h3⟩ := (show ObjOk P w H h a (.tup (ks.map kV)) from ok a _ e)
  exact ⟨o, its.toArray, n, h1, h2, h3, by simpa using items_are r⟩
theorem dt_rd {kvs : List (List Key × V)} (ok : HOk P w H h) (e : Rd H a (.dT kvs)) : kvs.length ≤ sizeLine ∧ (a == sysModules) = false ∧
    ∃ xs, KT H kvs xs ∧ h.DictOfH (tupleKind (mixKind P w)) a xs := by
  obtain ⟨z, y, xs, r, o, es, ep, h1, h2, h3, h4, h5⟩ := (show ObjOk P w H h a (.dT kvs) from rd_of ok e)
  refine ⟨z, y, xs, r, o, es, ep, h1, h2, h3, h4, fun x hx => ?_, h5⟩
  have all : ∀ {l : List (List Key × V)} {m : List (List Key × Addr × Value)}, KT H l m → ∀ x ∈ m, (tupleKind (mixKind P w)).is h x.1 x.2.1 := by
    intro l m q
    induction q with
    | nil => intro x hx; exact nomatch hx
    | @cons p q ps qs hq t ih =>
      intro x hx
      rcases List.mem_cons.mp hx with e | hx
      · subst e
        exact key_of ok (by rw [← hq.1]; exact hq.2.1)
      · exact ih x hx
  exact all r x hx
theorem dt_of {kvs : List (List Key × V)} (ok : HOk P w H h) (e : H a = some (.dT kvs)) : kvs.length ≤ sizeLine ∧ (a == sysModules) = false ∧
    ∃ xs, KT H kvs xs ∧ h.DictOfH (tupleKind (mixKind P w)) a xs := dt_rd ok (.inl e)
end
/- what the dict at a holds at the key y -/
noncomputable def DGet (H : Hp) (a : Addr) (y : V) (r : Option V) : Prop :=
  (∃ kvs k, Rd H a (.dK kvs) ∧ y = kV k ∧ r = valV kvs k) ∨ ∃ kvs k b, Rd H a (.dT kvs) ∧ y = .ref b ∧ H b = some (.tup (k.map kV)) ∧ r = valV kvs k
/- the heap behind a[y] = v -/
noncomputable def DPut (H : Hp) (a : Addr) (y v : V) (H' : Hp) : Prop :=
  (∃ kvs k, H a = some (.dK kvs) ∧ y = kV k ∧ kvs.length < sizeLine ∧ H' = upd H a (.dK (putK kvs k v))) ∨
  ∃ kvs k b, H a = some (.dT kvs) ∧ y = .ref b ∧ H b = some (.tup (k.map kV)) ∧ kvs.length < sizeLine ∧ H' = upd H a (.dT (putK kvs k v))
theorem DGet.k {H : Hp} {a : Addr} {kvs : List (Key × V)} {k : Key} (e : H a = some (.dK kvs)) : DGet H a (kV k) (valV kvs k) := .inl ⟨kvs, k, .inl e, rfl, rfl⟩
theorem DPut.k {H : Hp} {a : Addr} {kvs : List (Key × V)} {k : Key} {v : V} (e : H a = some (.dK kvs)) (hl : kvs.length < sizeLine) : DPut H a (kV k) v (upd H a (.dK (putK kvs k v))) := .inl ⟨kvs, k, e, rfl, hl, rfl⟩
section
variable {X : Cx} {pins : List (Addr × Obj)} {σ : St} {H : Hp} {s : Shared} {a : Addr} {y v : V} {u r : Value} {o : Option V} {A : Around} {E : Value → Shared → Prop}
theorem Inv.big (I : Inv X pins σ H s) : sysModules < s.heap.objs.size := by
  have h : mainGlobals < s.heap.objs.size := (I.mod.glob.keeps I.bk).lt
  exact Nat.lt_trans (by decide) h
theorem d_notIn {Q : Value → Shared → Prop} (hu : A.units + 1 < cLine) (I : Inv X pins σ H s) (g : DGet H a y o) (ry : RelV y u) (h : ∀ s', Inv X pins σ H s' → Q (.bool (!o.isSome)) s') :
    wpAny (model X.prog X.w) A (compareOp .NotIn u (.ref a)) Q E s := by
  rcases g with ⟨kvs, k, e, ey, l⟩ | ⟨kvs, k, b, e, ey, eb, l⟩
  · subst ey
    obtain ⟨z, hd, vs, rel, dd⟩ := dk_rd I.hok e
    refine wpAny_notIn_of (kV_is ry) hd dd.mapOf ?_
    rw [← (rel.val k).isSome_eq, ← l]
    exact h _ (I.tok _)
  · subst ey
    cases (show u = Value.ref b from ry)
    obtain ⟨z, hd, xs, rel, dd⟩ := dt_rd I.hok e
    refine wpAny_notIn_heap (tupleKind_room_in1 hu) (key_of I.hok eb) hd dd ?_
    have q := (rel.val k).isSome_eq
    rw [Option.isSome_map] at q
    rw [← q, ← l]
    exact h _ (I.tok _)
/- a dict's object is replaced -/
theorem d_write {h' : Heap} {t' : Nat} {ob : HO} (I : Inv X pins σ H s) (mu : Mut (H a)) (hs : Heap.SameBut a s.heap h') (he : ∃ q, h'.get? a = some q) (new : ObjOk X.prog X.w (upd H a ob) h' a ob) :
    Inv X pins σ (upd H a ob) { s with heap := h', toks := t' } :=
  I.write (x := a) (e := a) mu (.inl rfl) (fun b q hb z => (hs.2 b hb).trans z) he new
theorem dk_new {P : Program} {w : World} {H' : Hp} {h' : Heap} {kvs : List (Key × V)} {vs : List (Key × Value)} (z : kvs.length ≤ sizeLine) (hd : (a == sysModules) = false) (rel : KV kvs vs) (dd : h'.DictOf (mixKind P w) a vs) :
    ObjOk P w H' h' a (.dK kvs) := ⟨z, hd, vs, rel, dd⟩
/- d[y] = v -/
theorem d_setItem {H' : Hp} {Q : Unit → Shared → Prop} (hu : A.units + 1 < cLine) (I : Inv X pins σ H s) (g : DPut H a y v H') (ry : RelV y u) (rv : RelV v r) (h : ∀ s', Inv X pins σ H' s' → Q () s') :
    wpAny (model X.prog X.w) A (setItem (.ref a) u r) Q E s := by
  rcases g with ⟨kvs, k, e, ey, l, eH⟩ | ⟨kvs, k, b, e, ey, eb, l, eH⟩
  · subst ey eH
    obtain ⟨z, hd, vs, rel, dd⟩ := dk_of I.hok e
    have hz : vs.length ≤ sizeLine := by rw [← rel.length]; exact z
    have hl : (putK kvs k v).length ≤ sizeLine := by have := length_putK kvs k v; lia
    refine wpAny_setItem_pairs (hsz := hz) (kV_is ry) dd fun h' dd' hs => h _ ?_
    have he : ∃ q, h'.get? a = some q := let ⟨q, _, _, hq, _⟩ := dd'; ⟨q, hq⟩
    exact d_write I (by rw [e]; exact True.intro) hs he (dk_new hl hd (rel.put k rv) dd')
  · subst ey eH
    cases (show u = Value.ref b from ry)
    obtain ⟨z, hd, xs, rel, dd⟩ := dt_of I.hok e
    have hz : xs.length ≤ sizeLine := by rw [← Paired.length rel]; exact z
    have hl : (putK kvs k v).length ≤ sizeLine := by have := length_putK kvs k v; lia
    refine wpAny_setItem_heap (hsz := hz) (tupleKind_room_in1 hu) (key_of I.hok eb) dd fun h' dd' hs => h _ ?_
    obtain ⟨q, es, ep, hq, h2, h3, h4, _, h5⟩ := dd'
    refine d_write I (by rw [e]; exact True.intro) hs ⟨q, hq⟩ ⟨hl, hd, _, (rel.put k eb rv).keeps fun c ys ec => ?_, q, es, ep, hq, h2, h3, h4, h5⟩
    rw [upd_ne (ne_of ec e (fun z => nomatch z))]
    exact ec
end
section
variable {X : Cx} {pins : List (Addr × Obj)} {σ : St} {H : Hp} {s : Shared} {a : Addr} {kvs : List (Key × V)} {k : Key} {u : Value} {A : Around} {E : Value → Shared → Prop}
end
/- ### readings and rules -/
noncomputable def tDNotIn (ty td : TE) : TE := fun σ H Q => ty σ H fun y H1 => td σ H1 fun x H2 => ∃ a o, x = .ref a ∧ DGet H2 a y o ∧ Q (.bl (!o.isSome)) H2
/- d[y] = v -/
noncomputable def sDPut (td ty tv : TE) : TS := fun D σ H => tv σ H fun v H1 => td σ H1 fun x H2 => ty σ H2 fun y H3 => ∃ a H4, x = .ref a ∧ DPut H3 a y v H4 ∧ D.nx σ H4
section
variable {X : Cx} {o i e value : Expr} {pos pos' tpos : Pos} {td ty tv : TE}
theorem pc_dnotin (hu : X.A.units + 1 < cLine) (hi : PE X i ty) (ho : PE X o td) : PC X .NotIn i o (tDNotIn ty td) := by
  intro pins s σ H Q I h
  refine thn (hi pins s σ H _ I h) fun iv s1 ⟨y, H1, I1, ry, q1⟩ => thn (ho pins s1 σ H1 _ I1 q1) fun u s2 zq => ?_
  obtain ⟨x, H2, I2, rx, a, ov, ex, g, q2⟩ := zq
  subst ex
  obtain rfl : u = Value.ref a := rx
  exact d_notIn hu I2 g ry fun s3 I3 => ⟨.bl (!ov.isSome), H2, I3, rfl, q2⟩
theorem ps_dput (hu : X.A.units + 1 < cLine) (ho : PE X o td) (hi : PE X i ty) (hv : PE X value tv) (hs : swapsWith value (some (.Subscript o i pos')) pos.line X.env = pure false) :
    PS X (.Assign [.Subscript o i pos'] value pos) (sDPut td ty tv) := by
  intro pins s σ H D I h
  refine wpAny_Assign_Subscript (thn (hv pins s σ H _ I h) fun r s1 ⟨v, H1, I1, rv, q1⟩ => thn (ho pins s1 σ H1 _ I1 q1) fun u s2 ⟨x, H2, I2, rx, q2⟩ => thn (hi pins s2 σ H2 _ I2 q2) fun iv s3 zq => ?_) hs
  obtain ⟨y, H3, I3, ry, a, H4, ex, g, q3⟩ := zq
  subst ex
  obtain rfl : u = Value.ref a := rx
  exact d_setItem hu I3 g ry rv fun s4 I4 => ⟨σ, H4, I4, q3⟩
end
/- ### displays -/
theorem dk_empty {P : Program} {w : World} {H : Hp} (h : Heap) (hb : sysModules < h.objs.size) : ObjOk P w H (h.push { cls := .type "dict", data := .dict #[] }) h.objs.size (.dK []) :=
  ⟨Nat.zero_le _, beq_eq_false_iff_ne.mpr (Ne.symm (Nat.ne_of_lt hb)), [], .nil, Heap.DictOf.new h⟩
/- {}, to be a dict of the kind that is wanted -/
noncomputable def tDNewK : TE := fun _ H Q => ∀ p, H p = none → Q (.ref p) (upd H p (.dK []))
section
variable {X : Cx} {pos : Pos}
theorem pe_dnewK : PE X (.Dict [] [] pos) tDNewK := fun pins s σ H Q I h =>
  wpAny_Dict_empty ⟨.ref s.heap.objs.size, _, I.laid (a := s.heap.objs.size) (o := .dK []) (t' := s.toks) (fun _ _ q => Heap.get?_push_of_some _ q) (Nat.le_refl _) (dk_empty s.heap I.big), rfl, h _ (I.hok.fresh (Nat.le_refl _))⟩
end
/- ### methods -/
section
variable {X : Cx} {pins : List (Addr × Obj)} {σ : St} {H : Hp} {s : Shared} {a : Addr} {y d : V} {u r : Value} {o : Option V} {A : Around} {E : Value → Shared → Prop}
end
section
variable {X : Cx} {o e f : Expr} {apos cpos : Pos} {td ty tx : TE}
end
/- ### dict(d): a copy -/
section
variable {X : Cx} {pins : List (Addr × Obj)} {σ : St} {H : Hp} {s : Shared} {a : Addr} {kvs : List (Key × V)} {A : Around} {E : Value → Shared → Prop}
end
section
variable {X : Cx} {pins : List (Addr × Obj)} {σ : St} {H : Hp} {s : Shared} {a : Addr} {y : V} {u : Value} {A : Around} {E : Value → Shared → Prop}
end
end L2
namespace L2
open PySem PySem.Spec PyProof.Rows
section
variable {prog : Program} {w : World} {A : Around} {E : Value → Shared → Prop}
end
section
variable {X : Cx}
end
end L2
namespace L2
open PySem PySem.Spec PyProof.Rows
section
variable {X : Cx} {pins : List (Addr × Obj)} {σ : St} {H : Hp} {s : Shared} {h' : Heap}
/- several records of ours have turned -/
theorem Inv.turnedL {t' : Nat} {ch : List Addr} (I : Inv X pins σ H s) (k : ∀ b o, b ∉ ch → s.heap.get? b = some o → h'.get? b = some o) (hf : ∀ b ∈ ch, FpOk X pins H b) : Inv X pins σ H { s with heap := h', toks := t' } := by
  have nit : ∀ b u, H b = some u → b ∉ ch := fun b u e z => by
    have q := (hf b z).1
    rw [q] at e; cases e
  refine I.step (g' := s.gens) (d' := s.drawn) (ch := ch) (fun b hb => ⟨(hf b hb).2.2.2.1, (hf b hb).2.1, (hf b hb).2.2.2.2.1, (hf b hb).2.2.2.2.2⟩) (fun b o _ _ hc e _ => k b o hc e) (fun b o _ _ hc e _ => ⟨o.slots, k b o hc e⟩)
    (fun _ _ _ _ n => n) (fun b o hc e => ⟨o, k b o hc e⟩) (fun _ _ e => e) (fun _ _ _ e => e) (fun b ps e => ⟨#[], by rw [e]; simp⟩) (fun m hm => ?_) (fun b u e => ?_) I.bare
  · obtain ⟨o, es, ep, ho, r⟩ := hm
    exact ⟨o, es, ep, k _ o (fun z => (hf _ z).2.1 rfl) ho, r⟩
  · refine (I.hok b u e).stay (fun c v hc q => k c v ?_ q) (fun _ q => q) fun _ _ q => q
    rcases hc with z | z
    · rw [z]; exact nit b u e
    · exact nit c _ z
/- .. and one new object is laid -/
theorem Inv.turnedNew {t' : Nat} {ch : List Addr} {T : Addr} {ob : HO} (I : Inv X pins σ H s) (k : ∀ b o, b ∉ ch → s.heap.get? b = some o → h'.get? b = some o) (hf : ∀ b ∈ ch, FpOk X pins H b) (hT : s.heap.objs.size ≤ T)
    (new : ObjOk X.prog X.w (upd H T ob) h' T ob) : Inv X pins σ (upd H T ob) { s with heap := h', toks := t' } := by
  have hn : H T = none := I.hok.fresh hT
  have nit : ∀ b u, H b = some u → b ∉ ch := fun b u e z => by
    have q := (hf b z).1
    rw [q] at e; cases e
  refine I.step (g' := s.gens) (d' := s.drawn) (ch := ch) (fun b hb => ⟨(hf b hb).2.2.2.1, (hf b hb).2.1, (hf b hb).2.2.2.2.1, (hf b hb).2.2.2.2.2⟩) (fun b o _ _ hc e _ => k b o hc e) (fun b o _ _ hc e _ => ⟨o.slots, k b o hc e⟩)
    (fun b o _ e n => ?_) (fun b o hc e => ⟨o, k b o hc e⟩) (fun b xs e => ?_) (fun b o u e => ?_) (fun b ps e => ⟨#[], ?_⟩) (fun m hm => ?_) (fun b u e => ?_) I.bare
  · rw [upd_ne (Nat.ne_of_lt (Nat.lt_of_lt_of_le (Heap.lt_size e) hT))]; exact n
  · rw [upd_ne (ne_of_none e hn)]; exact e
  · rw [upd_ne (ne_of_none e hn)]; exact e
  · rw [upd_ne (ne_of_none e hn), e]; simp
  · obtain ⟨o, es, ep, ho, r⟩ := hm
    exact ⟨o, es, ep, k _ o (fun z => (hf _ z).2.1 rfl) ho, r⟩
  · by_cases hb : b = T
    · subst hb
      rw [upd_same] at e
      cases e
      exact new
    · rw [upd_ne hb] at e
      refine (I.hok b u e).stay (fun c v hc q => k c v ?_ q) (fun c q => by rw [upd_ne (ne_of_none q hn)]; exact q) fun c xs q => by rw [upd_ne (ne_of_none q hn)]; exact q
      rcases hc with z | z
      · rw [z]; exact nit b u e
      · exact nit c _ z
/- ### locking a thing while a statement runs -/
end
section
variable {X : Cx}
/- ### one iterator just laid -/
end
/- ### range with a step -/
section
variable {X : Cx} {tg : Expr}
end
/- ### reversed(list) -/
section
variable {X : Cx} {tg : Expr}
end
/- ### a str -/
/- ### a dict's keys: any dict's entries -/
section
variable {prog : Program} {w : World} {A : Around} {E : Value → Shared → Prop} {s : Shared}
end
/- ### a locked dict -/
section
variable {X : Cx} {pins : List (Addr × Obj)} {σ : St} {H : Hp} {s : Shared} {d : Addr} {o : Obj}
end
section
variable {P : Program} {w : World} {K : PySem.W.Frag} {tg : Expr} {d : Addr} {o : Obj} {es : Array DictEntry} {ep : Nat}
end
/- ### for k in d, d.keys(), d.values(), d.items() -/
section
variable {X : Cx} {tg e : Expr} {td : TE} {apos cpos : Pos}
end
/- ### enumerate(list) -/
/- ### zip(list, list) -/
theorem boot_zip5 : bootBuiltins "zip" = some (.type "zip") := by decide +kernel
/- the lists at a and b as they stand at each turn, the items in new pairs -/
noncomputable def Itz (K : PySem.W.Frag) (a b : Addr) : It :=
  ⟨fun i H => ∃ (xs ys : List V) (x y : V), SqL K H a xs ∧ SqL K H b ys ∧ xs[i]? = some x ∧ ys[i]? = some y,
    fun i H v H' => ∃ T x y, v = .ref T ∧ H T = none ∧ H' = upd H T (.tup [x, y]) ∧ (∀ xs, SqL K H a xs → xs[i]? = some x) ∧ ∀ ys, SqL K H b ys → ys[i]? = some y,
    fun i H => ∃ xs ys : List V, SqL K H a xs ∧ SqL K H b ys ∧ (xs.length ≤ i ∨ ys.length ≤ i)⟩
theorem turn_zip {P : Program} {w : World} {K : PySem.W.Frag} {elts : List Expr} {kk : Nat} {tpos : Pos} {a b z TI TO i1 i2 : Addr} (D : ZipApart z TI TO i1 i2 a b) :
    Turn P w K (.Tuple elts kk tpos) (Itz K a b) [z, TI, TO, i1, i2] z (fun i h => IsZip h z TI TO .none ∧ IsPair h TI (.ref i1) (.ref i2) ∧ (∃ x y, IsPair h TO x y) ∧ h.IsListIter i1 a i ∧ h.IsListIter i2 b i) where
  mem := by simp
  obj := fun i h st c hc => by
    obtain ⟨hz, hTI, ⟨x, y, hTO⟩, ⟨o1, e1, _, d1⟩, ⟨o2, e2, _, d2⟩⟩ := st
    have e' : c = z ∨ c = TI ∨ c = TO ∨ c = i1 ∨ c = i2 := by simpa using hc
    rcases e' with q | q | q | q | q
    · rw [q]; exact ⟨_, hz, fun v q => nomatch q⟩
    · rw [q]; exact ⟨_, hTI, fun v q => nomatch q⟩
    · rw [q]; exact ⟨_, hTO, fun v q => nomatch q⟩
    · rw [q]; exact ⟨o1, e1, fun v q => by rw [d1] at q; cases q⟩
    · rw [q]; exact ⟨o2, e2, fun v q => by rw [d2] at q; cases q⟩
  keep := fun i h h' st k => by
    obtain ⟨hz, hTI, ⟨x, y, hTO⟩, h1, h2⟩ := st
    exact ⟨k z (by simp) _ hz, k TI (by simp) _ hTI, ⟨x, y, k TO (by simp) _ hTO⟩, h1.at fun o q => k i1 (by simp) o q, h2.at fun o q => k i2 (by simp) o q⟩
  item := by
    intro X hP hw hK hc i pins s σ H E I hf st hg
    subst hP hw hK
    obtain ⟨hz, hTI, ⟨x0, y0, hTO⟩, h1, h2⟩ := st
    obtain ⟨xs, ys, x, y, hqx, hqy, hx, hy⟩ := hg
    obtain ⟨its, rv, p, _⟩ := I.list hqx
    obtain ⟨its2, rv2, p2, _⟩ := I.list hqy
    obtain ⟨u, hu, ru⟩ := rv.get hx
    obtain ⟨u2, hu2, ru2⟩ := rv2.get hy
    have hzl : z < s.heap.objs.size := Heap.lt_size hz
    refine wpAny_pyNext_zip_item D hz hTI hTO h1 h2 p.isList p2.isList (x := u) (y := u2) (by simpa using hu) (by simpa using hu2) fun h' z' TO' h1' h2' hT hsz hk => ?_
    refine ⟨_, rfl, wpAny_letOwnedTupleGo_zip (s := { s with heap := h' }) z' fun h'' z'' sb => ?_⟩
    have hT2 : h''.get? s.heap.objs.size = some { cls := .type "tuple", data := .seq #[u, u2] } := (sb.2 _ (Nat.ne_of_gt hzl)).trans hT
    have new : ObjOk X.prog X.w (upd H s.heap.objs.size (.tup [x, y])) h'' s.heap.objs.size (.tup [x, y]) :=
      ⟨by show 2 ≤ sizeLine; decide, [u, u2], .cons ru (.cons ru2 .nil), ⟨_, hT2, rfl, _, rfl⟩⟩
    have I1 : Inv X pins σ (upd H s.heap.objs.size (.tup [x, y])) { s with heap := h'' } :=
      I.turnedNew (t' := s.toks) (ch := [z, TI, TO, i1, i2]) (fun c o hb q => (sb.2 c (fun q' => hb (by simp [q']))).trans (hk c o (fun q' => hb (by simp [q'])) (fun q' => hb (by simp [q'])) (fun q' => hb (by simp [q'])) (fun q' => hb (by simp [q'])) q)) hf (Nat.le_refl _) new
    refine ⟨.ref s.heap.objs.size, _, I1, rfl, ⟨_, x, y, rfl, I.hok.fresh (Nat.le_refl _), rfl, fun l hl => by rw [I.list_inj hl hqx]; exact hx, fun l hl => by rw [I.list_inj hl hqy]; exact hy⟩, ⟨z'', ?_, ⟨u, u2, ?_⟩, ?_, ?_⟩, fun c hcm => ?_⟩
    · exact (sb.2 _ D.TIz).trans (hk _ _ D.TIz D.TITO D.TIi1 D.TIi2 hTI)
    · exact (sb.2 _ D.TOz).trans TO'
    · exact h1'.at fun o q => (sb.2 _ D.i1z).trans q
    · exact h2'.at fun o q => (sb.2 _ D.i2z).trans q
    · have hlt : c < s.heap.objs.size := by
        have e' : c = z ∨ c = TI ∨ c = TO ∨ c = i1 ∨ c = i2 := by simpa using hcm
        rcases e' with q | q | q | q | q
        · rw [q]; exact hzl
        · rw [q]; exact Heap.lt_size hTI
        · rw [q]; exact Heap.lt_size hTO
        · rw [q]; obtain ⟨_, e1, _⟩ := h1; exact Heap.lt_size e1
        · rw [q]; obtain ⟨_, e2, _⟩ := h2; exact Heap.lt_size e2
      rw [upd_ne (Nat.ne_of_lt hlt)]
      exact (hf c hcm).1
  done := by
    intro X hP hw hK hc i pins s σ H E I hf st hg
    subst hP hw hK
    obtain ⟨hz, hTI, ⟨x0, y0, hTO⟩, h1, h2⟩ := st
    obtain ⟨xs, ys, hqx, hqy, hend⟩ := hg
    obtain ⟨its, rv, p, _⟩ := I.list hqx
    obtain ⟨its2, rv2, p2, _⟩ := I.list hqy
    have l1 := rv.length
    have l2 := rv2.length
    have he : its.toArray[i]? = none ∨ its2.toArray[i]? = none := by
      rcases hend with q | q
      · exact .inl (by simp; lia)
      · exact .inr (by simp; lia)
    exact wpAny_pyNext_zip_end (I.ok.hd hc) D hz hTI hTO h1 h2 p.isList p2.isList he fun h' hk => ⟨rfl, I.turnedL (t' := s.toks) (ch := [z, TI, TO, i1, i2]) (fun c o hb q =>
      hk c o (fun q' => hb (by simp [q'])) (fun q' => hb (by simp [q'])) (fun q' => hb (by simp [q'])) (fun q' => hb (by simp [q'])) q) hf⟩
  self := fun A i s Q E st h => wpAny_pyIter_zip st.1 h
noncomputable def iZip (K : PySem.W.Frag) (ta : TA) : TI := fun σ H R => ta σ H fun vs H1 => ∃ a b xs ys, vs = [.ref a, .ref b] ∧ SqL K H1 a xs ∧ SqL K H1 b ys ∧ R (Itz K a b) H1
theorem pi_zip {X : Cx} {e e2 : Expr} {ta : TA} {p pos tpos : Pos} {elts : List Expr} {kk : Nat} (hg : Gl X "zip") (hm : X.mg "zip" = none) (ha : PA X [e, e2] ta)
    (hs : starEach [e, e2] X.env = (false, eval e X.env) :: starEach [e2] X.env := by rfl) (hpl : (backTo pos (starEach [e2] X.env)).any (·.1) = false := by rfl) :
    PI X (.Tuple elts kk tpos) (.Call (.Name "zip" p) [e, e2] [] pos) (iZip X.K ta) := by
  intro pins s σ H R I h
  refine Call_ (ld_blt I hg hm boot_zip5 (PyProof.Rows.callWith_type1 (thn (ha pos pins s σ H _ I h) fun us s1 zq => ?_) hs hpl))
  obtain ⟨vs, H1, I1, r1, q1⟩ := zq
  obtain ⟨a, b, xs, ys, ex, hqx, hqy, q⟩ := q1
  subst ex
  cases r1 with
  | cons r rr =>
    cases rr with
    | cons r' rr =>
      cases rr
      cases r
      cases r'
      obtain ⟨its, rv, p1, _⟩ := I1.list hqx
      obtain ⟨its2, rv2, p2, _⟩ := I1.list hqy
      have la : a < s1.heap.objs.size := p1.lt
      have lb : b < s1.heap.objs.size := p2.lt
      refine call_zip_2 p1.isList p2.isList fun h' hz hTI hTO h1 h2 hsz hk => wpAny_pyIter_zip hz ?_
      have I2 : Inv X pins σ H1 { s1 with heap := h' } := I1.kept (t' := s1.toks) hk
      refine ⟨s1.heap.objs.size + 4, [s1.heap.objs.size + 4, s1.heap.objs.size + 2, s1.heap.objs.size + 3, s1.heap.objs.size, s1.heap.objs.size + 1], _, _, H1, rfl, I2, turn_zip (PySem.W.ktu_apart s1.heap.objs.size a b la lb), ⟨hz, hTI, ⟨_, _, hTO⟩, h1, h2⟩, fun c hcm => ?_, q⟩
      have e' : c = s1.heap.objs.size + 4 ∨ c = s1.heap.objs.size + 2 ∨ c = s1.heap.objs.size + 3 ∨ c = s1.heap.objs.size ∨ c = s1.heap.objs.size + 1 := by simpa using hcm
      have hle : s1.heap.objs.size ≤ c := by
        rcases e' with z | z | z | z | z
        · rw [z]; exact Nat.le_add_right _ _
        · rw [z]; exact Nat.le_add_right _ _
        · rw [z]; exact Nat.le_add_right _ _
        · rw [z]; exact Nat.le_refl _
        · rw [z]; exact Nat.le_add_right _ _
      exact I1.fpOk hle (I1.hok.fresh hle)
end L2
section 
namespace Bits
open PySem PyProof.Rows
end Bits
end 
section 
namespace TL
open PySem PySem.Builtin PySem.Builtin.Str PySem.StrLaws
/- ### the list functions -/
/- ### the model's split and partition are these -/
/- ### computing spl and par -/
/- ### digits -/
/- ### words: x.split() -/
end TL
end 
namespace L2
open PySem PySem.Spec PyProof.Rows
section
variable {X : Cx} {pins : List (Addr × Obj)} {σ : St} {H : Hp} {s : Shared} {Q : VK}
end
section
variable {X : Cx}
/- ### of a text alone -/
/- ### of a text and a text -/
end
section
variable {X : Cx} {o e : Expr} {to te : TE}
end
end L2
namespace L2
open PySem PySem.Spec PyProof.Rows
section
variable {X : Cx}
end
/- ### slices of a text -/
end L2
namespace Att
open PySem PySem.W PySem.Calls PyProof.Rows
/- ### the script -/
/- ### the attachment: holds_open's last premise (the goal 'hc' behind k_head) from a wpAny of the law's body -/
/- ### rules over ANY heap (no ledger) from facts about the written part K: the library's own take a ledger (News) for what they write -/
section
variable {prog : Program} {w : World} {A : Around} {E : Value → Shared → Prop} {s : Shared} {K : Frag}
/- the whole heap as the ledger: makes every rule that writes through a ledger a rule over any heap -/
end
end Att
namespace L2
open PySem PySem.Spec PyProof.Rows
end L2
namespace L2
open PySem PySem.Spec PyProof.Rows
end L2
/- THE LAST THEOREM (shape; LID, My.* are yours):
   My.Adr: a structure of the addresses that your layer names (classes, functions); My.Txt K t: a structure (Prop) of the equations over K;
   My.txt_mk : {K} {implicit addresses ..} (e1 : nsIn K mainGlobals "law" = some (some (.ref f))) (e2 : K.lookup f = some ⟨oc, od, .func (fnOf "law" "law" params body scope dV kV doc pm an cdv ct), sl⟩) (e3 : codeIn K cdv "law" = true) .. : ∃ t, My.Txt K t
set_option maxRecDepth 100000 in
set_option maxHeartbeats 0 in
theorem PySem.Challenge.cw_LID_holds : PySem.Challenge.rw_LID.Holds := by
  w_on; o_law; k_head; (case hw => w_witness2)
  k_fill
  refine L2.walk_of (l := PySem.Challenge.rw_LID) (n := 63) (k := 40) (x := "script") (CX := fun w => ..) (sp := fun _ => My.sp_law) rfl (by decide) rfl ⟨rfl, by decide, by decide⟩ (fun w h Y => PySem.W.kIn_of Y) ?F ?S ?C
  case F =>
    intro w mg fa h KX G hmg
    have T : ∃ t, My.Txt (L2.KOf KX) t := by
      dsimp only [L2.KOf]                          -- K must stand as «<heap const> w.params» for k_is
      refine' My.txt_mk ?e1 ?e2 ?e3 ..
      (case e1 => PySem.W.k_is)                    -- in the order: a name -> its address -> its object -> its parts
      (case e2 => PySem.W.k_is)
      ..
    obtain ⟨t, T⟩ := T
    have e0 := hmg.symm.trans (PySem.W.mg_of KX G T.law)
    cases e0                                       -- fa is the law's own address
    exact ⟨_, fun s u => .of_eq rfl, fun base kb nb => My.law_fn T kb nb⟩     -- if «.of_eq rfl» comes too early: refine' ⟨_, ?b, fun base kb nb => My.law_fn T kb nb⟩; exact fun s u => .of_eq rfl
  case S => exact fun w H a ns hl hO hS => ..
  case C => exact ..
(the tactic k_is has no namespace: write k_is) -/
/- SHORT WORDS over the layer: a def of the text, its body, what a loop and a test want. -/
namespace L2
open PySem PySem.Spec PyProof.Rows
/- ### the text by places -/
/- the j-th statement of a class's body -/
noncomputable def inClass (s : Stmt) (j : Nat) : Stmt := match s with
  | .ClassDef _ _ _ body _ _ _ _ _ _ _ => body.getD j (.Pass ⟨0, 0, 0, 0⟩)
  | _ => .Pass ⟨0, 0, 0, 0⟩
noncomputable def defArgs (s : Stmt) : Arguments := match s with
  | .FunctionDef _ a _ _ _ _ _ _ _ _ => a
  | _ => { posonlyargs := [], args := [], vararg := none, kwonlyargs := [], kw_defaults := [], kwarg := none, defaults := [] }
noncomputable def defBody (s : Stmt) : List Stmt := match s with
  | .FunctionDef _ _ b _ _ _ _ _ _ _ => b
  | _ => []
noncomputable def defScope (s : Stmt) : Scope := match s with
  | .FunctionDef _ _ _ _ _ _ sc _ _ _ => sc
  | _ => { kind := .function, names := [], isGenerator := false, isCoroutine := false }
/- ### no exception leaves a def -/
noncomputable abbrev CX0 : CXT := fun _ _ _ _ _ _ => False
noncomputable abbrev E0 : XK := fun _ _ _ => False
theorem pass0 {X : Cx} : Passes CX0 X E0 := fun _ _ _ _ _ _ _ h => h.elim
/- ### a def (or method) of the text as it stands behind the top -/
structure Fun (K : PySem.W.Frag) (x qual : Str) (st : Stmt) (f : Addr) (fd : FuncData) : Prop where
  ex : ∃ (oc : Value) (od : Option Addr) (kV doc pm : Value) (an : Option Addr) (cdv ct : Value) (osl : Array (Option Value)),
    fd = PySem.W.fnOf x qual (defArgs st) (defBody st) (defScope st) .none kV doc pm an cdv ct ∧ K.lookup f = some ⟨oc, od, .func fd, osl⟩ ∧ PySem.W.codeIn K cdv qual = true
  kp : PySem.W.keepIn K (.ref f) = true
section
variable {P : Program} {w : World} {K : PySem.W.Frag} {mg : Str → Option Value} {base : Heap}
/- THE RULE for a def: its body as a term of rules, and the reading of that term -/
theorem Fun.ok {x qual : Str} {st : Stmt} {f : Addr} {fd : FuncData} {N ps : List Str} {k : Nat} {sp : Sp} (F : Fun K x qual st f fd) (S : FnScope N ps (defScope st)) (len : ∀ vs H Q E, sp vs H Q E → vs.length = ps.length)
    (hbody : ∀ (cdv : Value) (A : Around) (outer : List Env) (s : Shared) (H : Hp) (vs : List V) (Q : VK) (E : XK), Room k (A.deeper (envOfC qual (defScope st) s.heap.objs.size f cdv)) → sp vs H Q E →
      ∃ t, PSs (cxOf CX0 P w K mg base N qual (defScope st) f cdv A outer s H E).nox (defBody st) t ∧ t { nx := fun _ H' => Q .non H', rt := Q } (start N vs) H) : FnOk P w K mg base CX0 (k + 1) f fd ps sp := by
  obtain ⟨oc, od, kV, doc, pm, an, cdv, ct, osl, rfl, lk, hcd⟩ := F.ex
  refine fn_of lk hcd S len fun A outer s H vs Q E hr hsp => ?_
  obtain ⟨t, h, q⟩ := hbody cdv A outer s H vs Q E hr hsp
  exact ⟨t, h.nox, q⟩
/- how its arguments bind (no defaults): h is «fun _ _ _ _ _ _ us hl => match us, hl with | [_, _], _ => rfl», one _ a parameter -/
theorem Fun.binds {x qual : Str} {st : Stmt} {f : Addr} {fd : FuncData} {ps : List Str} (F : Fun K x qual st f fd)
    (h : ∀ (kV doc pm : Value) (an : Option Addr) (cdv ct : Value) (us : List Value), us.length = ps.length → bindArgs (PySem.W.fnOf x qual (defArgs st) (defBody st) (defScope st) .none kV doc pm an cdv ct) ⟨us, []⟩ = pure (ps.zip us)) : Binds K fd ps [] := by
  obtain ⟨oc, od, kV, doc, pm, an, cdv, ct, osl, rfl, lk, hcd⟩ := F.ex
  exact .all (h kV doc pm an cdv ct)
theorem fun_mk {x qual : Str} {st : Stmt} {f : Addr} {oc : Value} {od an : Option Addr} {osl : Array (Option Value)} {kV doc pm cdv ct : Value} (l : K.lookup f = some ⟨oc, od, .func (PySem.W.fnOf x qual (defArgs st) (defBody st) (defScope st) .none kV doc pm an cdv ct), osl⟩)
    (c : PySem.W.codeIn K cdv qual = true) (k : PySem.W.keepIn K (.ref f) = true) : Fun K x qual st f (PySem.W.fnOf x qual (defArgs st) (defBody st) (defScope st) .none kV doc pm an cdv ct) := ⟨⟨oc, od, kV, doc, pm, an, cdv, ct, osl, rfl, l, c⟩, k⟩
end
theorem hu_of {A : Around} {k : Nat} (hr : Room k A) : A.units + 1 < cLine := Nat.lt_of_le_of_lt (Nat.add_le_add_left (by decide : 1 ≤ 64) _) hr.units
theorem small1000 {n : Nat} (h : n ≤ 1000) : n < sizeLine := Nat.lt_of_le_of_lt h (by decide)
/- ### expressions in short: the name that stands in the i-th slot -/
section
variable {X : Cx}
theorem pv (i : Nat) {x : Str} {pos : Pos} (hN : X.N[i]? = some x := by rfl) (hv : Vis X.env.scope x := by first | exact Or.inl rfl | exact Or.inr (Or.inl rfl) | exact Or.inr (Or.inr rfl)) (hd : (x == ("__debug__" : Str)) = false := by decide)
    (hcd : (x == ("__classdict__" : Str)) = false := by decide) : PE X (.Name x pos) (tVar i) := pe_var hN hv hd hcd
end
/- ### tests -/
theorem iteF {A B : Prop} (h : B) : if false = true then A else B := by
  rw [if_neg Bool.false_ne_true]
  exact h
theorem iteT {A B : Prop} (h : A) : if true = true then A else B := by
  rw [if_pos rfl]
  exact h
theorem ite2 {c A B : Prop} [Decidable c] (h1 : c → A) (h2 : ¬ c → B) : if c then A else B := by
  by_cases h : c
  · rw [if_pos h]
    exact h1 h
  · rw [if_neg h]
    exact h2 h
/- ### heaps -/
/- all that was tracked is as it was -/
noncomputable def Same (H H' : Hp) : Prop := ∀ b o, H b = some o → H' b = some o
theorem Same.refl (H : Hp) : Same H H := fun _ _ h => h
theorem Same.trans {H H1 H2 : Hp} (a : Same H H1) (b : Same H1 H2) : Same H H2 := fun c o h => b c o (a c o h)
theorem Same.free {H H' : Hp} (e : Same H H') {l : Addr} (h : H' l = Option.none) : H l = Option.none := by
  cases q : H l with
  | none => rfl
  | some o =>
    rw [e l o q] at h
    cases h
theorem Same.seq {K : PySem.W.Frag} {H H' : Hp} {a : Addr} {xs : List V} (e : Same H H') (h : SqL K H a xs) : SqL K H' a xs := by
  rcases h with (h | ⟨o, h⟩) | h
  · exact .inl (.inl (e _ _ h))
  · exact .inl (.inr ⟨o, e _ _ h⟩)
  · exact .inr h
/- ### a dict's pairs: keys that differ -/
section
variable {κ : Type} [DecidableEq κ]
end
/- ### lists -/
theorem at_of {xs : List V} {z : Int} {j : Nat} {v : V} (e : z = (j : Int)) (h : xs[j]? = some v) : atI xs z = some v := by
  rw [e]
  exact atI_nat h
/- a new instance and its __init__ leave all that was tracked as it was -/
theorem Same.made {H H1 : Hp} {x dx C : Addr} (nx : H x = Option.none) (nd : H dx = Option.none) (k : ∀ b o, (upd (upd H dx (.own x)) x (.ins C dx [])) b = some o → b ≠ x → H1 b = some o) : Same H H1 := fun b o e =>
  k b o (by rw [upd_ne (ne_of_none e nx), upd_ne (ne_of_none e nd)]; exact e) (ne_of_none e nx)
end L2
section
set_option Elab.async false
set_option linter.all false
set_option maxRecDepth 100000
set_option maxHeartbeats 2000000
namespace L2
open PySem PySem.Spec PyProof.Rows
open PySem.W (WData Codec OpenSpec Well WellAll ReadsW ReadsAllW)
/- ### an answer as data -/
mutual
/- x stands for the datum d, lists and tuples all the way -/
inductive Dw (K : PySem.W.Frag) (H : Hp) : V → WData → Prop
  | int (i : Int) : Dw K H (.int i) (.int i)
  | lst {a : Addr} {xs : List V} {ds : List WData} : SqL K H a xs → DwAll K H xs ds → Dw K H (.ref a) (.list ds)
inductive DwAll (K : PySem.W.Frag) (H : Hp) : List V → List WData → Prop
  | nil : DwAll K H [] []
  | cons {v : V} {vs : List V} {d : WData} {ds : List WData} : Dw K H v d → DwAll K H vs ds → DwAll K H (v :: vs) (d :: ds)
end
theorem dw_ints {K : PySem.W.Frag} {H : Hp} : ∀ ns : List Int, DwAll K H (ns.map V.int) (ns.map WData.int)
  | [] => .nil
  | n :: r => .cons (.int n) (dw_ints r)
theorem ints_dw {K : PySem.W.Frag} {H : Hp} : ∀ (ns : List Int) (xs : List V), DwAll K H xs (ns.map WData.int) → xs = ns.map V.int
  | [], xs, h => by
    cases h
    rfl
  | n :: r, xs, h => by
    cases h with
    | cons h1 h2 =>
      cases h1
      rw [ints_dw r _ h2] <;> rfl
section
variable {P : Program} {w : World} {K : PySem.W.Frag} {H : Hp} {h : Heap} {R : PySem.W.WRecords} {cl : Str → Option Addr}
theorem sqL_at {a : Addr} {xs : List V} (hok : HOk P w H h) (KX : K.In h) (q : SqL K H a xs) : ∃ (its : List Value) (o : Obj) (n : Nat), Vals xs its ∧ h.get? a = some o ∧ o.cls = .type "list" ∧ o.data = .seq its.toArray n := by
  rcases q with q | ⟨o, its, n, e, hc, _, hd, _, hv⟩
  · obtain ⟨_, its, n, hv, e⟩ := (show ObjOk P w H h a (.lst xs) from q.ok hok)
    exact ⟨its, _, n, hv, e, rfl, rfl⟩
  · exact ⟨its.toList, o, n, hv, KX _ _ e, hc, by simp [hd]⟩
mutual
theorem Dw.reads (hok : HOk P w H h) (KX : K.In h) : ∀ (d : WData) (v : V) (u : Value), Dw K H v d → RelV v u → ∃ as, ReadsW R cl h u d as
  | .none, _, _, x, _ => by cases x
  | .bool _, _, _, x, _ => by cases x
  | .int i, _, _, x, r => by
    cases x
    obtain ⟨t, rfl⟩ := r
    exact ⟨_, ReadsW.int i t⟩
  | .str _, _, _, x, _ => by cases x
  | .bytes _, _, _, x, _ => by cases x
  | .list ds, _, _, x, r => by
    cases x with
    | lst hs ha =>
      cases r
      obtain ⟨its, o, n, rv, ho, hc, hd⟩ := sqL_at hok KX hs
      obtain ⟨as, hr⟩ := Dw.readsAll hok KX ds _ its ha rv
      exact ⟨_, ReadsW.list ho hc hd hr⟩
  | .tuple _, _, _, x, _ => by cases x
  | .float _, _, _, x, _ => by cases x
  | .dict _, _, _, x, _ => by cases x
  | .bytearray _, _, _, x, _ => by cases x
  | .set _, _, _, x, _ => by cases x
  | .frozenset _, _, _, x, _ => by cases x
  | .obj _ _, _, _, x, _ => by cases x
theorem Dw.readsAll (hok : HOk P w H h) (KX : K.In h) : ∀ (ds : List WData) (vs : List V) (us : List Value), DwAll K H vs ds → Vals vs us → ∃ as, ReadsAllW R cl h us ds as
  | [], _, _, x, r => by
    cases x
    cases r
    exact ⟨_, ReadsAllW.nil⟩
  | d :: ds, _, _, x, r => by
    cases x with
    | cons h1 h2 =>
      cases r with
      | cons r1 r2 =>
        obtain ⟨as, q1⟩ := Dw.reads hok KX d _ _ h1 r1
        obtain ⟨bs, q2⟩ := Dw.readsAll hok KX ds _ _ h2 r2
        exact ⟨_, ReadsAllW.cons q1 q2⟩
end
end
/- ### the arguments -/
mutual
/- data that a codec tells -/
noncomputable def plW : WData → Bool
  | .int _ => true
  | .list xs => plWs xs
  | _ => false
noncomputable def plWs : List WData → Bool
  | [] => true
  | x :: r => plW x && plWs r
end
theorem plWs_map {α : Type} {f : α → WData} (h : ∀ a, plW (f a) = true) : ∀ l : List α, plWs (l.map f) = true
  | [] => rfl
  | x :: r => by
    show (plW (f x) && plWs (r.map f)) = true
    rw [h x, plWs_map h r] <;> rfl
theorem weight_mem : ∀ {xs : List WData} {d : WData}, d ∈ xs → d.weight ≤ WData.weightAll xs
  | [], d, h => absurd h (by simp)
  | x :: r, d, h => by
    show d.weight ≤ x.weight + 1 + WData.weightAll r
    rcases List.mem_cons.mp h with e | m
    · rw [e]
      lia
    · have z := weight_mem m
      lia
noncomputable def toV : Value → V
  | .none => .non
  | .bool b => .bl b
  | .int i _ => .int i
  | .str x _ => .str x
  | .bytes b _ => .byt b
  | .ref a => .ref a
  | _ => .non
/- a value of the arguments, its objects among A -/
noncomputable def OkU (A : List Addr) : Value → Prop
  | .none => True
  | .bool _ => True
  | .int _ _ => True
  | .str _ _ => True
  | .bytes _ _ => True
  | .ref a => a ∈ A
  | _ => False
theorem OkU.mono {A B : List Addr} (h : ∀ a ∈ A, a ∈ B) : ∀ {u : Value}, OkU A u → OkU B u := fun {u} x => by
  cases u with
  | ref a => exact h a x
  | none => trivial
  | bool b => trivial
  | int i t => trivial
  | str s t => trivial
  | bytes b t => trivial
  | _ => exact False.elim x
theorem relV_toV {A : List Addr} {u : Value} (x : OkU A u) : RelV (toV u) u := by
  cases u with
  | ref a => rfl
  | none => rfl
  | bool b => rfl
  | int i t => exact ⟨t, rfl⟩
  | str s t => exact ⟨t, rfl⟩
  | bytes b t => exact ⟨t, rfl⟩
  | _ => exact False.elim x
theorem vals_toV {A : List Addr} : ∀ {vs : List Value}, (∀ u ∈ vs, OkU A u) → Vals (vs.map toV) vs
  | [], _ => .nil
  | u :: r, h => .cons (relV_toV (h u (List.mem_cons_self ..))) (vals_toV fun x hx => h x (List.mem_cons_of_mem _ hx))
/- an object of the arguments -/
noncomputable def ArgOb (h : Heap) (A : List Addr) (a : Addr) : Prop := ∃ vs : List Value, vs.length ≤ sizeLine ∧ (∀ u ∈ vs, OkU A u) ∧
  (h.get? a = some { cls := .type "list", data := .seq vs.toArray } ∨ h.get? a = some { cls := .type "tuple", data := .seq vs.toArray })
theorem ArgOb.mono {h : Heap} {A B : List Addr} {a : Addr} (k : ∀ a ∈ A, a ∈ B) (x : ArgOb h A a) : ArgOb h B a := by
  obtain ⟨vs, h1, h2, h3⟩ := x
  exact ⟨vs, h1, fun u hu => (h2 u hu).mono k, h3⟩
theorem wellAll_len {P : Params} {h : Heap} : ∀ {vs : List Value} {ds : List WData}, WellAll P h vs ds → vs.length = ds.length
  | _, _, .nil => rfl
  | _, _, .cons _ b => by
    show _ + 1 = _ + 1
    rw [wellAll_len b]
theorem well_list {P : Params} {h : Heap} {v : Value} {ds : List WData} (x : Well P h v (.list ds)) : ∃ (a : Addr) (vs : List Value), v = .ref a ∧ h.get? a = some { cls := .type "list", data := .seq vs.toArray } ∧ WellAll P h vs ds := by
  cases x with
  | list ho hall => exact ⟨_, _, rfl, ho, hall⟩
theorem well_cons {P : Params} {h : Heap} {us : List Value} {d : WData} {ds : List WData} (x : WellAll P h us (d :: ds)) : ∃ (v : Value) (vs : List Value), us = v :: vs ∧ Well P h v d ∧ WellAll P h vs ds := by
  cases x with
  | cons a b => exact ⟨_, _, rfl, a, b⟩
theorem line_of {n : Nat} (h : n ≤ 1048576) : n ≤ sizeLine := Nat.le_trans h (by decide)
section
variable {P : Params} {h : Heap}
mutual
theorem area_one : ∀ (d : WData) (v : Value), Well P h v d → plW d = true → d.weight ≤ 1048576 → ∃ A : List Addr, OkU A v ∧ ∀ a ∈ A, ArgOb h A a
  | .none, _, _, p, _ => Bool.noConfusion (show false = true from p)
  | .bool _, _, _, p, _ => Bool.noConfusion (show false = true from p)
  | .int i, _, x, _, _ => by
    cases x
    exact ⟨[], trivial, fun a m => absurd m (by simp)⟩
  | .str _, _, _, p, _ => Bool.noConfusion (show false = true from p)
  | .bytes _, _, _, p, _ => Bool.noConfusion (show false = true from p)
  | .list ds, _, x, p, z => by
    obtain ⟨a, vs, rfl, ho, hall⟩ := well_list x
    have z2 : WData.weightAll ds ≤ 1048576 := z
    obtain ⟨A, h1, h2⟩ := area_all ds _ hall p fun d hd => Nat.le_trans (weight_mem hd) z2
    have k : ∀ b ∈ A, b ∈ a :: A := fun b hb => List.mem_cons_of_mem _ hb
    refine ⟨a :: A, List.mem_cons_self .., fun b hb => ?_⟩
    rcases List.mem_cons.mp hb with e | m
    · rw [e]
      exact ⟨vs, line_of (by rw [wellAll_len hall]; exact Nat.le_trans (PySem.W.length_le_weightAllW ds) z2), fun u hu => (h1 u hu).mono k, .inl ho⟩
    · exact (h2 b m).mono k
  | .tuple _, _, _, p, _ => Bool.noConfusion (show false = true from p)
  | .float _, _, _, p, _ => Bool.noConfusion (show false = true from p)
  | .dict _, _, _, p, _ => Bool.noConfusion (show false = true from p)
  | .bytearray _, _, _, p, _ => Bool.noConfusion (show false = true from p)
  | .set _, _, _, p, _ => Bool.noConfusion (show false = true from p)
  | .frozenset _, _, _, p, _ => Bool.noConfusion (show false = true from p)
  | .obj _ _, _, _, p, _ => Bool.noConfusion (show false = true from p)
theorem area_all : ∀ (ds : List WData) (vs : List Value), WellAll P h vs ds → plWs ds = true → (∀ d ∈ ds, d.weight ≤ 1048576) → ∃ A : List Addr, (∀ u ∈ vs, OkU A u) ∧ ∀ a ∈ A, ArgOb h A a
  | [], _, x, _, _ => by
    cases x
    exact ⟨[], fun u m => absurd m (by simp), fun a m => absurd m (by simp)⟩
  | d :: ds, _, x, p, z => by
    obtain ⟨v, vs, rfl, x1, x2⟩ := well_cons x
    have q : plW d = true ∧ plWs ds = true := Bool.and_eq_true_iff.mp p
    obtain ⟨A, a1, a2⟩ := area_one d v x1 q.1 (z d (List.mem_cons_self ..))
    obtain ⟨B, b1, b2⟩ := area_all ds vs x2 q.2 fun e he => z e (List.mem_cons_of_mem _ he)
    have kA : ∀ b ∈ A, b ∈ A ++ B := fun b hb => List.mem_append.mpr (.inl hb)
    have kB : ∀ b ∈ B, b ∈ A ++ B := fun b hb => List.mem_append.mpr (.inr hb)
    refine ⟨A ++ B, fun u hu => ?_, fun b hb => ?_⟩
    · rcases List.mem_cons.mp hu with e | m
      · rw [e]
        exact a1.mono kA
      · exact (b1 u m).mono kB
    · rcases List.mem_append.mp hb with m | m
      · exact (a2 b m).mono kA
      · exact (b2 b m).mono kB
end
end
/- what is tracked of an argument's object -/
noncomputable def hoOf (o : Obj) : Option HO := match o.data with
  | .seq vs _ => if (o.cls == Value.type "list") = true then some (.frz o (.lst (vs.toList.map toV))) else some (.frz o (.tup (vs.toList.map toV)))
  | _ => none
noncomputable def argH (K : PySem.W.Frag) (h : Heap) (A : List Addr) : Hp := fun b => if b ∈ A then (if (K.lookup b).isNone = true then (h.get? b).bind hoOf else none) else none
/- nothing is tracked but what is known to the object -/
noncomputable def OnlyF (H : Hp) : Prop := ∀ b, H b = none ∨ ∃ o u, H b = some (.frz o u)
theorem hoOf_lst (vs : List Value) : hoOf { cls := .type "list", data := .seq vs.toArray } = some (.frz { cls := .type "list", data := .seq vs.toArray } (.lst (vs.map toV))) := by
  show (if (Value.type "list" == Value.type "list") = true then some (HO.frz { cls := .type "list", data := .seq vs.toArray } (.lst (vs.toArray.toList.map toV))) else some (HO.frz { cls := .type "list", data := .seq vs.toArray } (.tup (vs.toArray.toList.map toV)))) = _
  rw [if_pos (beq_self_eq_true _)]
theorem hoOf_tup (vs : List Value) : hoOf { cls := .type "tuple", data := .seq vs.toArray } = some (.frz { cls := .type "tuple", data := .seq vs.toArray } (.tup (vs.map toV))) := by
  show (if (Value.type "tuple" == Value.type "list") = true then some (HO.frz { cls := .type "tuple", data := .seq vs.toArray } (.lst (vs.toArray.toList.map toV))) else some (HO.frz { cls := .type "tuple", data := .seq vs.toArray } (.tup (vs.toArray.toList.map toV)))) = _
  rw [if_neg (by decide)]
section
variable {P : Program} {w : World} {K : PySem.W.Frag} {h : Heap} {A : List Addr}
theorem argH_at {b : Addr} {o : Obj} (hb : b ∈ A) (hk : K.lookup b = none) (e : h.get? b = some o) : argH K h A b = hoOf o := by
  unfold argH
  rw [if_pos hb, hk, if_pos (show (none : Option Obj).isNone = true from rfl), e] <;> rfl
theorem of_argH {b : Addr} {u : HO} (q : argH K h A b = some u) : b ∈ A ∧ K.lookup b = none := by
  unfold argH at q
  by_cases hb : b ∈ A
  · rw [if_pos hb] at q
    cases hk : K.lookup b with
    | none => exact ⟨hb, rfl⟩
    | some o =>
      rw [hk, if_neg (by simp)] at q
      cases q
  · rw [if_neg hb] at q
    cases q
/- what stands tracked -/
theorem argH_is (ar : ∀ a ∈ A, ArgOb h A a) {b : Addr} {u : HO} (q : argH K h A b = some u) : K.lookup b = none ∧ ∃ vs : List Value, vs.length ≤ sizeLine ∧ (∀ u ∈ vs, OkU A u) ∧
    ((h.get? b = some { cls := .type "list", data := .seq vs.toArray } ∧ u = .frz { cls := .type "list", data := .seq vs.toArray } (.lst (vs.map toV))) ∨
     (h.get? b = some { cls := .type "tuple", data := .seq vs.toArray } ∧ u = .frz { cls := .type "tuple", data := .seq vs.toArray } (.tup (vs.map toV)))) := by
  obtain ⟨hb, hk⟩ := of_argH q
  obtain ⟨vs, h1, h2, h3⟩ := ar b hb
  refine ⟨hk, vs, h1, h2, ?_⟩
  rcases h3 with e | e
  · rw [argH_at hb hk e, hoOf_lst] at q
    exact .inl ⟨e, (Option.some.inj q).symm⟩
  · rw [argH_at hb hk e, hoOf_tup] at q
    exact .inr ⟨e, (Option.some.inj q).symm⟩
theorem argH_only (ar : ∀ a ∈ A, ArgOb h A a) : OnlyF (argH K h A) := fun b => by
  cases q : argH K h A b with
  | none => exact .inl rfl
  | some u =>
    obtain ⟨_, vs, _, _, ⟨_, e⟩ | ⟨_, e⟩⟩ := argH_is ar q
    · exact .inr ⟨_, _, by rw [e]⟩
    · exact .inr ⟨_, _, by rw [e]⟩
theorem argH_ok (ar : ∀ a ∈ A, ArgOb h A a) : HOk P w (argH K h A) h := fun b u q => by
  obtain ⟨_, vs, h1, h2, ⟨e, rfl⟩ | ⟨e, rfl⟩⟩ := argH_is ar q
  · exact ⟨e, by rw [List.length_map]; exact h1, vs, _, vals_toV h2, e⟩
  · exact ⟨e, by rw [List.length_map]; exact h1, vs, vals_toV h2, _, e, rfl, _, rfl⟩
theorem seq_inj {c c' : Value} {vs us : List Value} (e : (some { cls := c, data := .seq vs.toArray } : Option Obj) = some { cls := c', data := .seq us.toArray }) : c = c' ∧ vs = us := by
  have e1 := Option.some.inj e
  have e2 : c = c' := congrArg Obj.cls e1
  have e3 : Data.seq vs.toArray = Data.seq us.toArray := congrArg Obj.data e1
  injection e3 with e4
  refine ⟨e2, ?_⟩
  have e5 := congrArg Array.toList e4
  simpa using e5
/- a list argument -/
theorem argL (KX : K.In h) (ar : ∀ a ∈ A, ArgOb h A a) {a : Addr} {vs : List Value} (ha : a ∈ A) (e : h.get? a = some { cls := .type "list", data := .seq vs.toArray }) : (∀ u ∈ vs, OkU A u) ∧ SqL K (argH K h A) a (vs.map toV) := by
  obtain ⟨us, h1, h2, h3⟩ := ar a ha
  have hu : us = vs := by
    rcases h3 with q | q
    · rw [e] at q
      exact (seq_inj q).2.symm
    · rw [e] at q
      exact absurd (Value.type.inj (seq_inj q).1) (by decide)
  subst hu
  refine ⟨h2, ?_⟩
  cases hk : K.lookup a with
  | none => exact .inl (.inr ⟨_, by rw [argH_at ha hk e, hoOf_lst]⟩)
  | some o =>
    have e2 := KX a o hk
    rw [e] at e2
    obtain rfl := Option.some.inj e2
    exact .inr ⟨_, us.toArray, _, hk, rfl, rfl, rfl, by rw [List.size_toArray]; exact h1, by simpa using vals_toV h2⟩
mutual
theorem dw_one {Pm : Params} (KX : K.In h) (ar : ∀ a ∈ A, ArgOb h A a) : ∀ (d : WData) (v : Value), Well Pm h v d → plW d = true → OkU A v → Dw K (argH K h A) (toV v) d
  | .none, _, _, p, _ => Bool.noConfusion (show false = true from p)
  | .bool _, _, _, p, _ => Bool.noConfusion (show false = true from p)
  | .int i, _, x, _, _ => by
    cases x
    exact .int i
  | .str _, _, _, p, _ => Bool.noConfusion (show false = true from p)
  | .bytes _, _, _, p, _ => Bool.noConfusion (show false = true from p)
  | .list ds, _, x, p, hu => by
    obtain ⟨a, vs, rfl, ho, hall⟩ := well_list x
    obtain ⟨h2, hs⟩ := argL KX ar hu ho
    exact .lst hs (dw_all KX ar ds _ hall p h2)
  | .tuple _, _, _, p, _ => Bool.noConfusion (show false = true from p)
  | .float _, _, _, p, _ => Bool.noConfusion (show false = true from p)
  | .dict _, _, _, p, _ => Bool.noConfusion (show false = true from p)
  | .bytearray _, _, _, p, _ => Bool.noConfusion (show false = true from p)
  | .set _, _, _, p, _ => Bool.noConfusion (show false = true from p)
  | .frozenset _, _, _, p, _ => Bool.noConfusion (show false = true from p)
  | .obj _ _, _, _, p, _ => Bool.noConfusion (show false = true from p)
theorem dw_all {Pm : Params} (KX : K.In h) (ar : ∀ a ∈ A, ArgOb h A a) : ∀ (ds : List WData) (vs : List Value), WellAll Pm h vs ds → plWs ds = true → (∀ u ∈ vs, OkU A u) → DwAll K (argH K h A) (vs.map toV) ds
  | [], _, x, _, _ => by
    cases x
    exact .nil
  | d :: ds, _, x, p, hu => by
    obtain ⟨v, vs, rfl, x1, x2⟩ := well_cons x
    have q : plW d = true ∧ plWs ds = true := Bool.and_eq_true_iff.mp p
    exact .cons (dw_one KX ar d v x1 q.1 (hu _ (List.mem_cons_self ..))) (dw_all KX ar ds vs x2 q.2 fun u m => hu u (List.mem_cons_of_mem _ m))
end
end
/- ### the call -/
theorem spec_call {P : Program} {w : World} {K : PySem.W.Frag} {mg mb : Str → Option Value} {CX : CXT} {k : Nat} {fa : Addr} {fd : FuncData} {ps : List Str} {sp : Sp} {s₁ : Shared} {vals : List Value} {ds : List WData} {R : PySem.W.WRecords} {cl : Str → Option Addr} {d0 : WData}
    (KX : K.In s₁.heap) (hns : s₁.heap.Ns mainGlobals mg) (hb : s₁.heap.Ns builtinsNs mb) (hbb : ∀ x : Str, x ≠ "__name__" → mb x = bootBuiltins x) (hlim : s₁.heap.NoLimit) (hg : s₁.gens = #[])
    (hwl : WellAll w.params s₁.heap vals ds) (hpl : plWs ds = true) (hwt : ∀ d ∈ ds, d.weight ≤ 1048576) (hr : Room k callerA)
    (F : ∀ base : Heap, K.In base → base.Ns mainGlobals mg → FnOk P w K mg base CX k fa fd ps sp) (hbind : ∀ (s : Shared) (us : List Value), us.length = ps.length → BindsTo s fd ⟨us, []⟩ (ps.zip us)) (hlen : ds.length = ps.length)
    (hsp : ∀ (H : Hp) (xs : List V), OnlyF H → DwAll K H xs ds → sp xs H (fun v H' => Dw K H' v d0) fun _ _ _ => False)
    (hCX : ∀ H e s', CX [] H s₁ (fun _ _ _ => False) e s' → False) :
    codeAny (model P w) callerA (.call (.ref fa) ⟨vals, []⟩) (fun r s' => ∃ u as, r = .ok (.ret u) ∧ ReadsW R cl s'.heap u d0 as ∧ OldK s₁.heap s'.heap ∧ s'.os = s₁.os ∧ AllBare s'.gens) s₁ := by
  obtain ⟨A, ho, ar⟩ := area_all ds vals hwl hpl hwt
  have hO : OnlyF (argH K s₁.heap A) := argH_only ar
  have hok : HOk P w (argH K s₁.heap A) s₁.heap := argH_ok ar
  have hS := dw_all KX ar ds vals hwl hpl ho
  have hV := vals_toV ho
  have hK : ∀ b u, argH K s₁.heap A b = some u → K.lookup b = none := fun b u q => (argH_is ar q).1
  have noA : ∀ {b : Addr} {o : Obj} {es : Array DictEntry} {ep : Nat}, s₁.heap.get? b = some o → o.data = .dict es ep → argH K s₁.heap A b = none := fun {b o es ep} e d => by
    cases q : argH K s₁.heap A b with
    | none => rfl
    | some u =>
      obtain ⟨_, vs, _, _, ⟨e2, _⟩ | ⟨e2, _⟩⟩ := argH_is ar q
      · rw [e2] at e
        cases e
        have d' : Data.seq vs.toArray _ = Data.dict es ep := d
        cases d'
      · rw [e2] at e
        cases e
        have d' : Data.seq vs.toArray _ = Data.dict es ep := d
        cases d'
  generalize argH K s₁.heap A = H at hO hok hS hK noA
  have base_of : ∀ {b : Addr} {o : Obj}, s₁.heap.get? b = some o → H b = none → (hidT s₁.heap H).get? b = some o := fun e n => hidT_get e n
  have nsK : ∀ {b : Addr} {m : Str → Option Value}, s₁.heap.Ns b m → (hidT s₁.heap H).Ns b m := fun {b m} ⟨o, es, ep, e, d, r⟩ => ⟨o, es, ep, base_of e (noA e d), d, r⟩
  have nK : ∀ b o, K.lookup b = some o → H b = none := fun b o e => by
    cases q : H b with
    | none => rfl
    | some u =>
      rw [hK b u q] at e
      cases e
  have hKb : K.In (hidT s₁.heap H) := fun b o e => base_of (KX b o e) (nK b o e)
  have hM : Mod K mg (hidT s₁.heap H) := ⟨hKb, nsK hns, ⟨mb, nsK hb, hbb⟩, let ⟨mc, h1, h2⟩ := hlim; ⟨mc, nsK h1, h2⟩⟩
  have e0 : Env0 P w K mg (hidT s₁.heap H) callerA [] s₁ H := ⟨rfl, hM, fun b o e => of_hidT e, Nat.le_of_eq (hidT_size _ _), trivial, fun b hb => absurd (show b ∈ ([] : List Addr) from hb) (by simp), hok, .of_eq hg⟩
  have hl : vals.length = ps.length := by rw [wellAll_len hwl]; exact hlen
  refine codeAny_mono ((F _ hKb (nsK hns)).run callerA [] s₁ H ⟨vals, []⟩ vals (vals.map toV) _ _ hr e0 (hbind s₁ vals hl) hV (hsp H _ hO hS)) fun r s' x => ?_
  cases r with
  | error e => exact (hCX H e s' x).elim
  | ok fl =>
    cases fl with
    | next => exact False.elim x
    | brk => exact False.elim x
    | cont => exact False.elim x
    | ret u =>
      obtain ⟨v, H', os, bare, un, hok', r', q⟩ := x
      have kept : ∀ b o, s₁.heap.get? b = some o → s'.heap.get? b = some o := fun b o e => by
        cases q2 : H b with
        | none => exact un.keep b o e q2 (by intro z; exact absurd (show b ∈ ([] : List Addr) from z) (by simp)) (by simp)
        | some u2 =>
          rcases hO b with z | ⟨ob, u3, z⟩
          · rw [q2] at z
            cases z
          · have z2 := un.frzs b ob _ z
            obtain ⟨e1, _⟩ := hok b _ z
            obtain ⟨e2, _⟩ := hok' b _ z2
            rw [e] at e1
            cases e1
            exact e2
      have KX' : K.In s'.heap := fun b o e => kept b o (KX b o e)
      obtain ⟨as, hrd⟩ := Dw.reads (R := R) (cl := cl) hok' KX' d0 v u q r'
      exact ⟨u, as, rfl, hrd, OldK.of_keep kept, os, bare⟩
/- ### the row -/
theorem layable_weight {ds : List WData} (h : WData.layableAll ds = true) : ∀ d ∈ ds, d.weight ≤ 1048576 := fun d hd =>
  (PySem.W.layableW_iff.mp (List.all_eq_true.mp h d hd)).2.2
theorem encAll_len : ∀ (cs : List Codec) (a : Codec.denoteAll cs), (Codec.encAll cs a).length = cs.length
  | [], _ => rfl
  | c :: cs, a => by
    show (Codec.encAll cs a.2).length + 1 = cs.length + 1
    rw [encAll_len cs a.2]
/- the goal that k_headS leaves (case hc), from the promise of the row's def: whatever the arguments that the codecs let and the row asks for, the def gives what stands for enc (f ..) -/
theorem walk_spec {r : OpenSpec} {k : Nat} {q : Program} {loose : List Str} {XP : (Str → Option Value) → Heap → Prop} {YP : World → Heap → Prop} {d : DefRec} {K : Params → PySem.W.Frag} {CX : World → CXT} {ps : List Str} {sp : World → Sp}
    (hplr : ∀ a : Codec.denoteAll r.args, plWs (Codec.encAll r.args a) = true) (hwell : r.wellSaid = true) (hdf : d.params.defaults = []) (hlen : r.args.length = ps.length) (hr : Room k callerA)
    (hY : ∀ (w : World) (h : Heap), YP w h → (K w.params).In h)
    (F : ∀ (w : World) (mg : Str → Option Value) (fa : Addr) (h : Heap), YP w h → (K w.params).In h → h.Ns mainGlobals mg → mg d.name = some (.ref fa) →
      ∃ fd : FuncData, (∀ (s : Shared) (us : List Value), us.length = ps.length → BindsTo s fd ⟨us, []⟩ (ps.zip us)) ∧
        ∀ base : Heap, (K w.params).In base → base.Ns mainGlobals mg → FnOk r.prog w (K w.params) mg base (CX w) k fa fd ps (sp w))
    (hsp : ∀ (w : World) (H : Hp) (xs : List V) (a : Codec.denoteAll r.args), OnlyF H → Codec.withinAll r.args a = true → Codec.app r.args r.asked a = true → DwAll (K w.params) H xs (Codec.encAll r.args a) →
      sp w xs H (fun v H' => Dw (K w.params) H' v (r.ret.enc (Codec.app r.args r.f a))) fun _ _ _ => False)
    (hCX : ∀ (w : World) (H : Hp) (s : Shared) (e : Value) (s' : Shared), CX w [] H s (fun _ _ _ => False) e s' → False) :
    PySem.W.WalkOS q loose XP YP r d [] (fun f vs => PySem.call f vs) := by
  intro w s_0 s₁ mg mb G Y fa o pm cd doc dV kV ho hd hcd hD hmg hg args vals as hpre hlay hrd hwl hlo
  obtain ⟨a, e1, e2⟩ := PySem.W.os_pre_some hpre
  obtain ⟨e3, hwi⟩ := Codec.encAll_of_decAll r.args args a e1
  subst e3
  have KX := hY w _ Y
  obtain ⟨fd, hb, hF⟩ := F w mg fa _ Y KX G.T.g hmg
  refine PySem.W.enter_call (codeAny_mono (spec_call (R := []) (cl := classAt s_0.heap) (d0 := r.ret.enc (Codec.app r.args r.f a)) KX G.T.g G.T.b G.T.builtins G.T.nolimit hg hwl (hplr a) (layable_weight hlay) hr hF hb (by rw [encAll_len]; exact hlen)
    (fun H xs hO hS => hsp w H xs a hO hwi e2 hS) fun H e s' => hCX w H s₁ e s') fun r' s' hq => ?_)
  obtain ⟨u, as', rfl, h1, h2, h3, h4⟩ := hq
  exact ⟨.inl ⟨u, _, as', rfl, fun _ => rfl, h1, (OpenSpec.post_iff hwell hwi _ _).mpr rfl, fun z => Bool.noConfusion (show false = true from z)⟩, h2, h3, h4⟩
/- the same where the promise hangs on the written part alone -/
theorem walk_specK {r : OpenSpec} {k : Nat} {q : Program} {loose : List Str} {XP : (Str → Option Value) → Heap → Prop} {YP : World → Heap → Prop} {d : DefRec} {K : Params → PySem.W.Frag} {CX : CXT} {ps : List Str} {sp : PySem.W.Frag → Sp}
    (hplr : ∀ a : Codec.denoteAll r.args, plWs (Codec.encAll r.args a) = true) (hwell : r.wellSaid = true) (hdf : d.params.defaults = []) (hlen : r.args.length = ps.length) (hr : Room k callerA)
    (hY : ∀ (w : World) (h : Heap), YP w h → (K w.params).In h)
    (F : ∀ (w : World) (mg : Str → Option Value) (fa : Addr) (h : Heap), YP w h → (K w.params).In h → h.Ns mainGlobals mg → mg d.name = some (.ref fa) →
      ∃ fd : FuncData, (∀ (s : Shared) (us : List Value), us.length = ps.length → BindsTo s fd ⟨us, []⟩ (ps.zip us)) ∧
        ∀ base : Heap, (K w.params).In base → base.Ns mainGlobals mg → FnOk r.prog w (K w.params) mg base CX k fa fd ps (sp (K w.params)))
    (hsp : ∀ (K : PySem.W.Frag) (H : Hp) (xs : List V) (a : Codec.denoteAll r.args), OnlyF H → Codec.withinAll r.args a = true → Codec.app r.args r.asked a = true → DwAll K H xs (Codec.encAll r.args a) →
      sp K xs H (fun v H' => Dw K H' v (r.ret.enc (Codec.app r.args r.f a))) fun _ _ _ => False)
    (hCX : ∀ (H : Hp) (s : Shared) (e : Value) (s' : Shared), CX [] H s (fun _ _ _ => False) e s' → False) :
    PySem.W.WalkOS q loose XP YP r d [] (fun f vs => PySem.call f vs) :=
  walk_spec (K := K) (CX := fun _ => CX) (sp := fun w => sp (K w.params)) hplr hwell hdf hlen hr hY F (fun w H xs a h1 h2 h3 h4 => hsp (K w.params) H xs a h1 h2 h3 h4) fun _ H s e s' => hCX H s e s'
end L2
end
end
-- text SgWays
section
namespace Sg
open Su89
/- ### ways, as lists that fit -/
inductive Fit : List (List Nat) → List Nat → Prop
  | nil : Fit [] []
  | cons {p : List Nat} {l : List (List Nat)} {x : Nat} {w : List Nat} : (x = 0 ∨ ∃ g, g ∈ p ∧ x = g + 1) → Fit l w → Fit (p :: l) (x :: w)
noncomputable def Few (s : List Nat) (w : List Nat) : Prop := ∀ g : Nat, w.count (g + 1) ≤ s.getD g 0
theorem getD_modify_pred (s : List Nat) (g j : Nat) : (s.modify g fun x => x - 1).getD j 0 = if g = j then s.getD j 0 - 1 else s.getD j 0 := by
  rw [List.getD_eq_getElem?_getD, List.getD_eq_getElem?_getD, List.getElem?_modify]
  by_cases h : g = j
  · subst h
    rw [if_pos rfl]
    cases e : s[g]? with
    | none => simp
    | some v => simp
  · rw [if_neg h]
    cases e : s[j]? with
    | none => simp [h]
    | some v => simp [h]
theorem getD_modify_succ (s : List Nat) (g j : Nat) (hg : g < s.length) : (s.modify g fun x => x + 1).getD j 0 = if g = j then s.getD j 0 + 1 else s.getD j 0 := by
  rw [List.getD_eq_getElem?_getD, List.getD_eq_getElem?_getD, List.getElem?_modify]
  by_cases h : g = j
  · subst h
    rw [if_pos rfl, List.getElem?_eq_getElem hg]
    simp
  · rw [if_neg h]
    cases e : s[j]? with
    | none => simp [h]
    | some v => simp [h]
theorem few_zero {s w : List Nat} : Few s (0 :: w) ↔ Few s w := by
  unfold Few
  constructor
  · intro h g
    have := h g
    rw [List.count_cons] at this
    simpa using this
  · intro h g
    have := h g
    rw [List.count_cons]
    simpa using this
theorem few_succ {s w : List Nat} {g : Nat} : Few s ((g + 1) :: w) ↔ s.getD g 0 ≠ 0 ∧ Few (s.modify g fun x => x - 1) w := by
  unfold Few
  constructor
  · intro h
    have h0 := h g
    rw [List.count_cons, if_pos (by simp)] at h0
    refine ⟨by lia, fun j => ?_⟩
    have hj := h j
    rw [getD_modify_pred]
    rw [List.count_cons] at hj
    by_cases e : g = j
    · subst e
      rw [if_pos (by simp)] at hj
      rw [if_pos rfl]; lia
    · rw [if_neg (by simp; lia)] at hj
      rw [if_neg e]; lia
  · rintro ⟨h0, h⟩ j
    have hj := h j
    rw [getD_modify_pred] at hj
    rw [List.count_cons]
    by_cases e : g = j
    · subst e
      rw [if_pos rfl] at hj
      rw [if_pos (by simp)]; lia
    · rw [if_neg e] at hj
      rw [if_neg (by simp; lia)]; lia
theorem mem_ways : ∀ (l : List (List Nat)) (s w : List Nat), w ∈ ways s l ↔ Fit l w ∧ Few s w
  | [], s, w => by
    simp only [ways, List.mem_singleton]
    constructor
    · rintro rfl
      exact ⟨.nil, fun g => by simp⟩
    · rintro ⟨h, _⟩
      cases h; rfl
  | p :: l, s, w => by
    simp only [ways, List.mem_append, List.mem_map, List.mem_flatMap, List.mem_filter]
    constructor
    · rintro (⟨w', h, rfl⟩ | ⟨g, ⟨hg, hs⟩, w', h, rfl⟩)
      · obtain ⟨h1, h2⟩ := (mem_ways l s w').mp h
        exact ⟨.cons (.inl rfl) h1, few_zero.mpr h2⟩
      · obtain ⟨h1, h2⟩ := (mem_ways l _ w').mp h
        exact ⟨.cons (.inr ⟨g, hg, rfl⟩) h1, few_succ.mpr ⟨by simpa using hs, h2⟩⟩
    · rintro ⟨h1, h2⟩
      cases h1 with
      | cons hx hl =>
        rcases hx with rfl | ⟨g, hg, rfl⟩
        · exact .inl ⟨_, (mem_ways l s _).mpr ⟨hl, few_zero.mp h2⟩, rfl⟩
        · obtain ⟨a, b⟩ := few_succ.mp h2
          exact .inr ⟨g, ⟨hg, by simpa using a⟩, _, (mem_ways l _ _).mpr ⟨hl, b⟩, rfl⟩
theorem foldl_max_le : ∀ (l : List Nat) (a b : Nat), a ≤ b → (∀ x ∈ l, x ≤ b) → l.foldl max a ≤ b
  | [], a, b, h, _ => h
  | x :: l, a, b, h, hl => by
    refine foldl_max_le l (max a x) b (Nat.max_le.mpr ⟨h, hl x (by simp)⟩) fun y hy => hl y (by simp [hy])
theorem le_foldl_max : ∀ (l : List Nat) (a : Nat), a ≤ l.foldl max a
  | [], a => Nat.le_refl a
  | x :: l, a => Nat.le_trans (Nat.le_max_left a x) (le_foldl_max l (max a x))
theorem mem_le_foldl_max : ∀ (l : List Nat) (a x : Nat), x ∈ l → x ≤ l.foldl max a
  | y :: l, a, x, h => by
    rcases List.mem_cons.mp h with rfl | h
    · exact Nat.le_trans (Nat.le_max_right a x) (le_foldl_max l (max a x))
    · exact mem_le_foldl_max l (max a y) x h
/- the greatest way is known by one that is a way and that no way surpasses -/
theorem most_eq {a : Abs} {w : List Nat} (h1 : Fit a.people w) (h2 : Few a.stock w) (h : ∀ v, Fit a.people v → Few a.stock v → served v ≤ served w) : a.most = served w := by
  unfold Abs.most
  apply Nat.le_antisymm
  · refine foldl_max_le _ _ _ (Nat.zero_le _) fun x hx => ?_
    obtain ⟨v, hv, rfl⟩ := List.mem_map.mp hx
    obtain ⟨p, q⟩ := (mem_ways _ _ _).mp hv
    exact h v p q
  · exact mem_le_foldl_max _ _ _ (List.mem_map.mpr ⟨w, (mem_ways _ _ _).mpr ⟨h1, h2⟩, rfl⟩)
/- ### a closed set of goods shows that a way is greatest -/
noncomputable def inT (T : Nat → Bool) (x : Nat) : Bool := x != 0 && T (x - 1)
noncomputable def outL (T : Nat → Bool) (l : List Nat) : Bool := !l.all T
theorem served_cons (x : Nat) (w : List Nat) : served (x :: w) = (if x = 0 then 0 else 1) + served w := by
  unfold served
  by_cases h : x = 0
  · subst h; simp
  · simp [h]; lia
theorem served_le {T : Nat → Bool} : ∀ {l : List (List Nat)} {w : List Nat}, Fit l w → served w ≤ w.countP (inT T) + l.countP (outL T)
  | _, _, .nil => by simp [served]
  | _, _, .cons (p := p) (x := x) (l := l) (w := w) hx h => by
    have ih := served_le (T := T) h
    rw [served_cons, List.countP_cons, List.countP_cons]
    rcases hx with rfl | ⟨g, hg, rfl⟩
    · simp; lia
    · rw [if_neg (by lia)]
      cases e : outL T p with
      | true => simp; lia
      | false =>
        have : T g = true := by
          unfold outL at e
          have e' : p.all T = true := by simpa using e
          exact List.all_eq_true.mp e' g hg
        rw [if_pos (show inT T (g + 1) = true by simp [inT, this])]
        simp; lia
theorem served_ge {T : Nat → Bool} : ∀ {l : List (List Nat)} {w : List Nat}, Fit l w → (∀ (i : Nat) (p : List Nat) (x : Nat), l[i]? = some p → w[i]? = some x → (x = 0 ∨ T (x - 1) = true) → p.all T = true) → w.countP (inT T) + l.countP (outL T) ≤ served w
  | _, _, .nil, _ => by simp [served]
  | _, _, .cons (p := p) (x := x) (l := l) (w := w) hx h, k => by
    have ih := served_ge (T := T) h fun i p x h1 h2 h3 => k (i + 1) p x h1 h2 h3
    have k0 := k 0 p x rfl rfl
    rw [served_cons, List.countP_cons, List.countP_cons]
    by_cases z : x = 0
    · subst z
      have := k0 (.inl rfl)
      simp [inT, outL, this]; lia
    · rw [if_neg z]
      cases e : T (x - 1) with
      | true =>
        have := k0 (.inr e)
        rw [if_pos (show inT T x = true by simp [inT, z, e]), if_neg (show ¬ outL T p = true by simp [outL]; simpa using this)]
        lia
      | false =>
        rw [if_neg (show ¬ inT T x = true by simp [inT, e])]
        split <;> lia
/- how many pieces of the goods in T, good by good -/
theorem sum_map_add {α : Type} (f g : α → Nat) : ∀ l : List α, (l.map fun a => f a + g a).sum = (l.map f).sum + (l.map g).sum
  | [] => rfl
  | a :: l => by
    simp only [List.map_cons, List.sum_cons, sum_map_add f g l]
    lia
theorem sum_map_zero {α : Type} (f : α → Nat) : ∀ l : List α, (∀ a ∈ l, f a = 0) → (l.map f).sum = 0
  | [], _ => rfl
  | a :: l, h => by
    rw [List.map_cons, List.sum_cons, h a (by simp), sum_map_zero f l fun b hb => h b (by simp [hb])]
theorem sum_map_le {α : Type} (f g : α → Nat) : ∀ l : List α, (∀ a ∈ l, f a ≤ g a) → (l.map f).sum ≤ (l.map g).sum
  | [], _ => Nat.le_refl _
  | a :: l, h => by
    simp only [List.map_cons, List.sum_cons]
    have h1 := h a (by simp)
    have h2 := sum_map_le f g l fun b hb => h b (by simp [hb])
    lia
theorem sum_one (T : Nat → Bool) (x : Nat) : ∀ G : Nat, ((List.range G).map fun g => if T g then (if x = g + 1 then 1 else 0) else 0).sum = if x ≤ G ∧ inT T x = true then 1 else 0
  | 0 => by
    by_cases h : x = 0
    · subst h; simp [inT]
    · simp [h]
  | G + 1 => by
    rw [List.range_succ, List.map_append, List.sum_append, sum_one T x G]
    simp only [List.map_cons, List.map_nil, List.sum_cons, List.sum_nil, inT]
    by_cases e : x = G + 1
    · subst e
      have n : ¬ G + 1 ≤ G := by lia
      cases e : T G <;> simp [e, n]
    · by_cases le : x ≤ G
      · have : x ≤ G + 1 := by lia
        simp [e, le, this]
      · have : ¬ x ≤ G + 1 := by lia
        simp [e, le, this]
theorem countP_inT (T : Nat → Bool) (G : Nat) : ∀ w : List Nat, (∀ x ∈ w, x ≤ G) → w.countP (inT T) = ((List.range G).map fun g => if T g then w.count (g + 1) else 0).sum
  | [], _ => by
    rw [sum_map_zero]
    · rfl
    · intro a _; simp
  | x :: w, h => by
    have ih := countP_inT T G w fun y hy => h y (by simp [hy])
    have hx := h x (by simp)
    have e : ((List.range G).map fun g => if T g then (x :: w).count (g + 1) else 0) = (List.range G).map fun g => (if T g then w.count (g + 1) else 0) + (if T g then (if x = g + 1 then 1 else 0) else 0) := by
      apply List.map_congr_left
      intro g _
      rw [List.count_cons]
      cases T g with
      | false => simp
      | true => by_cases q : x = g + 1 <;> simp [q]
    rw [e, sum_map_add, sum_one, List.countP_cons, ih]
    simp [hx]
theorem fit_le {G : Nat} : ∀ {l : List (List Nat)} {w : List Nat}, Fit l w → (∀ p ∈ l, ∀ g ∈ p, g < G) → ∀ x ∈ w, x ≤ G
  | _, _, .nil, _, x, hx => by simp at hx
  | _, _, .cons (p := p) hx h, k, y, hy => by
    rcases List.mem_cons.mp hy with rfl | hy
    · rcases hx with rfl | ⟨g, hg, rfl⟩
      · lia
      · have := k p (by simp) g hg; lia
    · exact fit_le h (fun q hq => k q (by simp [hq])) y hy
/- T is shut: all its pieces are given out, and who has one of it wants nothing else -/
noncomputable def Shut (s : List Nat) (l : List (List Nat)) (w : List Nat) (T : Nat → Bool) : Prop :=
  ∀ g : Nat, T g = true → s.getD g 0 ≤ w.count (g + 1) ∧ ∀ (i : Nat) (p : List Nat), l[i]? = some p → w[i]? = some (g + 1) → p.all T = true
theorem greatest {s : List Nat} {l : List (List Nat)} {w v : List Nat} {G : Nat} {T : Nat → Bool} (hG : ∀ p ∈ l, ∀ g ∈ p, g < G) (hw : Fit l w) (hT : Shut s l w T) (h0 : ∀ (i : Nat) (p : List Nat), l[i]? = some p → w[i]? = some 0 → p.all T = true)
    (fv : Fit l v) (nv : Few s v) : served v ≤ served w := by
  have a := served_le (T := T) fv
  have b := served_ge (T := T) hw fun i p x h1 h2 h3 => by
    rcases h3 with rfl | h3
    · exact h0 i p h1 h2
    · by_cases z : x = 0
      · subst z; exact h0 i p h1 h2
      · have e : x - 1 + 1 = x := by lia
        exact (hT (x - 1) h3).2 i p h1 (by rw [e]; exact h2)
  have c : v.countP (inT T) ≤ w.countP (inT T) := by
    rw [countP_inT T G v (fit_le fv hG), countP_inT T G w (fit_le hw hG)]
    refine sum_map_le _ _ _ fun g _ => ?_
    cases e : T g with
    | false => simp
    | true =>
      have := (hT g e).1
      have := nv g
      simp; lia
  lia
end Sg
end
-- text SgKuhn
section
namespace Sg
open Su89
/- ### counting by places -/
theorem count_of_iff {x : Nat} : ∀ {u w : List Nat}, u.length = w.length → (∀ i : Nat, u[i]? = some x ↔ w[i]? = some x) → u.count x = w.count x
  | [], [], _, _ => rfl
  | a :: u, b :: w, hl, h => by
    have ih := count_of_iff (u := u) (w := w) (by simpa using hl) fun i => h (i + 1)
    have h0 : (a = x) ↔ (b = x) := by simpa using h 0
    rw [List.count_cons, List.count_cons, ih]
    by_cases e : a = x
    · rw [if_pos (by simp [e]), if_pos (by simp [h0.mp e])]
    · have e' : ¬ b = x := fun q => e (h0.mpr q)
      rw [if_neg (by simpa using e), if_neg (by simpa using e')]
theorem count_less {x : Nat} : ∀ {u w : List Nat} {k : Nat}, u.length = w.length → (∀ i : Nat, i ≠ k → (u[i]? = some x ↔ w[i]? = some x)) → w[k]? = some x → u[k]? ≠ some x → u.count x + 1 = w.count x
  | [], [], k, _, _, h, _ => by simp at h
  | a :: u, b :: w, 0, hl, h, h1, h2 => by
    have e : u.count x = w.count x := count_of_iff (by simpa using hl) fun i => h (i + 1) (by lia)
    have hb : b = x := by simpa using h1
    have ha : ¬ a = x := by simpa using h2
    subst hb
    rw [List.count_cons, List.count_cons, e, if_neg (by simpa using ha), if_pos (by simp)]
  | a :: u, b :: w, k + 1, hl, h, h1, h2 => by
    have ih := count_less (u := u) (w := w) (k := k) (by simpa using hl) (fun i hi => h (i + 1) (by lia)) h1 h2
    have h0 : (a = x) ↔ (b = x) := by simpa using h 0 (by lia)
    rw [List.count_cons, List.count_cons]
    by_cases e : a = x
    · rw [if_pos (by simp [e]), if_pos (by simp [h0.mp e])]; lia
    · have e' : ¬ b = x := fun q => e (h0.mpr q)
      rw [if_neg (by simpa using e), if_neg (by simpa using e')]; lia
theorem count_set_le (x y : Nat) : ∀ (w : List Nat) (k : Nat), (w.set k x).count y ≤ w.count y + (if x = y then 1 else 0)
  | [], k => by simp
  | a :: w, 0 => by
    rw [List.set_cons_zero, List.count_cons, List.count_cons]
    by_cases e : x = y
    · simp [e]
    · simp [e]
  | a :: w, k + 1 => by
    rw [List.set_cons_succ, List.count_cons, List.count_cons]
    have := count_set_le x y w k
    lia
theorem Fit.len : ∀ {l : List (List Nat)} {w : List Nat}, Fit l w → w.length = l.length
  | _, _, .nil => rfl
  | _, _, .cons _ h => by simp [h.len]
theorem Fit.set : ∀ {l : List (List Nat)} {w : List Nat} {k g : Nat} {p : List Nat}, Fit l w → l[k]? = some p → g ∈ p → Fit l (w.set k (g + 1))
  | _, _, _, _, _, .nil, h, _ => by simp at h
  | _, _, 0, g, p, .cons _ t, h, hg => by
    have e := Option.some.inj h
    subst e
    exact .cons (.inr ⟨g, hg, rfl⟩) t
  | _, _, k + 1, g, p, .cons hx t, h, hg => .cons hx (Fit.set t h hg)
theorem Fit.zero : ∀ l : List (List Nat), Fit l (List.replicate l.length 0)
  | [] => .nil
  | _ :: l => .cons (.inl rfl) (Fit.zero l)
section
variable (s : List Nat) (l : List (List Nat)) (G : Nat)
/- goods tried -/
structure TrOk (tr : List Nat) : Prop where
  nd : tr.Nodup
  lt : ∀ g ∈ tr, g < G
/- of the goods that are in tr' and weren't in tr: all pieces are given out, who has one wants nothing that isn't in tr' -/
noncomputable def New (tk tr tr' : List Nat) : Prop := ∀ g ∈ tr', g ∉ tr → s.getD g 0 ≤ tk.count (g + 1) ∧ ∀ (i : Nat) (q : List Nat), l[i]? = some q → tk[i]? = some (g + 1) → ∀ h ∈ q, h ∈ tr'
structure GiveF (p : Nat) (tk tr tr' : List Nat) : Prop where
  ok : TrOk G tr'
  sub : ∀ g ∈ tr, g ∈ tr'
  own : ∀ q, l[p]? = some q → ∀ g ∈ q, g ∈ tr'
  new : New s l tk tr tr'
structure GiveT (p : Nat) (tr tk tk' : List Nat) : Prop where
  fit : Fit l tk'
  few : Few s tk'
  own : ∃ g, tk'[p]? = some (g + 1) ∧ g ∉ tr
  zero : ∀ i : Nat, i ≠ p → (tk'[i]? = some 0 ↔ tk[i]? = some 0)
  old : ∀ i : Nat, i ≠ p → ∀ g ∈ tr, (tk'[i]? = some (g + 1) ↔ tk[i]? = some (g + 1))
  shut : ∀ T : Nat → Bool, Shut s l tk T → (∀ q, l[p]? = some q → ¬ q.all T = true) ∧ ∀ (i g : Nat), T g = true → (tk'[i]? = some (g + 1) ↔ tk[i]? = some (g + 1))
structure FindF (good : Nat) (tk tr tr' : List Nat) : Prop where
  ok : TrOk G tr'
  sub : ∀ g ∈ tr, g ∈ tr'
  sat : s.getD good 0 ≤ tk.count (good + 1)
  holders : ∀ (i : Nat) (q : List Nat), l[i]? = some q → tk[i]? = some (good + 1) → ∀ h ∈ q, h ∈ tr'
  new : New s l tk tr tr'
structure FindT (good : Nat) (tr tk tk' : List Nat) : Prop where
  fit : Fit l tk'
  few : Few s tk'
  free : tk'.count (good + 1) < s.getD good 0
  zero : ∀ i : Nat, (tk'[i]? = some 0 ↔ tk[i]? = some 0)
  old : ∀ i : Nat, ∀ g ∈ tr, g ≠ good → (tk'[i]? = some (g + 1) ↔ tk[i]? = some (g + 1))
  shut : ∀ T : Nat → Bool, Shut s l tk T → ¬ T good = true ∧ ∀ (i g : Nat), T g = true → (tk'[i]? = some (g + 1) ↔ tk[i]? = some (g + 1))
end
section
variable {s : List Nat} {l : List (List Nat)} {G : Nat}
theorem New.mono {tk tr tr' tr'' : List Nat} (h : New s l tk tr tr') (k : New s l tk tr' tr'') (sub : ∀ g ∈ tr', g ∈ tr'') : New s l tk tr tr'' := by
  intro g hg hn
  by_cases e : g ∈ tr'
  · obtain ⟨a, b⟩ := h g e hn
    exact ⟨a, fun i q h1 h2 x hx => sub x (b i q h1 h2 x hx)⟩
  · exact k g hg e
theorem New.refl (tk tr : List Nat) : New s l tk tr tr := fun _ hg hn => absurd hg hn
/- a piece is free -/
theorem find_free {good : Nat} {tk : List Nat} (tr : List Nat) (hf : Fit l tk) (hw : Few s tk) (h : tk.count (good + 1) < s.getD good 0) : FindT s l good tr tk tk :=
  ⟨hf, hw, h, fun _ => Iff.rfl, fun _ _ _ _ => Iff.rfl, fun T hT => ⟨fun e => (by have := (hT good e).1; lia), fun _ _ _ => Iff.rfl⟩⟩
/- the holder at i moves on -/
theorem find_moved {good i : Nat} {q tk tk' tr tr0 : List Nat} (hf : Fit l tk) (hw : Few s tk) (hq : l[i]? = some q) (hi : tk[i]? = some (good + 1)) (hg : good ∈ tr) (sub : ∀ g ∈ tr, g ∈ tr0) (h : GiveT s l i tr0 tk tk') : FindT s l good tr tk tk' := by
  obtain ⟨g2, h1, h2⟩ := h.own
  refine ⟨h.fit, h.few, ?_, fun j => ?_, fun j g hgt hne => ?_, fun T hT => ?_⟩
  · have e := count_less (x := good + 1) (u := tk') (w := tk) (k := i) (by rw [h.fit.len, hf.len]) (fun j hj => h.old j hj good (sub good hg)) hi (by
      rw [h1]
      intro e
      have : g2 = good := by have := Option.some.inj e; lia
      exact h2 (this ▸ sub good hg))
    have := hw good
    lia
  · by_cases e : j = i
    · subst e
      rw [h1, hi]
      simp
    · exact h.zero j e
  · by_cases e : j = i
    · subst e
      rw [h1, hi]
      constructor
      · intro z
        have : g2 = g := by have := Option.some.inj z; lia
        exact absurd (this ▸ sub g hgt) h2
      · intro z
        have : good = g := by have := Option.some.inj z; lia
        exact absurd this.symm hne
    · exact h.old j e g (sub g hgt)
  · obtain ⟨a, b⟩ := h.shut T hT
    exact ⟨fun e => a q hq ((hT good e).2 i q hq hi), b⟩
/- the piece found is given to p -/
theorem give_found {good p : Nat} {q tk tk' tr tr0 : List Nat} (hq : l[p]? = some q) (hg : good ∈ q) (hn : good ∉ tr) (sub : ∀ g ∈ tr, g ∈ tr0) (h : FindT s l good tr0 tk tk') : GiveT s l p tr tk (tk'.set p (good + 1)) := by
  have hp : p < tk'.length := by
    rw [h.fit.len]
    exact (List.getElem?_eq_some_iff.mp hq).1
  have e0 : (tk'.set p (good + 1))[p]? = some (good + 1) := List.getElem?_set_self hp
  have en : ∀ i, i ≠ p → (tk'.set p (good + 1))[i]? = tk'[i]? := fun i hi => List.getElem?_set_ne (fun z => hi z.symm)
  refine ⟨h.fit.set hq hg, fun g => ?_, ⟨good, e0, hn⟩, fun i hi => by rw [en i hi]; exact h.zero i, fun i hi g hgt => by rw [en i hi]; exact h.old i g (sub g hgt) (fun z => hn (z ▸ hgt)), fun T hT => ?_⟩
  · have a := count_set_le (good + 1) (g + 1) tk' p
    by_cases z : good = g
    · subst z
      have b := h.free
      rw [if_pos rfl] at a
      lia
    · have b := h.few g
      rw [if_neg (by lia)] at a
      lia
  · obtain ⟨a, b⟩ := h.shut T hT
    refine ⟨fun q' hq' => ?_, fun i g ht => ?_⟩
    · rw [hq] at hq'
      cases hq'
      exact fun z => a (List.all_eq_true.mp z good hg)
    · by_cases e : i = p
      · subst e
        rw [e0]
        constructor
        · intro z
          have : good = g := by have := Option.some.inj z; lia
          exact absurd (this ▸ ht) a
        · intro z
          exact absurd (List.all_eq_true.mp ((hT g ht).2 i q hq z) good hg) a
      · rw [en i e]
        exact b i g ht
/- ### person by person -/
structure Upto (s : List Nat) (l : List (List Nat)) (k : Nat) (tk : List Nat) : Prop where
  fit : Fit l tk
  few : Few s tk
  rest : ∀ i : Nat, k ≤ i → i < l.length → tk[i]? = some 0
  shut : ∃ T, Shut s l tk T ∧ ∀ (i : Nat) (q : List Nat), i < k → l[i]? = some q → tk[i]? = some 0 → q.all T = true
theorem Upto.start (s : List Nat) (l : List (List Nat)) : Upto s l 0 (List.replicate l.length 0) := by
  refine ⟨Fit.zero l, fun g => ?_, fun i _ hi => ?_, ⟨fun _ => false, fun g h => (by cases h), fun i q h => absurd h (Nat.not_lt_zero i)⟩⟩
  · rw [List.count_replicate]
    simp
  · rw [List.getElem?_replicate, if_pos hi]
theorem Upto.given {k : Nat} {tk tk' : List Nat} (U : Upto s l k tk) (h : GiveT s l k [] tk tk') : Upto s l (k + 1) tk' := by
  obtain ⟨T, hT, hz⟩ := U.shut
  obtain ⟨a, b⟩ := h.shut T hT
  obtain ⟨g0, e0, _⟩ := h.own
  refine ⟨h.fit, h.few, fun i h1 h2 => (h.zero i (by lia)).mpr (U.rest i (by lia) h2), T, fun g hg => ⟨?_, fun i q hq hi => (hT g hg).2 i q hq ((b i g hg).mp hi)⟩, fun i q hi hq h0 => ?_⟩
  · rw [count_of_iff (u := tk') (w := tk) (by rw [h.fit.len, U.fit.len]) fun i => b i g hg]
    exact (hT g hg).1
  · by_cases e : i = k
    · subst e
      rw [e0] at h0
      cases h0
    · exact hz i q (by lia) hq ((h.zero i e).mp h0)
theorem Upto.not {k : Nat} {tk tr : List Nat} (U : Upto s l k tk) (h : GiveF s l G k tk [] tr) : Upto s l (k + 1) tk := by
  obtain ⟨T, hT, hz⟩ := U.shut
  refine ⟨U.fit, U.few, fun i h1 h2 => U.rest i (by lia) h2, fun g => T g || decide (g ∈ tr), fun g hg => ?_, fun i q hi hq h0 => ?_⟩
  · by_cases e : T g = true
    · obtain ⟨a, b⟩ := hT g e
      refine ⟨a, fun i q hq hi => List.all_eq_true.mpr fun x hx => ?_⟩
      rw [List.all_eq_true.mp (b i q hq hi) x hx]
      rfl
    · have m : g ∈ tr := by simpa [e] using hg
      obtain ⟨a, b⟩ := h.new g m (by simp)
      refine ⟨a, fun i q hq hi => List.all_eq_true.mpr fun x hx => ?_⟩
      rw [decide_eq_true (b i q hq hi x hx), Bool.or_true]
  · by_cases e : i = k
    · subst e
      exact List.all_eq_true.mpr fun x hx => by rw [decide_eq_true (h.own q hq x hx), Bool.or_true]
    · have := hz i q (by lia) hq h0
      exact List.all_eq_true.mpr fun x hx => by rw [List.all_eq_true.mp this x hx]; rfl
theorem Upto.most {a : Abs} {tk : List Nat} (hG : ∀ p ∈ a.people, ∀ g ∈ p, g < G) (U : Upto a.stock a.people a.people.length tk) : a.most = served tk := by
  obtain ⟨T, hT, hz⟩ := U.shut
  refine most_eq U.fit U.few fun v f n => greatest hG U.fit hT (fun i p hp h0 => hz i p (List.getElem?_eq_some_iff.mp hp).1 hp h0) f n
/- different goods are no more than there are -/
theorem nodup_len : ∀ (G : Nat) (tr : List Nat), tr.Nodup → (∀ g ∈ tr, g < G) → tr.length ≤ G
  | 0, tr, _, h => by
    cases tr with
    | nil => exact Nat.le_refl _
    | cons a _ => exact absurd (h a (by simp)) (Nat.not_lt_zero _)
  | G + 1, tr, nd, h => by
    have nd' := nd.erase G
    have lt' : ∀ g ∈ tr.erase G, g < G := fun g hg => by
      have a := h g (List.mem_of_mem_erase hg)
      have b : g ≠ G := fun z => by
        subst z
        exact (List.Nodup.not_mem_erase nd) hg
      lia
    have ih := nodup_len G (tr.erase G) nd' lt'
    have := List.length_erase (a := G) (l := tr)
    split at this <;> lia
theorem TrOk.len {tr : List Nat} (h : TrOk G tr) : tr.length ≤ G := nodup_len G tr h.nd h.lt
theorem TrOk.snoc {tr : List Nat} {g : Nat} (h : TrOk G tr) (hn : g ∉ tr) (hg : g < G) : TrOk G (tr ++ [g]) := by
  refine ⟨List.nodup_append.mpr ⟨h.nd, by simp, fun a ha b hb e => ?_⟩, fun x hx => ?_⟩
  · rw [List.mem_singleton] at hb
    exact hn (hb ▸ e ▸ ha)
  · rcases List.mem_append.mp hx with m | m
    · exact h.lt x m
    · rw [List.mem_singleton] at m
      exact m ▸ hg
end
end Sg
end
-- text SgServe
section
namespace Sg
open Su89
/- ### one behind another -/
noncomputable def take1 (s p : List Nat) : Nat := match takes s p with
  | none => 0
  | some g => g + 1
noncomputable def dec (s : List Nat) (x : Nat) : List Nat := if x = 0 then s else s.modify (x - 1) fun y => y - 1
noncomputable def after : List Nat → List (List Nat) → List Nat
  | s, [] => s
  | s, p :: l => after (dec s (take1 s p)) l
theorem serve_cons (s p : List Nat) (l : List (List Nat)) : serve s (p :: l) = take1 s p :: serve (dec s (take1 s p)) l := by
  unfold take1
  cases e : takes s p with
  | none => simp [serve, e, dec]
  | some g => simp [serve, e, dec]
theorem serve_snoc : ∀ (l : List (List Nat)) (s p : List Nat), serve s (l ++ [p]) = serve s l ++ [take1 (after s l) p]
  | [], s, p => by rw [List.nil_append, serve_cons]; rfl
  | q :: l, s, p => by
    rw [List.cons_append, serve_cons, serve_cons, serve_snoc l]
    rfl
theorem after_snoc : ∀ (l : List (List Nat)) (s p : List Nat), after s (l ++ [p]) = dec (after s l) (take1 (after s l) p)
  | [], _, _ => rfl
  | q :: l, s, p => by
    rw [List.cons_append]
    show after (dec s (take1 s q)) (l ++ [p]) = _
    rw [after_snoc l]
    rfl
theorem serve_len : ∀ (l : List (List Nat)) (s : List Nat), (serve s l).length = l.length
  | [], _ => rfl
  | p :: l, s => by rw [serve_cons, List.length_cons, serve_len l, List.length_cons]
theorem dec_len (s : List Nat) (x : Nat) : (dec s x).length = s.length := by
  unfold dec
  split
  · rfl
  · rw [List.length_modify]
theorem after_len : ∀ (l : List (List Nat)) (s : List Nat), (after s l).length = s.length
  | [], _ => rfl
  | p :: l, s => by
    show (after (dec s (take1 s p)) l).length = _
    rw [after_len l, dec_len]
theorem take_snoc {α : Type} : ∀ {l : List α} {i : Nat} {x : α}, l[i]? = some x → l.take (i + 1) = l.take i ++ [x]
  | [], i, x, h => by simp at h
  | a :: l, 0, x, h => by
    have e : a = x := Option.some.inj h
    subst e
    rfl
  | a :: l, i + 1, x, h => by
    have ih := take_snoc (l := l) (i := i) (x := x) h
    show a :: l.take (i + 1) = a :: l.take i ++ [x]
    rw [ih]
    rfl
theorem take1_some {s p : List Nat} {g : Nat} (h : take1 s p = g + 1) : takes s p = some g := by
  unfold take1 at h
  cases e : takes s p with
  | none => rw [e] at h; cases h
  | some g' =>
    rw [e] at h
    have : g' = g := by
      have h' : g' + 1 = g + 1 := h
      lia
    rw [this]
theorem takes_mem {s p : List Nat} {g : Nat} (h : takes s p = some g) : g ∈ p ∧ s.getD g 0 ≠ 0 := by
  unfold takes at h
  exact ⟨List.mem_of_find?_eq_some h, by simpa using List.find?_some h⟩
theorem dec_succ (s : List Nat) (g : Nat) : dec s (g + 1) = s.modify g fun x => x - 1 := by
  unfold dec
  rw [if_neg (by lia)]
  rfl
theorem serve_fit : ∀ (l : List (List Nat)) (s : List Nat), Fit l (serve s l) ∧ Few s (serve s l)
  | [], s => ⟨.nil, fun g => by simp [serve]⟩
  | p :: l, s => by
    rw [serve_cons]
    cases e : take1 s p with
    | zero =>
      obtain ⟨a, b⟩ := serve_fit l s
      have d : dec s 0 = s := by unfold dec; rw [if_pos rfl]
      rw [d]
      exact ⟨.cons (.inl rfl) a, few_zero.mpr b⟩
    | succ g =>
      obtain ⟨a, b⟩ := serve_fit l (dec s (g + 1))
      obtain ⟨h1, h2⟩ := takes_mem (take1_some e)
      refine ⟨.cons (.inr ⟨g, h1, rfl⟩) a, few_succ.mpr ⟨h2, ?_⟩⟩
      rw [← dec_succ]
      exact b
/- how many have something: all but the zeros -/
theorem served_count : ∀ w : List Nat, served w + w.count 0 = w.length
  | [] => rfl
  | x :: w => by
    rw [served_cons, List.count_cons, List.length_cons, ← served_count w]
    by_cases h : x = 0
    · rw [if_pos h, if_pos (by simp [h])]; lia
    · rw [if_neg h, if_neg (by simp [h])]; lia
/- ### one piece more -/
/- t has one piece of g more -/
noncomputable def More (s t : List Nat) (g : Nat) : Prop := ∀ j : Nat, t.getD j 0 = s.getD j 0 + if g = j then 1 else 0
noncomputable def Alike (s t : List Nat) : Prop := ∀ j : Nat, t.getD j 0 = s.getD j 0
theorem find_congr {α : Type} {f g : α → Bool} (h : ∀ a, f a = g a) (l : List α) : l.find? f = l.find? g := by
  have e : f = g := funext h
  rw [e]
theorem Alike.takes {s t : List Nat} (h : Alike s t) (p : List Nat) : Su89.takes t p = Su89.takes s p := find_congr (fun g => by rw [h g]) p
theorem getD_dec (s : List Nat) (x j : Nat) : (dec s x).getD j 0 = if x = j + 1 then s.getD j 0 - 1 else s.getD j 0 := by
  unfold dec
  by_cases h : x = 0
  · rw [if_pos h, if_neg (by lia)]
  · rw [if_neg h, getD_modify_pred]
    by_cases e : x - 1 = j
    · rw [if_pos e, if_pos (by lia)]
    · rw [if_neg e, if_neg (by lia)]
theorem Alike.serve {s t : List Nat} (h : Alike s t) : ∀ l : List (List Nat), Su89.serve t l = Su89.serve s l := by
  intro l
  induction l generalizing s t with
  | nil => rfl
  | cons p l ih =>
    have e : take1 t p = take1 s p := by unfold take1; rw [h.takes]
    rw [serve_cons, serve_cons, e, ih (s := dec s (take1 s p)) (t := dec t (take1 s p))]
    intro j
    rw [getD_dec, getD_dec, h j]
theorem takes_more {s t : List Nat} {g : Nat} (h : More s t g) : ∀ p : List Nat, Su89.takes t p = Su89.takes s p ∨ Su89.takes t p = some g
  | [] => .inl rfl
  | a :: p => by
    have ih := takes_more h p
    unfold Su89.takes at ih ⊢
    rw [List.find?_cons, List.find?_cons, h a]
    by_cases e : g = a
    · subst e
      rw [if_pos rfl]
      have : (s.getD g 0 + 1 != 0) = true := by simp
      rw [this]
      exact .inr rfl
    · rw [if_neg e, Nat.add_zero]
      cases (s.getD a 0 != 0) with
      | true => exact .inl rfl
      | false => exact ih
/- with one piece more nobody fewer is served, and one more at most -/
theorem served_more : ∀ (l : List (List Nat)) {s t : List Nat} {g : Nat}, More s t g → served (serve s l) ≤ served (serve t l) ∧ served (serve t l) ≤ served (serve s l) + 1
  | [], s, t, g, _ => by simp [serve, served]
  | p :: l, s, t, g, h => by
    rw [serve_cons, serve_cons, served_cons, served_cons]
    rcases takes_more h p with e | e
    · have e' : take1 t p = take1 s p := by unfold take1; rw [e]
      rw [e']
      have m : More (dec s (take1 s p)) (dec t (take1 s p)) g := fun j => by
        rw [getD_dec, getD_dec, h j]
        by_cases q : take1 s p = j + 1
        · rw [if_pos q, if_pos q]
          have := (takes_mem (take1_some q)).2
          lia
        · rw [if_neg q, if_neg q]
      have ih := served_more l m
      lia
    · have et : take1 t p = g + 1 := by unfold take1; rw [e]
      rw [et, if_neg (show ¬ g + 1 = 0 by lia)]
      cases q : take1 s p with
      | zero =>
        have d : dec s 0 = s := by unfold dec; rw [if_pos rfl]
        rw [d]
        have al : Alike s (dec t (g + 1)) := fun j => by
          rw [getD_dec, h j]
          by_cases z : g = j
          · rw [if_pos z, if_pos (by lia)]; lia
          · rw [if_neg z, if_neg (by lia)]; rfl
        rw [al.serve]
        rw [if_pos rfl]; lia
      | succ x =>
        rw [if_neg (by lia)]
        have m : More (dec s (x + 1)) (dec t (g + 1)) x := fun j => by
          rw [getD_dec, getD_dec, h j]
          have := (takes_mem (take1_some q)).2
          by_cases z : g = j
          · rw [if_pos z, if_pos (show g + 1 = j + 1 by lia)]
            by_cases y : x = j
            · subst y; rw [if_pos rfl, if_pos rfl]; lia
            · rw [if_neg (by lia), if_neg y]; lia
          · rw [if_neg z, if_neg (show ¬ g + 1 = j + 1 by lia)]
            by_cases y : x = j
            · subst y; rw [if_pos rfl, if_pos rfl]; lia
            · rw [if_neg (by lia), if_neg y]
        have ih := served_more l m
        lia
theorem more_plus (s : List Nat) (g : Nat) (hg : g < s.length) : More s (s.modify g fun x => x + 1) g := fun j => by
  rw [getD_modify_succ s g j hg]
  by_cases e : g = j
  · rw [if_pos e, if_pos e]
  · rw [if_neg e, if_neg e]; rfl
end Sg
end
-- text SgFlat
section
namespace Sg
/- ### the line and its calls -/
noncomputable def lrow (r : List Int) : List Int := (r.length : Int) :: r
noncomputable def flat : List (List Int) → List Int
  | [] => []
  | h :: rows => h ++ rows.flatMap lrow
theorem row_flat {l x t : List Int} (h : PyFlat.row l = some (x, t)) : l = lrow x ++ t := by
  cases l with
  | nil => cases h
  | cons n r =>
    simp only [PyFlat.row] at h
    by_cases c : 0 ≤ n ∧ n.toNat ≤ r.length
    · rw [if_pos c] at h
      have e := Option.some.inj h
      have e1 : r.take n.toNat = x := congrArg Prod.fst e
      have e2 : r.drop n.toNat = t := congrArg Prod.snd e
      subst e1 e2
      unfold lrow
      rw [List.length_take, Nat.min_eq_left c.2, Int.toNat_of_nonneg c.1, List.cons_append, List.take_append_drop]
    · rw [if_neg c] at h
      cases h
theorem rows_flat : ∀ {k : Nat} {l t : List Int} {xs : List (List Int)}, PyFlat.rows k l = some (xs, t) → l = xs.flatMap lrow ++ t ∧ xs.length = k
  | 0, l, t, xs, h => by
    have e := Option.some.inj h
    have e1 : [] = xs := congrArg Prod.fst e
    have e2 : l = t := congrArg Prod.snd e
    subst e1 e2
    exact ⟨rfl, rfl⟩
  | k + 1, l, t, xs, h => by
    unfold PyFlat.rows at h
    cases e : PyFlat.row l with
    | none => rw [e] at h; cases h
    | some q =>
      obtain ⟨x, s⟩ := q
      rw [e] at h
      simp only at h
      cases e2 : PyFlat.rows k s with
      | none => rw [e2] at h; cases h
      | some q2 =>
        obtain ⟨ys, t2⟩ := q2
        rw [e2] at h
        have z := Option.some.inj h
        have z1 : x :: ys = xs := congrArg Prod.fst z
        have z2 : t2 = t := congrArg Prod.snd z
        subst z1 z2
        obtain ⟨a, b⟩ := rows_flat e2
        refine ⟨?_, by rw [List.length_cons, b]⟩
        rw [row_flat e, a, List.flatMap_cons, List.append_assoc]
/- a call of the shape -/
structure Shaped (shape : Int → Option (Nat × Nat)) (c : List (List Int)) : Prop where
  ex : ∃ p xs rows n k, c = (p :: xs) :: rows ∧ shape p = some (n, k) ∧ xs.length = n ∧ rows.length = k
theorem call_flat {shape : Int → Option (Nat × Nat)} {l t : List Int} {c : List (List Int)} (h : PyFlat.call shape l = some (c, t)) : l = flat c ++ t ∧ Shaped shape c := by
  cases l with
  | nil => cases h
  | cons p r =>
    simp only [PyFlat.call] at h
    cases e : shape p with
    | none => rw [e] at h; cases h
    | some q =>
      obtain ⟨n, k⟩ := q
      rw [e] at h
      simp only at h
      by_cases hl : r.length < n
      · rw [if_pos hl] at h; cases h
      · rw [if_neg hl] at h
        cases e2 : PyFlat.rows k (r.drop n) with
        | none => rw [e2] at h; cases h
        | some q2 =>
          obtain ⟨xs, t2⟩ := q2
          rw [e2] at h
          have z := Option.some.inj h
          have z1 : (p :: r.take n) :: xs = c := congrArg Prod.fst z
          have z2 : t2 = t := congrArg Prod.snd z
          subst z1 z2
          obtain ⟨a, b⟩ := rows_flat e2
          refine ⟨?_, ⟨p, r.take n, xs, n, k, rfl, e, by rw [List.length_take]; lia, b⟩⟩
          show p :: r = (p :: r.take n ++ xs.flatMap lrow) ++ t2
          rw [List.append_assoc, ← a, List.cons_append, List.take_append_drop]
theorem calls_flat {shape : Int → Option (Nat × Nat)} : ∀ {f : Nat} {l : List Int} {cs : List (List (List Int))}, PyFlat.calls shape f l = some cs → l = cs.flatMap flat ∧ ∀ c ∈ cs, Shaped shape c
  | f, [], cs, h => by
    have e : some [] = some cs := by
      cases f <;> exact h
    cases e
    exact ⟨rfl, fun c hc => by simp at hc⟩
  | 0, p :: r, cs, h => by cases h
  | f + 1, p :: r, cs, h => by
    unfold PyFlat.calls at h
    cases e : PyFlat.call shape (p :: r) with
    | none => rw [e] at h; cases h
    | some q =>
      obtain ⟨c, t⟩ := q
      rw [e] at h
      simp only at h
      cases e2 : PyFlat.calls shape f t with
      | none => rw [e2] at h; cases h
      | some cs2 =>
        rw [e2] at h
        have z : c :: cs2 = cs := Option.some.inj h
        subst z
        obtain ⟨a, b⟩ := call_flat e
        obtain ⟨a2, b2⟩ := calls_flat e2
        refine ⟨?_, fun d hd => ?_⟩
        · rw [a, List.flatMap_cons, ← a2]
        · rcases List.mem_cons.mp hd with rfl | hd
          · exact b
          · exact b2 d hd
end Sg
end
-- text SgRules
section
set_option Elab.async false
set_option linter.all false
set_option maxRecDepth 100000
set_option maxHeartbeats 4000000
namespace L2
open PySem PySem.Spec PyProof.Rows
section
variable {X : Cx}
/- ### rules that the layer lacks: xs.count(k), set(xs), len of a set, xs[i] by values -/
noncomputable def rCountI (K : PySem.W.Frag) : V → List V → Hp → VK → Prop := fun x xs H Q => ∃ (a : Addr) (ns : List Int) (k : Int), x = .ref a ∧ xs = [.int k] ∧ SqL K H a (ns.map V.int) ∧ Q (.int (ns.count k : Nat)) H
theorem mt_countI : MtR X "list.count" (rCountI X.K) := by
  intro pins s σ H x xs v us Q I rx rxs h
  obtain ⟨a, ns, k, rfl, rfl, hs, q⟩ := h
  cases rx
  obtain ⟨u, rfl, ru⟩ := Vals.one rxs
  obtain ⟨t, rfl⟩ := ru
  obtain ⟨its, rv, pl, _⟩ := I.list hs
  exact count_list_ints pl.isList (intsAre_of rv) ⟨.int _, H, I.tok _, ⟨_, rfl⟩, q⟩
noncomputable def dedup (ns : List Int) : List Int := firstMet (fun i => ns.getD i 0) ns.length
noncomputable def rSetI (K : PySem.W.Frag) : List V → Hp → VK → Prop := fun vs H Q => ∃ (a : Addr) (ns : List Int), vs = [V.ref a] ∧ SqL K H a (ns.map V.int) ∧ ns.length + 1 < scanBound ∧
  ∀ l, H l = none → Q (.ref l) (upd H l (.set (fun k => (dedup ns).any (· == k)) (dedup ns).length))
theorem call_setI (hc : X.calm = true) : CallR X (.type "set") (rSetI X.K) := by
  intro pins s σ H vs us Q I r h
  obtain ⟨a, ns, rfl, hs, hb, q⟩ := h
  obtain ⟨its, rv, pl, hz⟩ := I.list hs
  rw [Vals.ref1 r]
  have hi : IntsAre its ns := intsAre_of rv
  have hn : its.length = ns.length := IntsAre.length hi
  have hsz : its.toArray.size = ns.length := by rw [List.size_toArray]; exact hn
  refine PySem.call_set_list (items := its.toArray) (ns := ns) (I.ok.hd hc) pl.isList (by simpa using hi) (by rw [hsz]; exact hb) fun h' tk hS hk => ?_
  rw [hsz] at hS
  refine ⟨.ref s.heap.objs.size, _, I.laid (t' := tk) (o := .set (fun k => (dedup ns).any (· == k)) (dedup ns).length) (fun b o e => hk b o (Heap.lt_size e) e) (Nat.le_refl _) hS, rfl, q _ (I.hok.fresh (Nat.le_refl _))⟩
noncomputable def rLenSet : List V → Hp → VK → Prop := fun vs H Q => ∃ (a : Addr) (S : Int → Bool) (n : Nat), vs = [V.ref a] ∧ H a = some (.set S n) ∧ n < 2 ^ 63 ∧ Q (.int n) H
theorem call_lenSet : CallR X (.builtin "len") rLenSet := by
  intro pins s σ H vs us Q I r h
  obtain ⟨a, S, n, rfl, ha, hb, q⟩ := h
  rw [Vals.ref1 r]
  have hS : s.heap.SetOf (intKind X.prog X.w) a S n := I.hok a _ ha
  obtain ⟨o, ho, hso⟩ := hS.objOf
  obtain ⟨hex, es, ep, t, hd, _, _, hn, hf⟩ := hso
  subst hn
  exact call_len_set ho hex hd hf (by lia) ⟨.int _, H, I.tok _, ⟨_, rfl⟩, q⟩
noncomputable def rGetL (K : PySem.W.Frag) : V → V → Hp → VK → Prop := fun o i H Q => ∃ p xs j v, o = .ref p ∧ i = .int ((j : Nat) : Int) ∧ SqL K H p xs ∧ xs[j]? = some v ∧ Q v H
theorem get_list : PGet X (rGetL X.K) := by
  intro pins s σ H o i ov iv Q I ro ri h
  obtain ⟨p, xs, j, v, rfl, rfl, hs, hv, q⟩ := h
  cases ro
  obtain ⟨t, rfl⟩ := ri
  obtain ⟨its, rv, pl, hz⟩ := I.list hs
  obtain ⟨u, hu, ru⟩ := rv.get hv
  have hj : j < its.length := (List.getElem?_eq_some_iff.mp hu).1
  have hl := rv.length
  have hn := line63
  exact wpAny_getItem_list pl.isList (by lia) (by lia) (by simpa using hu) ⟨v, H, I, ru, q⟩
end
end L2
end
-- text SgBase
section
set_option Elab.async false
set_option linter.all false
set_option maxRecDepth 100000
set_option maxHeartbeats 4000000
namespace Sg
open PySem PySem.Spec PyProof.Rows L2
/- ### numbers of the specification, as the program has them -/
noncomputable def zs (l : List Nat) : List Int := l.map fun (n : Nat) => (n : Int)
noncomputable def nats (l : List Nat) : List V := (zs l).map V.int
theorem nats_len (l : List Nat) : (nats l).length = l.length := by unfold nats zs; rw [List.length_map, List.length_map]
theorem nats_get {l : List Nat} {i g : Nat} (h : l[i]? = some g) : (nats l)[i]? = some (.int (g : Int)) := by
  unfold nats zs
  rw [List.getElem?_map, List.getElem?_map, h]
  rfl
theorem nats_of {l : List Nat} {i : Nat} {y : V} (h : (nats l)[i]? = some y) : ∃ g : Nat, l[i]? = some g ∧ y = .int (g : Int) := by
  unfold nats zs at h
  rw [List.getElem?_map, List.getElem?_map] at h
  cases e : l[i]? with
  | none => rw [e] at h; cases h
  | some g => rw [e] at h; exact ⟨g, rfl, (Option.some.inj h).symm⟩
theorem nats_set (l : List Nat) (i n : Nat) : (nats l).set i (.int (n : Int)) = nats (l.set i n) := by
  unfold nats zs
  rw [List.map_set, List.map_set]
theorem nats_snoc (l : List Nat) (n : Nat) : nats l ++ [.int (n : Int)] = nats (l ++ [n]) := by
  unfold nats zs
  rw [List.map_append, List.map_append]
  rfl
theorem nats_cons (n : Nat) (l : List Nat) : nats (n :: l) = .int (n : Int) :: nats l := rfl
theorem zs_count (l : List Nat) (n : Nat) : (zs l).count (n : Int) = l.count n := by
  induction l with
  | nil => rfl
  | cons a l ih =>
    show ((a : Int) :: zs l).count (n : Int) = _
    rw [List.count_cons, List.count_cons, ih]
    by_cases h : a = n
    · rw [if_pos (by simp [h]), if_pos (by simp [h])]
    · rw [if_neg (by simp; lia), if_neg (by simpa using h)]
theorem getD_of {l : List Nat} {i g : Nat} (h : l[i]? = some g) : l.getD i 0 = g := by rw [List.getD_eq_getElem?_getD, h]; rfl
theorem get_of {l : List Nat} {i : Nat} (h : i < l.length) : l[i]? = some (l.getD i 0) := by
  rw [List.getElem?_eq_getElem h, List.getD_eq_getElem?_getD, List.getElem?_eq_getElem h]
  rfl
theorem dec_set {s : List Nat} {g v : Nat} (h : s[g]? = some v) : dec s (g + 1) = s.set g (v - 1) := by
  rw [dec_succ]
  apply List.ext_getElem?
  intro j
  rw [List.getElem?_modify, List.getElem?_set]
  by_cases e : g = j
  · subst e
    rw [if_pos rfl, h, if_pos (List.getElem?_eq_some_iff.mp h).1]
    simp
  · rw [if_neg e]
    cases s[j]? with
    | none => rfl
    | some y => simp [e]
/- how many have something, as count_served has it -/
theorem served_int (w : List Nat) : ((nats w).length : Int) - ((zs w).count ((0 : Nat) : Int) : Nat) = ((Su89.served w : Nat) : Int) := by
  rw [zs_count, nats_len]
  have := served_count w
  lia
/- ### lists of goods -/
structure Lists (K : PySem.W.Frag) (H : Hp) (qs : List Addr) (ls : List (List Nat)) : Prop where
  len : qs.length = ls.length
  at_ : ∀ (i : Nat) (q : Addr) (l : List Nat), qs[i]? = some q → ls[i]? = some l → SqL K H q (nats l)
theorem Lists.same {K : PySem.W.Frag} {H H' : Hp} {qs : List Addr} {ls : List (List Nat)} (h : Lists K H qs ls) (s : Same H H') : Lists K H' qs ls := ⟨h.len, fun i q l h1 h2 => s.seq (h.at_ i q l h1 h2)⟩
theorem Lists.get {K : PySem.W.Frag} {H : Hp} {qs : List Addr} {ls : List (List Nat)} (h : Lists K H qs ls) {i : Nat} {y : V} (e : (qs.map V.ref)[i]? = some y) : ∃ q l, y = .ref q ∧ qs[i]? = some q ∧ ls[i]? = some l ∧ SqL K H q (nats l) := by
  rw [List.getElem?_map] at e
  cases eq : qs[i]? with
  | none => rw [eq] at e; cases e
  | some q =>
    rw [eq] at e
    have hi : i < ls.length := by rw [← h.len]; exact (List.getElem?_eq_some_iff.mp eq).1
    exact ⟨q, ls[i], (Option.some.inj e).symm, rfl, List.getElem?_eq_getElem hi, h.at_ i q _ eq (List.getElem?_eq_getElem hi)⟩
theorem same_new {H : Hp} {p : Addr} (h : H p = none) (o : HO) : Same H (upd H p o) := fun b u q => by rw [upd_ne (ne_of_none q h)]; exact q
theorem same_upd {H H' : Hp} {p : Addr} (s : Same H H') (h : H p = none) (o : HO) : Same H (upd H' p o) := fun b u q => by rw [upd_ne (ne_of_none q h)]; exact s b u q
noncomputable def Goods (n : Nat) (ls : List (List Nat)) : Prop := ∀ p ∈ ls, ∀ g ∈ p, g < n
theorem Goods.at {n i : Nat} {ls : List (List Nat)} {l : List Nat} (h : Goods n ls) (e : ls[i]? = some l) : ∀ g ∈ l, g < n := h l (List.mem_of_getElem? e)
end Sg
end
-- text SgTop
section
set_option Elab.async false
set_option linter.all false
set_option maxRecDepth 100000
set_option maxHeartbeats 4000000
namespace Sg
open PySem PySem.Spec PyProof.Rows L2
/- ### the text by places -/
noncomputable def top (i : Nat) : Stmt := PySem.Challenge.pw_standgoods_s01_answers.main.body.getD i (.Pass ⟨0, 0, 0, 0⟩)
noncomputable abbrev sFirst : Stmt := top 6
noncomputable abbrev sServe : Stmt := top 7
noncomputable abbrev sCount : Stmt := top 8
noncomputable abbrev sFar : Stmt := top 9
noncomputable abbrev sAllFar : Stmt := top 10
noncomputable abbrev sLeft : Stmt := top 11
noncomputable abbrev sMost : Stmt := top 12
noncomputable abbrev sGive : Stmt := top 13
noncomputable abbrev sFind : Stmt := top 14
noncomputable abbrev sStocks : Stmt := top 16
noncomputable abbrev sBest : Stmt := top 17
noncomputable abbrev sWorth : Stmt := top 18
noncomputable abbrev sAnswers : Stmt := top 47
noncomputable abbrev sSplit : Stmt := top 48
noncomputable abbrev sLength : Stmt := top 49
noncomputable abbrev sCall : Stmt := top 50
noncomputable abbrev sAskQ : Stmt := top 51
noncomputable abbrev sAbout : Stmt := top 52
noncomputable abbrev cInit : Stmt := inClass (top 25) 0
noncomputable abbrev cBegin : Stmt := inClass (top 25) 1
noncomputable abbrev cPut : Stmt := inClass (top 25) 2
noncomputable abbrev cPerson : Stmt := inClass (top 25) 3
noncomputable abbrev cDrop : Stmt := inClass (top 25) 4
noncomputable abbrev cSwap : Stmt := inClass (top 25) 5
noncomputable abbrev cServe : Stmt := inClass (top 25) 6
noncomputable abbrev cGot : Stmt := inClass (top 25) 7
noncomputable abbrev cLost : Stmt := inClass (top 25) 8
noncomputable abbrev cLeft : Stmt := inClass (top 25) 9
noncomputable abbrev cRanks : Stmt := inClass (top 25) 10
noncomputable abbrev cMost : Stmt := inClass (top 25) 11
noncomputable abbrev cNeeded : Stmt := inClass (top 25) 12
noncomputable abbrev cPlus : Stmt := inClass (top 25) 13
noncomputable abbrev cTold : Stmt := inClass (top 25) 14
noncomputable abbrev cAhead : Stmt := inClass (top 25) 15
noncomputable abbrev cLay : Stmt := inClass (top 25) 16
noncomputable abbrev cWanted : Stmt := inClass (top 25) 17
noncomputable abbrev cLook : Stmt := inClass (top 25) 18
noncomputable abbrev cSums : Stmt := inClass (top 25) 19
noncomputable abbrev cState : Stmt := inClass (top 25) 20
noncomputable abbrev cHasGood : Stmt := inClass (top 25) 21
noncomputable abbrev cHasPerson : Stmt := inClass (top 25) 22
noncomputable abbrev cMay : Stmt := inClass (top 25) 23
noncomputable abbrev cTaken : Stmt := inClass (top 25) 24
noncomputable abbrev cServed : Stmt := inClass (top 25) 25
noncomputable abbrev cIsNeeded : Stmt := inClass (top 25) 26
end Sg
end
-- text SgServing
section
set_option Elab.async false
set_option linter.all false
set_option maxRecDepth 100000
set_option maxHeartbeats 4000000
namespace Sg
open PySem PySem.Spec PyProof.Rows L2
section
variable {P : Program} {w : World} {K : PySem.W.Frag} {mg : Str → Option Value} {base : Heap}
/- ### first_there -/
theorem scFirst : FnScope ["goods", "pieces", "good"] ["goods", "pieces"] (defScope sFirst) := ⟨rfl, rfl, rfl, by decide +kernel, rfl, by decide +kernel, by decide +kernel⟩
noncomputable def spFirst (K : PySem.W.Frag) : Sp := fun vs H Q _ => ∃ (a b : Addr) (p s : List Nat), vs = [.ref a, .ref b] ∧ SqL K H a (nats p) ∧ SqL K H b (nats s) ∧ (∀ g ∈ p, g < s.length) ∧ Q (.int (take1 s p : Nat)) H
theorem takes_take {s p : List Nat} {i g : Nat} (hg : p[i]? = some g) (hn : Su89.takes s (p.take i) = none) : Su89.takes s (p.take (i + 1)) = if s.getD g 0 = 0 then none else some g := by
  unfold Su89.takes at hn ⊢
  rw [take_snoc hg, List.find?_append, hn, Option.none_or, List.find?_cons]
  by_cases h : s.getD g 0 = 0
  · rw [if_pos h, h]; rfl
  · rw [if_neg h]
    have : (s.getD g 0 != 0) = true := by simpa using h
    rw [this]
theorem takes_pre {s p : List Nat} {i g : Nat} (h : Su89.takes s (p.take i) = some g) : Su89.takes s p = some g := by
  unfold Su89.takes at h ⊢
  rw [← List.take_append_drop i p, List.find?_append, h]
  rfl
theorem ok_first {f : Addr} {fd : FuncData} {t : Tok} (F : Fun K "first_there" "first_there" sFirst f fd) (mN : mg "NOTHING" = some (.int 0 t)) : FnOk P w K mg base CX0 1 f fd ["goods", "pieces"] (spFirst K) := by
  refine F.ok scFirst (fun vs H Q E h => ?_) (fun cdv A outer s H vs Q E hr h => ?_)
  · obtain ⟨a, b, p, s, rfl, _⟩ := h
    rfl
  obtain ⟨a, b, p, s, rfl, hA, hB, hb, k⟩ := h
  refine ⟨_, pss_cons (ps_for PassesOwn.never rfl (pi_list (pv 0)) (pg_name (i := 2) scFirst.nd rfl (Or.inl rfl))
      (pss_one (ps_if (pt_cmpR op_gt (pe_ix ix_list (pv 1) (pv 2) (fun _ _ => rfl)) pe_int (nomark _)) (pss_one (ps_ret (pe_op op_add (pv 2) pe_int))) pss_nil)))
    (pss_one (ps_ret (pe_glob (v := .int 0) rfl mN ⟨_, rfl⟩))), ?_⟩
  refine ⟨_, rfl, a, rfl, ⟨_, hA⟩, for_list (K := K) (a := a) (xs := nats p) (fun i σ H' => ∃ v : Option V, σ = [some (.ref a), some (.ref b), v] ∧ H' = H ∧ Su89.takes s (p.take i) = none)
    ⟨none, rfl, rfl, rfl⟩ (fun i σ H' _ hq => by obtain ⟨_, _, e, _⟩ := hq; exact e ▸ hA) ?_ ?_⟩
  · rintro i y σ H' hi ⟨v, rfl, rfl, hn⟩
    obtain ⟨g, hg, rfl⟩ := nats_of hi
    have gl := hb g (List.mem_of_getElem? hg)
    refine ⟨_, rfl, _, rfl, b, _, _, _, rfl, rfl, hB, atI_nat (nats_get (get_of gl)), _, _, rfl, rfl, _, rfl, ?_⟩
    have tt := takes_take hg hn
    refine ite2 (fun c => ?_) (fun c => ?_)
    · have c' : (0 : Int) < ((s.getD g 0 : Nat) : Int) := of_decide_eq_true c
      rw [if_neg (by lia)] at tt
      refine ⟨_, rfl, _, _, rfl, rfl, ?_⟩
      have e : take1 s p = g + 1 := by unfold take1; rw [takes_pre tt]
      rw [e] at k
      exact k
    · have c' : ¬ (0 : Int) < ((s.getD g 0 : Nat) : Int) := of_decide_eq_false (Bool.eq_false_iff.mpr c)
      rw [if_pos (by lia)] at tt
      exact ⟨_, rfl, rfl, tt⟩
  · rintro σ H' ⟨v, rfl, rfl, hn⟩
    rw [nats_len, List.take_length] at hn
    have e : take1 s p = 0 := by unfold take1; rw [hn]
    rw [e] at k
    exact k
/- ### serve_all -/
theorem scServe : FnScope ["pieces", "lists", "there", "taken", "goods", "take"] ["pieces", "lists"] (defScope sServe) := ⟨rfl, rfl, rfl, by decide +kernel, rfl, by decide +kernel, by decide +kernel⟩
noncomputable def spServe (K : PySem.W.Frag) : Sp := fun vs H Q _ => ∃ (a b : Addr) (s : List Nat) (qs : List Addr) (ls : List (List Nat)), vs = [.ref a, .ref b] ∧ SqL K H a (nats s) ∧ SqL K H b (qs.map V.ref) ∧ Lists K H qs ls ∧ Goods s.length ls ∧ ls.length ≤ 1000 ∧
  ∀ (r : Addr) (H' : Hp), Same H H' → H r = none → H' r = some (.lst (nats (Su89.serve s ls))) → Q (.ref r) H'
theorem ok_serve {f g : Addr} {fd gd : FuncData} {t : Tok} (F : Fun K "serve_all" "serve_all" sServe f fd) (G : FnOk P w K mg base CX0 1 g gd ["goods", "pieces"] (spFirst K)) (bG : Binds K gd ["goods", "pieces"] []) (kG : PySem.W.keepIn K (.ref g) = true)
    (mG : mg "first_there" = some (.ref g)) (ml : mg "list" = none) (mN : mg "NOTHING" = some (.int 0 t)) : FnOk P w K mg base CX0 2 f fd ["pieces", "lists"] (spServe K) := by
  refine F.ok scServe (fun vs H Q E h => ?_) (fun cdv A outer s H vs Q E hr h => ?_)
  · obtain ⟨a, b, s, qs, ls, rfl, _⟩ := h
    rfl
  obtain ⟨a, b, s, qs, ls, rfl, hA, hB, hL, hG, hlen, k⟩ := h
  refine ⟨_, pss_cons (ps_set (i := 2) scServe.nd rfl (Or.inl rfl) (pe_callTy call_list_of rfl ml (by decide +kernel) (pa_cons (pv 0) pa_nil)))
    (pss_cons (ps_set (i := 3) scServe.nd rfl (Or.inl rfl) (pe_lst pa_nil))
    (pss_cons (ps_for PassesOwn.never rfl (pi_list (pv 1)) (pg_name (i := 4) scServe.nd rfl (Or.inl rfl))
      (pss_cons (ps_set (i := 5) scServe.nd rfl (Or.inl rfl) (pe_call G hr rfl mG kG bG .nil pass0 (pa_cons (pv 4) (pa_cons (pv 2) pa_nil))))
      (pss_cons (ps_if (pt_cmpR op_ne (pv 5) (pe_glob (v := .int 0) rfl mN ⟨_, rfl⟩) (nomark _)) (pss_one (ps_augS (pv 2) (pe_op op_sub (pv 5) pe_int) get_list pe_int ip_sub set_list)) pss_nil)
      (pss_one (ps_expr (pe_bm PySem.F.plainAttrs_list PySem.F.slot_list_append PySem.F.type_list_append mt_append (pv 3) (pa_cons (pv 5) pa_nil)))))))
    (pss_one (ps_ret (pv 3))))), ?_⟩
  refine ⟨_, rfl, a, _, rfl, .inl hA, fun t ht => ?_⟩
  refine ⟨(by show 0 ≤ sizeLine; decide), fun q hq => ?_⟩
  have htq : t ≠ q := ne_of_none upd_same hq
  have s1 : Same H (upd H t (.lst (nats s))) := same_new ht _
  have hq0 : H q = none := s1.free hq
  have s2 : Same H (upd (upd H t (.lst (nats s))) q (.lst [])) := s1.trans (same_new hq _)
  refine ⟨_, rfl, b, rfl, ⟨_, s2.seq hB⟩, for_list (K := K) (a := b) (xs := qs.map V.ref) (fun i σ H' => ∃ v4 v5 : Option V, σ = [some (.ref a), some (.ref b), some (.ref t), some (.ref q), v4, v5] ∧ Same H H' ∧
      H' t = some (.lst (nats (after s (ls.take i)))) ∧ H' q = some (.lst (nats (Su89.serve s (ls.take i)))))
    ⟨none, none, rfl, s2, by rw [upd_ne htq, upd_same]; rfl, by rw [upd_same]; rfl⟩ (fun i σ H' _ hq => by obtain ⟨_, _, _, s3, _⟩ := hq; exact s3.seq hB) ?_ ?_⟩
  · rintro i y σ H' hi ⟨v4, v5, rfl, s3, h1, h2⟩
    obtain ⟨c, l, rfl, hc, hl, hs⟩ := hL.get hi
    have al := after_len (ls.take i) s
    refine ⟨_, rfl, _, rfl, c, t, l, after s (ls.take i), rfl, s3.seq hs, SqL.of h1, (by rw [al]; exact hG.at hl), ?_⟩
    have e1 : ls.take (i + 1) = ls.take i ++ [l] := take_snoc hl
    have app : ∀ (H2 : Hp), Same H H2 → H2 t = some (.lst (nats (after s (ls.take (i + 1))))) → H2 q = some (.lst (nats (Su89.serve s (ls.take i)))) →
        ∃ v4 v5 : Option V, ([some (V.ref a), some (V.ref b), some (V.ref t), some (V.ref q), some (V.ref c), some (V.int ((take1 (after s (ls.take i)) l : Nat) : Int))] : L2.St) = [some (.ref a), some (.ref b), some (.ref t), some (.ref q), v4, v5] ∧ Same H (upd H2 q (.lst (nats (Su89.serve s (ls.take i)) ++ [.int ((take1 (after s (ls.take i)) l : Nat) : Int)]))) ∧
          upd H2 q (.lst (nats (Su89.serve s (ls.take i)) ++ [.int ((take1 (after s (ls.take i)) l : Nat) : Int)])) t = some (.lst (nats (after s (ls.take (i + 1))))) ∧
          upd H2 q (.lst (nats (Su89.serve s (ls.take i)) ++ [.int ((take1 (after s (ls.take i)) l : Nat) : Int)])) q = some (.lst (nats (Su89.serve s (ls.take (i + 1))))) := fun H2 s4 g1 g2 =>
      ⟨_, _, rfl, same_upd s4 hq0 _, by rw [upd_ne htq]; exact g1, by rw [upd_same, e1, serve_snoc, nats_snoc]⟩
    have zz : (nats (Su89.serve s (ls.take i))).length < sizeLine := by
      rw [nats_len, serve_len, List.length_take]
      exact small1000 (by lia)
    refine ⟨_, rfl, rfl, _, rfl, ?_⟩
    refine ite2 (fun cc => ?_) (fun cc => ?_)
    · have c' : ¬ take1 (after s (ls.take i)) l = 0 := by
        intro z
        rw [z] at cc
        exact absurd cc (by decide)
      obtain ⟨g, eg⟩ : ∃ g, take1 (after s (ls.take i)) l = g + 1 := ⟨take1 (after s (ls.take i)) l - 1, by lia⟩
      obtain ⟨m1, m2⟩ := takes_mem (take1_some eg)
      have gl : g < (after s (ls.take i)).length := by rw [al]; exact hG.at hl g m1
      have gv := get_of gl
      refine ⟨_, rfl, _, rfl, _, _, rfl, rfl, t, _, g, _, rfl, (by rw [eg]; show V.int _ = V.int _; congr 1; lia), SqL.of h1, nats_get gv, _, _, rfl, rfl, t, _, _, g, rfl, rfl, h1, ?_, ?_⟩
      · unfold ixN
        rw [nats_len, eg]
        rw [if_pos (by lia), if_pos (by lia)]
        congr 1
        lia
      · refine ⟨_, rfl, .inl ⟨rfl, _, SqL.of (by rw [upd_ne htq.symm]; exact h2)⟩, _, rfl, q, _, _, rfl, rfl, by rw [upd_ne htq.symm]; exact h2, zz, ?_⟩
        refine app _ (same_upd s3 ht _) ?_ (by rw [upd_ne htq.symm]; exact h2)
        rw [upd_same, e1, after_snoc, eg, dec_set gv, ← nats_set]
        congr 4
        show ((_ : Nat) : Int) - 1 = _
        lia
    · have c' : take1 (after s (ls.take i)) l = 0 := by
        cases z : take1 (after s (ls.take i)) l with
        | zero => rfl
        | succ g =>
          rw [z] at cc
          exact absurd (by rw [decide_eq_false (by intro q; have := V.int.inj q; lia)]; rfl) cc
      refine ⟨_, rfl, .inl ⟨rfl, _, SqL.of h2⟩, _, rfl, q, _, _, rfl, rfl, h2, zz, ?_⟩
      refine app _ s3 ?_ h2
      rw [e1, after_snoc, c', h1]
      rfl
  · rintro σ H' ⟨v4, v5, rfl, s3, h1, h2⟩
    rw [List.length_map, hL.len, List.take_length] at h2
    exact ⟨_, rfl, k q H' s3 hq0 h2⟩
/- ### count_served -/
theorem scCount : FnScope ["taken"] ["taken"] (defScope sCount) := ⟨rfl, rfl, rfl, by decide +kernel, rfl, by decide +kernel, by decide +kernel⟩
noncomputable def spCount (K : PySem.W.Frag) : Sp := fun vs H Q _ => ∃ (a : Addr) (ws : List Nat), vs = [.ref a] ∧ SqL K H a (nats ws) ∧ Q (.int (Su89.served ws : Nat)) H
theorem ok_count {f : Addr} {fd : FuncData} {t : Tok} (F : Fun K "count_served" "count_served" sCount f fd) (ml : mg "len" = none) (mN : mg "NOTHING" = some (.int 0 t)) : FnOk P w K mg base CX0 1 f fd ["taken"] (spCount K) := by
  refine F.ok scCount (fun vs H Q E h => ?_) (fun cdv A outer s H vs Q E hr h => ?_)
  · obtain ⟨a, ws, rfl, _⟩ := h
    rfl
  obtain ⟨a, ws, rfl, hA, k⟩ := h
  refine ⟨_, pss_one (ps_ret (pe_op op_sub (pe_callB call_len_seq rfl ml PySem.boot_len (pa_cons (pv 0) pa_nil)) (pe_bm PySem.F.plainAttrs_list PySem.F.slot_list_count PySem.F.type_list_count mt_countI (pv 0) (pa_cons (pe_glob (v := .int 0) rfl mN ⟨_, rfl⟩) pa_nil)))), ?_⟩
  refine ⟨_, rfl, a, _, rfl, .inl hA, _, rfl, .inl ⟨rfl, _, hA⟩, a, zs ws, 0, rfl, rfl, hA, _, _, rfl, rfl, ?_⟩
  have e := served_int ws
  show Q (.int (((nats ws).length : Int) - ((zs ws).count ((0 : Nat) : Int) : Nat))) H
  rw [e]
  exact k
end
end Sg
end
-- text SgMatch
section
set_option Elab.async false
set_option linter.all false
set_option maxRecDepth 100000
set_option maxHeartbeats 4000000
namespace Sg
open PySem PySem.Spec PyProof.Rows L2
/- ### what stays while t and d are written -/
noncomputable def Kept (t d : Addr) (H H' : Hp) : Prop := ∀ b o, H b = some o → b ≠ t → b ≠ d → H' b = some o
theorem Kept.refl (t d : Addr) (H : Hp) : Kept t d H H := fun _ _ e _ _ => e
theorem Kept.trans {t d : Addr} {H H1 H2 : Hp} (a : Kept t d H H1) (b : Kept t d H1 H2) : Kept t d H H2 := fun c o e h1 h2 => b c o (a c o e h1 h2) h1 h2
theorem Kept.t {t d : Addr} {H H1 : Hp} (a : Kept t d H H1) (o : HO) : Kept t d H (upd H1 t o) := fun b u e h1 h2 => by rw [upd_ne h1]; exact a b u e h1 h2
theorem Kept.d {t d : Addr} {H H1 : Hp} (a : Kept t d H H1) (o : HO) : Kept t d H (upd H1 d o) := fun b u e h1 h2 => by rw [upd_ne h2]; exact a b u e h1 h2
structure Stock (K : PySem.W.Frag) (H : Hp) (a b : Addr) (s : List Nat) (qs : List Addr) (ls : List (List Nat)) : Prop where
  pieces : SqL K H a (nats s)
  lists : SqL K H b (qs.map V.ref)
  goods : Lists K H qs ls
  lt : Goods s.length ls
  few : ls.length ≤ 1000
  five : s.length ≤ 5
theorem Stock.same {K : PySem.W.Frag} {H H' : Hp} {a b : Addr} {s : List Nat} {qs : List Addr} {ls : List (List Nat)} (S : Stock K H a b s qs ls) (e : Same H H') : Stock K H' a b s qs ls :=
  ⟨e.seq S.pieces, e.seq S.lists, S.goods.same e, S.lt, S.few, S.five⟩
/- the goods tried, as a dict -/
noncomputable def trd (tr : List Nat) : List (Key × V) := tr.map fun (g : Nat) => (Sum.inl (g : Int), V.bl true)
theorem trd_len (tr : List Nat) : (trd tr).length = tr.length := List.length_map _
theorem trd_val (tr : List Nat) (g : Nat) : valV (trd tr) (Sum.inl (g : Int)) = if g ∈ tr then some (.bl true) else none := by
  induction tr with
  | nil => rfl
  | cons x tr ih =>
    by_cases e : x = g
    · subst e
      rw [if_pos (by simp)]
      exact valV_pos rfl
    · have n : ¬ ((Sum.inl (x : Int) : Key) = Sum.inl (g : Int)) := fun z => e (by have := Sum.inl.inj z; lia)
      show valV ((Sum.inl (x : Int), V.bl true) :: trd tr) _ = _
      rw [valV_neg n, ih]
      by_cases m : g ∈ tr
      · rw [if_pos m, if_pos (by simp [m])]
      · rw [if_neg m, if_neg (by simp [m]; exact fun z => e z.symm)]
theorem trd_put {tr : List Nat} {g : Nat} (h : g ∉ tr) : putK (trd tr) (Sum.inl (g : Int)) (.bl true) = trd (tr ++ [g]) := by
  rw [putK_new _ (by rw [trd_val, if_neg h])]
  unfold trd
  rw [List.map_append]
  rfl
section
variable {P : Program} {w : World} {K : PySem.W.Frag} {mg : Str → Option Value} {base : Heap}
/- the world that the search works in -/
structure Look0 (K : PySem.W.Frag) (H : Hp) (a b t d : Addr) (s : List Nat) (qs : List Addr) (ls : List (List Nat)) (tk tr : List Nat) : Prop where
  stb : ∀ H', Kept t d H H' → Stock K H' a b s qs ls
  td : t ≠ d
  htk : H t = some (.lst (nats tk))
  htr : H d = some (.dK (trd tr))
  ok : TrOk s.length tr
  fit : Fit ls tk
  few : Few s tk
theorem Look0.len {K : PySem.W.Frag} {H : Hp} {a b t d : Addr} {s : List Nat} {qs : List Addr} {ls : List (List Nat)} {tk tr : List Nat} (L : Look0 K H a b t d s qs ls tk tr) : tk.length = ls.length := L.fit.len
noncomputable def spGive (K : PySem.W.Frag) (n : Nat) : Sp := fun vs H Q _ => ∃ (p : Nat) (a b t d : Addr) (s : List Nat) (qs : List Addr) (ls : List (List Nat)) (tk tr : List Nat), vs = [.int (p : Int), .ref a, .ref b, .ref t, .ref d] ∧ Look0 K H a b t d s qs ls tk tr ∧ p < ls.length ∧
  2 * (s.length - tr.length) + 1 ≤ n ∧
  ∀ (H' : Hp) (tr' : List Nat), Kept t d H H' → H' d = some (.dK (trd tr')) → TrOk s.length tr' → tr.length ≤ tr'.length →
    (H' t = some (.lst (nats tk)) → GiveF s ls s.length p tk tr tr' → Q (.bl false) H') ∧ ∀ tk', H' t = some (.lst (nats tk')) → GiveT s ls p tr tk tk' → Q (.bl true) H'
noncomputable def spFind (K : PySem.W.Frag) (n : Nat) : Sp := fun vs H Q _ => ∃ (g : Nat) (a b t d : Addr) (s : List Nat) (qs : List Addr) (ls : List (List Nat)) (tk tr : List Nat), vs = [.int (g : Int), .ref a, .ref b, .ref t, .ref d] ∧ Look0 K H a b t d s qs ls tk tr ∧ g < s.length ∧ g ∈ tr ∧
  2 * (s.length - tr.length) + 2 ≤ n ∧
  ∀ (H' : Hp) (tr' : List Nat), Kept t d H H' → H' d = some (.dK (trd tr')) → TrOk s.length tr' → tr.length ≤ tr'.length →
    (H' t = some (.lst (nats tk)) → FindF s ls s.length g tk tr tr' → Q (.bl false) H') ∧ ∀ tk', H' t = some (.lst (nats tk')) → FindT s ls g tr tk tk' → Q (.bl true) H'
theorem Look0.next {K : PySem.W.Frag} {H H' : Hp} {a b t d : Addr} {s : List Nat} {qs : List Addr} {ls : List (List Nat)} {tk tr tr' : List Nat} (L : Look0 K H a b t d s qs ls tk tr) (k : Kept t d H H') (h1 : H' t = some (.lst (nats tk))) (h2 : H' d = some (.dK (trd tr'))) (ok : TrOk s.length tr') :
    Look0 K H' a b t d s qs ls tk tr' := ⟨fun H2 k2 => L.stb H2 (k.trans k2), L.td, h1, h2, ok, L.fit, L.few⟩
theorem scGive : FnScope ["person", "pieces", "lists", "taken", "tried", "good"] ["person", "pieces", "lists", "taken", "tried"] (defScope sGive) := ⟨rfl, rfl, rfl, by decide +kernel, rfl, by decide +kernel, by decide +kernel⟩
theorem scFind : FnScope ["good", "pieces", "lists", "taken", "tried", "holder"] ["good", "pieces", "lists", "taken", "tried"] (defScope sFind) := ⟨rfl, rfl, rfl, by decide +kernel, rfl, by decide +kernel, by decide +kernel⟩
theorem ok_give {n : Nat} {f g : Addr} {fd gd : FuncData} (F : Fun K "give_piece" "give_piece" sGive f fd) (G : FnOk P w K mg base CX0 n g gd ["good", "pieces", "lists", "taken", "tried"] (spFind K n)) (bG : Binds K gd ["good", "pieces", "lists", "taken", "tried"] [])
    (kG : PySem.W.keepIn K (.ref g) = true) (mG : mg "find_piece" = some (.ref g)) : FnOk P w K mg base CX0 (n + 1) f fd ["person", "pieces", "lists", "taken", "tried"] (spGive K (n + 1)) := by
  refine F.ok scGive (fun vs H Q E h => ?_) (fun cdv A outer s H vs Q E hr h => ?_)
  · obtain ⟨p, a, b, t, d, s, qs, ls, tk, tr, rfl, _⟩ := h
    rfl
  obtain ⟨p, a, b, t, d, s, qs, ls, tk, tr, rfl, L, hp, hn, k⟩ := h
  have hu := hu_of hr
  refine ⟨_, pss_cons (ps_for PassesOwn.never rfl (pi_list (pe_ix ix_list (pv 2) (pv 0) (fun _ _ => rfl))) (pg_name (i := 5) scGive.nd rfl (Or.inl rfl))
      (pss_one (ps_if (pt_cmp (pc_dnotin hu (pv 5) (pv 4)))
        (pss_cons (ps_dput hu (pv 4) (pv 5) pe_bl rfl)
          (pss_one (ps_if (pt_val (pe_call G hr rfl mG kG bG .nil pass0 (pa_cons (pv 5) (pa_cons (pv 1) (pa_cons (pv 2) (pa_cons (pv 3) (pa_cons (pv 4) pa_nil)))))))
            (pss_cons (ps_asg (pe_op op_add (pv 5) pe_int) (pg_sub (pv 3) (pv 0) set_list)) (pss_one (ps_ret pe_bl))) pss_nil)))
        pss_nil)))
    (pss_one (ps_ret pe_bl)), ?_⟩
  have S0 := L.stb H (Kept.refl t d H)
  have hq : p < qs.length := by rw [S0.goods.len]; exact hp
  obtain ⟨q, l, e0, eq, el, hl⟩ := S0.goods.get (i := p) (y := V.ref qs[p]) (by rw [List.getElem?_map, List.getElem?_eq_getElem hq]; rfl)
  have hs : ∀ H', Kept t d H H' → SqL K H' q (nats l) := fun H' k' => (L.stb H' k').goods.at_ p q l eq el
  refine ⟨_, rfl, _, rfl, b, _, _, _, rfl, rfl, S0.lists, atI_nat (by rw [List.getElem?_map, eq]; rfl), q, rfl, ⟨_, hl⟩, ?_⟩
  refine for_list (K := K) (a := q) (xs := nats l) (fun i σ H' => ∃ (v : Option V) (tr1 : List Nat), σ = [some (.int (p : Int)), some (.ref a), some (.ref b), some (.ref t), some (.ref d), v] ∧ Kept t d H H' ∧ H' t = some (.lst (nats tk)) ∧ H' d = some (.dK (trd tr1)) ∧
      TrOk s.length tr1 ∧ tr.length ≤ tr1.length ∧ (∀ g ∈ tr, g ∈ tr1) ∧ (∀ g ∈ l.take i, g ∈ tr1) ∧ New s ls tk tr tr1)
    ⟨none, tr, rfl, Kept.refl t d H, L.htk, L.htr, L.ok, Nat.le_refl _, fun _ h => h, fun g h => (by simp at h), New.refl tk tr⟩ (fun i σ H' _ hq => by obtain ⟨_, _, _, k', _⟩ := hq; exact hs H' k') ?_ ?_
  · rintro i y σ H' hi ⟨v, tr1, rfl, k1, ht, hd, ok1, le1, sub1, tak1, new1⟩
    obtain ⟨g, hg, rfl⟩ := nats_of hi
    have gl : g ∈ l := List.mem_of_getElem? hg
    have gs : g < s.length := S0.lt.at el g gl
    have tk1 : l.take (i + 1) = l.take i ++ [g] := take_snoc hg
    refine ⟨_, rfl, _, rfl, d, _, rfl, DGet.k (k := Sum.inl (g : Int)) hd, _, rfl, ?_⟩
    rw [trd_val]
    by_cases m : g ∈ tr1
    · rw [if_pos m]
      refine iteF ⟨_, tr1, rfl, k1, ht, hd, ok1, le1, sub1, fun x hx => ?_, new1⟩
      rw [tk1] at hx
      rcases List.mem_append.mp hx with hx | hx
      · exact tak1 x hx
      · rw [List.mem_singleton] at hx; exact hx ▸ m
    · rw [if_neg m]
      have ok2 : TrOk s.length (tr1 ++ [g]) := ok1.snoc m gs
      have len2 : (tr1 ++ [g]).length = tr1.length + 1 := by rw [List.length_append]; rfl
      have five := S0.five
      have l2 := ok2.len
      refine iteT ⟨_, rfl, _, rfl, d, _, rfl, DPut.k (k := Sum.inl (g : Int)) hd (by rw [trd_len]; exact small1000 (by lia)), ?_⟩
      rw [trd_put m]
      refine ⟨_, rfl, _, rfl, _, rfl, _, rfl, _, rfl, g, a, b, t, d, s, qs, ls, tk, tr1 ++ [g], rfl, L.next (k1.d _) (by rw [upd_ne L.td]; exact ht) upd_same ok2, gs, by simp, by lia, fun H2 tr2 k2 hd2 ok3 le2 => ⟨fun ht2 ff => ⟨_, rfl, ?_⟩, fun tk2 ht2 ft => ⟨_, rfl, ?_⟩⟩⟩
      · have n1 : New s ls tk tr1 tr2 := fun x hx hn => by
          by_cases e : x = g
          · subst e
            exact ⟨ff.sat, ff.holders⟩
          · exact ff.new x hx (by simp; exact ⟨hn, e⟩)
        refine iteF ⟨_, tr2, rfl, (k1.d _).trans k2, ht2, hd2, ok3, by lia, fun x hx => ff.sub x (by simp [sub1 x hx]), fun x hx => ?_, new1.mono n1 fun x hx => ff.sub x (by simp [hx])⟩
        rw [tk1] at hx
        rcases List.mem_append.mp hx with hx | hx
        · exact ff.sub x (by simp [tak1 x hx])
        · exact ff.sub x (by simp at hx; simp [hx])
      · refine iteT ⟨_, rfl, _, _, rfl, rfl, _, rfl, _, rfl, t, _, _, p, rfl, rfl, ht2, ?_, ?_⟩
        · unfold ixN
          rw [nats_len, ft.fit.len, if_pos (by lia), if_pos (by lia)]
          congr 1
        · have gt := give_found (tr := tr) el gl (fun z => m (sub1 g z)) (fun x hx => by simp [sub1 x hx]) ft
          refine (k _ tr2 (((k1.d _).trans k2).t _) (by rw [upd_ne L.td.symm]; exact hd2) ok3 (by lia)).2 _ ?_ gt
          rw [upd_same, ← nats_set]
          rfl
  · rintro σ H' ⟨v, tr1, rfl, k1, ht, hd, ok1, le1, sub1, tak1, new1⟩
    rw [nats_len, List.take_length] at tak1
    exact (k H' tr1 k1 hd ok1 le1).1 ht ⟨ok1, sub1, fun q' hq' => by rw [el] at hq'; cases hq'; exact tak1, new1⟩
end
end Sg
end
-- text SgMatch2
section
set_option Elab.async false
set_option linter.all false
set_option maxRecDepth 100000
set_option maxHeartbeats 4000000
namespace Sg
open PySem PySem.Spec PyProof.Rows L2
section
variable {P : Program} {w : World} {K : PySem.W.Frag} {mg : Str → Option Value} {base : Heap}
theorem ok_find {n : Nat} {f g : Addr} {fd gd : FuncData} (F : Fun K "find_piece" "find_piece" sFind f fd) (G : FnOk P w K mg base CX0 n g gd ["person", "pieces", "lists", "taken", "tried"] (spGive K n)) (bG : Binds K gd ["person", "pieces", "lists", "taken", "tried"] [])
    (kG : PySem.W.keepIn K (.ref g) = true) (mG : mg "give_piece" = some (.ref g)) (ml : mg "len" = none) (mr : mg "range" = none) : FnOk P w K mg base CX0 (n + 1) f fd ["good", "pieces", "lists", "taken", "tried"] (spFind K (n + 1)) := by
  refine F.ok scFind (fun vs H Q E h => ?_) (fun cdv A outer s H vs Q E hr h => ?_)
  · obtain ⟨g, a, b, t, d, s, qs, ls, tk, tr, rfl, _⟩ := h
    rfl
  obtain ⟨g, a, b, t, d, s, qs, ls, tk, tr, rfl, L, hg, hm, hn, k⟩ := h
  refine ⟨_, pss_cons (ps_if (pt_cmpR op_lt (pe_bm PySem.F.plainAttrs_list PySem.F.slot_list_count PySem.F.type_list_count mt_countI (pv 3) (pa_cons (pe_op op_add (pv 0) pe_int) pa_nil)) (pe_ix ix_list (pv 1) (pv 0) (fun _ _ => rfl)) (nomark _)) (pss_one (ps_ret pe_bl)) pss_nil)
    (pss_cons (ps_for PassesOwn.never rfl (pi_range1 rfl mr (pa_cons (pe_callB call_len_seq rfl ml PySem.boot_len (pa_cons (pv 3) pa_nil)) pa_nil)) (pg_name (i := 5) scFind.nd rfl (Or.inl rfl))
      (pss_one (ps_if (PW.pt (pw_and (pt_cmpR op_eq (pe_ix ix_list (pv 3) (pv 5) (fun _ _ => rfl)) (pe_op op_add (pv 0) pe_int) (nomark _))
          (pw_and1 (pt_val (pe_call G hr rfl mG kG bG .nil pass0 (pa_cons (pv 5) (pa_cons (pv 1) (pa_cons (pv 2) (pa_cons (pv 3) (pa_cons (pv 4) pa_nil))))))))))
        (pss_one (ps_ret pe_bl)) pss_nil)))
    (pss_one (ps_ret pe_bl))), ?_⟩
  have S0 := L.stb H (Kept.refl t d H)
  have five := S0.five
  have few := S0.few
  have tl := L.len
  refine ⟨_, rfl, .inl ⟨rfl, _, SqL.of L.htk⟩, _, rfl, _, _, rfl, rfl, t, zs tk, _, rfl, rfl, SqL.of L.htk, _, rfl, _, rfl, a, _, _, _, rfl, rfl, S0.pieces, atI_nat (nats_get (get_of hg)), _, _, rfl, rfl, _, rfl, ?_⟩
  have ec : (zs tk).count ((g : Int) + 1) = tk.count (g + 1) := zs_count tk (g + 1)
  rw [ec]
  refine ite2 (fun c => ?_) (fun c => ?_)
  · have c' : (((tk.count (g + 1) : Nat)) : Int) < ((s.getD g 0 : Nat) : Int) := of_decide_eq_true c
    exact (k H tr (Kept.refl t d H) L.htr L.ok (Nat.le_refl _)).2 tk L.htk (find_free tr L.fit L.few (by lia))
  · have c' : ¬ (((tk.count (g + 1) : Nat)) : Int) < ((s.getD g 0 : Nat) : Int) := of_decide_eq_false (Bool.eq_false_iff.mpr c)
    refine ⟨_, rfl, t, _, rfl, .inl (SqL.of L.htk), _, rfl, (by rw [nats_len]; lia), (by rw [nats_len]; lia), ?_⟩
    rw [nats_len, Int.toNat_natCast]
    refine for_range (n := tk.length) (fun i σ H' => ∃ (v : Option V) (tr1 : List Nat), σ = [some (.int (g : Int)), some (.ref a), some (.ref b), some (.ref t), some (.ref d), v] ∧ Kept t d H H' ∧ H' t = some (.lst (nats tk)) ∧ H' d = some (.dK (trd tr1)) ∧
        TrOk s.length tr1 ∧ tr.length ≤ tr1.length ∧ (∀ x ∈ tr, x ∈ tr1) ∧ (∀ (j : Nat) (q : List Nat), j < i → ls[j]? = some q → tk[j]? = some (g + 1) → ∀ h ∈ q, h ∈ tr1) ∧ New s ls tk tr tr1)
      ⟨none, tr, rfl, Kept.refl t d H, L.htk, L.htr, L.ok, Nat.le_refl _, fun _ h => h, fun j q h => absurd h (Nat.not_lt_zero j), New.refl tk tr⟩ ?_ ?_
    · rintro i σ H' hi ⟨v, tr1, rfl, k1, ht, hd, ok1, le1, sub1, hol1, new1⟩
      have ei : (0 : Int) + (i : Int) = (i : Int) := Int.zero_add _
      rw [ei]
      have hv := get_of hi
      have hil : i < ls.length := by lia
      have eil : ls[i]? = some ls[i] := List.getElem?_eq_getElem hil
      refine ⟨_, rfl, _, rfl, t, _, _, _, rfl, rfl, SqL.of ht, atI_nat (nats_get hv), _, rfl, _, _, rfl, rfl, rfl, _, rfl, ?_⟩
      refine ite2 (fun cc => ?_) (fun cc => ?_)
      · have e1 : tk.getD i 0 = g + 1 := by
          have := V.int.inj (of_decide_eq_true cc)
          lia
        rw [e1] at hv
        refine ⟨_, rfl, _, rfl, _, rfl, _, rfl, _, rfl, i, a, b, t, d, s, qs, ls, tk, tr1, rfl, L.next k1 ht hd ok1, hil, by lia, fun H2 tr2 k2 hd2 ok3 le2 => ⟨fun ht2 gf => ⟨_, rfl, ?_⟩, fun tk2 ht2 gt => ⟨_, rfl, ?_⟩⟩⟩
        · refine iteF ⟨_, tr2, rfl, k1.trans k2, ht2, hd2, ok3, by lia, fun x hx => gf.sub x (sub1 x hx), fun j q hj hq hx h hh => ?_, new1.mono gf.new gf.sub⟩
          by_cases e : j = i
          · subst e
            exact gf.own q hq h hh
          · exact gf.sub h (hol1 j q (by lia) hq hx h hh)
        · exact iteT ((k H2 tr2 (k1.trans k2) hd2 ok3 (by lia)).2 tk2 ht2 (find_moved L.fit L.few eil hv hm sub1 gt))
      · refine iteF ⟨_, tr1, rfl, k1, ht, hd, ok1, le1, sub1, fun j q hj hq hx h hh => ?_, new1⟩
        by_cases e : j = i
        · subst e
          rw [hv] at hx
          have := Option.some.inj hx
          refine absurd ?_ cc
          rw [this]
          exact decide_eq_true rfl
        · exact hol1 j q (by lia) hq hx h hh
    · rintro σ H' ⟨v, tr1, rfl, k1, ht, hd, ok1, le1, sub1, hol1, new1⟩
      exact (k H' tr1 k1 hd ok1 le1).1 ht ⟨ok1, sub1, by lia, fun j q hq hx => hol1 j q (by rw [tl]; exact (List.getElem?_eq_some_iff.mp hq).1) hq hx, new1⟩
theorem fn_none {f : Addr} {fd : FuncData} {ps : List Str} {sp : Sp} (no : ∀ vs H Q E, ¬ sp vs H Q E) : FnOk P w K mg base CX0 0 f fd ps sp :=
  ⟨fun vs H Q E h => absurd h (no vs H Q E), fun A outer s H args us vs Q E _ _ _ _ h => absurd h (no vs H Q E)⟩
theorem no_give {f : Addr} {fd : FuncData} : FnOk P w K mg base CX0 0 f fd ["person", "pieces", "lists", "taken", "tried"] (spGive K 0) := fn_none fun vs H Q E h => by
  obtain ⟨p, a, b, t, d, s, qs, ls, tk, tr, _, _, _, h1, _⟩ := h
  exact absurd h1 (Nat.not_succ_le_zero _)
theorem no_find {f : Addr} {fd : FuncData} : FnOk P w K mg base CX0 0 f fd ["good", "pieces", "lists", "taken", "tried"] (spFind K 0) := fn_none fun vs H Q E h => by
  obtain ⟨p, a, b, t, d, s, qs, ls, tk, tr, _, _, _, _, h1, _⟩ := h
  exact absurd h1 (Nat.not_succ_le_zero _)
theorem both {f g : Addr} {fd gd : FuncData} (FG : Fun K "give_piece" "give_piece" sGive f fd) (bF : Binds K fd ["person", "pieces", "lists", "taken", "tried"] []) (mF : mg "give_piece" = some (.ref f)) (FF : Fun K "find_piece" "find_piece" sFind g gd)
    (bG : Binds K gd ["good", "pieces", "lists", "taken", "tried"] []) (mG : mg "find_piece" = some (.ref g)) (ml : mg "len" = none) (mr : mg "range" = none) :
    ∀ n : Nat, FnOk P w K mg base CX0 n f fd ["person", "pieces", "lists", "taken", "tried"] (spGive K n) ∧ FnOk P w K mg base CX0 n g gd ["good", "pieces", "lists", "taken", "tried"] (spFind K n)
  | 0 => ⟨no_give, no_find⟩
  | n + 1 => by
    have ih := both FG bF mF FF bG mG ml mr n
    exact ⟨ok_give FG ih.2 bG FF.kp mG, ok_find FF ih.1 bF FG.kp mF ml mr⟩
/- ### most_served -/
theorem scMost : FnScope ["pieces", "lists", "taken", "person", "goods"] ["pieces", "lists"] (defScope sMost) := ⟨rfl, rfl, rfl, by decide +kernel, rfl, by decide +kernel, by decide +kernel⟩
noncomputable def spMost (K : PySem.W.Frag) : Sp := fun vs H Q _ => ∃ (a b : Addr) (s : List Nat) (qs : List Addr) (ls : List (List Nat)), vs = [.ref a, .ref b] ∧ Stock K H a b s qs ls ∧ ∀ H', Same H H' → Q (.int ((Su89.Abs.mk s ls).most : Nat)) H'
theorem ok_most {f g c : Addr} {fd gd cd : FuncData} {t : Tok} (F : Fun K "most_served" "most_served" sMost f fd) (G : FnOk P w K mg base CX0 11 g gd ["person", "pieces", "lists", "taken", "tried"] (spGive K 11)) (bG : Binds K gd ["person", "pieces", "lists", "taken", "tried"] [])
    (kG : PySem.W.keepIn K (.ref g) = true) (mG : mg "give_piece" = some (.ref g)) (C : FnOk P w K mg base CX0 1 c cd ["taken"] (spCount K)) (bC : Binds K cd ["taken"] []) (kC : PySem.W.keepIn K (.ref c) = true) (mC : mg "count_served" = some (.ref c))
    (ml : mg "len" = none) (mr : mg "range" = none) (mN : mg "NOTHING" = some (.int 0 t)) : FnOk P w K mg base CX0 12 f fd ["pieces", "lists"] (spMost K) := by
  refine F.ok scMost (fun vs H Q E h => ?_) (fun cdv A outer s H vs Q E hr h => ?_)
  · obtain ⟨a, b, s, qs, ls, rfl, _⟩ := h
    rfl
  obtain ⟨a, b, s, qs, ls, rfl, S, k⟩ := h
  have hr1 : Room 1 _ := hr.mono (by decide)
  refine ⟨_, pss_cons (ps_setLc (i := 2) (own := [("goods", 4)]) rfl scMost.nd rfl rfl (sw_true rfl rfl rfl (by decide +kernel)) (pi_list (pv 1)) (blkOk_by (N := ["pieces", "lists", "taken", "person", "goods"]) (sc := defScope sMost) (by decide +kernel))
      (fun s H C cl fp => pg_name (i := 4) scMost.nd rfl (Or.inl rfl)) (fun s H C cl fp => pts_nil) (fun s H C cl fp => pe_glob (v := .int 0) rfl mN ⟨_, rfl⟩))
    (pss_cons (ps_for PassesOwn.never rfl (pi_range1 rfl mr (pa_cons (pe_callB call_len_seq rfl ml PySem.boot_len (pa_cons (pv 1) pa_nil)) pa_nil)) (pg_name (i := 3) scMost.nd rfl (Or.inl rfl))
      (pss_one (ps_expr (pe_call G hr rfl mG kG bG .nil pass0 (pa_cons (pv 3) (pa_cons (pv 0) (pa_cons (pv 1) (pa_cons (pv 2) (pa_cons pe_dnewK pa_nil)))))))))
    (pss_one (ps_ret (pe_call C hr1 rfl mC kC bC .nil pass0 (pa_cons (pv 2) pa_nil))))), ?_⟩
  refine ⟨_, rfl, b, rfl, ⟨_, S.lists⟩, fun t ht => ?_⟩
  refine lc_list (K := K) (a := b) (xs := qs.map V.ref) (fun i H' => Same H H' ∧ H' t = some (.lst (nats (List.replicate i 0)))) ⟨same_new ht _, upd_same⟩ (fun i H' _ hq => by obtain ⟨s1, _⟩ := hq; exact s1.seq S.lists) ?_ ?_
  · rintro i x H' hi ⟨s1, h1⟩
    have il : i < ls.length := by
      have := (List.getElem?_eq_some_iff.mp hi).1
      rw [List.length_map, S.goods.len] at this
      exact this
    have few := S.few
    refine ⟨rfl, _, h1, (by rw [nats_len, List.length_replicate]; exact small1000 (by lia)), same_upd s1 ht _, ?_⟩
    rw [upd_same]
    have e : List.replicate (i + 1) 0 = List.replicate i 0 ++ [0] := List.replicate_succ'
    rw [e, ← nats_snoc]
    rfl
  · rintro H1 ⟨s1, h1⟩
    rw [List.length_map, S.goods.len] at h1
    have few := S.few
    have ql : (qs.map V.ref).length = ls.length := by rw [List.length_map, S.goods.len]
    refine ⟨_, rfl, b, _, rfl, .inl (s1.seq S.lists), _, rfl, (by rw [ql]; lia), (by rw [ql]; lia), ?_⟩
    rw [ql, Int.toNat_natCast]
    refine for_range (n := ls.length) (fun i σ H' => ∃ (v : Option V) (tk : List Nat), σ = [some (.ref a), some (.ref b), some (.ref t), v, none] ∧ Same H H' ∧ H' t = some (.lst (nats tk)) ∧ Upto s ls i tk)
      ⟨none, _, rfl, s1, h1, Upto.start s ls⟩ ?_ ?_
    · rintro i σ H' hi ⟨v, tk, rfl, s2, h2, U⟩
      have ei : (0 : Int) + (i : Int) = (i : Int) := Int.zero_add _
      rw [ei]
      have five := S.five
      refine ⟨_, rfl, _, rfl, _, rfl, _, rfl, fun d hd => ?_⟩
      have td : t ≠ d := ne_of_none h2 hd
      refine ⟨i, a, b, t, d, s, qs, ls, tk, [], rfl, ⟨fun H2 k2 => S.same fun c o e => ?_, td, by rw [upd_ne td]; exact h2, upd_same, ⟨List.nodup_nil, fun g hg => (by simp at hg)⟩, U.fit, U.few⟩, hi, (by show 2 * (s.length - 0) + 1 ≤ 11; lia), fun H2 tr2 k2 hd2 ok2 le2 => ?_⟩
      · have e2 := s2 c o e
        exact k2 c o (by rw [upd_ne (ne_of_none e2 hd)]; exact e2) (ne_of_none e ht) (ne_of_none e2 hd)
      · have s3 : Same H H2 := fun c o e => by
          have e2 := s2 c o e
          exact k2 c o (by rw [upd_ne (ne_of_none e2 hd)]; exact e2) (ne_of_none e ht) (ne_of_none e2 hd)
        exact ⟨fun ht2 gf => ⟨_, tk, rfl, s3, ht2, U.not gf⟩, fun tk2 ht2 gt => ⟨_, tk2, rfl, s3, ht2, U.given gt⟩⟩
    · rintro σ H' ⟨v, tk, rfl, s2, h2, U⟩
      refine ⟨_, rfl, t, tk, rfl, SqL.of h2, ?_⟩
      have e : (Su89.Abs.mk s ls).most = Su89.served tk := Upto.most (a := Su89.Abs.mk s ls) (G := s.length) S.lt U
      rw [← e]
      exact k H' s2
end
end Sg
end
-- text SgShop
section
set_option Elab.async false
set_option linter.all false
set_option maxRecDepth 100000
set_option maxHeartbeats 4000000
namespace Sg
open PySem PySem.Spec PyProof.Rows L2
/- ### a list without its doubles -/
theorem dedup_le : ∀ (l acc : List Int), (l.foldl step_dedup acc).length ≤ acc.length + l.length
  | [], acc => Nat.le_refl _
  | x :: l, acc => by
    have ih := dedup_le l (step_dedup acc x)
    have e := step_length acc x
    rw [List.foldl_cons, List.length_cons]
    split at e <;> lia
theorem dedup_iff : ∀ (l acc : List Int), (l.foldl step_dedup acc).length = acc.length + l.length ↔ l.Nodup ∧ ∀ x ∈ l, x ∉ acc
  | [], acc => by simp
  | x :: l, acc => by
    have ih := dedup_iff l (step_dedup acc x)
    have le := dedup_le l (step_dedup acc x)
    rw [List.foldl_cons, List.length_cons, List.nodup_cons]
    by_cases h : acc.any (· == x) = true
    · have e := step_length acc x
      rw [if_pos h] at e
      have m : x ∈ acc := by simpa using h
      constructor
      · intro z; lia
      · rintro ⟨_, z⟩; exact absurd m (z x (by simp))
    · have e : step_dedup acc x = acc ++ [x] := by unfold step_dedup; rw [if_neg h]
      have m : x ∉ acc := by simpa using h
      rw [e] at ih ⊢
      rw [List.length_append, List.length_singleton] at ih
      have c : acc.length + (l.length + 1) = acc.length + 1 + l.length := by lia
      rw [c, ih]
      constructor
      · rintro ⟨a, b⟩
        refine ⟨⟨fun z => b x z (by simp), a⟩, fun y hy => ?_⟩
        rcases List.mem_cons.mp hy with rfl | hy
        · exact m
        · exact fun z => b y hy (by simp [z])
      · rintro ⟨⟨a, b⟩, c⟩
        refine ⟨b, fun y hy z => ?_⟩
        rcases List.mem_append.mp z with z | z
        · exact c y (by simp [hy]) z
        · rw [List.mem_singleton] at z
          exact a (z ▸ hy)
theorem range_getD (ns : List Int) : (List.range ns.length).map (fun i => ns.getD i 0) = ns := by
  apply List.ext_getElem?
  intro i
  rw [List.getElem?_map]
  by_cases h : i < ns.length
  · rw [List.getElem?_range h, List.getElem?_eq_getElem h]
    show some (ns.getD i 0) = _
    rw [List.getD_eq_getElem?_getD, List.getElem?_eq_getElem h]
    rfl
  · rw [List.getElem?_eq_none (by rw [List.length_range]; lia), List.getElem?_eq_none (by lia)]
    rfl
theorem dedup_nodup (ns : List Int) : (dedup ns).length = ns.length ↔ ns.Nodup := by
  unfold dedup firstMet
  rw [range_getD]
  have := dedup_iff ns []
  simpa using this
theorem zs_nodup (l : List Nat) : (zs l).Nodup ↔ l.Nodup := by
  induction l with
  | nil => simp [zs]
  | cons a l ih =>
    show ((a : Int) :: zs l).Nodup ↔ _
    rw [List.nodup_cons, List.nodup_cons, ih]
    have : (a : Int) ∈ zs l ↔ a ∈ l := by
      unfold zs
      rw [List.mem_map]
      constructor
      · rintro ⟨b, hb, e⟩
        have : b = a := by lia
        exact this ▸ hb
      · intro h
        exact ⟨a, h, rfl⟩
    rw [this]
theorem zs_len (l : List Nat) : (zs l).length = l.length := List.length_map _
/- ### the shop in the heap -/
noncomputable def sf (bg : Bool) (pa la : Addr) : List (Str × V) := putF "lists" (.ref la) (putF "pieces" (.ref pa) (putF "begun" (.bl bg) []))
theorem sf_begun (bg : Bool) (pa la : Addr) : (sf bg pa la).lookup ("begun" : Str) = some (.bl bg) := by
  unfold sf
  rw [lookup_putF, if_neg (by decide +kernel), lookup_putF, if_neg (by decide +kernel), lookup_putF, if_pos rfl]
theorem sf_pieces (bg : Bool) (pa la : Addr) : (sf bg pa la).lookup ("pieces" : Str) = some (.ref pa) := by
  unfold sf
  rw [lookup_putF, if_neg (by decide +kernel), lookup_putF, if_pos rfl]
theorem sf_lists (bg : Bool) (pa la : Addr) : (sf bg pa la).lookup ("lists" : Str) = some (.ref la) := by
  unfold sf
  rw [lookup_putF, if_pos rfl]
theorem sf_no (bg : Bool) (pa la : Addr) {m : Str} (h1 : ¬ m = "lists") (h2 : ¬ m = "pieces") (h3 : ¬ m = "begun") : (sf bg pa la).lookup m = none := by
  unfold sf
  rw [lookup_putF, if_neg h1, lookup_putF, if_neg h2, lookup_putF, if_neg h3]
  rfl
theorem sf_eq (bg : Bool) (pa la : Addr) : sf bg pa la = ([(("begun" : Str), V.bl bg), (("pieces" : Str), V.ref pa), (("lists" : Str), V.ref la)] : List (Str × V)) := by
  unfold sf
  show putF "lists" (.ref la) (if ("begun" : Str) = "pieces" then _ else _) = _
  rw [if_neg (by decide +kernel)]
  show (if ("begun" : Str) = "lists" then _ else _) = _
  rw [if_neg (by decide +kernel)]
  show _ :: (if ("pieces" : Str) = "lists" then _ else _) = _
  rw [if_neg (by decide +kernel)]
  rfl
theorem put_begun (b bg : Bool) (pa la : Addr) : putF "begun" (.bl b) (sf bg pa la) = sf b pa la := by
  rw [sf_eq, sf_eq]
  show (if ("begun" : Str) = "begun" then _ else _) = _
  rw [if_pos rfl]
theorem put_pieces (bg : Bool) (p pa la : Addr) : putF "pieces" (.ref p) (sf bg pa la) = sf bg p la := by
  rw [sf_eq, sf_eq]
  show (if ("begun" : Str) = "pieces" then _ else _) = _
  rw [if_neg (by decide +kernel)]
  show _ :: (if ("pieces" : Str) = "pieces" then _ else _) = _
  rw [if_pos rfl]
theorem put_lists (bg : Bool) (p pa la : Addr) : putF "lists" (.ref p) (sf bg pa la) = sf bg pa p := by
  rw [sf_eq, sf_eq]
  show (if ("begun" : Str) = "lists" then _ else _) = _
  rw [if_neg (by decide +kernel)]
  show _ :: (if ("pieces" : Str) = "lists" then _ else _) = _
  rw [if_neg (by decide +kernel)]
  show _ :: _ :: (if ("lists" : Str) = "lists" then _ else _) = _
  rw [if_pos rfl]
theorem sf_len (bg : Bool) (pa la : Addr) : (sf bg pa la).length = 3 := by rw [sf_eq]; rfl
/- the shop at x: its pieces at pa, its lists at la, these at qs -/
structure ShopAt (C : Addr) (H : Hp) (x : Addr) (bg : Bool) (s : List Nat) (ls : List (List Nat)) (pa la : Addr) (qs : List Addr) : Prop where
  obj : ∃ dx, H x = some (.ins C dx (sf bg pa la))
  pieces : H pa = some (.lst (nats s))
  lists : H la = some (.lst (qs.map V.ref))
  len : qs.length = ls.length
  at_ : ∀ (i : Nat) (q : Addr) (l : List Nat), qs[i]? = some q → ls[i]? = some l → H q = some (.lst (nats l))
  pl : pa ≠ la
  off : ∀ q ∈ qs, q ≠ pa ∧ q ≠ la
  lt : Goods s.length ls
  five : s.length ≤ 5
  six : ls.length ≤ 6
  told : ∀ l ∈ ls, 1 ≤ l.length ∧ l.length ≤ 5 ∧ l.Nodup
  one : bg = true → 1 ≤ s.length
theorem ShopAt.stock {K : PySem.W.Frag} {C : Addr} {H : Hp} {x : Addr} {bg : Bool} {s : List Nat} {ls : List (List Nat)} {pa la : Addr} {qs : List Addr} (S : ShopAt C H x bg s ls pa la qs) : Stock K H pa la s qs ls :=
  ⟨SqL.of S.pieces, SqL.of S.lists, ⟨S.len, fun i q l h1 h2 => SqL.of (S.at_ i q l h1 h2)⟩, S.lt, Nat.le_trans S.six (by decide), S.five⟩
theorem ShopAt.same {C : Addr} {H H' : Hp} {x : Addr} {bg : Bool} {s : List Nat} {ls : List (List Nat)} {pa la : Addr} {qs : List Addr} (S : ShopAt C H x bg s ls pa la qs) (e : Same H H') : ShopAt C H' x bg s ls pa la qs := by
  obtain ⟨dx, ho⟩ := S.obj
  exact ⟨⟨dx, e _ _ ho⟩, e _ _ S.pieces, e _ _ S.lists, S.len, fun i q l h1 h2 => e _ _ (S.at_ i q l h1 h2), S.pl, S.off, S.lt, S.five, S.six, S.told, S.one⟩
/- what a question promises: an answer in a new list, all else as it was -/
noncomputable def Ask (H : Hp) (Q : VK) (ans : List Int) : Prop := ∀ (H' : Hp) (r : Addr), Same H H' → H r = none → H' r = some (.lst (ans.map V.int)) → Q (.ref r) H'
end Sg
end
-- text SgMeth1
section
set_option Elab.async false
set_option linter.all false
set_option maxRecDepth 100000
set_option maxHeartbeats 4000000
namespace Sg
open PySem PySem.Spec PyProof.Rows L2
/- a constant of the text -/
noncomputable def Cst (mg : Str → Option Value) (x : Str) (i : Int) : Prop := ∃ t, mg x = some (.int i t)
structure Txt (K : PySem.W.Frag) (mg : Str → Option Value) (C : Addr) : Prop where
  cl : Cls K C
  nB : NoAttr K C "begun"
  nP : NoAttr K C "pieces"
  nL : NoAttr K C "lists"
  len : mg "len" = none
  range : mg "range" = none
  list : mg "list" = none
  set : mg "set" = none
  all : mg "all" = none
  sum : mg "sum" = none
  nothing : Cst mg "NOTHING" 0
  noneSuch : Cst mg "NONE_SUCH" (-2)
  notBegun : Cst mg "NOT_BEGUN" (-11)
  out : Cst mg "OUT_OF_RANGE" (-22)
  many : Cst mg "TOO_MANY" (-28)
  goods : Cst mg "MOST_GOODS" 5
  pieces : Cst mg "MOST_PIECES" 100
  people : Cst mg "MOST_PEOPLE" 6
  longest : Cst mg "LONGEST_LIST" 5
  laid : Cst mg "MOST_LAID" 8
  zip : mg "zip" = none
/- what belongs to the shop -/
noncomputable def Owns (pa la : Addr) (qs : List Addr) (b : Addr) : Prop := b = pa ∨ b = la ∨ b ∈ qs
/- what a call promises: the shop as told, what belongs to it is new or was its own, all else as it was, the answer in a list -/
noncomputable def Post (C : Addr) (H : Hp) (x pa la : Addr) (qs : List Addr) (bg : Bool) (s : List Nat) (ls : List (List Nat)) (ans : List Int) (Q : VK) : Prop :=
  ∀ (H' : Hp) (r pa' la' : Addr) (qs' : List Addr), ShopAt C H' x bg s ls pa' la' qs' → (∀ b, Owns pa' la' qs' b → Owns pa la qs b ∨ H b = none) → (∀ b o, H b = some o → b ≠ x → ¬ Owns pa la qs b → H' b = some o) → H r = none → H' r = some (.lst (ans.map V.int)) → Q (.ref r) H'
theorem Post.ask {C : Addr} {H : Hp} {x pa la : Addr} {qs : List Addr} {bg : Bool} {s : List Nat} {ls : List (List Nat)} {ans : List Int} {Q : VK} (S : ShopAt C H x bg s ls pa la qs) (h : Post C H x pa la qs bg s ls ans Q) : Ask H Q ans :=
  fun H' r e hr h' => h H' r pa la qs (S.same e) (fun _ z => .inl z) (fun b o q _ _ => e b o q) hr h'
theorem Ask.one {H : Hp} {Q : VK} {n : Int} (k : Ask H Q [n]) {r : Addr} (hr : H r = none) : Q (.ref r) (upd H r (.lst [.int n])) := k _ r (same_new hr _) hr upd_same
theorem one_le : ([V.int 0] : List V).length ≤ sizeLine := by show 1 ≤ sizeLine; decide
section
variable {P : Program} {w : World} {K : PySem.W.Frag} {mg : Str → Option Value} {base : Heap}
/- ### __init__ -/
theorem scInit : FnScope ["self"] ["self"] (defScope cInit) := ⟨rfl, rfl, rfl, by decide +kernel, rfl, by decide +kernel, by decide +kernel⟩
noncomputable def spInit (C : Addr) : Sp := fun vs H Q _ => ∃ (x dx : Addr), vs = [.ref x] ∧ H x = some (.ins C dx []) ∧ ∀ (H' : Hp) (pa la : Addr), ShopAt C H' x false [] [] pa la [] → H pa = none → H la = none → (∀ b o, H b = some o → b ≠ x → H' b = some o) → Q .non H'
theorem ok_init {f C : Addr} {fd : FuncData} (F : Fun K "__init__" "Shop.__init__" cInit f fd) (T : Txt K mg C) : FnOk P w K mg base CX0 1 f fd ["self"] (spInit C) := by
  refine F.ok scInit (fun vs H Q E h => ?_) (fun cdv A outer s H vs Q E hr h => ?_)
  · obtain ⟨x, dx, rfl, _⟩ := h
    rfl
  obtain ⟨x, dx, rfl, hx, k⟩ := h
  refine ⟨_, pss_cons (ps_fld (pv 0) pe_bl rfl) (pss_cons (ps_fld (pv 0) (pe_lst pa_nil) rfl) (pss_one (ps_fld (pv 0) (pe_lst pa_nil) rfl))), ?_⟩
  refine ⟨_, rfl, x, C, dx, [], rfl, hx, T.cl, T.nB, (by decide), ?_⟩
  refine ⟨(by show 0 ≤ sizeLine; decide), fun pa hpa => ⟨_, rfl, x, C, dx, _, rfl, by rw [upd_ne (ne_of_none upd_same hpa), upd_same], T.cl, T.nP, (by decide), ?_⟩⟩
  have xp : x ≠ pa := ne_of_none upd_same hpa
  refine ⟨(by show 0 ≤ sizeLine; decide), fun la hla => ⟨_, rfl, x, C, dx, _, rfl, by rw [upd_ne (ne_of_none upd_same hla), upd_same], T.cl, T.nL, (by have h1 := length_putF "pieces" (V.ref pa) (putF "begun" (V.bl false) []); have h2 := length_putF "begun" (V.bl false) []; have h3 : ([] : List (Str × V)).length = 0 := rfl; lia), ?_⟩⟩
  have xl : x ≠ la := ne_of_none upd_same hla
  have pl : pa ≠ la := by
    refine ne_of_none (o := .lst []) ?_ hla
    rw [upd_ne xp.symm, upd_same]
  have h1 : H pa = none := by rw [upd_ne xp.symm] at hpa; exact hpa
  have h2 : H la = none := by rw [upd_ne xl.symm, upd_ne pl.symm, upd_ne xl.symm] at hla; exact hla
  refine k _ pa la ⟨⟨dx, upd_same⟩, ?_, ?_, rfl, fun i q l h => (by simp at h), pl, fun q hq => (by simp at hq), fun p hp => (by simp at hp), (by decide), (by decide), fun l hl => (by simp at hl), fun z => (by cases z)⟩ h1 h2 fun b o e hb => ?_
  · rw [upd_ne xp.symm, upd_ne pl, upd_ne xp.symm, upd_same]
    rfl
  · rw [upd_ne xl.symm, upd_same]
    rfl
  · rw [upd_ne hb, upd_ne (ne_of_none e h2), upd_ne hb, upd_ne (ne_of_none e h1), upd_ne hb]
    exact e
/- ### has_good, has_person, taken_now -/
theorem scHasGood : FnScope ["self", "good"] ["self", "good"] (defScope cHasGood) := ⟨rfl, rfl, rfl, by decide +kernel, rfl, by decide +kernel, by decide +kernel⟩
noncomputable def spHasGood (C : Addr) : Sp := fun vs H Q _ => ∃ (x : Addr) (g : Nat) (bg : Bool) (s : List Nat) (ls : List (List Nat)) (pa la : Addr) (qs : List Addr), vs = [.ref x, .int (g : Int)] ∧ ShopAt C H x bg s ls pa la qs ∧ Q (.bl (decide (g < s.length))) H
theorem dec_cast (a b : Nat) : decide ((a : Int) < (b : Int)) = decide (a < b) := by
  by_cases h : a < b
  · rw [decide_eq_true h, decide_eq_true (by lia)]
  · rw [decide_eq_false h, decide_eq_false (by lia)]
theorem ok_hasGood {f C : Addr} {fd : FuncData} (F : Fun K "has_good" "Shop.has_good" cHasGood f fd) (T : Txt K mg C) : FnOk P w K mg base CX0 1 f fd ["self", "good"] (spHasGood C) := by
  refine F.ok scHasGood (fun vs H Q E h => ?_) (fun cdv A outer s H vs Q E hr h => ?_)
  · obtain ⟨x, g, bg, s, ls, pa, la, qs, rfl, _⟩ := h
    rfl
  obtain ⟨x, g, bg, s, ls, pa, la, qs, rfl, S, k⟩ := h
  obtain ⟨dx, ho⟩ := S.obj
  refine ⟨_, pss_one (ps_ret (pe_cmpR op_lt (pv 1) (pe_callB call_len_seq rfl T.len PySem.boot_len (pa_cons (pe_fld (pv 0) rfl) pa_nil)) (nomark _))), ?_⟩
  refine ⟨_, rfl, _, rfl, x, C, dx, _, _, rfl, ho, T.cl, T.nP, sf_pieces _ _ _, pa, _, rfl, .inl (SqL.of S.pieces), _, _, rfl, rfl, ?_⟩
  rw [nats_len]
  dsimp only
  rw [dec_cast]
  exact k
theorem scHasPerson : FnScope ["self", "person"] ["self", "person"] (defScope cHasPerson) := ⟨rfl, rfl, rfl, by decide +kernel, rfl, by decide +kernel, by decide +kernel⟩
noncomputable def spHasPerson (C : Addr) : Sp := fun vs H Q _ => ∃ (x : Addr) (g : Nat) (bg : Bool) (s : List Nat) (ls : List (List Nat)) (pa la : Addr) (qs : List Addr), vs = [.ref x, .int (g : Int)] ∧ ShopAt C H x bg s ls pa la qs ∧ Q (.bl (decide (g < ls.length))) H
theorem ok_hasPerson {f C : Addr} {fd : FuncData} (F : Fun K "has_person" "Shop.has_person" cHasPerson f fd) (T : Txt K mg C) : FnOk P w K mg base CX0 1 f fd ["self", "person"] (spHasPerson C) := by
  refine F.ok scHasPerson (fun vs H Q E h => ?_) (fun cdv A outer s H vs Q E hr h => ?_)
  · obtain ⟨x, g, bg, s, ls, pa, la, qs, rfl, _⟩ := h
    rfl
  obtain ⟨x, g, bg, s, ls, pa, la, qs, rfl, S, k⟩ := h
  obtain ⟨dx, ho⟩ := S.obj
  refine ⟨_, pss_one (ps_ret (pe_cmpR op_lt (pv 1) (pe_callB call_len_seq rfl T.len PySem.boot_len (pa_cons (pe_fld (pv 0) rfl) pa_nil)) (nomark _))), ?_⟩
  refine ⟨_, rfl, _, rfl, x, C, dx, _, _, rfl, ho, T.cl, T.nL, sf_lists _ _ _, la, _, rfl, .inl (SqL.of S.lists), _, _, rfl, rfl, ?_⟩
  rw [List.length_map, S.len]
  dsimp only
  rw [dec_cast]
  exact k
theorem scTaken : FnScope ["self"] ["self"] (defScope cTaken) := ⟨rfl, rfl, rfl, by decide +kernel, rfl, by decide +kernel, by decide +kernel⟩
noncomputable def spTaken (C : Addr) : Sp := fun vs H Q _ => ∃ (x : Addr) (bg : Bool) (s : List Nat) (ls : List (List Nat)) (pa la : Addr) (qs : List Addr), vs = [.ref x] ∧ ShopAt C H x bg s ls pa la qs ∧
  ∀ (r : Addr) (H' : Hp), Same H H' → H r = none → H' r = some (.lst (nats (Su89.serve s ls))) → Q (.ref r) H'
theorem ok_taken {f g C : Addr} {fd gd : FuncData} (F : Fun K "taken_now" "Shop.taken_now" cTaken f fd) (T : Txt K mg C) (G : FnOk P w K mg base CX0 2 g gd ["pieces", "lists"] (spServe K)) (bG : Binds K gd ["pieces", "lists"] []) (kG : PySem.W.keepIn K (.ref g) = true) (mG : mg "serve_all" = some (.ref g)) :
    FnOk P w K mg base CX0 3 f fd ["self"] (spTaken C) := by
  refine F.ok scTaken (fun vs H Q E h => ?_) (fun cdv A outer s H vs Q E hr h => ?_)
  · obtain ⟨x, bg, s, ls, pa, la, qs, rfl, _⟩ := h
    rfl
  obtain ⟨x, bg, s, ls, pa, la, qs, rfl, S, k⟩ := h
  obtain ⟨dx, ho⟩ := S.obj
  have Z := S.stock (K := K)
  refine ⟨_, pss_one (ps_ret (pe_call G hr rfl mG kG bG .nil pass0 (pa_cons (pe_fld (pv 0) rfl) (pa_cons (pe_fld (pv 0) rfl) pa_nil)))), ?_⟩
  exact ⟨_, rfl, x, C, dx, _, _, rfl, ho, T.cl, T.nP, sf_pieces _ _ _, _, rfl, x, C, dx, _, _, rfl, ho, T.cl, T.nL, sf_lists _ _ _, pa, la, s, qs, ls, rfl, Z.pieces, Z.lists, Z.goods, Z.lt, Z.few, k⟩
/- ### may_be_told -/
noncomputable def okL (n : Nat) (l : List Nat) : Bool := decide (1 ≤ l.length) && (decide (l.length ≤ 5) && (decide l.Nodup && l.all fun g => decide (g < n)))
theorem scMay : FnScope ["self", "goods", "good"] ["self", "goods"] (defScope cMay) := ⟨rfl, rfl, rfl, by decide +kernel, rfl, by decide +kernel, by decide +kernel⟩
noncomputable def spMay (K : PySem.W.Frag) (C : Addr) : Sp := fun vs H Q _ => ∃ (x a : Addr) (l : List Nat) (bg : Bool) (s : List Nat) (ls : List (List Nat)) (pa la : Addr) (qs : List Addr), vs = [.ref x, .ref a] ∧ SqL K H a (nats l) ∧ l.length ≤ 1000 ∧ ShopAt C H x bg s ls pa la qs ∧
  ∀ H', Same H H' → Q (.bl (okL s.length l)) H'
theorem ok_may {f g C : Addr} {fd gd : FuncData} (F : Fun K "may_be_told" "Shop.may_be_told" cMay f fd) (T : Txt K mg C) (G : FnOk P w K mg base CX0 1 g gd ["self", "good"] (spHasGood C)) (bG : Binds K gd ["self", "good"] []) (mG : Meth K C "has_good" g) :
    FnOk P w K mg base CX0 2 f fd ["self", "goods"] (spMay K C) := by
  refine F.ok scMay (fun vs H Q E h => ?_) (fun cdv A outer s H vs Q E hr h => ?_)
  · obtain ⟨x, a, l, bg, s, ls, pa, la, qs, rfl, _⟩ := h
    rfl
  obtain ⟨x, a, l, bg, s, ls, pa, la, qs, rfl, hA, hl, S, k⟩ := h
  obtain ⟨dx, ho⟩ := S.obj
  obtain ⟨t5, m5⟩ := T.longest
  refine ⟨_, pss_cons (ps_if (PW.pt (pw_or (pt_cmpR op_lt (pe_callB call_len_seq rfl T.len PySem.boot_len (pa_cons (pv 1) pa_nil)) pe_int (nomark _)) (pw_or1 (pt_cmpR op_gt (pe_callB call_len_seq rfl T.len PySem.boot_len (pa_cons (pv 1) pa_nil)) (pe_glob (v := .int 5) rfl m5 ⟨_, rfl⟩) (nomark _)))))
      (pss_one (ps_ret pe_bl)) pss_nil)
    (pss_one (ps_ret (pe_and (pe_cmpR op_eq (pe_callB call_lenSet rfl T.len PySem.boot_len (pa_cons (pe_callTy (call_setI rfl) rfl T.set (by decide +kernel) (pa_cons (pv 1) pa_nil)) pa_nil)) (pe_callB call_len_seq rfl T.len PySem.boot_len (pa_cons (pv 1) pa_nil)) (nomark _))
      (pe_one (pe_callB (cr_all rfl) rfl T.all (by decide +kernel) (pa_cons (pe_lc (own := [("good", 2)]) rfl scMay.nd (pi_list (pv 1)) (blkOk_by (N := ["self", "goods", "good"]) (sc := defScope cMay) (by decide +kernel))
        (fun s H C cl fp => pg_name (i := 2) scMay.nd rfl (Or.inl rfl)) (fun s H C cl fp => pts_nil) (fun s H C' cl fp => pe_meth (pv 0) T.cl mG G hr bG .nil pass0 (pa_cons (pv 2) pa_nil))) pa_nil)))))), ?_⟩
  have no : okL s.length l = false → Q (.bl false) H := fun e => by
    have := k H (Same.refl H)
    rw [e] at this
    exact this
  refine ⟨_, rfl, a, _, rfl, .inl hA, _, _, rfl, rfl, _, rfl, ?_⟩
  rw [nats_len]
  refine ite2 (fun c => ?_) (fun c => ?_)
  · have c' : ((l.length : Nat) : Int) < 1 := of_decide_eq_true c
    exact iteT (no (by unfold okL; rw [decide_eq_false (by lia)]; rfl))
  have c1 : ¬ ((l.length : Nat) : Int) < 1 := of_decide_eq_false (Bool.eq_false_iff.mpr c)
  refine ⟨_, rfl, a, _, rfl, .inl hA, _, _, rfl, rfl, _, rfl, ?_⟩
  rw [nats_len]
  refine ite2 (fun c => ?_) (fun c => ?_)
  · have c' : (5 : Int) < ((l.length : Nat) : Int) := of_decide_eq_true c
    exact no (by unfold okL; rw [decide_eq_false (show ¬ l.length ≤ 5 by lia), Bool.false_and, Bool.and_false])
  have c2 : ¬ (5 : Int) < ((l.length : Nat) : Int) := of_decide_eq_false (Bool.eq_false_iff.mpr c)
  refine ⟨_, rfl, a, zs l, rfl, hA, (by rw [zs_len]; unfold scanBound; lia), fun q hq => ?_⟩
  have s1 : Same H (upd H q (.set (fun k => (dedup (zs l)).any (· == k)) (dedup (zs l)).length)) := same_new hq _
  have dl : (dedup (zs l)).length ≤ l.length := by
    have := firstMet_length_le (fun i => (zs l).getD i 0) (zs l).length
    rw [zs_len] at this
    unfold dedup
    rw [zs_len]
    exact this
  refine ⟨q, _, _, rfl, upd_same, (by lia), _, rfl, a, _, rfl, .inl (s1.seq hA), rfl, _, rfl, ?_⟩
  rw [nats_len]
  have ed : decide (V.int ((dedup (zs l)).length : Nat) = V.int (l.length : Nat)) = decide l.Nodup := by
    have h := dedup_nodup (zs l)
    rw [zs_len, zs_nodup] at h
    by_cases n : l.Nodup
    · rw [decide_eq_true n, decide_eq_true (by rw [h.mpr n])]
    · rw [decide_eq_false n, decide_eq_false (fun z => n (h.mp (by have := V.int.inj z; lia)))]
  rw [ed]
  refine ite2 (fun c => ?_) (fun c => ?_)
  · have nd : l.Nodup := of_decide_eq_true c
    refine ⟨_, rfl, a, rfl, ⟨_, s1.seq hA⟩, fun D hD => ?_⟩
    refine lc_list (K := K) (a := a) (xs := nats l) (fun i H' => Same H H' ∧ H' D = some (.lst (((l.take i).map fun g => decide (g < s.length)).map V.bl)))
      ⟨s1.trans (same_new hD _), upd_same⟩ (fun i H' _ hq => by obtain ⟨s2, _⟩ := hq; exact s2.seq hA) ?_ ?_
    · rintro i y H' hi ⟨s2, h2⟩
      obtain ⟨g, hg, rfl⟩ := nats_of hi
      refine ⟨rfl, _, rfl, x, dx, _, rfl, s2 _ _ ho, sf_no _ _ _ (by decide +kernel) (by decide +kernel) (by decide +kernel), _, rfl, x, g, bg, s, ls, pa, la, qs, rfl, S.same s2, _, h2, ?_, ?_⟩
      · rw [List.length_map, List.length_map, List.length_take]
        exact small1000 (by lia)
      · refine ⟨same_upd s2 (s1.free hD) _, ?_⟩
        rw [upd_same, take_snoc hg, List.map_append, List.map_append]
        rfl
    · rintro H' ⟨s2, h2⟩
      rw [nats_len, List.take_length] at h2
      refine ⟨D, _, rfl, SqL.of h2, ?_⟩
      have e : okL s.length l = (l.map fun g => decide (g < s.length)).all id := by
        unfold okL
        rw [decide_eq_true (show 1 ≤ l.length by lia), decide_eq_true (show l.length ≤ 5 by lia), decide_eq_true nd, Bool.true_and, Bool.true_and, Bool.true_and, List.all_map]
        rfl
      rw [← e]
      exact k H' s2
  · have nd : ¬ l.Nodup := of_decide_eq_false (Bool.eq_false_iff.mpr c)
    have e : okL s.length l = false := by
      unfold okL
      rw [decide_eq_false nd, Bool.false_and, Bool.and_false, Bool.and_false]
    have := k _ s1
    rw [e] at this
    exact this
end
end Sg
end
-- text SgMeth2
section
set_option Elab.async false
set_option linter.all false
set_option maxRecDepth 100000
set_option maxHeartbeats 4000000
namespace Sg
open PySem PySem.Spec PyProof.Rows L2
section
variable {P : Program} {w : World} {K : PySem.W.Frag} {mg : Str → Option Value} {base : Heap}
/- ### begin -/
theorem scBegin : FnScope ["self", "count", "good"] ["self", "count"] (defScope cBegin) := ⟨rfl, rfl, rfl, by decide +kernel, rfl, by decide +kernel, by decide +kernel⟩
noncomputable def spBegin (C : Addr) : Sp := fun vs H Q _ => ∃ (x : Addr) (n : Nat) (bg : Bool) (s : List Nat) (ls : List (List Nat)) (pa la : Addr) (qs : List Addr), vs = [.ref x, .int (n : Int)] ∧ ShopAt C H x bg s ls pa la qs ∧
  if n = 0 ∨ 5 < n then Ask H Q [-22] else Post C H x pa la qs true (List.replicate n 0) [] [0] Q
theorem ok_begin {f C : Addr} {fd : FuncData} (F : Fun K "begin" "Shop.begin" cBegin f fd) (T : Txt K mg C) : FnOk P w K mg base CX0 1 f fd ["self", "count"] (spBegin C) := by
  refine F.ok scBegin (fun vs H Q E h => ?_) (fun cdv A outer s H vs Q E hr h => ?_)
  · obtain ⟨x, n, bg, s, ls, pa, la, qs, rfl, _⟩ := h
    rfl
  obtain ⟨x, n, bg, s, ls, pa, la, qs, rfl, S, k⟩ := h
  obtain ⟨dx, ho⟩ := S.obj
  obtain ⟨t5, m5⟩ := T.goods
  obtain ⟨to, mo⟩ := T.out
  refine ⟨_, pss_cons (ps_if (PW.pt (pw_or (pt_cmpR op_lt (pv 1) pe_int (nomark _)) (pw_or1 (pt_cmpR op_gt (pv 1) (pe_glob (v := .int 5) rfl m5 ⟨_, rfl⟩) (nomark _)))))
      (pss_one (ps_ret (pe_lst (pa_cons (pe_glob (v := .int (-22)) rfl mo ⟨_, rfl⟩) pa_nil)))) pss_nil)
    (pss_cons (ps_fld (pv 0) pe_bl rfl)
    (pss_cons (ps_fld (pv 0) (pe_lc (own := [("good", 2)]) rfl scBegin.nd (pi_range1 rfl T.range (pa_cons (pv 1) pa_nil)) (blkOk_by (N := ["self", "count", "good"]) (sc := defScope cBegin) (by decide +kernel))
        (fun s H C cl fp => pg_name (i := 2) scBegin.nd rfl (Or.inl rfl)) (fun s H C cl fp => pts_nil) (fun s H C' cl fp => pe_int)) rfl)
    (pss_cons (ps_fld (pv 0) (pe_lst pa_nil) rfl)
    (pss_one (ps_ret (pe_lst (pa_cons pe_int pa_nil))))))), ?_⟩
  refine ⟨_, rfl, _, _, rfl, rfl, _, rfl, ?_⟩
  refine ite2 (fun c => ?_) (fun c => ?_)
  · have c' : (n : Int) < 1 := of_decide_eq_true c
    rw [if_pos (.inl (by lia))] at k
    exact iteT ⟨one_le, fun r hr => k.one hr⟩
  have c1 : ¬ (n : Int) < 1 := of_decide_eq_false (Bool.eq_false_iff.mpr c)
  refine ⟨_, rfl, _, _, rfl, rfl, _, rfl, ?_⟩
  refine ite2 (fun c => ?_) (fun c => ?_)
  · have c' : (5 : Int) < (n : Int) := of_decide_eq_true c
    rw [if_pos (.inr (by lia))] at k
    exact ⟨one_le, fun r hr => k.one hr⟩
  have c2 : ¬ (5 : Int) < (n : Int) := of_decide_eq_false (Bool.eq_false_iff.mpr c)
  rw [if_neg (by lia)] at k
  refine ⟨_, rfl, x, C, dx, _, rfl, ho, T.cl, T.nB, (by rw [sf_len]; decide), ?_⟩
  rw [put_begun]
  refine ⟨_, rfl, _, rfl, (by lia), (by lia), fun p hp => ?_⟩
  rw [Int.toNat_natCast]
  have xp : x ≠ p := ne_of_none upd_same hp
  have hp0 : H p = none := by rw [upd_ne xp.symm] at hp; exact hp
  refine lc_range (n := n) (fun i H' => (∀ b o, H b = some o → b ≠ x → H' b = some o) ∧ H' x = some (.ins C dx (sf true pa la)) ∧ H' p = some (.lst (nats (List.replicate i 0))))
    ⟨fun b o e hb => by rw [upd_ne (ne_of_none e hp0), upd_ne hb]; exact e, by rw [upd_ne xp, upd_same], upd_same⟩ ?_ ?_
  · rintro i H' hi ⟨h1, h2, h3⟩
    refine ⟨rfl, _, h3, (by rw [nats_len, List.length_replicate]; exact small1000 (by lia)), fun b o e hb => by rw [upd_ne (ne_of_none e hp0)]; exact h1 b o e hb, by rw [upd_ne xp]; exact h2, ?_⟩
    rw [upd_same]
    have e : List.replicate (i + 1) 0 = List.replicate i 0 ++ [0] := List.replicate_succ'
    rw [e, ← nats_snoc]
    rfl
  · rintro H1 ⟨h1, h2, h3⟩
    refine ⟨_, rfl, x, C, dx, _, rfl, h2, T.cl, T.nP, (by rw [sf_len]; decide), ?_⟩
    rw [put_pieces]
    refine ⟨(by show 0 ≤ sizeLine; decide), fun l hl => ?_⟩
    have xl : x ≠ l := ne_of_none upd_same hl
    have hl1 : H1 l = none := by rw [upd_ne xl.symm] at hl; exact hl
    have pl : p ≠ l := ne_of_none h3 hl1
    have hl0 : H l = none := by
      cases q : H l with
      | none => rfl
      | some o => rw [h1 l o q xl.symm] at hl1; cases hl1
    refine ⟨_, rfl, x, C, dx, _, rfl, by rw [upd_ne xl, upd_same], T.cl, T.nL, (by rw [sf_len]; decide), ?_⟩
    rw [put_lists]
    refine ⟨one_le, fun r hr' => ?_⟩
    have xr : x ≠ r := ne_of_none upd_same hr'
    have lr : l ≠ r := by
      refine ne_of_none (o := .lst []) ?_ hr'
      rw [upd_ne xl.symm, upd_same]
    have hr1 : H1 r = none := by rw [upd_ne xr.symm, upd_ne lr.symm, upd_ne xr.symm] at hr'; exact hr'
    have pr : p ≠ r := ne_of_none h3 hr1
    have hr0 : H r = none := by
      cases q : H r with
      | none => rfl
      | some o => rw [h1 r o q xr.symm] at hr1; cases hr1
    refine k _ r p l [] ⟨⟨dx, by rw [upd_ne xr, upd_same]⟩, ?_, ?_, rfl, fun i q l h => (by simp at h), pl, fun q hq => (by simp at hq), fun p hp => (by simp at hp), (by rw [List.length_replicate]; lia), (by decide), fun l hl => (by simp at hl), fun _ => (by rw [List.length_replicate]; lia)⟩ ?_ ?_ hr0 upd_same
    · rw [upd_ne pr, upd_ne xp.symm, upd_ne pl, upd_ne xp.symm]
      exact h3
    · rw [upd_ne lr, upd_ne xl.symm, upd_same]
      rfl
    · rintro b (rfl | rfl | h)
      · exact .inr hp0
      · exact .inr hl0
      · simp at h
    · intro b o e hb _
      rw [upd_ne (ne_of_none e hr0), upd_ne hb, upd_ne (ne_of_none e hl0), upd_ne hb]
      exact h1 b o e hb
/- ### put -/
theorem scPut : FnScope ["self", "good", "count", "before"] ["self", "good", "count"] (defScope cPut) := ⟨rfl, rfl, rfl, by decide +kernel, rfl, by decide +kernel, by decide +kernel⟩
noncomputable def spPut (C : Addr) : Sp := fun vs H Q _ => ∃ (x : Addr) (g n : Nat) (bg : Bool) (s : List Nat) (ls : List (List Nat)) (pa la : Addr) (qs : List Addr), vs = [.ref x, .int (g : Int), .int (n : Int)] ∧ ShopAt C H x bg s ls pa la qs ∧
  if s.length ≤ g then Ask H Q [-2] else if 100 < n then Ask H Q [-22] else Post C H x pa la qs bg (s.set g n) ls [((s.getD g 0 : Nat) : Int)] Q
theorem pt_nota {c : Bool} {A B : Prop} (h1 : c = false → A) (h2 : c = true → B) : if (!c) = true then A else B := by
  cases c with
  | false => exact iteT (h1 rfl)
  | true => exact iteF (h2 rfl)
theorem ok_put {f g C : Addr} {fd gd : FuncData} (F : Fun K "put" "Shop.put" cPut f fd) (T : Txt K mg C) (G : FnOk P w K mg base CX0 1 g gd ["self", "good"] (spHasGood C)) (bG : Binds K gd ["self", "good"] []) (mG : Meth K C "has_good" g) :
    FnOk P w K mg base CX0 2 f fd ["self", "good", "count"] (spPut C) := by
  refine F.ok scPut (fun vs H Q E h => ?_) (fun cdv A outer s H vs Q E hr h => ?_)
  · obtain ⟨x, g, n, bg, s, ls, pa, la, qs, rfl, _⟩ := h
    rfl
  obtain ⟨x, g, n, bg, s, ls, pa, la, qs, rfl, S, k⟩ := h
  obtain ⟨dx, ho⟩ := S.obj
  obtain ⟨tn, mn⟩ := T.noneSuch
  obtain ⟨to, mo⟩ := T.out
  obtain ⟨th, mh⟩ := T.pieces
  refine ⟨_, pss_cons (ps_if (pt_not (pt_val (pe_meth (pv 0) T.cl mG G hr bG .nil pass0 (pa_cons (pv 1) pa_nil)))) (pss_one (ps_ret (pe_lst (pa_cons (pe_glob (v := .int (-2)) rfl mn ⟨_, rfl⟩) pa_nil)))) pss_nil)
    (pss_cons (ps_if (pt_cmpR op_gt (pv 2) (pe_glob (v := .int 100) rfl mh ⟨_, rfl⟩) (nomark _)) (pss_one (ps_ret (pe_lst (pa_cons (pe_glob (v := .int (-22)) rfl mo ⟨_, rfl⟩) pa_nil)))) pss_nil)
    (pss_cons (ps_set (i := 3) scPut.nd rfl (Or.inl rfl) (pe_ix ix_list (pe_fld (pv 0) rfl) (pv 1) (fun _ _ => rfl)))
    (pss_cons (ps_asg (pv 2) (pg_sub (pe_fld (pv 0) rfl) (pv 1) set_list))
    (pss_one (ps_ret (pe_lst (pa_cons (pv 3) pa_nil))))))), ?_⟩
  refine ⟨_, rfl, x, dx, _, rfl, ho, sf_no _ _ _ (by decide +kernel) (by decide +kernel) (by decide +kernel), _, rfl, x, g, bg, s, ls, pa, la, qs, rfl, S, _, rfl, ?_⟩
  refine pt_nota (fun c => ?_) (fun c => ?_)
  · have c' : ¬ g < s.length := of_decide_eq_false c
    rw [if_pos (by lia)] at k
    exact ⟨one_le, fun r hr => k.one hr⟩
  have gl : g < s.length := of_decide_eq_true c
  rw [if_neg (by lia)] at k
  refine ⟨_, rfl, _, _, rfl, rfl, _, rfl, ?_⟩
  refine ite2 (fun c => ?_) (fun c => ?_)
  · have c' : (100 : Int) < (n : Int) := of_decide_eq_true c
    rw [if_pos (by lia)] at k
    exact ⟨one_le, fun r hr => k.one hr⟩
  have c2 : ¬ (100 : Int) < (n : Int) := of_decide_eq_false (Bool.eq_false_iff.mpr c)
  rw [if_neg (by lia)] at k
  have gv := get_of gl
  have xp : x ≠ pa := ne_of ho S.pieces (by intro z; cases z)
  refine ⟨_, rfl, x, C, dx, _, _, rfl, ho, T.cl, T.nP, sf_pieces _ _ _, _, rfl, pa, _, _, _, rfl, rfl, SqL.of S.pieces, atI_nat (nats_get gv), ?_⟩
  refine ⟨_, rfl, _, rfl, x, C, dx, _, _, rfl, ho, T.cl, T.nP, sf_pieces _ _ _, _, rfl, pa, _, _, g, rfl, rfl, S.pieces, ?_, ?_⟩
  · unfold ixN
    rw [nats_len, if_pos (by lia), if_pos (by lia)]
    congr 1
  refine ⟨_, rfl, one_le, fun r hr => ?_⟩
  have pr : pa ≠ r := ne_of_none upd_same hr
  have hr0 : H r = none := by rw [upd_ne pr.symm] at hr; exact hr
  refine k _ r pa la qs ⟨⟨dx, by rw [upd_ne (ne_of_none ho hr0), upd_ne xp]; exact ho⟩, ?_, ?_, S.len, fun i q l h1 h2 => ?_, S.pl, S.off, by rw [List.length_set]; exact S.lt, by rw [List.length_set]; exact S.five, S.six, S.told, by rw [List.length_set]; exact S.one⟩ (fun b z => .inl z) (fun b o e hb hn => ?_) hr0 ?_
  · rw [upd_ne pr, upd_same, nats_set]
  · rw [upd_ne (ne_of_none S.lists hr0), upd_ne S.pl.symm]
    exact S.lists
  · have e := S.at_ i q l h1 h2
    rw [upd_ne (ne_of_none e hr0), upd_ne (S.off q (List.mem_of_getElem? h1)).1]
    exact e
  · rw [upd_ne (ne_of_none e hr0), upd_ne (fun z => hn (.inl z))]
    exact e
  · rw [upd_same]
    rfl
end
end Sg
end
-- text SgMeth3
section
set_option Elab.async false
set_option linter.all false
set_option maxRecDepth 100000
set_option maxHeartbeats 4000000
namespace Sg
open PySem PySem.Spec PyProof.Rows L2
theorem Ask.oneS {H H1 : Hp} {Q : VK} {n : Int} (k : Ask H Q [n]) (s : Same H H1) {r : Addr} (hr : H1 r = none) : Q (.ref r) (upd H1 r (.lst [.int n])) := k _ r (s.trans (same_new hr _)) (s.free hr) upd_same
theorem Ask.putS {H H1 : Hp} {Q : VK} {ans : List Int} {xs : List V} (k : Ask H Q ans) (s : Same H H1) {r : Addr} (hr : H1 r = none) (e : xs = ans.map V.int) : Q (.ref r) (upd H1 r (.lst xs)) := k _ r (s.trans (same_new hr _)) (s.free hr) (by rw [upd_same, e])
theorem erase_map {α β : Type} (f : α → β) : ∀ (l : List α) (i : Nat), (l.map f).eraseIdx i = (l.eraseIdx i).map f
  | [], _ => rfl
  | _ :: _, 0 => rfl
  | a :: l, i + 1 => by
    show f a :: (l.map f).eraseIdx i = f a :: (l.eraseIdx i).map f
    rw [erase_map f l i]
theorem okL_iff {n : Nat} {l : List Nat} (h : okL n l = true) : (1 ≤ l.length ∧ l.length ≤ 5 ∧ l.Nodup) ∧ ∀ g ∈ l, g < n := by
  unfold okL at h
  rw [Bool.and_eq_true, Bool.and_eq_true, Bool.and_eq_true] at h
  refine ⟨⟨of_decide_eq_true h.1, of_decide_eq_true h.2.1, of_decide_eq_true h.2.2.1⟩, fun g hg => ?_⟩
  exact of_decide_eq_true (List.all_eq_true.mp h.2.2.2 g hg)
section
variable {P : Program} {w : World} {K : PySem.W.Frag} {mg : Str → Option Value} {base : Heap}
/- ### person -/
theorem scPerson : FnScope ["self", "goods"] ["self", "goods"] (defScope cPerson) := ⟨rfl, rfl, rfl, by decide +kernel, rfl, by decide +kernel, by decide +kernel⟩
noncomputable def spPerson (K : PySem.W.Frag) (C : Addr) : Sp := fun vs H Q _ => ∃ (x a : Addr) (l : List Nat) (bg : Bool) (s : List Nat) (ls : List (List Nat)) (pa la : Addr) (qs : List Addr), vs = [.ref x, .ref a] ∧ SqL K H a (nats l) ∧ l.length ≤ 1000 ∧ ShopAt C H x bg s ls pa la qs ∧
  if okL s.length l = false then Ask H Q [-22] else if 6 ≤ ls.length then Ask H Q [-28] else Post C H x pa la qs bg s (ls ++ [l]) [((ls.length : Nat) : Int)] Q
theorem ok_person {f g C : Addr} {fd gd : FuncData} (F : Fun K "person" "Shop.person" cPerson f fd) (T : Txt K mg C) (G : FnOk P w K mg base CX0 2 g gd ["self", "goods"] (spMay K C)) (bG : Binds K gd ["self", "goods"] []) (mG : Meth K C "may_be_told" g) :
    FnOk P w K mg base CX0 3 f fd ["self", "goods"] (spPerson K C) := by
  refine F.ok scPerson (fun vs H Q E h => ?_) (fun cdv A outer s H vs Q E hr h => ?_)
  · obtain ⟨x, a, l, bg, s, ls, pa, la, qs, rfl, _⟩ := h
    rfl
  obtain ⟨x, a, l, bg, s, ls, pa, la, qs, rfl, hA, hl, S, k⟩ := h
  obtain ⟨dx, ho⟩ := S.obj
  obtain ⟨tm, mm⟩ := T.many
  obtain ⟨to, mo⟩ := T.out
  obtain ⟨th, mh⟩ := T.people
  refine ⟨_, pss_cons (ps_if (pt_not (pt_val (pe_meth (pv 0) T.cl mG G hr bG .nil pass0 (pa_cons (pv 1) pa_nil)))) (pss_one (ps_ret (pe_lst (pa_cons (pe_glob (v := .int (-22)) rfl mo ⟨_, rfl⟩) pa_nil)))) pss_nil)
    (pss_cons (ps_if (pt_cmpR op_eq (pe_callB call_len_seq rfl T.len PySem.boot_len (pa_cons (pe_fld (pv 0) rfl) pa_nil)) (pe_glob (v := .int 6) rfl mh ⟨_, rfl⟩) (nomark _)) (pss_one (ps_ret (pe_lst (pa_cons (pe_glob (v := .int (-28)) rfl mm ⟨_, rfl⟩) pa_nil)))) pss_nil)
    (pss_cons (ps_expr (pe_bm PySem.F.plainAttrs_list PySem.F.slot_list_append PySem.F.type_list_append mt_append (pe_fld (pv 0) rfl) (pa_cons (pe_callTy call_list_of rfl T.list (by decide +kernel) (pa_cons (pv 1) pa_nil)) pa_nil)))
    (pss_one (ps_ret (pe_lst (pa_cons (pe_op op_sub (pe_callB call_len_seq rfl T.len PySem.boot_len (pa_cons (pe_fld (pv 0) rfl) pa_nil)) pe_int) pa_nil)))))), ?_⟩
  refine ⟨_, rfl, x, dx, _, rfl, ho, sf_no _ _ _ (by decide +kernel) (by decide +kernel) (by decide +kernel), _, rfl, x, a, l, bg, s, ls, pa, la, qs, rfl, hA, hl, S, fun H1 s1 => ⟨_, rfl, ?_⟩⟩
  refine pt_nota (fun c => ?_) (fun c => ?_)
  · rw [if_pos c] at k
    exact ⟨one_le, fun r hr => k.oneS s1 hr⟩
  rw [if_neg (by rw [c]; decide)] at k
  obtain ⟨tl, gl⟩ := okL_iff c
  have S1 := S.same s1
  obtain ho1 := s1 _ _ ho
  refine ⟨_, rfl, x, C, dx, _, _, rfl, ho1, T.cl, T.nL, sf_lists _ _ _, la, _, rfl, .inl (SqL.of S1.lists), rfl, _, rfl, ?_⟩
  rw [List.length_map, S.len]
  have six := S.six
  refine ite2 (fun c => ?_) (fun c => ?_)
  · have c' := V.int.inj (of_decide_eq_true c)
    rw [if_pos (by lia)] at k
    exact ⟨one_le, fun r hr => k.oneS s1 hr⟩
  have c' : ¬ ls.length = 6 := fun z => c (decide_eq_true (by rw [z]; rfl))
  rw [if_neg (by lia)] at k
  refine ⟨_, rfl, x, C, dx, _, _, rfl, ho1, T.cl, T.nL, sf_lists _ _ _, .inl ⟨rfl, _, SqL.of S1.lists⟩, _, rfl, a, _, rfl, .inl (s1.seq hA), fun q hq => ?_⟩
  have ql : la ≠ q := ne_of_none S1.lists hq
  have xl : x ≠ la := ne_of ho S.lists (by intro z; cases z)
  refine ⟨la, _, _, rfl, rfl, by rw [upd_ne ql]; exact S1.lists, by rw [List.length_map, S.len]; exact small1000 (by lia), ?_⟩
  refine ⟨_, rfl, x, C, dx, _, _, rfl, by rw [upd_ne xl, upd_ne (ne_of_none ho1 hq)]; exact ho1, T.cl, T.nL, sf_lists _ _ _, la, _, rfl, .inl (SqL.of upd_same), _, _, rfl, rfl, one_le, fun r hr => ?_⟩
  have lr : la ≠ r := ne_of_none upd_same hr
  have hr1 : upd H1 q (.lst (nats l)) r = none := by rw [upd_ne lr.symm] at hr; exact hr
  have qr : q ≠ r := ne_of_none upd_same hr1
  have hr2 : H1 r = none := by rw [upd_ne qr.symm] at hr1; exact hr1
  have hr0 := s1.free hr2
  have hq0 := s1.free hq
  have xr : x ≠ r := ne_of_none ho hr0
  have xq : x ≠ q := ne_of_none ho1 hq
  refine k _ r pa la (qs ++ [q]) ⟨⟨dx, by rw [upd_ne xr, upd_ne xl, upd_ne xq]; exact ho1⟩, ?_, ?_, ?_, fun i q' l' h1 h2 => ?_, S.pl, fun q' hq' => ?_, fun p hp => ?_, S.five, ?_, fun l' hl' => ?_, S.one⟩ (fun b z => ?_) (fun b o e hb hn => ?_) hr0 ?_
  · rw [upd_ne (ne_of_none S1.pieces hr2), upd_ne S.pl, upd_ne (ne_of_none S1.pieces hq)]
    exact S1.pieces
  · rw [upd_ne lr, upd_same, List.map_append]
    rfl
  · rw [List.length_append, List.length_append, S.len]
    rfl
  · by_cases hi : i < qs.length
    · rw [List.getElem?_append_left hi] at h1
      rw [List.getElem?_append_left (by rw [← S.len]; exact hi)] at h2
      have e := S1.at_ i q' l' h1 h2
      rw [upd_ne (ne_of_none e hr2), upd_ne (S.off q' (List.mem_of_getElem? h1)).2, upd_ne (ne_of_none e hq)]
      exact e
    · have hi' : i = qs.length := by
        have := (List.getElem?_eq_some_iff.mp h1).1
        rw [List.length_append, List.length_singleton] at this
        lia
      subst hi'
      rw [List.getElem?_concat_length] at h1
      rw [S.len, List.getElem?_concat_length] at h2
      cases h1
      cases h2
      rw [upd_ne qr, upd_ne ql.symm, upd_same]
  · rcases List.mem_append.mp hq' with z | z
    · exact S.off q' z
    · rw [List.mem_singleton] at z
      subst z
      exact ⟨(ne_of_none S1.pieces hq).symm, ql.symm⟩
  · rcases List.mem_append.mp hp with z | z
    · exact S.lt p z
    · rw [List.mem_singleton] at z
      subst z
      exact gl
  · rw [List.length_append, List.length_singleton]
    lia
  · rcases List.mem_append.mp hl' with z | z
    · exact S.told l' z
    · rw [List.mem_singleton] at z
      subst z
      exact tl
  · rcases z with z | z | z
    · exact .inl (.inl z)
    · exact .inl (.inr (.inl z))
    · rcases List.mem_append.mp z with z | z
      · exact .inl (.inr (.inr z))
      · rw [List.mem_singleton] at z
        subst z
        exact .inr hq0
  · rw [upd_ne (ne_of_none e hr0), upd_ne (fun z => hn (.inr (.inl z))), upd_ne (ne_of_none e hq0)]
    exact s1 b o e
  · rw [upd_same, List.length_append, List.length_map, S.len]
    show some (HO.lst [V.int (((ls.length + 1 : Nat) : Int) - 1)]) = some (HO.lst [V.int ((ls.length : Nat) : Int)])
    congr 4
    lia
/- ### drop -/
theorem scDrop : FnScope ["self", "person"] ["self", "person"] (defScope cDrop) := ⟨rfl, rfl, rfl, by decide +kernel, rfl, by decide +kernel, by decide +kernel⟩
noncomputable def spDrop (C : Addr) : Sp := fun vs H Q _ => ∃ (x : Addr) (i : Nat) (bg : Bool) (s : List Nat) (ls : List (List Nat)) (pa la : Addr) (qs : List Addr), vs = [.ref x, .int (i : Int)] ∧ ShopAt C H x bg s ls pa la qs ∧
  if i < ls.length then Post C H x pa la qs bg s (ls.eraseIdx i) [((ls.length - 1 : Nat) : Int)] Q else Ask H Q [-2]
theorem ok_drop {f g C : Addr} {fd gd : FuncData} (F : Fun K "drop" "Shop.drop" cDrop f fd) (T : Txt K mg C) (G : FnOk P w K mg base CX0 1 g gd ["self", "person"] (spHasPerson C)) (bG : Binds K gd ["self", "person"] []) (mG : Meth K C "has_person" g) :
    FnOk P w K mg base CX0 2 f fd ["self", "person"] (spDrop C) := by
  refine F.ok scDrop (fun vs H Q E h => ?_) (fun cdv A outer s H vs Q E hr h => ?_)
  · obtain ⟨x, i, bg, s, ls, pa, la, qs, rfl, _⟩ := h
    rfl
  obtain ⟨x, i, bg, s, ls, pa, la, qs, rfl, S, k⟩ := h
  obtain ⟨dx, ho⟩ := S.obj
  obtain ⟨tn, mn⟩ := T.noneSuch
  refine ⟨_, pss_cons (ps_if (pt_not (pt_val (pe_meth (pv 0) T.cl mG G hr bG .nil pass0 (pa_cons (pv 1) pa_nil)))) (pss_one (ps_ret (pe_lst (pa_cons (pe_glob (v := .int (-2)) rfl mn ⟨_, rfl⟩) pa_nil)))) pss_nil)
    (pss_cons (ps_expr (pe_bm PySem.F.plainAttrs_list PySem.F.slot_list_pop PySem.F.type_list_pop mt_popAt (pe_fld (pv 0) rfl) (pa_cons (pv 1) pa_nil)))
    (pss_one (ps_ret (pe_lst (pa_cons (pe_callB call_len_seq rfl T.len PySem.boot_len (pa_cons (pe_fld (pv 0) rfl) pa_nil)) pa_nil))))), ?_⟩
  refine ⟨_, rfl, x, dx, _, rfl, ho, sf_no _ _ _ (by decide +kernel) (by decide +kernel) (by decide +kernel), _, rfl, x, i, bg, s, ls, pa, la, qs, rfl, S, _, rfl, ?_⟩
  refine pt_nota (fun c => ?_) (fun c => ?_)
  · have c' : ¬ i < ls.length := of_decide_eq_false c
    rw [if_neg c'] at k
    exact ⟨one_le, fun r hr => k.one hr⟩
  have il : i < ls.length := of_decide_eq_true c
  rw [if_pos il] at k
  have six := S.six
  have iq : i < qs.length := by rw [S.len]; exact il
  have xl : x ≠ la := ne_of ho S.lists (by intro z; cases z)
  refine ⟨_, rfl, x, C, dx, _, _, rfl, ho, T.cl, T.nL, sf_lists _ _ _, .inl ⟨rfl, _, SqL.of S.lists⟩, _, rfl, la, _, _, i, V.ref qs[i], rfl, rfl, S.lists, (by lia), (by lia), ?_, ?_, ?_⟩
  · rw [List.length_map, seqIndex_of (by lia) (by lia), Int.toNat_natCast]
  · rw [List.getElem?_map, List.getElem?_eq_getElem iq]
    rfl
  refine ⟨_, rfl, x, C, dx, _, _, rfl, by rw [upd_ne xl]; exact ho, T.cl, T.nL, sf_lists _ _ _, la, _, rfl, .inl (SqL.of upd_same), one_le, fun r hr => ?_⟩
  have lr : la ≠ r := ne_of_none upd_same hr
  have hr0 : H r = none := by rw [upd_ne lr.symm] at hr; exact hr
  refine k _ r pa la (qs.eraseIdx i) ⟨⟨dx, by rw [upd_ne (ne_of_none ho hr0), upd_ne xl]; exact ho⟩, ?_, ?_, ?_, fun j q l h1 h2 => ?_, S.pl, fun q hq => S.off q (List.mem_of_mem_eraseIdx hq), fun p hp => S.lt p (List.mem_of_mem_eraseIdx hp), S.five, ?_, fun l hl => S.told l (List.mem_of_mem_eraseIdx hl), S.one⟩ (fun b z => ?_) (fun b o e hb hn => ?_) hr0 ?_
  · rw [upd_ne (ne_of_none S.pieces hr0), upd_ne S.pl]
    exact S.pieces
  · rw [upd_ne lr, upd_same, erase_map]
  · rw [List.length_eraseIdx, List.length_eraseIdx, if_pos iq, if_pos il, S.len]
  · rw [List.getElem?_eraseIdx] at h1 h2
    have e : H q = some (.lst (nats l)) := by
      by_cases z : j < i
      · rw [if_pos z] at h1 h2
        exact S.at_ j q l h1 h2
      · rw [if_neg z] at h1 h2
        exact S.at_ (j + 1) q l h1 h2
    have m : q ∈ qs := by
      by_cases z : j < i
      · rw [if_pos z] at h1
        exact List.mem_of_getElem? h1
      · rw [if_neg z] at h1
        exact List.mem_of_getElem? h1
    rw [upd_ne (ne_of_none e hr0), upd_ne (S.off q m).2]
    exact e
  · rw [List.length_eraseIdx]
    split <;> lia
  · rcases z with z | z | z
    · exact .inl (.inl z)
    · exact .inl (.inr (.inl z))
    · exact .inl (.inr (.inr (List.mem_of_mem_eraseIdx z)))
  · rw [upd_ne (ne_of_none e hr0), upd_ne (fun z => hn (.inr (.inl z)))]
    exact e
  · rw [upd_same, List.length_eraseIdx, if_pos (by rw [List.length_map]; exact iq), List.length_map, S.len]
    rfl
/- ### got -/
theorem scGot : FnScope ["self", "taken"] ["self"] (defScope cGot) := ⟨rfl, rfl, rfl, by decide +kernel, rfl, by decide +kernel, by decide +kernel⟩
noncomputable def spAsk0 (C : Addr) (ans : List Nat → List (List Nat) → List Int) : Sp := fun vs H Q _ => ∃ (x : Addr) (bg : Bool) (s : List Nat) (ls : List (List Nat)) (pa la : Addr) (qs : List Addr), vs = [.ref x] ∧ ShopAt C H x bg s ls pa la qs ∧ Ask H Q (ans s ls)
noncomputable def aGot (s : List Nat) (ls : List (List Nat)) : List Int := ((Su89.served (Su89.serve s ls) : Nat) : Int) :: zs (Su89.serve s ls)
theorem ok_got {f g c C : Addr} {fd gd cd : FuncData} (F : Fun K "got" "Shop.got" cGot f fd) (T : Txt K mg C) (G : FnOk P w K mg base CX0 3 g gd ["self"] (spTaken C)) (bG : Binds K gd ["self"] []) (mG : Meth K C "taken_now" g)
    (D : FnOk P w K mg base CX0 1 c cd ["taken"] (spCount K)) (bD : Binds K cd ["taken"] []) (kD : PySem.W.keepIn K (.ref c) = true) (mD : mg "count_served" = some (.ref c)) : FnOk P w K mg base CX0 4 f fd ["self"] (spAsk0 C aGot) := by
  refine F.ok scGot (fun vs H Q E h => ?_) (fun cdv A outer s H vs Q E hr h => ?_)
  · obtain ⟨x, bg, s, ls, pa, la, qs, rfl, _⟩ := h
    rfl
  obtain ⟨x, bg, s, ls, pa, la, qs, rfl, S, k⟩ := h
  obtain ⟨dx, ho⟩ := S.obj
  have hr1 : Room 1 _ := hr.mono (by decide)
  refine ⟨_, pss_cons (ps_set (i := 1) scGot.nd rfl (Or.inl rfl) (pe_meth0 (pv 0) T.cl mG G hr bG .nil pass0))
    (pss_one (ps_ret (pe_op op_cat (pe_lst (pa_cons (pe_call D hr1 rfl mD kD bD .nil pass0 (pa_cons (pv 1) pa_nil)) pa_nil)) (pv 1)))), ?_⟩
  refine ⟨_, rfl, x, dx, _, rfl, ho, sf_no _ _ _ (by decide +kernel) (by decide +kernel) (by decide +kernel), x, bg, s, ls, pa, la, qs, rfl, S, fun t H1 s1 ht h1 => ?_⟩
  refine ⟨_, rfl, t, _, rfl, SqL.of h1, one_le, fun q hq => ⟨_, rfl, q, t, _, _, rfl, rfl, upd_same, by rw [upd_ne (ne_of_none h1 hq)]; exact h1, ?_, fun r hr => ?_⟩⟩
  · have six := S.six
    rw [nats_len, serve_len]
    show 1 + ls.length ≤ sizeLine
    exact Nat.le_of_lt (small1000 (by lia))
  · exact k.putS (s1.trans (same_new hq _)) hr rfl
/- ### lost -/
theorem scLost : FnScope ["self", "taken", "without", "person"] ["self"] (defScope cLost) := ⟨rfl, rfl, rfl, by decide +kernel, rfl, by decide +kernel, by decide +kernel⟩
noncomputable def lostOf (s : List Nat) (ls : List (List Nat)) : List Nat := (List.range ls.length).filter fun i => (Su89.serve s ls).getD i 0 == 0
noncomputable def aLost (s : List Nat) (ls : List (List Nat)) : List Int := (((lostOf s ls).length : Nat) : Int) :: zs (lostOf s ls)
theorem filter_range_succ (p : Nat → Bool) (i : Nat) : (List.range (i + 1)).filter p = if p i = true then (List.range i).filter p ++ [i] else (List.range i).filter p := by
  rw [List.range_succ, List.filter_append]
  by_cases h : p i = true
  · rw [if_pos h]; simp [h]
  · rw [if_neg h]; simp [h]
theorem filter_range_len (p : Nat → Bool) (i : Nat) : ((List.range i).filter p).length ≤ i := by
  have := List.length_filter_le p (List.range i)
  rw [List.length_range] at this
  exact this
theorem ok_lost {f g C : Addr} {fd gd : FuncData} (F : Fun K "lost" "Shop.lost" cLost f fd) (T : Txt K mg C) (G : FnOk P w K mg base CX0 3 g gd ["self"] (spTaken C)) (bG : Binds K gd ["self"] []) (mG : Meth K C "taken_now" g) : FnOk P w K mg base CX0 4 f fd ["self"] (spAsk0 C aLost) := by
  refine F.ok scLost (fun vs H Q E h => ?_) (fun cdv A outer s H vs Q E hr h => ?_)
  · obtain ⟨x, bg, s, ls, pa, la, qs, rfl, _⟩ := h
    rfl
  obtain ⟨x, bg, s, ls, pa, la, qs, rfl, S, k⟩ := h
  obtain ⟨dx, ho⟩ := S.obj
  obtain ⟨tn, mn⟩ := T.nothing
  refine ⟨_, pss_cons (ps_set (i := 1) scLost.nd rfl (Or.inr rfl) (pe_meth0 (pv 0) T.cl mG G hr bG .nil pass0))
    (pss_cons (ps_setLc (i := 2) (own := [("person", 3)]) rfl scLost.nd rfl rfl (sw_true rfl rfl rfl (by decide +kernel)) (pi_range1 rfl T.range (pa_cons (pe_callB call_len_seq rfl T.len PySem.boot_len (pa_cons (pv 1) pa_nil)) pa_nil)) (blkOk_by (N := ["self", "taken", "without", "person"]) (sc := defScope cLost) (by decide +kernel))
      (fun s H C cl fp => pg_name (i := 3) scLost.nd rfl (Or.inl rfl)) (fun s H C cl fp => pts_one (pt_cmpR op_eq (pe_ix (r := rIxL K) ix_list (pv 1) (pv 3) (fun _ _ => rfl)) (pe_glob (v := .int 0) rfl mn ⟨_, rfl⟩) (nomark _))) (fun s H C cl fp => pv 3))
    (pss_one (ps_ret (pe_op op_cat (pe_lst (pa_cons (pe_callB call_len_seq rfl T.len PySem.boot_len (pa_cons (pv 2) pa_nil)) pa_nil)) (pv 2))))), ?_⟩
  refine ⟨_, rfl, x, dx, _, rfl, ho, sf_no _ _ _ (by decide +kernel) (by decide +kernel) (by decide +kernel), x, bg, s, ls, pa, la, qs, rfl, S, fun t H1 s1 ht h1 => ?_⟩
  have six := S.six
  refine ⟨_, rfl, t, _, rfl, .inl (SqL.of h1), _, rfl, (by rw [nats_len, serve_len]; lia), (by rw [nats_len, serve_len]; lia), fun D hD => ?_⟩
  rw [nats_len, serve_len, Int.toNat_natCast]
  refine lc_range (n := ls.length) (fun i H' => Same H1 H' ∧ H' D = some (.lst (nats ((List.range i).filter fun i => (Su89.serve s ls).getD i 0 == 0)))) ⟨same_new hD _, upd_same⟩ ?_ ?_
  · rintro i H' hi ⟨s2, h2⟩
    have ei : (0 : Int) + (i : Int) = (i : Int) := Int.zero_add _
    rw [ei]
    have hv := get_of (l := Su89.serve s ls) (i := i) (by rw [serve_len]; exact hi)
    refine ⟨rfl, _, rfl, _, rfl, t, _, _, _, rfl, rfl, SqL.of (s2 _ _ h1), atI_nat (nats_get hv), rfl, _, rfl, ?_⟩
    have fl := filter_range_len (fun i => (Su89.serve s ls).getD i 0 == 0) i
    rw [filter_range_succ]
    refine ite2 (fun c => ?_) (fun c => ?_)
    · have c' := V.int.inj (of_decide_eq_true c)
      rw [if_pos (by rw [beq_iff_eq]; lia)]
      refine ⟨_, rfl, _, h2, (by rw [nats_len]; exact small1000 (by lia)), same_upd s2 hD _, ?_⟩
      rw [upd_same, nats_snoc]
    · rw [if_neg (by rw [beq_iff_eq]; intro z; exact c (decide_eq_true (by rw [z]; rfl)))]
      exact ⟨s2, h2⟩
  · rintro H2 ⟨s2, h2⟩
    refine ⟨_, rfl, D, _, rfl, .inl (SqL.of h2), one_le, fun q hq => ⟨_, rfl, q, D, _, _, rfl, rfl, upd_same, by rw [upd_ne (ne_of_none h2 hq)]; exact h2, ?_, fun r hr => ?_⟩⟩
    · have fl := filter_range_len (fun i => (Su89.serve s ls).getD i 0 == 0) ls.length
      rw [nats_len]
      refine Nat.le_of_lt (small1000 ?_)
      show 1 + _ ≤ 1000
      lia
    · refine k.putS ((s1.trans s2).trans (same_new hq _)) hr ?_
      rw [nats_len]
      rfl
end
end Sg
end
-- text SgMeth4
section
set_option Elab.async false
set_option linter.all false
set_option maxRecDepth 100000
set_option maxHeartbeats 4000000
namespace Sg
open PySem PySem.Spec PyProof.Rows L2
theorem pe_bmK {X : Cx} {e : Expr} {T : String} {r : V → List V → Hp → VK → Prop} {to : TE} {t : TA} {K : PySem.W.Frag} (hK : X.K = K) (h : PE X e (tBM X.K T r to t)) : PE X e (tBM K T r to t) := hK ▸ h
section
variable {P : Program} {w : World} {K : PySem.W.Frag} {mg : Str → Option Value} {base : Heap}
/- ### pieces_left -/
theorem scLeft : FnScope ["pieces", "taken", "good"] ["pieces", "taken"] (defScope sLeft) := ⟨rfl, rfl, rfl, by decide +kernel, rfl, by decide +kernel, by decide +kernel⟩
noncomputable def leftOf (s ws : List Nat) : List Nat := (List.range s.length).map fun g => s.getD g 0 - ws.count (g + 1)
noncomputable def spLeft (K : PySem.W.Frag) : Sp := fun vs H Q _ => ∃ (a b : Addr) (s ws : List Nat), vs = [.ref a, .ref b] ∧ SqL K H a (nats s) ∧ SqL K H b (nats ws) ∧ s.length ≤ 1000 ∧ Few s ws ∧
  ∀ (r : Addr) (H' : Hp), Same H H' → H r = none → H' r = some (.lst (nats (leftOf s ws))) → Q (.ref r) H'
theorem ok_left {f : Addr} {fd : FuncData} (F : Fun K "pieces_left" "pieces_left" sLeft f fd) (ml : mg "len" = none) (mr : mg "range" = none) : FnOk P w K mg base CX0 1 f fd ["pieces", "taken"] (spLeft K) := by
  refine F.ok scLeft (fun vs H Q E h => ?_) (fun cdv A outer s H vs Q E hr h => ?_)
  · obtain ⟨a, b, s, ws, rfl, _⟩ := h
    rfl
  obtain ⟨a, b, s, ws, rfl, hA, hB, hs, few, k⟩ := h
  refine ⟨_, pss_one (ps_ret (pe_lc (own := [("good", 2)]) rfl scLeft.nd (pi_range1 rfl mr (pa_cons (pe_callB call_len_seq rfl ml PySem.boot_len (pa_cons (pv 0) pa_nil)) pa_nil)) (blkOk_by (N := ["pieces", "taken", "good"]) (sc := defScope sLeft) (by decide +kernel))
    (fun s H C cl fp => pg_name (i := 2) scLeft.nd rfl (Or.inl rfl)) (fun s H C cl fp => pts_nil)
    (fun s H C cl fp => pe_op op_sub (pe_ix (r := rIxL K) ix_list (pv 0) (pv 2) (fun _ _ => rfl)) (pe_bmK (K := K) rfl (pe_bm (r := rCountI K) PySem.F.plainAttrs_list PySem.F.slot_list_count PySem.F.type_list_count mt_countI (pv 1) (pa_cons (pe_op op_add (pv 2) pe_int) pa_nil)))))), ?_⟩
  refine ⟨_, rfl, a, _, rfl, .inl hA, _, rfl, (by rw [nats_len]; lia), (by rw [nats_len]; lia), fun D hD => ?_⟩
  rw [nats_len, Int.toNat_natCast]
  refine lc_range (n := s.length) (fun i H' => Same H H' ∧ H' D = some (.lst (nats ((List.range i).map fun g => s.getD g 0 - ws.count (g + 1))))) ⟨same_new hD _, upd_same⟩ ?_ ?_
  · rintro i H' hi ⟨s2, h2⟩
    have ei : (0 : Int) + (i : Int) = (i : Int) := Int.zero_add _
    rw [ei]
    have hv := get_of hi
    refine ⟨rfl, _, rfl, _, rfl, a, _, _, _, rfl, rfl, s2.seq hA, atI_nat (nats_get hv), _, rfl, .inl ⟨rfl, _, s2.seq hB⟩, _, rfl, _, _, rfl, rfl, b, zs ws, _, rfl, rfl, s2.seq hB, _, _, rfl, rfl, _, h2, ?_, same_upd s2 hD _, ?_⟩
    · rw [nats_len, List.length_map, List.length_range]
      exact small1000 (by lia)
    · rw [upd_same, List.range_succ, List.map_append, List.map_cons, List.map_nil, ← nats_snoc]
      have fw := few i
      have ec : (zs ws).count ((i : Int) + 1) = ws.count (i + 1) := zs_count ws (i + 1)
      rw [ec]
      dsimp only
      congr 5
      lia
  · rintro H' ⟨s2, h2⟩
    exact k D H' s2 hD h2
/- ### left -/
theorem scLeftM : FnScope ["self", "rest"] ["self"] (defScope cLeft) := ⟨rfl, rfl, rfl, by decide +kernel, rfl, by decide +kernel, by decide +kernel⟩
noncomputable def aLeft (s : List Nat) (ls : List (List Nat)) : List Int := ((leftOf s (Su89.serve s ls)).sum : Nat) :: zs (leftOf s (Su89.serve s ls))
theorem zs_sum (l : List Nat) : (zs l).sum = ((l.sum : Nat) : Int) := by
  induction l with
  | nil => rfl
  | cons a l ih =>
    show ((a : Int) :: zs l).sum = _
    rw [List.sum_cons, List.sum_cons, ih]
    lia
theorem ok_leftM {f g c C : Addr} {fd gd cd : FuncData} (F : Fun K "left" "Shop.left" cLeft f fd) (T : Txt K mg C) (G : FnOk P w K mg base CX0 3 g gd ["self"] (spTaken C)) (bG : Binds K gd ["self"] []) (mG : Meth K C "taken_now" g)
    (D : FnOk P w K mg base CX0 1 c cd ["pieces", "taken"] (spLeft K)) (bD : Binds K cd ["pieces", "taken"] []) (kD : PySem.W.keepIn K (.ref c) = true) (mD : mg "pieces_left" = some (.ref c)) : FnOk P w K mg base CX0 4 f fd ["self"] (spAsk0 C aLeft) := by
  refine F.ok scLeftM (fun vs H Q E h => ?_) (fun cdv A outer s H vs Q E hr h => ?_)
  · obtain ⟨x, bg, s, ls, pa, la, qs, rfl, _⟩ := h
    rfl
  obtain ⟨x, bg, s, ls, pa, la, qs, rfl, S, k⟩ := h
  obtain ⟨dx, ho⟩ := S.obj
  have hr1 : Room 1 _ := hr.mono (by decide)
  refine ⟨_, pss_cons (ps_set (i := 1) scLeftM.nd rfl (Or.inl rfl) (pe_call D hr1 rfl mD kD bD .nil pass0 (pa_cons (pe_fld (pv 0) rfl) (pa_cons (pe_meth0 (pv 0) T.cl mG G hr bG .nil pass0) pa_nil))))
    (pss_one (ps_ret (pe_op op_cat (pe_lst (pa_cons (pe_callB (cr_sum rfl) rfl T.sum (by decide +kernel) (pa_cons (pv 1) pa_nil)) pa_nil)) (pv 1)))), ?_⟩
  have five := S.five
  refine ⟨_, rfl, x, C, dx, _, _, rfl, ho, T.cl, T.nP, sf_pieces _ _ _, _, rfl, x, dx, _, rfl, ho, sf_no _ _ _ (by decide +kernel) (by decide +kernel) (by decide +kernel), x, bg, s, ls, pa, la, qs, rfl, S, fun t H1 s1 ht h1 => ?_⟩
  refine ⟨pa, t, s, _, rfl, SqL.of (s1 _ _ S.pieces), SqL.of h1, (by lia), (serve_fit ls s).2, fun u H2 s2 hu h2 => ?_⟩
  refine ⟨_, rfl, u, zs (leftOf s (Su89.serve s ls)), rfl, SqL.of h2, one_le, fun q hq => ⟨_, rfl, q, u, _, _, rfl, rfl, upd_same, by rw [upd_ne (ne_of_none h2 hq)]; exact h2, ?_, fun r hr => ?_⟩⟩
  · rw [nats_len]
    unfold leftOf
    rw [List.length_map, List.length_range]
    refine Nat.le_of_lt (small1000 ?_)
    show 1 + _ ≤ 1000
    lia
  · refine k.putS ((s1.trans s2).trans (same_new hq _)) hr ?_
    rw [zs_sum]
    rfl
/- ### served_now -/
theorem scServed : FnScope ["self"] ["self"] (defScope cServed) := ⟨rfl, rfl, rfl, by decide +kernel, rfl, by decide +kernel, by decide +kernel⟩
noncomputable def spServed (C : Addr) : Sp := fun vs H Q _ => ∃ (x : Addr) (bg : Bool) (s : List Nat) (ls : List (List Nat)) (pa la : Addr) (qs : List Addr), vs = [.ref x] ∧ ShopAt C H x bg s ls pa la qs ∧
  ∀ (H' : Hp), Same H H' → Q (.int (Su89.served (Su89.serve s ls) : Nat)) H'
theorem ok_served {f g c C : Addr} {fd gd cd : FuncData} (F : Fun K "served_now" "Shop.served_now" cServed f fd) (T : Txt K mg C) (G : FnOk P w K mg base CX0 3 g gd ["self"] (spTaken C)) (bG : Binds K gd ["self"] []) (mG : Meth K C "taken_now" g)
    (D : FnOk P w K mg base CX0 1 c cd ["taken"] (spCount K)) (bD : Binds K cd ["taken"] []) (kD : PySem.W.keepIn K (.ref c) = true) (mD : mg "count_served" = some (.ref c)) : FnOk P w K mg base CX0 4 f fd ["self"] (spServed C) := by
  refine F.ok scServed (fun vs H Q E h => ?_) (fun cdv A outer s H vs Q E hr h => ?_)
  · obtain ⟨x, bg, s, ls, pa, la, qs, rfl, _⟩ := h
    rfl
  obtain ⟨x, bg, s, ls, pa, la, qs, rfl, S, k⟩ := h
  obtain ⟨dx, ho⟩ := S.obj
  have hr1 : Room 1 _ := hr.mono (by decide)
  refine ⟨_, pss_one (ps_ret (pe_call D hr1 rfl mD kD bD .nil pass0 (pa_cons (pe_meth0 (pv 0) T.cl mG G hr bG .nil pass0) pa_nil))), ?_⟩
  refine ⟨_, rfl, x, dx, _, rfl, ho, sf_no _ _ _ (by decide +kernel) (by decide +kernel) (by decide +kernel), x, bg, s, ls, pa, la, qs, rfl, S, fun t H1 s1 ht h1 => ?_⟩
  exact ⟨t, _, rfl, SqL.of h1, k H1 s1⟩
/- ### most -/
theorem scMostM : FnScope ["self"] ["self"] (defScope cMost) := ⟨rfl, rfl, rfl, by decide +kernel, rfl, by decide +kernel, by decide +kernel⟩
noncomputable def aMost (s : List Nat) (ls : List (List Nat)) : List Int := [(((Su89.Abs.mk s ls).most : Nat) : Int), ((Su89.served (Su89.serve s ls) : Nat) : Int)]
theorem ok_mostM {f g m C : Addr} {fd gd md : FuncData} (F : Fun K "most" "Shop.most" cMost f fd) (T : Txt K mg C) (G : FnOk P w K mg base CX0 4 g gd ["self"] (spServed C)) (bG : Binds K gd ["self"] []) (mG : Meth K C "served_now" g)
    (M : FnOk P w K mg base CX0 12 m md ["pieces", "lists"] (spMost K)) (bM : Binds K md ["pieces", "lists"] []) (kM : PySem.W.keepIn K (.ref m) = true) (mM : mg "most_served" = some (.ref m)) : FnOk P w K mg base CX0 13 f fd ["self"] (spAsk0 C aMost) := by
  refine F.ok scMostM (fun vs H Q E h => ?_) (fun cdv A outer s H vs Q E hr h => ?_)
  · obtain ⟨x, bg, s, ls, pa, la, qs, rfl, _⟩ := h
    rfl
  obtain ⟨x, bg, s, ls, pa, la, qs, rfl, S, k⟩ := h
  obtain ⟨dx, ho⟩ := S.obj
  have hr4 : Room 4 _ := hr.mono (by decide)
  refine ⟨_, pss_one (ps_ret (pe_lst (pa_cons (pe_call M hr rfl mM kM bM .nil pass0 (pa_cons (pe_fld (pv 0) rfl) (pa_cons (pe_fld (pv 0) rfl) pa_nil))) (pa_cons (pe_meth0 (pv 0) T.cl mG G hr4 bG .nil pass0) pa_nil)))), ?_⟩
  refine ⟨_, rfl, x, C, dx, _, _, rfl, ho, T.cl, T.nP, sf_pieces _ _ _, _, rfl, x, C, dx, _, _, rfl, ho, T.cl, T.nL, sf_lists _ _ _, pa, la, s, qs, ls, rfl, S.stock, fun H1 s1 => ?_⟩
  refine ⟨_, rfl, x, dx, _, rfl, s1 _ _ ho, sf_no _ _ _ (by decide +kernel) (by decide +kernel) (by decide +kernel), x, bg, s, ls, pa, la, qs, rfl, S.same s1, fun H2 s2 => ?_⟩
  refine ⟨(by show 2 ≤ sizeLine; decide), fun r hr => ?_⟩
  exact k.putS (s1.trans s2) hr rfl
/- ### plus -/
theorem scPlus : FnScope ["self", "good", "pieces", "before", "after", "changed", "person"] ["self", "good"] (defScope cPlus) := ⟨rfl, rfl, rfl, by decide +kernel, rfl, by decide +kernel, by decide +kernel⟩
noncomputable def incAt (s : List Nat) (g : Nat) : List Nat := s.modify g fun x => x + 1
theorem inc_set {s : List Nat} {g v : Nat} (h : s[g]? = some v) : incAt s g = s.set g (v + 1) := by
  unfold incAt
  apply List.ext_getElem?
  intro j
  rw [List.getElem?_modify, List.getElem?_set]
  by_cases e : g = j
  · subst e
    rw [if_pos rfl, h, if_pos (List.getElem?_eq_some_iff.mp h).1]
    simp
  · rw [if_neg e]
    cases s[j]? with
    | none => rfl
    | some y => simp [e]
noncomputable def changedOf (s : List Nat) (ls : List (List Nat)) (g : Nat) : List Nat := (List.range ls.length).filter fun i => (Su89.serve s ls).getD i 0 != (Su89.serve (incAt s g) ls).getD i 0
noncomputable def aPlus (s : List Nat) (ls : List (List Nat)) (g : Nat) : List Int := ((Su89.served (Su89.serve (incAt s g) ls) - Su89.served (Su89.serve s ls) : Nat) : Int) :: zs (changedOf s ls g)
noncomputable def spAskG (C : Addr) (ans : List Nat → List (List Nat) → Nat → List Int) : Sp := fun vs H Q _ => ∃ (x : Addr) (g : Nat) (bg : Bool) (s : List Nat) (ls : List (List Nat)) (pa la : Addr) (qs : List Addr), vs = [.ref x, .int (g : Int)] ∧ ShopAt C H x bg s ls pa la qs ∧
  if s.length ≤ g then Ask H Q [-2] else Ask H Q (ans s ls g)
theorem ok_plus {f h g c v C : Addr} {fd hd gd cd vd : FuncData} (F : Fun K "plus" "Shop.plus" cPlus f fd) (T : Txt K mg C) (Hg : FnOk P w K mg base CX0 1 h hd ["self", "good"] (spHasGood C)) (bH : Binds K hd ["self", "good"] []) (mH : Meth K C "has_good" h)
    (G : FnOk P w K mg base CX0 3 g gd ["self"] (spTaken C)) (bG : Binds K gd ["self"] []) (mG : Meth K C "taken_now" g)
    (D : FnOk P w K mg base CX0 1 c cd ["taken"] (spCount K)) (bD : Binds K cd ["taken"] []) (kD : PySem.W.keepIn K (.ref c) = true) (mD : mg "count_served" = some (.ref c))
    (V' : FnOk P w K mg base CX0 2 v vd ["pieces", "lists"] (spServe K)) (bV : Binds K vd ["pieces", "lists"] []) (kV' : PySem.W.keepIn K (.ref v) = true) (mV : mg "serve_all" = some (.ref v)) : FnOk P w K mg base CX0 4 f fd ["self", "good"] (spAskG C aPlus) := by
  refine F.ok scPlus (fun vs H Q E h => ?_) (fun cdv A outer s H vs Q E hr h => ?_)
  · obtain ⟨x, g, bg, s, ls, pa, la, qs, rfl, _⟩ := h
    rfl
  obtain ⟨x, g, bg, s, ls, pa, la, qs, rfl, S, k⟩ := h
  obtain ⟨dx, ho⟩ := S.obj
  obtain ⟨tn, mn⟩ := T.noneSuch
  have hr1 : Room 1 _ := hr.mono (by decide)
  have hr2 : Room 2 _ := hr.mono (by decide)
  refine ⟨_, pss_cons (ps_if (pt_not (pt_val (pe_meth (pv 0) T.cl mH Hg hr1 bH .nil pass0 (pa_cons (pv 1) pa_nil)))) (pss_one (ps_ret (pe_lst (pa_cons (pe_glob (v := .int (-2)) rfl mn ⟨_, rfl⟩) pa_nil)))) pss_nil)
    (pss_cons (ps_set (i := 2) scPlus.nd rfl (Or.inl rfl) (pe_callTy call_list_of rfl T.list (by decide +kernel) (pa_cons (pe_fld (pv 0) rfl) pa_nil)))
    (pss_cons (ps_augS (pv 2) (pv 1) get_list pe_int ip_add set_list)
    (pss_cons (ps_set (i := 3) scPlus.nd rfl (Or.inr rfl) (pe_meth0 (pv 0) T.cl mG G hr bG .nil pass0))
    (pss_cons (ps_set (i := 4) scPlus.nd rfl (Or.inr rfl) (pe_call V' hr2 rfl mV kV' bV .nil pass0 (pa_cons (pv 2) (pa_cons (pe_fld (pv 0) rfl) pa_nil))))
    (pss_cons (ps_setLc (i := 5) (own := [("person", 6)]) rfl scPlus.nd rfl rfl (sw_true rfl rfl rfl (by decide +kernel)) (pi_range1 rfl T.range (pa_cons (pe_callB call_len_seq rfl T.len PySem.boot_len (pa_cons (pv 3) pa_nil)) pa_nil)) (blkOk_by (N := ["self", "good", "pieces", "before", "after", "changed", "person"]) (sc := defScope cPlus) (by decide +kernel))
      (fun s H C cl fp => pg_name (i := 6) scPlus.nd rfl (Or.inl rfl)) (fun s H C cl fp => pts_one (pt_cmpR op_ne (pe_ix (r := rIxL K) ix_list (pv 3) (pv 6) (fun _ _ => rfl)) (pe_ix (r := rIxL K) ix_list (pv 4) (pv 6) (fun _ _ => rfl)) (nomark _))) (fun s H C cl fp => pv 6))
    (pss_one (ps_ret (pe_op op_cat (pe_lst (pa_cons (pe_op op_sub (pe_call D hr1 rfl mD kD bD .nil pass0 (pa_cons (pv 4) pa_nil)) (pe_call D hr1 rfl mD kD bD .nil pass0 (pa_cons (pv 3) pa_nil))) pa_nil)) (pv 5))))))))), ?_⟩
  refine ⟨_, rfl, x, dx, _, rfl, ho, sf_no _ _ _ (by decide +kernel) (by decide +kernel) (by decide +kernel), _, rfl, x, g, bg, s, ls, pa, la, qs, rfl, S, _, rfl, ?_⟩
  refine pt_nota (fun c => ?_) (fun c => ?_)
  · have c' : ¬ g < s.length := of_decide_eq_false c
    rw [if_pos (by lia)] at k
    exact ⟨one_le, fun r hr => k.one hr⟩
  have gl : g < s.length := of_decide_eq_true c
  rw [if_neg (by lia)] at k
  have gv := get_of gl
  have six := S.six
  refine ⟨_, rfl, x, C, dx, _, _, rfl, ho, T.cl, T.nP, sf_pieces _ _ _, pa, _, rfl, .inl (SqL.of S.pieces), fun p hp => ?_⟩
  refine ⟨_, rfl, _, rfl, p, _, g, _, rfl, rfl, SqL.of upd_same, nats_get gv, _, _, rfl, rfl, p, _, _, g, rfl, rfl, upd_same, ?_, ?_⟩
  · unfold ixN
    rw [nats_len, if_pos (by lia), if_pos (by lia)]
    congr 1
  have e0 : (nats s).set g (V.int (((s.getD g 0 : Nat) : Int) + 1)) = nats (incAt s g) := by
    rw [inc_set gv, ← nats_set]
    rfl
  dsimp only
  rw [e0]
  have s0 : Same H (upd (upd H p (.lst (nats s))) p (.lst (nats (incAt s g)))) := same_upd (same_new hp _) hp _
  generalize eH : upd (upd H p (.lst (nats s))) p (.lst (nats (incAt s g))) = H1
  rw [eH] at s0
  have hp1 : H1 p = some (.lst (nats (incAt s g))) := by rw [← eH]; exact upd_same
  have S1 := S.same s0
  refine ⟨_, rfl, x, dx, _, rfl, s0 _ _ ho, sf_no _ _ _ (by decide +kernel) (by decide +kernel) (by decide +kernel), x, bg, s, ls, pa, la, qs, rfl, S1, fun b H2 s2 hb h2 => ?_⟩
  have S2 := S1.same s2
  have Z := S2.stock (K := K)
  have il : (incAt s g).length = s.length := by unfold incAt; rw [List.length_modify]
  refine ⟨_, rfl, _, rfl, x, C, dx, _, _, rfl, s2 _ _ (s0 _ _ ho), T.cl, T.nL, sf_lists _ _ _, p, la, incAt s g, qs, ls, rfl, SqL.of (s2 _ _ hp1), Z.lists, Z.goods, by rw [il]; exact S.lt, Z.few, fun a H3 s3 ha h3 => ?_⟩
  refine ⟨_, rfl, b, _, rfl, .inl (SqL.of (s3 _ _ h2)), _, rfl, (by rw [nats_len, serve_len]; lia), (by rw [nats_len, serve_len]; lia), fun D hD => ?_⟩
  rw [nats_len, serve_len, Int.toNat_natCast]
  refine lc_range (n := ls.length) (fun i H' => Same H3 H' ∧ H' D = some (.lst (nats ((List.range i).filter fun i => (Su89.serve s ls).getD i 0 != (Su89.serve (incAt s g) ls).getD i 0)))) ⟨same_new hD _, upd_same⟩ ?_ ?_
  · rintro i H' hi ⟨s4, h4⟩
    have ei : (0 : Int) + (i : Int) = (i : Int) := Int.zero_add _
    rw [ei]
    have hv := get_of (l := Su89.serve s ls) (i := i) (by rw [serve_len]; exact hi)
    have hv' := get_of (l := Su89.serve (incAt s g) ls) (i := i) (by rw [serve_len]; exact hi)
    refine ⟨rfl, _, rfl, _, rfl, b, _, _, _, rfl, rfl, SqL.of (s4 _ _ (s3 _ _ h2)), atI_nat (nats_get hv), _, rfl, _, rfl, a, _, _, _, rfl, rfl, SqL.of (s4 _ _ h3), atI_nat (nats_get hv'), rfl, _, rfl, ?_⟩
    have fl := filter_range_len (fun i => (Su89.serve s ls).getD i 0 != (Su89.serve (incAt s g) ls).getD i 0) i
    rw [filter_range_succ]
    refine pt_nota (fun c => ?_) (fun c => ?_)
    · have c' : ¬ (Su89.serve s ls).getD i 0 = (Su89.serve (incAt s g) ls).getD i 0 := fun z => (of_decide_eq_false c) (by rw [z])
      rw [if_pos (by simpa using c')]
      refine ⟨_, rfl, _, h4, (by rw [nats_len]; exact small1000 (by lia)), same_upd s4 hD _, ?_⟩
      rw [upd_same, nats_snoc]
    · have c' := V.int.inj (of_decide_eq_true c)
      have c2 : (Su89.serve s ls).getD i 0 = (Su89.serve (incAt s g) ls).getD i 0 := by lia
      rw [if_neg (by rw [c2, bne_self_eq_false]; exact Bool.false_ne_true)]
      exact ⟨s4, h4⟩
  · rintro H4 ⟨s4, h4⟩
    refine ⟨_, rfl, a, _, rfl, SqL.of (s4 _ _ h3), _, rfl, b, _, rfl, SqL.of (s4 _ _ (s3 _ _ h2)), _, _, rfl, rfl, one_le, fun q hq => ⟨_, rfl, q, D, _, _, rfl, rfl, upd_same, by rw [upd_ne (ne_of_none h4 hq)]; exact h4, ?_, fun r hr => ?_⟩⟩
    · have fl := filter_range_len (fun i => (Su89.serve s ls).getD i 0 != (Su89.serve (incAt s g) ls).getD i 0) ls.length
      rw [nats_len]
      refine Nat.le_of_lt (small1000 ?_)
      show 1 + _ ≤ 1000
      lia
    · refine k.putS ((((s0.trans s2).trans s3).trans s4).trans (same_new hq _)) hr ?_
      have mo := (served_more ls (more_plus s g gl)).1
      unfold aPlus
      rw [List.map_cons]
      show V.int _ :: nats _ = V.int _ :: nats _
      congr 2
      unfold incAt
      lia
/- ### told -/
theorem scTold : FnScope ["self", "person", "goods", "lists"] ["self", "person", "goods"] (defScope cTold) := ⟨rfl, rfl, rfl, by decide +kernel, rfl, by decide +kernel, by decide +kernel⟩
noncomputable def aTold (s : List Nat) (ls : List (List Nat)) (i : Nat) (l : List Nat) : List Int := [(((Su89.serve s (ls.set i l)).getD i 0 : Nat) : Int), (((Su89.serve s ls).getD i 0 : Nat) : Int)]
noncomputable def spTold (K : PySem.W.Frag) (C : Addr) : Sp := fun vs H Q _ => ∃ (x a : Addr) (i : Nat) (l : List Nat) (bg : Bool) (s : List Nat) (ls : List (List Nat)) (pa la : Addr) (qs : List Addr), vs = [.ref x, .int (i : Int), .ref a] ∧ SqL K H a (nats l) ∧ l.length ≤ 1000 ∧ ShopAt C H x bg s ls pa la qs ∧
  if i < ls.length then (if okL s.length l = false then Ask H Q [-22] else Ask H Q (aTold s ls i l)) else Ask H Q [-2]
theorem ok_told {f h m g v C : Addr} {fd hd md gd vd : FuncData} (F : Fun K "told" "Shop.told" cTold f fd) (T : Txt K mg C) (Hp' : FnOk P w K mg base CX0 1 h hd ["self", "person"] (spHasPerson C)) (bH : Binds K hd ["self", "person"] []) (mH : Meth K C "has_person" h)
    (M : FnOk P w K mg base CX0 2 m md ["self", "goods"] (spMay K C)) (bM : Binds K md ["self", "goods"] []) (mM : Meth K C "may_be_told" m)
    (G : FnOk P w K mg base CX0 3 g gd ["self"] (spTaken C)) (bG : Binds K gd ["self"] []) (mG : Meth K C "taken_now" g)
    (V' : FnOk P w K mg base CX0 2 v vd ["pieces", "lists"] (spServe K)) (bV : Binds K vd ["pieces", "lists"] []) (kV' : PySem.W.keepIn K (.ref v) = true) (mV : mg "serve_all" = some (.ref v)) : FnOk P w K mg base CX0 4 f fd ["self", "person", "goods"] (spTold K C) := by
  refine F.ok scTold (fun vs H Q E h => ?_) (fun cdv A outer s H vs Q E hr h => ?_)
  · obtain ⟨x, a, i, l, bg, s, ls, pa, la, qs, rfl, _⟩ := h
    rfl
  obtain ⟨x, a, i, l, bg, s, ls, pa, la, qs, rfl, hA, hl, S, k⟩ := h
  obtain ⟨dx, ho⟩ := S.obj
  obtain ⟨tn, mn⟩ := T.noneSuch
  obtain ⟨to, mo⟩ := T.out
  have hr1 : Room 1 _ := hr.mono (by decide)
  have hr2 : Room 2 _ := hr.mono (by decide)
  refine ⟨_, pss_cons (ps_if (pt_not (pt_val (pe_meth (pv 0) T.cl mH Hp' hr1 bH .nil pass0 (pa_cons (pv 1) pa_nil)))) (pss_one (ps_ret (pe_lst (pa_cons (pe_glob (v := .int (-2)) rfl mn ⟨_, rfl⟩) pa_nil)))) pss_nil)
    (pss_cons (ps_if (pt_not (pt_val (pe_meth (pv 0) T.cl mM M hr2 bM .nil pass0 (pa_cons (pv 2) pa_nil)))) (pss_one (ps_ret (pe_lst (pa_cons (pe_glob (v := .int (-22)) rfl mo ⟨_, rfl⟩) pa_nil)))) pss_nil)
    (pss_cons (ps_set (i := 3) scTold.nd rfl (Or.inl rfl) (pe_callTy call_list_of rfl T.list (by decide +kernel) (pa_cons (pe_fld (pv 0) rfl) pa_nil)))
    (pss_cons (ps_asg (pv 2) (pg_sub (pv 3) (pv 1) set_list))
    (pss_one (ps_ret (pe_lst (pa_cons (pe_ix ix_list (pe_call V' hr2 rfl mV kV' bV .nil pass0 (pa_cons (pe_fld (pv 0) rfl) (pa_cons (pv 3) pa_nil))) (pv 1) (fun _ _ => rfl)) (pa_cons (pe_ix ix_list (pe_meth0 (pv 0) T.cl mG G hr bG .nil pass0) (pv 1) (fun _ _ => rfl)) pa_nil)))))))), ?_⟩
  refine ⟨_, rfl, x, dx, _, rfl, ho, sf_no _ _ _ (by decide +kernel) (by decide +kernel) (by decide +kernel), _, rfl, x, i, bg, s, ls, pa, la, qs, rfl, S, _, rfl, ?_⟩
  refine pt_nota (fun c => ?_) (fun c => ?_)
  · have c' : ¬ i < ls.length := of_decide_eq_false c
    rw [if_neg c'] at k
    exact ⟨one_le, fun r hr => k.one hr⟩
  have il : i < ls.length := of_decide_eq_true c
  rw [if_pos il] at k
  refine ⟨_, rfl, x, dx, _, rfl, ho, sf_no _ _ _ (by decide +kernel) (by decide +kernel) (by decide +kernel), _, rfl, x, a, l, bg, s, ls, pa, la, qs, rfl, hA, hl, S, fun H1 s1 => ⟨_, rfl, ?_⟩⟩
  refine pt_nota (fun c => ?_) (fun c => ?_)
  · rw [if_pos c] at k
    exact ⟨one_le, fun r hr => k.oneS s1 hr⟩
  rw [if_neg (by rw [c]; decide)] at k
  obtain ⟨tl, gl⟩ := okL_iff c
  have S1 := S.same s1
  have six := S.six
  have iq : i < qs.length := by rw [S.len]; exact il
  refine ⟨_, rfl, x, C, dx, _, _, rfl, s1 _ _ ho, T.cl, T.nL, sf_lists _ _ _, la, _, rfl, .inl (SqL.of S1.lists), fun c hc => ?_⟩
  refine ⟨_, rfl, _, rfl, _, rfl, c, _, _, i, rfl, rfl, upd_same, ?_, ?_⟩
  · unfold ixN
    rw [List.length_map, if_pos (by lia), if_pos (by lia)]
    congr 1
  have s2 : Same H1 (upd (upd H1 c (.lst (qs.map V.ref))) c (.lst ((qs.map V.ref).set i (.ref a)))) := same_upd (same_new hc _) hc _
  generalize eH : upd (upd H1 c (.lst (qs.map V.ref))) c (.lst ((qs.map V.ref).set i (.ref a))) = H2
  rw [eH] at s2
  have hc2 : H2 c = some (.lst ((qs.set i a).map V.ref)) := by rw [← eH, upd_same, List.map_set]
  have s12 := s1.trans s2
  have S2 := S.same s12
  have L2' : Lists K H2 (qs.set i a) (ls.set i l) := by
    refine ⟨by rw [List.length_set, List.length_set, S.len], fun j q l' h1 h2 => ?_⟩
    rw [List.getElem?_set] at h1 h2
    by_cases e : i = j
    · subst e
      rw [if_pos rfl, if_pos iq] at h1
      rw [if_pos rfl, if_pos il] at h2
      cases h1
      cases h2
      exact s12.seq hA
    · rw [if_neg e] at h1 h2
      exact SqL.of (S2.at_ j q l' h1 h2)
  have G2 : Goods s.length (ls.set i l) := fun p hp => by
    rcases List.mem_or_eq_of_mem_set hp with z | z
    · exact S.lt p z
    · subst z
      exact gl
  refine ⟨_, rfl, x, C, dx, _, _, rfl, s12 _ _ ho, T.cl, T.nP, sf_pieces _ _ _, _, rfl, pa, c, s, qs.set i a, ls.set i l, rfl, SqL.of S2.pieces, SqL.of hc2, L2', G2, by rw [List.length_set]; lia, fun b H3 s3 hb h3 => ?_⟩
  have hv := get_of (l := Su89.serve s (ls.set i l)) (i := i) (by rw [serve_len, List.length_set]; exact il)
  have hv' := get_of (l := Su89.serve s ls) (i := i) (by rw [serve_len]; exact il)
  refine ⟨_, rfl, b, _, _, _, rfl, rfl, SqL.of h3, atI_nat (nats_get hv), ?_⟩
  have s123 := s12.trans s3
  refine ⟨_, rfl, x, dx, _, rfl, s123 _ _ ho, sf_no _ _ _ (by decide +kernel) (by decide +kernel) (by decide +kernel), x, bg, s, ls, pa, la, qs, rfl, S.same s123, fun t H4 s4 ht h4 => ?_⟩
  refine ⟨_, rfl, t, _, _, _, rfl, rfl, SqL.of h4, atI_nat (nats_get hv'), (by show 2 ≤ sizeLine; decide), fun r hr => ?_⟩
  exact k.putS (s123.trans s4) hr rfl
end
end Sg
end
-- text SgRules2
section
set_option Elab.async false
set_option linter.all false
set_option maxRecDepth 100000
set_option maxHeartbeats 4000000
namespace HT
open PySem PyProof.Rows
/- ### t > u of tuples of ints (the layer has t < u) -/
theorem rcGt_int (A : Around) (s : Shared) (a : Int) (t : Tok) (c : Int) (u : Tok) (prog : Program) (w : World) (E : Value → Shared → Prop) (Q : Value → Shared → Prop) (h : Q (.bool (decide (c < a))) s) :
    wpAny (model prog w) A (richCompare .Gt (.int a t) (.int c u)) Q E s :=
  (PyProof.Rows.gt_int h : wpAny (model prog w) A (compareOp .Gt (.int a t) (.int c u)) Q E s)
section
open PySem.SeqAt
open PySem.AutoSeq1 (wpAny_loadPart')
open PySem.MeetsSeq PySem.MeetsSeq2 PySem.MeetsSeq3
theorem tuple_gt_ints (l b : Addr) (items items2 : Array Value) (n n2 : Nat) (dd dd2 : Option Addr) (sl sl2 : Array (Option Value)) (ns ms : List Int) (hi : IntsAre items.toList ns) (hj : IntsAre items2.toList ms) :
    Meets (Builtin.«tuple.__gt__» ⟨[.ref l, .ref b], []⟩)
      (fun _ R s => s.heap.get? l = some { cls := .type "tuple", dict := dd, data := .seq items n, slots := sl } ∧ s.heap.get? b = some { cls := .type "tuple", dict := dd2, data := .seq items2 n2, slots := sl2 } ∧
        R (.ok (.ret (.bool (lexLt ms ns)))) s) :=
  .of_wp fun prog w A R s h => by
    obtain ⟨hp, g, d, tk, os⟩ := s; obtain ⟨hl, hb, h⟩ := h
    have f2 := AutoSeq1.sub_tuple_tuple
    have z1 : items.size = ns.length := by rw [← hi.length]; simp
    have z2 : items2.size = ms.length := by rw [← hj.length]; simp
    wp_walk using wpAny_loadPart' hl, wpAny_loadPart' hb, wpAny_forIn_list _ (fun rest b s' => b.1 = none ∧ s' = ⟨hp, g, d, tk, os⟩ ∧ ∃ (vs ws : List Value) (ns' ms' : List Int), rest = vs.zip ws ∧
      IntsAre vs ns' ∧ IntsAre ws ms' ∧ ns'.length + items2.size = ms'.length + items.size ∧ R (.ok (.ret (.bool (lexLt ms' ns')))) ⟨hp, g, d, tk, os⟩) _
    case turn =>
      rintro ⟨y, x⟩ rest b s' ⟨hb', rfl, vs, ws, ns', ms', hz, hvi, hwi, hlen, hR⟩
      cases hvi with
      | nil => rw [List.zip_nil_left] at hz; cases hz
      | cons a t hvi' =>
        cases hwi with
        | nil => rw [List.zip_nil_right] at hz; cases hz
        | cons c u hwi' =>
          rw [List.zip_cons_cons] at hz
          injection hz with hyx hrest
          injection hyx with hy hx
          subst hy hx
          rw [lexLt_cons] at hR
          simp only [List.length_cons] at hlen
          obtain ⟨e, he, hiff⟩ := eqAt_int A.in1 ⟨hp, g, d, tk, os⟩ a t c u
          refine wpAny_bind (he prog w _ _ ?_)
          cases e with
          | true =>
            rw [if_pos (hiff.mp rfl).symm] at hR
            wp_walk
            exact ⟨rfl, rfl, _, _, _, _, hrest, hvi', hwi', by lia, hR⟩
          | false =>
            rw [if_neg (fun q => absurd (hiff.mpr q.symm) Bool.false_ne_true)] at hR
            have hri := rcGt_int A.in1 ⟨hp, g, d, tk, os⟩ a t c u prog w
            wp_walk using hri
            exact ⟨_, rfl, by simpa using hR⟩
    case fin =>
      rintro ⟨b1, b2⟩ s' ⟨hb', rfl, vs, ws, ns', ms', hz, hvi, hwi, hlen, hR⟩
      simp only at hb'
      subst hb'
      have hv : lexLt ms' ns' = decide (items.size > items2.size) := by
        cases hvi with
        | nil =>
          cases hwi with
          | nil =>
            simp only [List.length_nil] at hlen
            rw [lexLt_nil_nil]
            exact (decide_eq_false (by lia)).symm
          | cons c u hw =>
            simp only [List.length_nil, List.length_cons] at hlen
            rw [lexLt_cons_nil]
            exact (decide_eq_false (by lia)).symm
        | cons a t hv =>
          cases hwi with
          | nil =>
            simp only [List.length_nil, List.length_cons] at hlen
            rw [lexLt_nil_cons]
            exact (decide_eq_true (by lia)).symm
          | cons c u hw =>
            rw [List.zip_cons_cons] at hz
            cases hz
      rw [hv] at hR
      wp_walk
      exact ⟨_, rfl, by simpa [Builtin.Tuple.tupleCompareSizes] using hR⟩
    case h =>
      exact ⟨rfl, rfl, items.toList, items2.toList, ns, ms, rfl, hi, hj, by lia, h⟩
end
section
variable {prog : Program} {w : World} {A : Around} {E : Value → Shared → Prop} {s : Shared}
theorem gt_tupInts {l b : Addr} {items items2 : Array Value} {ns ms : List Int} {Q : Value → Shared → Prop} (hl : IsTup s.heap l items) (hb : IsTup s.heap b items2) (hi : IntsAre items.toList ns) (hj : IntsAre items2.toList ms)
    (hu : A.units < cLine) (h : Q (.bool (lexLt ms ns)) s) : wpAny (model prog w) A (compareOp .Gt (.ref l) (.ref b)) Q E s := by
  obtain ⟨⟨cls, dd, data, sl⟩, ho, hc, n, hd⟩ := id hl
  obtain ⟨⟨cls2, dd2, data2, sl2⟩, ho2, hc2, n2, hd2⟩ := id hb
  simp only at hc hd hc2 hd2
  subst hc hd hc2 hd2
  exact richCompare_meets_room (op := .Gt) ⟨_, ho, rfl⟩ ⟨_, ho2, rfl⟩ PySem.F.slot_tuple_gt PySem.F.entry_tuple_gt (PySem.F.args_tuple_gt_2 _ _) (tuple_gt_ints l b items items2 n n2 dd dd2 sl sl2 ns ms hi hj)
    ⟨ho, ho2, show Value.bool (lexLt ms ns) ≠ Value.notImplemented ∧ Q (.bool (lexLt ms ns)) s from ⟨(fun x => nomatch x), h⟩⟩ hu
end
end HT
namespace L2
open PySem PySem.Spec PyProof.Rows
section
variable {X : Cx}
noncomputable def rGtT (K : PySem.W.Frag) : R2 := fun x y H Q => ∃ a b ns ms, x = .ref a ∧ y = .ref b ∧ SqT K H a (ns.map V.int) ∧ SqT K H b (ms.map V.int) ∧ Q (.bl (HT.lexLt ms ns)) H
theorem op_gtT (hu : X.A.units < cLine) : OpR X (compareOp .Gt) (rGtT X.K) := by
  intro pins s σ H x y v u Q I rx ry h
  obtain ⟨a, b, ns, ms, rfl, rfl, ha, hb, q⟩ := h
  cases rx
  cases ry
  obtain ⟨its, r1, p1, _⟩ := I.tuple ha
  obtain ⟨its2, r2, p2, _⟩ := I.tuple hb
  have i1 : IntsAre its.toArray.toList ns := intsAre_of r1
  have i2 : IntsAre its2.toArray.toList ms := intsAre_of r2
  exact HT.gt_tupInts p1 p2 i1 i2 hu ⟨.bl (HT.lexLt ms ns), H, I, rfl, q⟩
end
/- a comprehension over zip of two lists of one length that the block leaves as they are -/
theorem lc_zip {K : PySem.W.Frag} {a b : Addr} {xs ys : List V} {g : TG} {tt : TT} {te : TE} {vs : List Nat} {σ : St} {H1 : Hp} {D : Addr} {Qd : Hp → Prop} (Pv : Nat → Hp → Prop) (h0 : Pv 0 (upd H1 D (.lst []))) (hlen : xs.length = ys.length)
    (hl : ∀ i H, i ≤ xs.length → Pv i H → SqL K H a xs ∧ SqL K H b ys)
    (hs : ∀ i x y T H, xs[i]? = some x → ys[i]? = some y → Pv i H → H T = none → g (.ref T) (wipe σ vs) (upd H T (.tup [x, y])) fun σ2 H2 => wipe σ2 vs = wipe σ vs ∧ tt σ2 H2 fun b H3 =>
      if b = true then te σ2 H3 fun y H4 => ∃ acc, H4 D = some (.lst acc) ∧ acc.length < sizeLine ∧ Pv (i + 1) (upd H4 D (.lst (acc ++ [y]))) else Pv (i + 1) H3) (hd : ∀ H, Pv xs.length H → Qd H) :
    ∃ W : Nat → Nat → Hp → Prop, (∃ m, W 0 m (upd H1 D (.lst []))) ∧ ∀ i m H, W i m H →
      ((Itz K a b).stop i H ∧ Qd H) ∨ ((Itz K a b).go i H ∧ ∃ Nx : Hp → Prop, (∀ H', Nx H' → ∃ m', m' < m ∧ W (i + 1) m' H') ∧ ∀ x H', (Itz K a b).yld i H x H' → g x (wipe σ vs) H' fun σ2 H2 => wipe σ2 vs = wipe σ vs ∧ tt σ2 H2 fun b H3 =>
        if b = true then te σ2 H3 fun y H4 => ∃ acc, H4 D = some (.lst acc) ∧ acc.length < sizeLine ∧ Nx (upd H4 D (.lst (acc ++ [y]))) else Nx H3) := by
  refine ⟨fun i m H => m = xs.length - i ∧ i ≤ xs.length ∧ Pv i H, ⟨xs.length, by simp, Nat.zero_le _, h0⟩, ?_⟩
  rintro i m H ⟨rfl, hi, p⟩
  obtain ⟨q, q2⟩ := hl i H hi p
  by_cases hlt : i < xs.length
  · refine .inr ⟨⟨xs, ys, xs[i], ys[i], q, q2, by simp [hlt], by simp⟩, Pv (i + 1), fun H' p' => ⟨xs.length - (i + 1), by lia, rfl, hlt, p'⟩, fun v H' y => ?_⟩
    obtain ⟨T, x, z, rfl, hT, rfl, e1, e2⟩ := y
    exact hs i x z T H (e1 xs q) (e2 ys q2) p hT
  · have e : i = xs.length := by lia
    subst e
    exact .inl ⟨⟨xs, ys, q, q2, .inl (Nat.le_refl _)⟩, hd H p⟩
end L2
end
-- text SgFar
section
set_option Elab.async false
set_option linter.all false
set_option maxRecDepth 100000
set_option maxHeartbeats 4000000
namespace Sg
open PySem PySem.Spec PyProof.Rows L2
/- ### how far down: the mathematics -/
theorem idx_at : ∀ {l : List Nat} {g : Nat}, g ∈ l → l[l.idxOf g]? = some g
  | [], g, h => by simp at h
  | a :: l, g, h => by
    rw [List.idxOf_cons]
    by_cases e : a = g
    · subst e
      simp
    · have e' : (a == g) = false := by simpa using e
      rw [e']
      have m : g ∈ l := by
        rcases List.mem_cons.mp h with z | z
        · exact absurd z.symm e
        · exact z
      exact idx_at m
theorem idx_before : ∀ {l : List Nat} {g m z : Nat}, m < l.idxOf g → l[m]? = some z → z ≠ g
  | [], g, m, z, h, e => by simp at e
  | a :: l, g, m, z, h, e => by
    rw [List.idxOf_cons] at h
    by_cases q : a = g
    · subst q
      simp at h
    · have q' : (a == g) = false := by simpa using q
      rw [q'] at h
      cases m with
      | zero =>
        have : a = z := Option.some.inj e
        exact this ▸ q
      | succ m =>
        have h' : m + 1 < l.idxOf g + 1 := h
        exact idx_before (m := m) (by lia) e
theorem Fit.at : ∀ {l : List (List Nat)} {w : List Nat} {i : Nat} {p : List Nat} {x : Nat}, Fit l w → l[i]? = some p → w[i]? = some x → x = 0 ∨ ∃ g, g ∈ p ∧ x = g + 1
  | _, _, i, p, x, .nil, h, _ => by simp at h
  | _, _, 0, p, x, .cons a b, h, h' => by
    have e1 := Option.some.inj h
    have e2 := Option.some.inj h'
    subst e1 e2
    exact a
  | _, _, i + 1, p, x, .cons a b, h, h' => Fit.at (i := i) b h h'
noncomputable def ranksOf (ls : List (List Nat)) (w : List Nat) : List Nat := (List.range ls.length).map fun i => Su89.rank (ls.getD i []) (w.getD i 0)
theorem getDL_of {l : List (List Nat)} {i : Nat} {g : List Nat} (h : l[i]? = some g) : l.getD i [] = g := by rw [List.getD_eq_getElem?_getD, h]; rfl
theorem nats_flat (l : List Nat) : (nats l).all flatV = true := by
  rw [List.all_eq_true]
  intro v hv
  unfold nats at hv
  obtain ⟨z, _, rfl⟩ := List.mem_map.mp hv
  rfl
theorem eqV_nat (a b : Nat) : eqV (.int (a : Int)) (.int (b : Int)) = decide (a = b) := by
  show ((a : Int) == (b : Int)) = _
  by_cases h : a = b
  · subst h; simp
  · rw [decide_eq_false h]
    simpa using fun z => h (by lia)
theorem pg_tupK {X : Cx} {e : Expr} {n : Nat} {t : TGs} {K : PySem.W.Frag} (hK : X.K = K) (h : PG X e (gTup X.K n t)) : PG X e (gTup K n t) := hK ▸ h
section
variable {P : Program} {w : World} {K : PySem.W.Frag} {mg : Str → Option Value} {base : Heap}
/- ### how_far_down -/
theorem scFar : FnScope ["goods", "take"] ["goods", "take"] (defScope sFar) := ⟨rfl, rfl, rfl, by decide +kernel, rfl, by decide +kernel, by decide +kernel⟩
noncomputable def spFar (K : PySem.W.Frag) : Sp := fun vs H Q _ => ∃ (a : Addr) (l : List Nat) (x : Nat), vs = [.ref a, .int (x : Int)] ∧ SqL K H a (nats l) ∧ (x = 0 ∨ ∃ g, g ∈ l ∧ x = g + 1) ∧ Q (.int (Su89.rank l x : Nat)) H
theorem ok_far {f : Addr} {fd : FuncData} {t : Tok} (F : Fun K "how_far_down" "how_far_down" sFar f fd) (ml : mg "len" = none) (mN : mg "NOTHING" = some (.int 0 t)) : FnOk P w K mg base CX0 1 f fd ["goods", "take"] (spFar K) := by
  refine F.ok scFar (fun vs H Q E h => ?_) (fun cdv A outer s H vs Q E hr h => ?_)
  · obtain ⟨a, l, x, rfl, _⟩ := h
    rfl
  obtain ⟨a, l, x, rfl, hA, hx, k⟩ := h
  refine ⟨_, pss_cons (ps_if (pt_cmpR op_eq (pv 1) (pe_glob (v := .int 0) rfl mN ⟨_, rfl⟩) (nomark _)) (pss_one (ps_ret (pe_callB call_len_seq rfl ml PySem.boot_len (pa_cons (pv 0) pa_nil)))) pss_nil)
    (pss_one (ps_ret (pe_bm PySem.F.plainAttrs_list PySem.F.slot_list_index PySem.F.type_list_index mt_index (pv 0) (pa_cons (pe_op op_sub (pv 1) pe_int) pa_nil)))), ?_⟩
  refine ⟨_, rfl, rfl, _, rfl, ?_⟩
  refine ite2 (fun c => ?_) (fun c => ?_)
  · have c' := V.int.inj (of_decide_eq_true c)
    have e : x = 0 := by lia
    subst e
    refine ⟨_, rfl, a, _, rfl, .inl hA, ?_⟩
    rw [nats_len]
    exact k
  · have e : ¬ x = 0 := fun z => c (decide_eq_true (by rw [z]; rfl))
    obtain ⟨g, hg, rfl⟩ : ∃ g, g ∈ l ∧ x = g + 1 := hx.resolve_left e
    have er : Su89.rank l (g + 1) = l.idxOf g := by
      unfold Su89.rank
      rw [if_neg e]
      rfl
    rw [er] at k
    have ev : V.int (((g + 1 : Nat) : Int) - 1) = V.int ((g : Nat) : Int) := by congr 1; lia
    refine ⟨_, rfl, .inl ⟨rfl, _, hA⟩, _, rfl, _, _, rfl, rfl, a, _, _, l.idxOf g, _, rfl, rfl, hA, rfl, nats_flat l, nats_get (idx_at hg), ?_, fun m z' hm hz => ?_, k⟩
    · dsimp only
      rw [ev, eqV_nat, decide_eq_true rfl]
    · obtain ⟨y, hy, rfl⟩ := nats_of hz
      dsimp only
      rw [ev, eqV_nat]
      exact decide_eq_false (idx_before hm hy)
/- ### all_far_down -/
theorem scAllFar : FnScope ["lists", "taken", "goods", "take"] ["lists", "taken"] (defScope sAllFar) := ⟨rfl, rfl, rfl, by decide +kernel, rfl, by decide +kernel, by decide +kernel⟩
noncomputable def spAllFar (K : PySem.W.Frag) : Sp := fun vs H Q _ => ∃ (a b : Addr) (qs : List Addr) (ls : List (List Nat)) (ws : List Nat), vs = [.ref a, .ref b] ∧ SqL K H a (qs.map V.ref) ∧ Lists K H qs ls ∧ SqL K H b (nats ws) ∧ Fit ls ws ∧ ls.length ≤ 1000 ∧
  ∀ (r : Addr) (H' : Hp), Same H H' → H r = none → H' r = some (.lst (nats (ranksOf ls ws))) → Q (.ref r) H'
theorem ok_allFar {f g : Addr} {fd gd : FuncData} (F : Fun K "all_far_down" "all_far_down" sAllFar f fd) (mz : mg "zip" = none) (G : FnOk P w K mg base CX0 1 g gd ["goods", "take"] (spFar K)) (bG : Binds K gd ["goods", "take"] []) (kG : PySem.W.keepIn K (.ref g) = true) (mG : mg "how_far_down" = some (.ref g)) :
    FnOk P w K mg base CX0 2 f fd ["lists", "taken"] (spAllFar K) := by
  refine F.ok scAllFar (fun vs H Q E h => ?_) (fun cdv A outer s H vs Q E hr h => ?_)
  · obtain ⟨a, b, qs, ls, ws, rfl, _⟩ := h
    rfl
  obtain ⟨a, b, qs, ls, ws, rfl, hA, hL, hB, fit, few, k⟩ := h
  refine ⟨_, pss_one (ps_ret (pe_lc (own := [("goods", 2), ("take", 3)]) rfl scAllFar.nd (pi_zip rfl mz (pa_cons (pv 0) (pa_cons (pv 1) pa_nil))) (blkOk_by (N := ["lists", "taken", "goods", "take"]) (sc := defScope sAllFar) (by decide +kernel))
    (fun s H C cl fp => pg_tupK (K := K) rfl (pg_tup (n := 2) rfl (pgs_cons (pg_name (i := 2) scAllFar.nd rfl (Or.inl rfl)) (pgs_cons (pg_name (i := 3) scAllFar.nd rfl (Or.inl rfl)) pgs_nil)))) (fun s H C cl fp => pts_nil)
    (fun s H C cl fp => pe_call G hr rfl mG kG bG .nil pass0 (pa_cons (pv 2) (pa_cons (pv 3) pa_nil))))), ?_⟩
  have fl := fit.len
  have ql : (qs.map V.ref).length = ls.length := by rw [List.length_map, hL.len]
  refine ⟨_, rfl, _, rfl, a, b, _, _, rfl, hA, hB, fun D hD => ?_⟩
  refine lc_zip (K := K) (a := a) (b := b) (xs := qs.map V.ref) (ys := nats ws) (fun i H' => Same H H' ∧ H' D = some (.lst (nats ((List.range i).map fun i => Su89.rank (ls.getD i []) (ws.getD i 0))))) ⟨same_new hD _, upd_same⟩ (by rw [ql, nats_len, fl])
    (fun i H' _ hq => by obtain ⟨s1, _⟩ := hq; exact ⟨s1.seq hA, s1.seq hB⟩) ?_ ?_
  · rintro i x y T H' hx hy ⟨s1, h1⟩ hT
    obtain ⟨q, l, rfl, hq, hl, hs⟩ := hL.get hx
    obtain ⟨z, hz, rfl⟩ := nats_of hy
    have il : i < ls.length := (List.getElem?_eq_some_iff.mp hl).1
    have s2 : Same H (upd H' T (.tup [.ref q, .int (z : Int)])) := s1.trans (same_new hT _)
    have DT : D ≠ T := ne_of_none h1 hT
    refine ⟨T, _, rfl, SqT.of upd_same, rfl, _, _, rfl, _, _, rfl, rfl, rfl, _, rfl, _, rfl, q, l, z, rfl, s2.seq hs, fit.at hl hz, _, (by rw [upd_ne DT]; exact h1), ?_, same_upd s2 hD _, ?_⟩
    · rw [nats_len, List.length_map, List.length_range]
      exact small1000 (by lia)
    · rw [upd_same, List.range_succ, List.map_append, List.map_cons, List.map_nil, ← nats_snoc, getDL_of hl, getD_of hz]
  · rintro H' ⟨s1, h1⟩
    rw [ql] at h1
    exact k D H' s1 hD h1
end
end Sg
end
-- text SgStocks
section
set_option Elab.async false
set_option linter.all false
set_option maxRecDepth 100000
set_option maxHeartbeats 4000000
namespace Sg
open PySem PySem.Spec PyProof.Rows L2
/- ### stocks of so many pieces: the mathematics -/
theorem stocks_succ (c k : Nat) : Su89.stocks c (k + 1) = (List.range (c + 1)).flatMap fun x => (Su89.stocks (c - x) k).map fun s => x :: s := rfl
theorem stocks_one (c : Nat) : Su89.stocks c 1 = [[c]] := by
  rw [stocks_succ, List.range_succ, List.flatMap_append]
  have h : ∀ n, n ≤ c → (List.range n).flatMap (fun x => (Su89.stocks (c - x) 0).map fun s => x :: s) = [] := by
    intro n
    induction n with
    | zero => intro _; rfl
    | succ n ih =>
      intro hn
      rw [List.range_succ, List.flatMap_append, ih (by lia), List.flatMap_cons, List.flatMap_nil]
      have e : Su89.stocks (c - n) 0 = [] := by
        show (if c - n = 0 then [[]] else []) = []
        rw [if_neg (by lia)]
      rw [e]
      rfl
  rw [h c (Nat.le_refl _), List.flatMap_cons, List.flatMap_nil, Nat.sub_self]
  rfl
theorem stocks_len : ∀ (g c : Nat) (l : List Nat), l ∈ Su89.stocks c g → l.length = g
  | 0, c, l, h => by
    have h' : l ∈ (if c = 0 then [[]] else [] : List (List Nat)) := h
    by_cases e : c = 0
    · rw [if_pos e, List.mem_singleton] at h'
      rw [h']
      rfl
    · rw [if_neg e] at h'
      simp at h'
  | g + 1, c, l, h => by
    rw [stocks_succ, List.mem_flatMap] at h
    obtain ⟨x, _, h⟩ := h
    obtain ⟨t, ht, rfl⟩ := List.mem_map.mp h
    rw [List.length_cons, stocks_len g _ t ht]
theorem stocks_few {g c : Nat} (hg : g ≤ 5) (hc : c ≤ 8) : (Su89.stocks c g).length ≤ 495 := by
  have h : ∀ g ∈ List.range 6, ∀ c ∈ List.range 9, (Su89.stocks c g).length ≤ 495 := by decide +kernel
  exact h g (List.mem_range.mpr (by lia)) c (List.mem_range.mpr (by lia))
theorem stocks_some {g c : Nat} (h1 : 1 ≤ g) (hg : g ≤ 5) (hc : c ≤ 8) : 0 < (Su89.stocks c g).length := by
  have h : ∀ g ∈ List.range 5, ∀ c ∈ List.range 9, 0 < (Su89.stocks c (g + 1)).length := by decide +kernel
  have := h (g - 1) (List.mem_range.mpr (by lia)) c (List.mem_range.mpr (by lia))
  rw [show g - 1 + 1 = g by lia] at this
  exact this
theorem flat_mono {α : Type} (f : Nat → List α) {i : Nat} : ∀ n, i ≤ n → ((List.range i).flatMap f).length ≤ ((List.range n).flatMap f).length
  | 0, h => by
    have : i = 0 := by lia
    subst this
    exact Nat.le_refl _
  | n + 1, h => by
    by_cases e : i = n + 1
    · subst e
      exact Nat.le_refl _
    · have := flat_mono (i := i) f n (by lia)
      rw [List.range_succ, List.flatMap_append, List.length_append]
      lia
noncomputable def better (ls : List (List Nat)) (b s : List Nat) : List Nat :=
  if Su89.served (Su89.serve b ls) < Su89.served (Su89.serve s ls) ∨ (Su89.served (Su89.serve b ls) = Su89.served (Su89.serve s ls) ∧ (ranksOf ls (Su89.serve s ls)).sum < (ranksOf ls (Su89.serve b ls)).sum) then s else b
noncomputable def layOf (g c : Nat) (ls : List (List Nat)) : List Nat := ((Su89.stocks c g).drop 1).foldl (better ls) ((Su89.stocks c g).headD [])
theorem lay_eq (s : List Nat) (ls : List (List Nat)) (c : Nat) : (Su89.Abs.mk s ls).lay c = layOf s.length c ls := rfl
theorem better_self (ls : List (List Nat)) (b : List Nat) : better ls b b = b := by
  unfold better
  split <;> rfl
theorem lay_all (g c : Nat) (ls : List (List Nat)) : (Su89.stocks c g).foldl (better ls) ((Su89.stocks c g).headD []) = layOf g c ls := by
  unfold layOf
  cases e : Su89.stocks c g with
  | nil => rfl
  | cons a l =>
    show l.foldl (better ls) (better ls a a) = l.foldl (better ls) a
    rw [better_self]
noncomputable def worthOf (ls : List (List Nat)) (s : List Nat) : List Int := [((Su89.served (Su89.serve s ls) : Nat) : Int), -(((ranksOf ls (Su89.serve s ls)).sum : Nat) : Int)]
theorem worth_lt (ls : List (List Nat)) (b s : List Nat) : better ls b s = if HT.lexLt (worthOf ls b) (worthOf ls s) = true then s else b := by
  unfold better worthOf
  rw [HT.lexLt_cons, HT.lexLt_cons, HT.lexLt_nil_nil]
  by_cases h1 : Su89.served (Su89.serve b ls) = Su89.served (Su89.serve s ls)
  · rw [if_pos (show ((Su89.served (Su89.serve b ls) : Nat) : Int) = ((Su89.served (Su89.serve s ls) : Nat) : Int) by lia)]
    by_cases h2 : (ranksOf ls (Su89.serve s ls)).sum < (ranksOf ls (Su89.serve b ls)).sum
    · rw [if_pos (.inr ⟨h1, h2⟩), if_neg (show ¬ -(((ranksOf ls (Su89.serve b ls)).sum : Nat) : Int) = -(((ranksOf ls (Su89.serve s ls)).sum : Nat) : Int) by lia), if_pos (decide_eq_true (by lia))]
    · rw [if_neg (by lia)]
      by_cases h3 : -(((ranksOf ls (Su89.serve b ls)).sum : Nat) : Int) = -(((ranksOf ls (Su89.serve s ls)).sum : Nat) : Int)
      · rw [if_pos h3, if_neg Bool.false_ne_true]
      · rw [if_neg h3, if_neg (by rw [decide_eq_true_iff]; lia)]
  · rw [if_neg (show ¬ ((Su89.served (Su89.serve b ls) : Nat) : Int) = ((Su89.served (Su89.serve s ls) : Nat) : Int) by lia)]
    by_cases h2 : Su89.served (Su89.serve b ls) < Su89.served (Su89.serve s ls)
    · rw [if_pos (.inl h2), if_pos (decide_eq_true (by lia))]
    · rw [if_neg (by lia), if_neg (by rw [decide_eq_true_iff]; lia)]
/- lists that are new: r holds qs, these hold ls -/
structure NewLists (H H' : Hp) (r : Addr) (qs : List Addr) (ls : List (List Nat)) : Prop where
  rn : H r = none
  lst : H' r = some (.lst (qs.map V.ref))
  len : qs.length = ls.length
  at_ : ∀ (i : Nat) (q : Addr) (l : List Nat), qs[i]? = some q → ls[i]? = some l → H' q = some (.lst (nats l))
  nw : ∀ q ∈ qs, H q = none
  ne : ∀ q ∈ qs, q ≠ r
theorem NewLists.snoc {H H' H2 : Hp} {r u : Addr} {qs : List Addr} {ls : List (List Nat)} {l : List Nat} (L : NewLists H H' r qs ls) (hu0 : H u = none) (hur : u ≠ r) (hr : H2 r = some (.lst (qs.map V.ref ++ [.ref u]))) (hu : H2 u = some (.lst (nats l)))
    (kp : ∀ b o, H' b = some o → b ≠ r → H2 b = some o) : NewLists H H2 r (qs ++ [u]) (ls ++ [l]) := by
  refine ⟨L.rn, by rw [hr, List.map_append]; rfl, by rw [List.length_append, List.length_append, L.len]; rfl, fun i q l' h1 h2 => ?_, fun q hq => ?_, fun q hq => ?_⟩
  · by_cases hi : i < qs.length
    · rw [List.getElem?_append_left hi] at h1
      rw [List.getElem?_append_left (by rw [← L.len]; exact hi)] at h2
      exact kp _ _ (L.at_ i q l' h1 h2) (L.ne q (List.mem_of_getElem? h1))
    · have hi' : i = qs.length := by
        have := (List.getElem?_eq_some_iff.mp h1).1
        rw [List.length_append, List.length_singleton] at this
        lia
      subst hi'
      rw [List.getElem?_concat_length] at h1
      rw [L.len, List.getElem?_concat_length] at h2
      cases h1
      cases h2
      exact hu
  · rcases List.mem_append.mp hq with z | z
    · exact L.nw q z
    · rw [List.mem_singleton] at z
      subst z
      exact hu0
  · rcases List.mem_append.mp hq with z | z
    · exact L.ne q z
    · rw [List.mem_singleton] at z
      subst z
      exact hur
section
variable {P : Program} {w : World} {K : PySem.W.Frag} {mg : Str → Option Value} {base : Heap}
/- ### all_stocks -/
theorem scStocks : FnScope ["goods", "count", "stocks", "first", "rest"] ["goods", "count"] (defScope sStocks) := ⟨rfl, rfl, rfl, by decide +kernel, rfl, by decide +kernel, by decide +kernel⟩
noncomputable def spStocks (n : Nat) : Sp := fun vs H Q _ => ∃ (g c : Nat), vs = [.int (g : Int), .int (c : Int)] ∧ 1 ≤ g ∧ g ≤ n ∧ g ≤ 5 ∧ c ≤ 8 ∧
  ∀ (r : Addr) (H' : Hp) (qs : List Addr), Same H H' → NewLists H H' r qs (Su89.stocks c g) → Q (.ref r) H'
theorem ok_stocks {n : Nat} {f g : Addr} {fd gd : FuncData} (F : Fun K "all_stocks" "all_stocks" sStocks f fd) (G : FnOk P w K mg base CX0 n g gd ["goods", "count"] (spStocks n)) (bG : Binds K gd ["goods", "count"] [])
    (kG : PySem.W.keepIn K (.ref g) = true) (mG : mg "all_stocks" = some (.ref g)) (mr : mg "range" = none) : FnOk P w K mg base CX0 (n + 1) f fd ["goods", "count"] (spStocks (n + 1)) := by
  refine F.ok scStocks (fun vs H Q E h => ?_) (fun cdv A outer s H vs Q E hr h => ?_)
  · obtain ⟨g, c, rfl, _⟩ := h
    rfl
  obtain ⟨g, c, rfl, g1, gn, g5, c8, k⟩ := h
  refine ⟨_, pss_cons (ps_if (pt_cmpR op_eq (pv 0) pe_int (nomark _)) (pss_one (ps_ret (pe_lst (pa_cons (pe_lst (pa_cons (pv 1) pa_nil)) pa_nil)))) pss_nil)
    (pss_cons (ps_set (i := 2) scStocks.nd rfl (Or.inl rfl) (pe_lst pa_nil))
    (pss_cons (ps_for PassesOwn.never rfl (pi_range1 rfl mr (pa_cons (pe_op op_add (pv 1) pe_int) pa_nil)) (pg_name (i := 3) scStocks.nd rfl (Or.inl rfl))
      (pss_one (ps_for PassesOwn.never rfl (pi_list (pe_call G hr rfl mG kG bG .nil pass0 (pa_cons (pe_op op_sub (pv 0) pe_int) (pa_cons (pe_op op_sub (pv 1) (pv 3)) pa_nil)))) (pg_name (i := 4) scStocks.nd rfl (Or.inl rfl))
        (pss_one (ps_expr (pe_bm PySem.F.plainAttrs_list PySem.F.slot_list_append PySem.F.type_list_append mt_append (pv 2) (pa_cons (pe_op op_cat (pe_lst (pa_cons (pv 3) pa_nil)) (pv 4)) pa_nil)))))))
    (pss_one (ps_ret (pv 2))))), ?_⟩
  refine ⟨_, rfl, rfl, _, rfl, ?_⟩
  refine ite2 (fun cc => ?_) (fun cc => ?_)
  · have c' := V.int.inj (of_decide_eq_true cc)
    have e : g = 1 := by lia
    subst e
    refine ⟨_, rfl, (by show 1 ≤ sizeLine; decide), fun q hq => ⟨(by show 1 ≤ sizeLine; decide), fun r hr' => ?_⟩⟩
    have qr : q ≠ r := ne_of_none upd_same hr'
    have s1 := same_new hq (.lst [V.int (c : Int)])
    refine k r _ [q] (s1.trans (same_new hr' _)) ⟨s1.free hr', upd_same, ?_, fun i q' l h1 h2 => ?_, fun q' hq' => ?_, fun q' hq' => ?_⟩
    · rw [stocks_one]; rfl
    · rw [stocks_one] at h2
      cases i with
      | zero =>
        cases h1
        cases h2
        rw [upd_ne qr, upd_same]
        rfl
      | succ i => simp at h1
    · rw [List.mem_singleton] at hq'
      subst hq'
      exact hq
    · rw [List.mem_singleton] at hq'
      subst hq'
      exact qr
  have gne : ¬ g = 1 := fun z => cc (decide_eq_true (by rw [z]; rfl))
  obtain ⟨m, rfl⟩ : ∃ m, g = m + 1 := ⟨g - 1, by lia⟩
  refine ⟨(by show 0 ≤ sizeLine; decide), fun S hS => ?_⟩
  have s0 : Same H (upd H S (.lst [])) := same_new hS _
  refine ⟨_, rfl, _, _, rfl, rfl, _, rfl, (by lia), (by lia), ?_⟩
  have en : (((c : Int) + 1).toNat) = c + 1 := by lia
  rw [en]
  refine for_range (n := c + 1) (fun i σ H' => ∃ (v3 v4 : Option V) (qs : List Addr), σ = [some (.int ((m + 1 : Nat) : Int)), some (.int (c : Int)), some (.ref S), v3, v4] ∧ Same H H' ∧ NewLists H H' S qs ((List.range i).flatMap fun x => (Su89.stocks (c - x) m).map fun s => x :: s))
    ⟨none, none, [], rfl, s0, hS, upd_same, rfl, fun i q l h => (by simp at h), fun q hq => (by simp at hq), fun q hq => (by simp at hq)⟩ ?_ ?_
  · rintro i σ H1 hi ⟨v3, v4, qs, rfl, s1, L⟩
    have ei : (0 : Int) + (i : Int) = (i : Int) := Int.zero_add _
    rw [ei]
    have ea : ([V.int (((m + 1 : Nat) : Int) - 1), V.int ((c : Int) - (i : Int))] : List V) = [.int ((m : Nat) : Int), .int ((c - i : Nat) : Int)] := by
      congr 2
      · lia
      · congr 1
        lia
    refine ⟨_, rfl, _, _, rfl, rfl, _, rfl, _, rfl, _, _, rfl, rfl, m, c - i, ea, (by lia), (by lia), (by lia), (by lia), fun r H2 qs2 s2 L2' => ?_⟩
    have rS : r ≠ S := (ne_of_none L.lst L2'.rn).symm
    have qS : ∀ q ∈ qs2, q ≠ S := fun q hq => (ne_of_none L.lst (L2'.nw q hq)).symm
    have l2 : (qs2.map V.ref).length = (Su89.stocks (c - i) m).length := by rw [List.length_map, L2'.len]
    have step : (List.range (i + 1)).flatMap (fun x => (Su89.stocks (c - x) m).map fun s => x :: s) = ((List.range i).flatMap fun x => (Su89.stocks (c - x) m).map fun s => x :: s) ++ (Su89.stocks (c - i) m).map fun s => i :: s := by
      rw [List.range_succ, List.flatMap_append, List.flatMap_cons, List.flatMap_nil, List.append_nil]
    have big : ((List.range (i + 1)).flatMap (fun x => (Su89.stocks (c - x) m).map fun s => x :: s)).length ≤ 495 := Nat.le_trans (flat_mono _ (c + 1) (by lia)) (by rw [← stocks_succ]; exact stocks_few g5 c8)
    rw [step, List.length_append, List.length_map] at big
    refine ⟨r, rfl, ⟨_, SqL.of L2'.lst⟩, for_list (K := K) (a := r) (xs := qs2.map V.ref) (fun j σ H' => ∃ (v4 : Option V) (qs' : List Addr), σ = [some (.int ((m + 1 : Nat) : Int)), some (.int (c : Int)), some (.ref S), some (.int (i : Int)), v4] ∧ (∀ b o, H2 b = some o → b ≠ S → H' b = some o) ∧ Same H H' ∧
        NewLists H H' S qs' (((List.range i).flatMap fun x => (Su89.stocks (c - x) m).map fun s => x :: s) ++ ((Su89.stocks (c - i) m).take j).map fun s => i :: s))
      ⟨v4, qs, rfl, fun _ _ e _ => e, s1.trans s2, ?_⟩ (fun j σ H' _ hq => by obtain ⟨_, _, _, kp, _⟩ := hq; exact SqL.of (kp _ _ L2'.lst rS)) ?_ ?_⟩
    · rw [List.take_zero, List.map_nil, List.append_nil]
      exact ⟨L.rn, s2 _ _ L.lst, L.len, fun i q l h1 h2 => s2 _ _ (L.at_ i q l h1 h2), L.nw, L.ne⟩
    · rintro j y σ H' hj ⟨v4', qs', rfl, kp, s3, L3⟩
      rw [List.getElem?_map] at hj
      cases eq : qs2[j]? with
      | none => rw [eq] at hj; cases hj
      | some q =>
        rw [eq] at hj
        obtain rfl := Option.some.inj hj
        have jl : j < (Su89.stocks (c - i) m).length := by rw [← L2'.len]; exact (List.getElem?_eq_some_iff.mp eq).1
        have el : (Su89.stocks (c - i) m)[j]? = some (Su89.stocks (c - i) m)[j] := List.getElem?_eq_getElem jl
        generalize (Su89.stocks (c - i) m)[j] = l at el
        have hq : H' q = some (.lst (nats l)) := kp _ _ (L2'.at_ j q l eq el) (qS q (List.mem_of_getElem? eq))
        have ll : l.length = m := stocks_len m _ l (List.mem_of_getElem? el)
        refine ⟨_, rfl, .inl ⟨rfl, _, SqL.of L3.lst⟩, _, rfl, (by show 1 ≤ sizeLine; decide), fun p hp => ⟨_, rfl, p, q, _, _, rfl, rfl, upd_same, by rw [upd_ne (ne_of_none hq hp)]; exact hq, ?_, fun u hu => ?_⟩⟩
        · rw [nats_len, ll]
          show 1 + m ≤ sizeLine
          exact Nat.le_of_lt (small1000 (by lia))
        have Sp' : S ≠ p := ne_of_none L3.lst hp
        have pu : p ≠ u := ne_of_none upd_same hu
        have hu1 : H' u = none := by rw [upd_ne pu.symm] at hu; exact hu
        have Su' : S ≠ u := ne_of_none L3.lst hu1
        refine ⟨S, _, _, rfl, rfl, by rw [upd_ne Su', upd_ne Sp']; exact L3.lst, ?_, ?_⟩
        · rw [List.length_map, L3.len, List.length_append, List.length_map, List.length_take]
          exact small1000 (by lia)
        have keep : ∀ b o, H' b = some o → b ≠ S → upd (upd (upd H' p (.lst [V.int (i : Int)])) u (.lst ([V.int (i : Int)] ++ nats l))) S (.lst (qs'.map V.ref ++ [.ref u])) b = some o := fun b o e hb => by
          rw [upd_ne hb, upd_ne (ne_of_none e hu1), upd_ne (ne_of_none e hp)]
          exact e
        refine ⟨_, qs' ++ [u], rfl, fun b o e hb => keep b o (kp b o e hb) hb, fun b o e => keep b o (s3 b o e) (ne_of_none e hS), ?_⟩
        rw [take_snoc el, List.map_append, ← List.append_assoc]
        exact L3.snoc (s3.free hu1) Su'.symm upd_same (by rw [upd_ne Su'.symm, upd_same]; rfl) keep
    · rintro σ H' ⟨v4', qs', rfl, kp, s3, L3⟩
      rw [l2, List.take_length, ← step] at L3
      exact ⟨_, _, qs', rfl, s3, L3⟩
  · rintro σ H' ⟨v3, v4, qs, rfl, s1, L⟩
    rw [← stocks_succ] at L
    exact ⟨_, rfl, k S H' qs s1 L⟩
theorem no_stocks {f : Addr} {fd : FuncData} : FnOk P w K mg base CX0 0 f fd ["goods", "count"] (spStocks 0) := fn_none fun vs H Q E h => by
  obtain ⟨g, c, _, h1, h2, _⟩ := h
  exact absurd (Nat.le_trans h1 h2) (Nat.not_succ_le_zero _)
theorem all_stocks_ok {f : Addr} {fd : FuncData} (F : Fun K "all_stocks" "all_stocks" sStocks f fd) (bF : Binds K fd ["goods", "count"] []) (mF : mg "all_stocks" = some (.ref f)) (mr : mg "range" = none) :
    ∀ n : Nat, FnOk P w K mg base CX0 n f fd ["goods", "count"] (spStocks n)
  | 0 => no_stocks
  | n + 1 => ok_stocks F (all_stocks_ok F bF mF mr n) bF F.kp mF mr
end
end Sg
end
-- text SgBest
section
set_option Elab.async false
set_option linter.all false
set_option maxRecDepth 100000
set_option maxHeartbeats 4000000
namespace Sg
open PySem PySem.Spec PyProof.Rows L2
section
variable {P : Program} {w : World} {K : PySem.W.Frag} {mg : Str → Option Value} {base : Heap}
/- ### worth -/
theorem scWorth : FnScope ["stock", "lists", "taken"] ["stock", "lists"] (defScope sWorth) := ⟨rfl, rfl, rfl, by decide +kernel, rfl, by decide +kernel, by decide +kernel⟩
noncomputable def spWorth (K : PySem.W.Frag) : Sp := fun vs H Q _ => ∃ (a b : Addr) (s : List Nat) (qs : List Addr) (ls : List (List Nat)), vs = [.ref a, .ref b] ∧ SqL K H a (nats s) ∧ SqL K H b (qs.map V.ref) ∧ Lists K H qs ls ∧ Goods s.length ls ∧ ls.length ≤ 1000 ∧
  ∀ (r : Addr) (H' : Hp), Same H H' → H r = none → H' r = some (.tup ((worthOf ls s).map V.int)) → Q (.ref r) H'
theorem ok_worth {f v c a : Addr} {fd vd cd ad : FuncData} (F : Fun K "worth" "worth" sWorth f fd) (ms : mg "sum" = none)
    (V' : FnOk P w K mg base CX0 2 v vd ["pieces", "lists"] (spServe K)) (bV : Binds K vd ["pieces", "lists"] []) (kV' : PySem.W.keepIn K (.ref v) = true) (mV : mg "serve_all" = some (.ref v))
    (D : FnOk P w K mg base CX0 1 c cd ["taken"] (spCount K)) (bD : Binds K cd ["taken"] []) (kD : PySem.W.keepIn K (.ref c) = true) (mD : mg "count_served" = some (.ref c))
    (A' : FnOk P w K mg base CX0 2 a ad ["lists", "taken"] (spAllFar K)) (bA : Binds K ad ["lists", "taken"] []) (kA : PySem.W.keepIn K (.ref a) = true) (mA : mg "all_far_down" = some (.ref a)) :
    FnOk P w K mg base CX0 3 f fd ["stock", "lists"] (spWorth K) := by
  refine F.ok scWorth (fun vs H Q E h => ?_) (fun cdv A outer s H vs Q E hr h => ?_)
  · obtain ⟨a, b, s, qs, ls, rfl, _⟩ := h
    rfl
  obtain ⟨a, b, s, qs, ls, rfl, hA, hB, hL, hG, few, k⟩ := h
  have hr1 : Room 1 _ := hr.mono (by decide)
  refine ⟨_, pss_cons (ps_set (i := 2) scWorth.nd rfl (Or.inl rfl) (pe_call V' hr rfl mV kV' bV .nil pass0 (pa_cons (pv 0) (pa_cons (pv 1) pa_nil))))
    (pss_one (ps_ret (pe_tup (pa_cons (pe_call D hr1 rfl mD kD bD .nil pass0 (pa_cons (pv 2) pa_nil)) (pa_cons (pe_un un_neg (pe_callB (cr_sum rfl) rfl ms (by decide +kernel) (pa_cons (pe_call A' hr rfl mA kA bA .nil pass0 (pa_cons (pv 1) (pa_cons (pv 2) pa_nil))) pa_nil))) pa_nil))))), ?_⟩
  refine ⟨_, rfl, _, rfl, a, b, s, qs, ls, rfl, hA, hB, hL, hG, few, fun t H1 s1 ht h1 => ?_⟩
  refine ⟨_, rfl, t, _, rfl, SqL.of h1, _, rfl, _, rfl, b, t, qs, ls, _, rfl, s1.seq hB, hL.same s1, SqL.of h1, (serve_fit ls s).1, few, fun u H2 s2 hu h2 => ?_⟩
  refine ⟨u, zs (ranksOf ls (Su89.serve s ls)), rfl, SqL.of h2, _, rfl, (by show 2 ≤ sizeLine; decide), fun r hr' => ?_⟩
  have s12 := s1.trans s2
  refine k r _ (s12.trans (same_new hr' _)) (s12.free hr') ?_
  rw [upd_same, zs_sum]
  rfl
/- ### best_stock -/
theorem scBest : FnScope ["goods", "count", "lists", "stocks", "best", "best_worth", "stock", "stock_worth"] ["goods", "count", "lists"] (defScope sBest) := ⟨rfl, rfl, rfl, by decide +kernel, rfl, by decide +kernel, by decide +kernel⟩
noncomputable def spBest (K : PySem.W.Frag) : Sp := fun vs H Q _ => ∃ (g c : Nat) (b : Addr) (qs : List Addr) (ls : List (List Nat)), vs = [.int (g : Int), .int (c : Int), .ref b] ∧ 1 ≤ g ∧ g ≤ 5 ∧ c ≤ 8 ∧ SqL K H b (qs.map V.ref) ∧ Lists K H qs ls ∧ Goods g ls ∧ ls.length ≤ 1000 ∧
  ∀ (r : Addr) (H' : Hp), Same H H' → H r = none → H' r = some (.lst (nats (layOf g c ls))) → Q (.ref r) H'
theorem ok_best {f t v : Addr} {fd td vd : FuncData} (F : Fun K "best_stock" "best_stock" sBest f fd)
    (St' : FnOk P w K mg base CX0 5 t td ["goods", "count"] (spStocks 5)) (bT : Binds K td ["goods", "count"] []) (kT : PySem.W.keepIn K (.ref t) = true) (mT : mg "all_stocks" = some (.ref t))
    (W : FnOk P w K mg base CX0 3 v vd ["stock", "lists"] (spWorth K)) (bW : Binds K vd ["stock", "lists"] []) (kW : PySem.W.keepIn K (.ref v) = true) (mW : mg "worth" = some (.ref v)) :
    FnOk P w K mg base CX0 6 f fd ["goods", "count", "lists"] (spBest K) := by
  refine F.ok scBest (fun vs H Q E h => ?_) (fun cdv A outer s H vs Q E hr h => ?_)
  · obtain ⟨g, c, b, qs, ls, rfl, _⟩ := h
    rfl
  obtain ⟨g, c, b, qs, ls, rfl, g1, g5, c8, hB, hL, hG, few, k⟩ := h
  have hr3 : Room 3 _ := hr.mono (by decide)
  have hu := hu_of hr
  refine ⟨_, pss_cons (ps_set (i := 3) scBest.nd rfl (Or.inl rfl) (pe_call St' hr rfl mT kT bT .nil pass0 (pa_cons (pv 0) (pa_cons (pv 1) pa_nil))))
    (pss_cons (ps_set (i := 4) scBest.nd rfl (Or.inl rfl) (pe_ix ix_list (pv 3) pe_int (fun _ _ => rfl)))
    (pss_cons (ps_set (i := 5) scBest.nd rfl (Or.inl rfl) (pe_call W hr3 rfl mW kW bW .nil pass0 (pa_cons (pv 4) (pa_cons (pv 2) pa_nil))))
    (pss_cons (ps_for PassesOwn.never rfl (pi_list (pv 3)) (pg_name (i := 6) scBest.nd rfl (Or.inl rfl))
      (pss_cons (ps_set (i := 7) scBest.nd rfl (Or.inl rfl) (pe_call W hr3 rfl mW kW bW .nil pass0 (pa_cons (pv 6) (pa_cons (pv 2) pa_nil))))
      (pss_one (ps_if (pt_cmpR (op_gtT (Nat.lt_of_succ_lt hu)) (pv 7) (pv 5) (nomark _)) (pss_cons (ps_set (i := 4) scBest.nd rfl (Or.inl rfl) (pv 6)) (pss_one (ps_set (i := 5) scBest.nd rfl (Or.inl rfl) (pv 7)))) pss_nil))))
    (pss_one (ps_ret (pv 4)))))), ?_⟩
  refine ⟨_, rfl, _, rfl, g, c, rfl, g1, g5, g5, c8, fun S H1 qt s1 L => ?_⟩
  have sl := stocks_len g c
  have some' := stocks_some g1 g5 c8
  generalize eS : Su89.stocks c g = stk at L sl some'
  have q0 : 0 < qt.length := by rw [L.len]; exact some'
  have eq0 : qt[0]? = some qt[0] := List.getElem?_eq_getElem q0
  generalize qt[0] = qz at eq0
  have el0 : stk[0]? = some (stk.headD []) := by
    cases stk with
    | nil => simp at some'
    | cons a l => rfl
  have hz : H1 qz = some (.lst (nats (stk.headD []))) := L.at_ 0 qz _ eq0 el0
  have gz : (stk.headD []).length = g := sl _ (List.mem_of_getElem? el0)
  refine ⟨_, rfl, S, _, _, _, rfl, rfl, SqL.of L.lst, atI_nat (j := 0) (v := V.ref qz) (by rw [List.getElem?_map, eq0]; rfl), ?_⟩
  refine ⟨_, rfl, _, rfl, qz, b, stk.headD [], qs, ls, rfl, SqL.of hz, s1.seq hB, hL.same s1, by rw [gz]; exact hG, few, fun wq H2 s2 hw2 h2 => ?_⟩
  refine ⟨_, rfl, S, rfl, ⟨_, SqL.of (s2 _ _ L.lst)⟩, for_list (K := K) (a := S) (xs := qt.map V.ref) (fun i σ H' => ∃ (v6 v7 : Option V) (bq wq : Addr), σ = [some (.int (g : Int)), some (.int (c : Int)), some (.ref b), some (.ref S), some (.ref bq), some (.ref wq), v6, v7] ∧ Same H1 H' ∧ H bq = none ∧
      H' bq = some (.lst (nats ((stk.take i).foldl (better ls) (stk.headD [])))) ∧ H' wq = some (.tup ((worthOf ls ((stk.take i).foldl (better ls) (stk.headD []))).map V.int)))
    ⟨none, none, qz, wq, rfl, s2, L.nw qz (List.mem_of_getElem? eq0), s2 _ _ hz, h2⟩ (fun i σ H' _ hq => by obtain ⟨_, _, _, _, _, s3, _⟩ := hq; exact SqL.of (s3 _ _ L.lst)) ?_ ?_⟩
  · rintro i y σ H' hi ⟨v6, v7, bq, wq', rfl, s3, nb, hb, hw⟩
    rw [List.getElem?_map] at hi
    cases eq : qt[i]? with
    | none => rw [eq] at hi; cases hi
    | some q =>
      rw [eq] at hi
      obtain rfl := Option.some.inj hi
      have jl : i < stk.length := by rw [← L.len]; exact (List.getElem?_eq_some_iff.mp eq).1
      have el : stk[i]? = some stk[i] := List.getElem?_eq_getElem jl
      generalize stk[i] = l at el
      have hq : H' q = some (.lst (nats l)) := s3 _ _ (L.at_ i q l eq el)
      have ll : l.length = g := sl l (List.mem_of_getElem? el)
      have s13 := s1.trans s3
      refine ⟨_, rfl, _, rfl, q, b, l, qs, ls, rfl, SqL.of hq, s13.seq hB, hL.same s13, by rw [ll]; exact hG, few, fun wn H4 s4 hn4 h4 => ?_⟩
      have et : (stk.take (i + 1)).foldl (better ls) (stk.headD []) = better ls ((stk.take i).foldl (better ls) (stk.headD [])) l := by
        rw [take_snoc el, List.foldl_append]
        rfl
      refine ⟨_, rfl, _, rfl, wn, wq', _, _, rfl, rfl, SqT.of h4, SqT.of (s4 _ _ hw), _, rfl, ?_⟩
      rw [et, worth_lt]
      refine ite2 (fun cc => ?_) (fun cc => ?_)
      · rw [if_pos cc]
        exact ⟨_, rfl, _, rfl, _, _, q, wn, rfl, s3.trans s4, L.nw q (List.mem_of_getElem? eq), s4 _ _ hq, h4⟩
      · rw [if_neg cc]
        exact ⟨_, _, bq, wq', rfl, s3.trans s4, nb, s4 _ _ hb, s4 _ _ hw⟩
  · rintro σ H' ⟨v6, v7, bq, wq', rfl, s3, nb, hb, hw⟩
    rw [List.length_map, L.len, List.take_length, ← eS, lay_all] at hb
    exact ⟨_, rfl, k bq H' (s1.trans s3) nb hb⟩
end
end Sg
end
-- text SgMeth5
section
set_option Elab.async false
set_option linter.all false
set_option maxRecDepth 100000
set_option maxHeartbeats 4000000
namespace Sg
open PySem PySem.Spec PyProof.Rows L2
theorem two_le (a b : V) : ([a, b] : List V).length ≤ sizeLine := by show 2 ≤ sizeLine; decide
theorem ranks_len (ls : List (List Nat)) (w : List Nat) : (ranksOf ls w).length = ls.length := by
  unfold ranksOf
  rw [List.length_map, List.length_range]
section
variable {P : Program} {w : World} {K : PySem.W.Frag} {mg : Str → Option Value} {base : Heap}
/- ### ranks -/
theorem scRanks : FnScope ["self", "far"] ["self"] (defScope cRanks) := ⟨rfl, rfl, rfl, by decide +kernel, rfl, by decide +kernel, by decide +kernel⟩
noncomputable def aRanks (s : List Nat) (ls : List (List Nat)) : List Int := ((ranksOf ls (Su89.serve s ls)).sum : Nat) :: zs (ranksOf ls (Su89.serve s ls))
theorem ok_ranks {f g a C : Addr} {fd gd ad : FuncData} (F : Fun K "ranks" "Shop.ranks" cRanks f fd) (T : Txt K mg C) (G : FnOk P w K mg base CX0 3 g gd ["self"] (spTaken C)) (bG : Binds K gd ["self"] []) (mG : Meth K C "taken_now" g)
    (A' : FnOk P w K mg base CX0 2 a ad ["lists", "taken"] (spAllFar K)) (bA : Binds K ad ["lists", "taken"] []) (kA : PySem.W.keepIn K (.ref a) = true) (mA : mg "all_far_down" = some (.ref a)) : FnOk P w K mg base CX0 4 f fd ["self"] (spAsk0 C aRanks) := by
  refine F.ok scRanks (fun vs H Q E h => ?_) (fun cdv A outer s H vs Q E hr h => ?_)
  · obtain ⟨x, bg, s, ls, pa, la, qs, rfl, _⟩ := h
    rfl
  obtain ⟨x, bg, s, ls, pa, la, qs, rfl, S, k⟩ := h
  obtain ⟨dx, ho⟩ := S.obj
  have hr2 : Room 2 _ := hr.mono (by decide)
  refine ⟨_, pss_cons (ps_set (i := 1) scRanks.nd rfl (Or.inl rfl) (pe_call A' hr2 rfl mA kA bA .nil pass0 (pa_cons (pe_fld (pv 0) rfl) (pa_cons (pe_meth0 (pv 0) T.cl mG G hr bG .nil pass0) pa_nil))))
    (pss_one (ps_ret (pe_op op_cat (pe_lst (pa_cons (pe_callB (cr_sum rfl) rfl T.sum (by decide +kernel) (pa_cons (pv 1) pa_nil)) pa_nil)) (pv 1)))), ?_⟩
  have six := S.six
  refine ⟨_, rfl, x, C, dx, _, _, rfl, ho, T.cl, T.nL, sf_lists _ _ _, _, rfl, x, dx, _, rfl, ho, sf_no _ _ _ (by decide +kernel) (by decide +kernel) (by decide +kernel), x, bg, s, ls, pa, la, qs, rfl, S, fun t H1 s1 ht h1 => ?_⟩
  have Z := (S.same s1).stock (K := K)
  refine ⟨la, t, qs, ls, _, rfl, Z.lists, Z.goods, SqL.of h1, (serve_fit ls s).1, Z.few, fun u H2 s2 hu h2 => ?_⟩
  refine ⟨_, rfl, u, zs (ranksOf ls (Su89.serve s ls)), rfl, SqL.of h2, one_le, fun q hq => ⟨_, rfl, q, u, _, _, rfl, rfl, upd_same, by rw [upd_ne (ne_of_none h2 hq)]; exact h2, ?_, fun r hr => ?_⟩⟩
  · rw [nats_len, ranks_len]
    refine Nat.le_of_lt (small1000 ?_)
    show 1 + _ ≤ 1000
    lia
  · refine k.putS ((s1.trans s2).trans (same_new hq _)) hr ?_
    rw [zs_sum]
    rfl
/- ### is_needed -/
theorem scIsNeeded : FnScope ["self", "good", "pieces"] ["self", "good"] (defScope cIsNeeded) := ⟨rfl, rfl, rfl, by decide +kernel, rfl, by decide +kernel, by decide +kernel⟩
noncomputable def neededAt (s : List Nat) (ls : List (List Nat)) (g : Nat) : Bool := s.getD g 0 != 0 && decide (Su89.served (Su89.serve (s.modify g fun x => x - 1) ls) < Su89.served (Su89.serve s ls))
noncomputable def spIsNeeded (C : Addr) : Sp := fun vs H Q _ => ∃ (x : Addr) (g : Nat) (bg : Bool) (s : List Nat) (ls : List (List Nat)) (pa la : Addr) (qs : List Addr), vs = [.ref x, .int (g : Int)] ∧ ShopAt C H x bg s ls pa la qs ∧ g < s.length ∧
  ∀ (H' : Hp), Same H H' → Q (.bl (neededAt s ls g)) H'
theorem ok_isNeeded {f g c v C : Addr} {fd gd cd vd : FuncData} (F : Fun K "is_needed" "Shop.is_needed" cIsNeeded f fd) (T : Txt K mg C) (G : FnOk P w K mg base CX0 4 g gd ["self"] (spServed C)) (bG : Binds K gd ["self"] []) (mG : Meth K C "served_now" g)
    (D : FnOk P w K mg base CX0 1 c cd ["taken"] (spCount K)) (bD : Binds K cd ["taken"] []) (kD : PySem.W.keepIn K (.ref c) = true) (mD : mg "count_served" = some (.ref c))
    (V' : FnOk P w K mg base CX0 2 v vd ["pieces", "lists"] (spServe K)) (bV : Binds K vd ["pieces", "lists"] []) (kV' : PySem.W.keepIn K (.ref v) = true) (mV : mg "serve_all" = some (.ref v)) : FnOk P w K mg base CX0 5 f fd ["self", "good"] (spIsNeeded C) := by
  refine F.ok scIsNeeded (fun vs H Q E h => ?_) (fun cdv A outer s H vs Q E hr h => ?_)
  · obtain ⟨x, g, bg, s, ls, pa, la, qs, rfl, _⟩ := h
    rfl
  obtain ⟨x, g, bg, s, ls, pa, la, qs, rfl, S, gl, k⟩ := h
  obtain ⟨dx, ho⟩ := S.obj
  have hr1 : Room 1 _ := hr.mono (by decide)
  have hr2 : Room 2 _ := hr.mono (by decide)
  refine ⟨_, pss_cons (ps_if (pt_cmpR op_eq (pe_ix ix_list (pe_fld (pv 0) rfl) (pv 1) (fun _ _ => rfl)) pe_int (nomark _)) (pss_one (ps_ret pe_bl)) pss_nil)
    (pss_cons (ps_set (i := 2) scIsNeeded.nd rfl (Or.inl rfl) (pe_callTy call_list_of rfl T.list (by decide +kernel) (pa_cons (pe_fld (pv 0) rfl) pa_nil)))
    (pss_cons (ps_augS (pv 2) (pv 1) get_list pe_int ip_sub set_list)
    (pss_one (ps_ret (pe_cmpR op_lt (pe_call D hr1 rfl mD kD bD .nil pass0 (pa_cons (pe_call V' hr2 rfl mV kV' bV .nil pass0 (pa_cons (pv 2) (pa_cons (pe_fld (pv 0) rfl) pa_nil))) pa_nil)) (pe_meth0 (pv 0) T.cl mG G hr bG .nil pass0) (nomark _)))))), ?_⟩
  have gv := get_of gl
  refine ⟨_, rfl, x, C, dx, _, _, rfl, ho, T.cl, T.nP, sf_pieces _ _ _, _, rfl, pa, _, _, _, rfl, rfl, SqL.of S.pieces, atI_nat (nats_get gv), rfl, _, rfl, ?_⟩
  refine ite2 (fun c => ?_) (fun c => ?_)
  · have c' := V.int.inj (of_decide_eq_true c)
    have e : neededAt s ls g = false := by
      unfold neededAt
      rw [show s.getD g 0 = 0 by lia]
      rfl
    have := k H (Same.refl H)
    rw [e] at this
    exact this
  have gne : ¬ s.getD g 0 = 0 := fun z => c (decide_eq_true (by rw [z]; rfl))
  refine ⟨_, rfl, x, C, dx, _, _, rfl, ho, T.cl, T.nP, sf_pieces _ _ _, pa, _, rfl, .inl (SqL.of S.pieces), fun p hp => ?_⟩
  refine ⟨_, rfl, _, rfl, p, _, g, _, rfl, rfl, SqL.of upd_same, nats_get gv, _, _, rfl, rfl, p, _, _, g, rfl, rfl, upd_same, ?_, ?_⟩
  · unfold ixN
    rw [nats_len, if_pos (by lia), if_pos (by lia)]
    congr 1
  have e0 : (nats s).set g (V.int (((s.getD g 0 : Nat) : Int) - 1)) = nats (s.modify g fun x => x - 1) := by
    rw [← dec_succ, dec_set gv, ← nats_set]
    congr 2
    lia
  dsimp only
  rw [e0]
  have s0 : Same H (upd (upd H p (.lst (nats s))) p (.lst (nats (s.modify g fun x => x - 1)))) := same_upd (same_new hp _) hp _
  generalize eH : upd (upd H p (.lst (nats s))) p (.lst (nats (s.modify g fun x => x - 1))) = H1
  rw [eH] at s0
  have hp1 : H1 p = some (.lst (nats (s.modify g fun x => x - 1))) := by rw [← eH]; exact upd_same
  have S1 := S.same s0
  have Z := S1.stock (K := K)
  have il : (s.modify g fun x => x - 1).length = s.length := by rw [List.length_modify]
  refine ⟨_, rfl, _, rfl, x, C, dx, _, _, rfl, s0 _ _ ho, T.cl, T.nL, sf_lists _ _ _, p, la, _, qs, ls, rfl, SqL.of hp1, Z.lists, Z.goods, by rw [il]; exact S.lt, Z.few, fun a H2 s2 ha h2 => ?_⟩
  have s02 := s0.trans s2
  refine ⟨a, _, rfl, SqL.of h2, _, rfl, x, dx, _, rfl, s02 _ _ ho, sf_no _ _ _ (by decide +kernel) (by decide +kernel) (by decide +kernel), x, bg, s, ls, pa, la, qs, rfl, S.same s02, fun H3 s3 => ⟨_, _, rfl, rfl, ?_⟩⟩
  have e : neededAt s ls g = decide (Su89.served (Su89.serve (s.modify g fun x => x - 1) ls) < Su89.served (Su89.serve s ls)) := by
    unfold neededAt
    rw [show (s.getD g 0 != 0) = true by simpa using gne, Bool.true_and]
  have := k H3 (s02.trans s3)
  rw [e] at this
  dsimp only
  rw [dec_cast]
  exact this
/- ### needed -/
theorem scNeeded : FnScope ["self", "goods", "good"] ["self"] (defScope cNeeded) := ⟨rfl, rfl, rfl, by decide +kernel, rfl, by decide +kernel, by decide +kernel⟩
noncomputable def neededOf (s : List Nat) (ls : List (List Nat)) : List Nat := (List.range s.length).filter fun g => neededAt s ls g
noncomputable def aNeeded (s : List Nat) (ls : List (List Nat)) : List Int := (((neededOf s ls).length : Nat) : Int) :: zs (neededOf s ls)
theorem ok_needed {f g C : Addr} {fd gd : FuncData} (F : Fun K "needed" "Shop.needed" cNeeded f fd) (T : Txt K mg C) (G : FnOk P w K mg base CX0 5 g gd ["self", "good"] (spIsNeeded C)) (bG : Binds K gd ["self", "good"] []) (mG : Meth K C "is_needed" g) : FnOk P w K mg base CX0 6 f fd ["self"] (spAsk0 C aNeeded) := by
  refine F.ok scNeeded (fun vs H Q E h => ?_) (fun cdv A outer s H vs Q E hr h => ?_)
  · obtain ⟨x, bg, s, ls, pa, la, qs, rfl, _⟩ := h
    rfl
  obtain ⟨x, bg, s, ls, pa, la, qs, rfl, S, k⟩ := h
  obtain ⟨dx, ho⟩ := S.obj
  refine ⟨_, pss_cons (ps_setLc (i := 1) (own := [("good", 2)]) rfl scNeeded.nd rfl rfl (sw_true rfl rfl rfl (by decide +kernel)) (pi_range1 rfl T.range (pa_cons (pe_callB call_len_seq rfl T.len PySem.boot_len (pa_cons (pe_fld (pv 0) rfl) pa_nil)) pa_nil)) (blkOk_by (N := ["self", "goods", "good"]) (sc := defScope cNeeded) (by decide +kernel))
      (fun s H C cl fp => pg_name (i := 2) scNeeded.nd rfl (Or.inl rfl)) (fun s H C' cl fp => pts_one (pt_val (pe_meth (pv 0) T.cl mG G hr bG .nil pass0 (pa_cons (pv 2) pa_nil)))) (fun s H C cl fp => pv 2))
    (pss_one (ps_ret (pe_op op_cat (pe_lst (pa_cons (pe_callB call_len_seq rfl T.len PySem.boot_len (pa_cons (pv 1) pa_nil)) pa_nil)) (pv 1)))), ?_⟩
  have five := S.five
  refine ⟨_, rfl, x, C, dx, _, _, rfl, ho, T.cl, T.nP, sf_pieces _ _ _, pa, _, rfl, .inl (SqL.of S.pieces), _, rfl, (by rw [nats_len]; lia), (by rw [nats_len]; lia), fun D hD => ?_⟩
  rw [nats_len, Int.toNat_natCast]
  refine lc_range (n := s.length) (fun i H' => Same H H' ∧ H' D = some (.lst (nats ((List.range i).filter fun g => neededAt s ls g)))) ⟨same_new hD _, upd_same⟩ ?_ ?_
  · rintro i H' hi ⟨s2, h2⟩
    have ei : (0 : Int) + (i : Int) = (i : Int) := Int.zero_add _
    rw [ei]
    refine ⟨rfl, _, rfl, x, dx, _, rfl, s2 _ _ ho, sf_no _ _ _ (by decide +kernel) (by decide +kernel) (by decide +kernel), _, rfl, x, i, bg, s, ls, pa, la, qs, rfl, S.same s2, hi, fun H3 s3 => ⟨_, rfl, ?_⟩⟩
    have fl := filter_range_len (fun g => neededAt s ls g) i
    rw [filter_range_succ]
    refine ite2 (fun c => ?_) (fun c => ?_)
    · rw [if_pos c]
      refine ⟨_, rfl, _, s3 _ _ h2, (by rw [nats_len]; exact small1000 (by lia)), same_upd (s2.trans s3) hD _, ?_⟩
      rw [upd_same, nats_snoc]
    · rw [if_neg c]
      exact ⟨s2.trans s3, s3 _ _ h2⟩
  · rintro H2 ⟨s2, h2⟩
    refine ⟨_, rfl, D, _, rfl, .inl (SqL.of h2), one_le, fun q hq => ⟨_, rfl, q, D, _, _, rfl, rfl, upd_same, by rw [upd_ne (ne_of_none h2 hq)]; exact h2, ?_, fun r hr => ?_⟩⟩
    · have fl := filter_range_len (fun g => neededAt s ls g) s.length
      rw [nats_len]
      refine Nat.le_of_lt (small1000 ?_)
      show 1 + _ ≤ 1000
      lia
    · refine k.putS (s2.trans (same_new hq _)) hr ?_
      rw [nats_len]
      rfl
/- ### look -/
theorem scLook : FnScope ["self", "person"] ["self", "person"] (defScope cLook) := ⟨rfl, rfl, rfl, by decide +kernel, rfl, by decide +kernel, by decide +kernel⟩
noncomputable def spAskP (C : Addr) (ans : List Nat → List (List Nat) → Nat → List Int) : Sp := fun vs H Q _ => ∃ (x : Addr) (i : Nat) (bg : Bool) (s : List Nat) (ls : List (List Nat)) (pa la : Addr) (qs : List Addr), vs = [.ref x, .int (i : Int)] ∧ ShopAt C H x bg s ls pa la qs ∧
  if i < ls.length then Ask H Q (ans s ls i) else Ask H Q [-2]
noncomputable def aLook (s : List Nat) (ls : List (List Nat)) (i : Nat) : List Int := (((ls.getD i []).length : Nat) : Int) :: zs (ls.getD i [])
theorem getL_of {l : List (List Nat)} {i : Nat} (h : i < l.length) : l[i]? = some (l.getD i []) := by
  rw [List.getElem?_eq_getElem h, List.getD_eq_getElem?_getD, List.getElem?_eq_getElem h]
  rfl
theorem ok_look {f h C : Addr} {fd hd : FuncData} (F : Fun K "look" "Shop.look" cLook f fd) (T : Txt K mg C) (Hp' : FnOk P w K mg base CX0 1 h hd ["self", "person"] (spHasPerson C)) (bH : Binds K hd ["self", "person"] []) (mH : Meth K C "has_person" h) :
    FnOk P w K mg base CX0 2 f fd ["self", "person"] (spAskP C aLook) := by
  refine F.ok scLook (fun vs H Q E h => ?_) (fun cdv A outer s H vs Q E hr h => ?_)
  · obtain ⟨x, i, bg, s, ls, pa, la, qs, rfl, _⟩ := h
    rfl
  obtain ⟨x, i, bg, s, ls, pa, la, qs, rfl, S, k⟩ := h
  obtain ⟨dx, ho⟩ := S.obj
  obtain ⟨tn, mn⟩ := T.noneSuch
  refine ⟨_, pss_cons (ps_if (pt_not (pt_val (pe_meth (pv 0) T.cl mH Hp' hr bH .nil pass0 (pa_cons (pv 1) pa_nil)))) (pss_one (ps_ret (pe_lst (pa_cons (pe_glob (v := .int (-2)) rfl mn ⟨_, rfl⟩) pa_nil)))) pss_nil)
    (pss_one (ps_ret (pe_op op_cat (pe_lst (pa_cons (pe_callB call_len_seq rfl T.len PySem.boot_len (pa_cons (pe_ix ix_list (pe_fld (pv 0) rfl) (pv 1) (fun _ _ => rfl)) pa_nil)) pa_nil)) (pe_ix ix_list (pe_fld (pv 0) rfl) (pv 1) (fun _ _ => rfl))))), ?_⟩
  refine ⟨_, rfl, x, dx, _, rfl, ho, sf_no _ _ _ (by decide +kernel) (by decide +kernel) (by decide +kernel), _, rfl, x, i, bg, s, ls, pa, la, qs, rfl, S, _, rfl, ?_⟩
  refine pt_nota (fun c => ?_) (fun c => ?_)
  · have c' : ¬ i < ls.length := of_decide_eq_false c
    rw [if_neg c'] at k
    exact ⟨one_le, fun r hr => k.one hr⟩
  have il : i < ls.length := of_decide_eq_true c
  rw [if_pos il] at k
  have iq : i < qs.length := by rw [S.len]; exact il
  have eq : (qs.map V.ref)[i]? = some (V.ref qs[i]) := by rw [List.getElem?_map, List.getElem?_eq_getElem iq]; rfl
  have hq := S.at_ i qs[i] _ (List.getElem?_eq_getElem iq) (getL_of il)
  have tl := S.told _ (List.mem_of_getElem? (getL_of il))
  refine ⟨_, rfl, x, C, dx, _, _, rfl, ho, T.cl, T.nL, sf_lists _ _ _, _, rfl, la, _, _, _, rfl, rfl, SqL.of S.lists, atI_nat eq, qs[i], _, rfl, .inl (SqL.of hq), one_le, fun q hq' => ?_⟩
  have s1 := same_new hq' (.lst [V.int ((nats (ls.getD i [])).length : Nat)])
  have S1 := S.same s1
  refine ⟨_, rfl, x, C, dx, _, _, rfl, s1 _ _ ho, T.cl, T.nL, sf_lists _ _ _, _, rfl, la, _, _, _, rfl, rfl, SqL.of S1.lists, atI_nat eq, q, qs[i], _, _, rfl, rfl, upd_same, s1 _ _ hq, ?_, fun r hr => ?_⟩
  · rw [nats_len]
    refine Nat.le_of_lt (small1000 ?_)
    show 1 + _ ≤ 1000
    lia
  · refine k.putS s1 hr ?_
    rw [nats_len]
    rfl
/- ### sums -/
theorem scSums : FnScope ["self"] ["self"] (defScope cSums) := ⟨rfl, rfl, rfl, by decide +kernel, rfl, by decide +kernel, by decide +kernel⟩
noncomputable def aSums (s : List Nat) (ls : List (List Nat)) : List Int := [0, ((s.sum : Nat) : Int), ((ls.length : Nat) : Int), ((Su89.served (Su89.serve s ls) : Nat) : Int)]
theorem ok_sums {f g C : Addr} {fd gd : FuncData} (F : Fun K "sums" "Shop.sums" cSums f fd) (T : Txt K mg C) (G : FnOk P w K mg base CX0 4 g gd ["self"] (spServed C)) (bG : Binds K gd ["self"] []) (mG : Meth K C "served_now" g) : FnOk P w K mg base CX0 5 f fd ["self"] (spAsk0 C aSums) := by
  refine F.ok scSums (fun vs H Q E h => ?_) (fun cdv A outer s H vs Q E hr h => ?_)
  · obtain ⟨x, bg, s, ls, pa, la, qs, rfl, _⟩ := h
    rfl
  obtain ⟨x, bg, s, ls, pa, la, qs, rfl, S, k⟩ := h
  obtain ⟨dx, ho⟩ := S.obj
  refine ⟨_, pss_one (ps_ret (pe_lst (pa_cons pe_int (pa_cons (pe_callB (cr_sum rfl) rfl T.sum (by decide +kernel) (pa_cons (pe_fld (pv 0) rfl) pa_nil)) (pa_cons (pe_callB call_len_seq rfl T.len PySem.boot_len (pa_cons (pe_fld (pv 0) rfl) pa_nil)) (pa_cons (pe_meth0 (pv 0) T.cl mG G hr bG .nil pass0) pa_nil)))))), ?_⟩
  refine ⟨_, rfl, x, C, dx, _, _, rfl, ho, T.cl, T.nP, sf_pieces _ _ _, pa, zs s, rfl, SqL.of S.pieces, _, rfl, x, C, dx, _, _, rfl, ho, T.cl, T.nL, sf_lists _ _ _, la, _, rfl, .inl (SqL.of S.lists), ?_⟩
  refine ⟨_, rfl, x, dx, _, rfl, ho, sf_no _ _ _ (by decide +kernel) (by decide +kernel) (by decide +kernel), x, bg, s, ls, pa, la, qs, rfl, S, fun H1 s1 => ?_⟩
  refine ⟨(by show 4 ≤ sizeLine; decide), fun r hr => k.putS s1 hr ?_⟩
  rw [zs_sum, List.length_map, S.len]
  rfl
/- ### state -/
theorem scState : FnScope ["self"] ["self"] (defScope cState) := ⟨rfl, rfl, rfl, by decide +kernel, rfl, by decide +kernel, by decide +kernel⟩
noncomputable def aState (s : List Nat) (ls : List (List Nat)) : List Int := ((s.length : Nat) : Int) :: ((ls.length : Nat) : Int) :: zs s
theorem ok_state {f C : Addr} {fd : FuncData} (F : Fun K "state" "Shop.state" cState f fd) (T : Txt K mg C) : FnOk P w K mg base CX0 1 f fd ["self"] (spAsk0 C aState) := by
  refine F.ok scState (fun vs H Q E h => ?_) (fun cdv A outer s H vs Q E hr h => ?_)
  · obtain ⟨x, bg, s, ls, pa, la, qs, rfl, _⟩ := h
    rfl
  obtain ⟨x, bg, s, ls, pa, la, qs, rfl, S, k⟩ := h
  obtain ⟨dx, ho⟩ := S.obj
  refine ⟨_, pss_one (ps_ret (pe_op op_cat (pe_lst (pa_cons (pe_callB call_len_seq rfl T.len PySem.boot_len (pa_cons (pe_fld (pv 0) rfl) pa_nil)) (pa_cons (pe_callB call_len_seq rfl T.len PySem.boot_len (pa_cons (pe_fld (pv 0) rfl) pa_nil)) pa_nil))) (pe_fld (pv 0) rfl))), ?_⟩
  have five := S.five
  refine ⟨_, rfl, x, C, dx, _, _, rfl, ho, T.cl, T.nP, sf_pieces _ _ _, pa, _, rfl, .inl (SqL.of S.pieces), _, rfl, x, C, dx, _, _, rfl, ho, T.cl, T.nL, sf_lists _ _ _, la, _, rfl, .inl (SqL.of S.lists), two_le _ _, fun q hq => ?_⟩
  have s1 := same_new hq (.lst [V.int ((nats s).length : Nat), V.int ((qs.map V.ref).length : Nat)])
  refine ⟨_, rfl, x, C, dx, _, _, rfl, s1 _ _ ho, T.cl, T.nP, sf_pieces _ _ _, q, pa, _, _, rfl, rfl, upd_same, s1 _ _ S.pieces, ?_, fun r hr => k.putS s1 hr ?_⟩
  · rw [nats_len]
    refine Nat.le_of_lt (small1000 ?_)
    show 2 + _ ≤ 1000
    lia
  · rw [nats_len, List.length_map, S.len]
    rfl
end
end Sg
end
-- text SgMeth6
section
set_option Elab.async false
set_option linter.all false
set_option maxRecDepth 100000
set_option maxHeartbeats 4000000
namespace Sg
open PySem PySem.Spec PyProof.Rows L2
theorem left_len (s w : List Nat) : (leftOf s w).length = s.length := by
  unfold leftOf
  rw [List.length_map, List.length_range]
theorem cut_to {xs : List V} {i : Nat} (h : i ≤ xs.length) : cutV xs none (some (i : Int)) = xs.take i := by
  unfold cutV
  rw [HT.sIx_none, HT.sIx_nat, List.drop_zero, Nat.min_eq_left h]
  rfl
theorem cut_from {xs : List V} {i : Nat} (h : i ≤ xs.length) : cutV xs (some (i : Int)) none = xs.drop i := by
  unfold cutV
  rw [HT.sIx_none, HT.sIx_nat, Nat.min_eq_left h, List.take_of_length_le (by rw [List.length_drop]; exact Nat.le_refl _)]
theorem swap_get {α : Type} {l : List α} {i j k : Nat} {a b : α} (hi : i < l.length) (hj : j < l.length) : ((l.set i a).set j b)[k]? = if j = k then some b else if i = k then some a else l[k]? := by
  rw [List.getElem?_set, List.getElem?_set, List.length_set]
  by_cases e : j = k
  · rw [if_pos e, if_pos e, if_pos hj]
  · rw [if_neg e, if_neg e]
    by_cases e2 : i = k
    · rw [if_pos e2, if_pos e2, if_pos hi]
    · rw [if_neg e2, if_neg e2]
theorem mem_swap {α : Type} {l : List α} {i j : Nat} {a b x : α} (h : x ∈ (l.set i a).set j b) (ha : a ∈ l) (hb : b ∈ l) : x ∈ l := by
  rcases List.mem_or_eq_of_mem_set h with z | z
  · rcases List.mem_or_eq_of_mem_set z with z | z
    · exact z
    · exact z ▸ ha
  · exact z ▸ hb
noncomputable def swapL (ls : List (List Nat)) (i j : Nat) : List (List Nat) := (ls.set i (ls.getD j [])).set j (ls.getD i [])
theorem ShopAt.swapped {C : Addr} {H H' : Hp} {x : Addr} {bg : Bool} {s : List Nat} {ls : List (List Nat)} {pa la : Addr} {qs : List Addr} {i j : Nat} (S : ShopAt C H x bg s ls pa la qs) (hi : i < qs.length) (hj : j < qs.length)
    (h : H' la = some (.lst (((qs.set i qs[j]).set j qs[i]).map V.ref))) (kp : ∀ b o, H b = some o → b ≠ la → H' b = some o) : ShopAt C H' x bg s (swapL ls i j) pa la ((qs.set i qs[j]).set j qs[i]) := by
  obtain ⟨dx, ho⟩ := S.obj
  have hi' : i < ls.length := by rw [← S.len]; exact hi
  have hj' : j < ls.length := by rw [← S.len]; exact hj
  have mi : ls.getD i [] ∈ ls := List.mem_of_getElem? (getL_of hi')
  have mj : ls.getD j [] ∈ ls := List.mem_of_getElem? (getL_of hj')
  have off : ∀ q ∈ (qs.set i qs[j]).set j qs[i], q ∈ qs := fun q hq => mem_swap hq (List.getElem_mem hj) (List.getElem_mem hi)
  refine ⟨⟨dx, kp _ _ ho (ne_of ho S.lists (by intro z; cases z))⟩, kp _ _ S.pieces S.pl, h, by unfold swapL; rw [List.length_set, List.length_set, List.length_set, List.length_set, S.len], fun k q l h1 h2 => ?_, S.pl, fun q hq => S.off q (off q hq), fun p hp => S.lt p (mem_swap hp mj mi), S.five, by unfold swapL; rw [List.length_set, List.length_set]; exact S.six, fun l hl => S.told l (mem_swap hl mj mi), S.one⟩
  have hq : q ≠ la := (S.off q (off q (List.mem_of_getElem? h1))).2
  rw [swap_get hi hj] at h1
  unfold swapL at h2
  rw [swap_get hi' hj'] at h2
  refine kp _ _ ?_ hq
  by_cases e : j = k
  · rw [if_pos e] at h1 h2
    cases h1
    cases h2
    exact S.at_ i _ _ (List.getElem?_eq_getElem hi) (getL_of hi')
  · rw [if_neg e] at h1 h2
    by_cases e2 : i = k
    · rw [if_pos e2] at h1 h2
      cases h1
      cases h2
      exact S.at_ j _ _ (List.getElem?_eq_getElem hj) (getL_of hj')
    · rw [if_neg e2] at h1 h2
      exact S.at_ k q l h1 h2
section
variable {P : Program} {w : World} {K : PySem.W.Frag} {mg : Str → Option Value} {base : Heap}
/- ### serve -/
theorem scServeM : FnScope ["self", "taken"] ["self"] (defScope cServe) := ⟨rfl, rfl, rfl, by decide +kernel, rfl, by decide +kernel, by decide +kernel⟩
noncomputable def spServeM (C : Addr) : Sp := fun vs H Q _ => ∃ (x : Addr) (bg : Bool) (s : List Nat) (ls : List (List Nat)) (pa la : Addr) (qs : List Addr), vs = [.ref x] ∧ ShopAt C H x bg s ls pa la qs ∧ Post C H x pa la qs bg (leftOf s (Su89.serve s ls)) [] (aGot s ls) Q
theorem ok_serveM {f g c p C : Addr} {fd gd cd pd : FuncData} (F : Fun K "serve" "Shop.serve" cServe f fd) (T : Txt K mg C) (G : FnOk P w K mg base CX0 3 g gd ["self"] (spTaken C)) (bG : Binds K gd ["self"] []) (mG : Meth K C "taken_now" g)
    (D : FnOk P w K mg base CX0 1 c cd ["taken"] (spCount K)) (bD : Binds K cd ["taken"] []) (kD : PySem.W.keepIn K (.ref c) = true) (mD : mg "count_served" = some (.ref c))
    (L : FnOk P w K mg base CX0 1 p pd ["pieces", "taken"] (spLeft K)) (bL : Binds K pd ["pieces", "taken"] []) (kL : PySem.W.keepIn K (.ref p) = true) (mL : mg "pieces_left" = some (.ref p)) : FnOk P w K mg base CX0 4 f fd ["self"] (spServeM C) := by
  refine F.ok scServeM (fun vs H Q E h => ?_) (fun cdv A outer s H vs Q E hr h => ?_)
  · obtain ⟨x, bg, s, ls, pa, la, qs, rfl, _⟩ := h
    rfl
  obtain ⟨x, bg, s, ls, pa, la, qs, rfl, S, k⟩ := h
  obtain ⟨dx, ho⟩ := S.obj
  have hr1 : Room 1 _ := hr.mono (by decide)
  refine ⟨_, pss_cons (ps_set (i := 1) scServeM.nd rfl (Or.inl rfl) (pe_meth0 (pv 0) T.cl mG G hr bG .nil pass0))
    (pss_cons (ps_fld (pv 0) (pe_call L hr1 rfl mL kL bL .nil pass0 (pa_cons (pe_fld (pv 0) rfl) (pa_cons (pv 1) pa_nil))) rfl)
    (pss_cons (ps_fld (pv 0) (pe_lst pa_nil) rfl)
    (pss_one (ps_ret (pe_op op_cat (pe_lst (pa_cons (pe_call D hr1 rfl mD kD bD .nil pass0 (pa_cons (pv 1) pa_nil)) pa_nil)) (pv 1)))))), ?_⟩
  have five := S.five
  refine ⟨_, rfl, x, dx, _, rfl, ho, sf_no _ _ _ (by decide +kernel) (by decide +kernel) (by decide +kernel), x, bg, s, ls, pa, la, qs, rfl, S, fun t H1 s1 ht h1 => ?_⟩
  have ho1 := s1 _ _ ho
  refine ⟨_, rfl, x, C, dx, _, _, rfl, ho1, T.cl, T.nP, sf_pieces _ _ _, _, rfl, pa, t, s, _, rfl, SqL.of (s1 _ _ S.pieces), SqL.of h1, (by lia), (serve_fit ls s).2, fun u H2 s2 hu h2 => ?_⟩
  have ho2 := s2 _ _ ho1
  have h12 := s2 _ _ h1
  refine ⟨_, rfl, x, C, dx, _, rfl, ho2, T.cl, T.nP, (by rw [sf_len]; decide), ?_⟩
  rw [put_pieces]
  refine ⟨(by show 0 ≤ sizeLine; decide), fun l hl => ?_⟩
  have xl : x ≠ l := ne_of_none upd_same hl
  have hl2 : H2 l = none := by rw [upd_ne xl.symm] at hl; exact hl
  refine ⟨_, rfl, x, C, dx, _, rfl, by rw [upd_ne xl, upd_same], T.cl, T.nL, (by rw [sf_len]; decide), ?_⟩
  rw [put_lists]
  have xt : x ≠ t := ne_of_none ho ht
  have xu : x ≠ u := ne_of_none ho1 hu
  have ul : u ≠ l := ne_of_none h2 hl2
  have tl : t ≠ l := ne_of_none h12 hl2
  have st : (upd (upd (upd H2 x (.ins C dx (sf bg u la))) l (.lst [])) x (.ins C dx (sf bg u l))) t = some (.lst (nats (Su89.serve s ls))) := by
    rw [upd_ne xt.symm, upd_ne tl, upd_ne xt.symm]
    exact h12
  refine ⟨_, rfl, t, _, rfl, SqL.of st, one_le, fun q hq => ?_⟩
  have xq : x ≠ q := ne_of_none upd_same hq
  have lq : l ≠ q := by
    refine ne_of_none (o := .lst []) ?_ hq
    rw [upd_ne xl.symm, upd_same]
  have hq2 : H2 q = none := by rw [upd_ne xq.symm, upd_ne lq.symm, upd_ne xq.symm] at hq; exact hq
  refine ⟨_, rfl, q, t, _, _, rfl, rfl, upd_same, by rw [upd_ne (ne_of_none st hq)]; exact st, ?_, fun r hr' => ?_⟩
  · have six := S.six
    rw [nats_len, serve_len]
    show 1 + ls.length ≤ sizeLine
    exact Nat.le_of_lt (small1000 (by lia))
  have qr : q ≠ r := ne_of_none upd_same hr'
  rw [upd_ne qr.symm] at hr'
  have xr : x ≠ r := ne_of_none upd_same hr'
  have lr : l ≠ r := by
    refine ne_of_none (o := .lst []) ?_ hr'
    rw [upd_ne xl.symm, upd_same]
  have hr2 : H2 r = none := by rw [upd_ne xr.symm, upd_ne lr.symm, upd_ne xr.symm] at hr'; exact hr'
  have s12 := s1.trans s2
  have ur : u ≠ r := ne_of_none h2 hr2
  have uq : u ≠ q := ne_of_none h2 hq2
  refine k _ r u l [] ⟨⟨dx, by rw [upd_ne xr, upd_ne xq, upd_same]⟩, ?_, ?_, rfl, fun i q l h => (by simp at h), ul, fun q hq => (by simp at hq), fun p hp => (by simp at hp), (by rw [left_len]; exact S.five), (by decide), fun l hl => (by simp at hl), (by rw [left_len]; exact S.one)⟩ ?_ ?_ (s12.free hr2) ?_
  · rw [upd_ne ur, upd_ne uq, upd_ne xu.symm, upd_ne ul, upd_ne xu.symm]
    exact h2
  · rw [upd_ne lr, upd_ne lq, upd_ne xl.symm, upd_same]
    rfl
  · rintro b (rfl | rfl | h)
    · exact .inr (s1.free hu)
    · exact .inr (s12.free hl2)
    · simp at h
  · intro b o e hb _
    have e2 := s12 b o e
    rw [upd_ne (ne_of_none e2 hr2), upd_ne (ne_of_none e2 hq2), upd_ne hb, upd_ne (ne_of_none e2 hl2), upd_ne hb]
    exact e2
  · rw [upd_same]
    rfl
/- ### swap -/
theorem scSwap : FnScope ["self", "one", "other", "before", "goods"] ["self", "one", "other"] (defScope cSwap) := ⟨rfl, rfl, rfl, by decide +kernel, rfl, by decide +kernel, by decide +kernel⟩
noncomputable def aSwap (s : List Nat) (ls : List (List Nat)) (i j : Nat) : List Int := [((Su89.served (Su89.serve s (swapL ls i j)) : Nat) : Int), ((Su89.served (Su89.serve s ls) : Nat) : Int)]
noncomputable def spSwap (C : Addr) : Sp := fun vs H Q _ => ∃ (x : Addr) (i j : Nat) (bg : Bool) (s : List Nat) (ls : List (List Nat)) (pa la : Addr) (qs : List Addr), vs = [.ref x, .int (i : Int), .int (j : Int)] ∧ ShopAt C H x bg s ls pa la qs ∧
  if i < ls.length ∧ j < ls.length then (if i = j then Ask H Q [-22] else Post C H x pa la qs bg s (swapL ls i j) (aSwap s ls i j) Q) else Ask H Q [-2]
theorem ok_swap {f h g C : Addr} {fd hd gd : FuncData} (F : Fun K "swap" "Shop.swap" cSwap f fd) (T : Txt K mg C) (Hp' : FnOk P w K mg base CX0 1 h hd ["self", "person"] (spHasPerson C)) (bH : Binds K hd ["self", "person"] []) (mH : Meth K C "has_person" h)
    (G : FnOk P w K mg base CX0 4 g gd ["self"] (spServed C)) (bG : Binds K gd ["self"] []) (mG : Meth K C "served_now" g) : FnOk P w K mg base CX0 5 f fd ["self", "one", "other"] (spSwap C) := by
  refine F.ok scSwap (fun vs H Q E h => ?_) (fun cdv A outer s H vs Q E hr h => ?_)
  · obtain ⟨x, i, j, bg, s, ls, pa, la, qs, rfl, _⟩ := h
    rfl
  obtain ⟨x, i, j, bg, s, ls, pa, la, qs, rfl, S, k⟩ := h
  obtain ⟨dx, ho⟩ := S.obj
  obtain ⟨tn, mn⟩ := T.noneSuch
  obtain ⟨to, mo⟩ := T.out
  have hr1 : Room 1 _ := hr.mono (by decide)
  refine ⟨_, pss_cons (ps_if (PW.pt (pw_or (pt_not (pt_val (pe_meth (pv 0) T.cl mH Hp' hr1 bH .nil pass0 (pa_cons (pv 1) pa_nil)))) (pw_or1 (pt_not (pt_val (pe_meth (pv 0) T.cl mH Hp' hr1 bH .nil pass0 (pa_cons (pv 2) pa_nil))))))) (pss_one (ps_ret (pe_lst (pa_cons (pe_glob (v := .int (-2)) rfl mn ⟨_, rfl⟩) pa_nil)))) pss_nil)
    (pss_cons (ps_if (pt_cmpR op_eq (pv 1) (pv 2) (nomark _)) (pss_one (ps_ret (pe_lst (pa_cons (pe_glob (v := .int (-22)) rfl mo ⟨_, rfl⟩) pa_nil)))) pss_nil)
    (pss_cons (ps_set (i := 3) scSwap.nd rfl (Or.inl rfl) (pe_meth0 (pv 0) T.cl mG G hr bG .nil pass0))
    (pss_cons (ps_set (i := 4) scSwap.nd rfl (Or.inl rfl) (pe_ix ix_list (pe_fld (pv 0) rfl) (pv 1) (fun _ _ => rfl)))
    (pss_cons (ps_asg (pe_ix ix_list (pe_fld (pv 0) rfl) (pv 2) (fun _ _ => rfl)) (pg_sub (pe_fld (pv 0) rfl) (pv 1) set_list))
    (pss_cons (ps_asg (pv 4) (pg_sub (pe_fld (pv 0) rfl) (pv 2) set_list))
    (pss_one (ps_ret (pe_lst (pa_cons (pe_meth0 (pv 0) T.cl mG G hr bG .nil pass0) (pa_cons (pv 3) pa_nil)))))))))), ?_⟩
  refine ⟨_, rfl, x, dx, _, rfl, ho, sf_no _ _ _ (by decide +kernel) (by decide +kernel) (by decide +kernel), _, rfl, x, i, bg, s, ls, pa, la, qs, rfl, S, _, rfl, ?_⟩
  refine pt_nota (fun c => ?_) (fun c => ?_)
  · have c' : ¬ i < ls.length := of_decide_eq_false c
    rw [if_neg (fun z => c' z.1)] at k
    exact iteT ⟨one_le, fun r hr => k.one hr⟩
  have il : i < ls.length := of_decide_eq_true c
  refine ⟨_, rfl, x, dx, _, rfl, ho, sf_no _ _ _ (by decide +kernel) (by decide +kernel) (by decide +kernel), _, rfl, x, j, bg, s, ls, pa, la, qs, rfl, S, _, rfl, ?_⟩
  refine pt_nota (fun c => ?_) (fun c => ?_)
  · have c' : ¬ j < ls.length := of_decide_eq_false c
    rw [if_neg (fun z => c' z.2)] at k
    exact ⟨one_le, fun r hr => k.one hr⟩
  have jl : j < ls.length := of_decide_eq_true c
  rw [if_pos ⟨il, jl⟩] at k
  refine ⟨_, rfl, _, rfl, rfl, _, rfl, ?_⟩
  refine ite2 (fun c => ?_) (fun c => ?_)
  · have c' := V.int.inj (of_decide_eq_true c)
    rw [if_pos (by lia)] at k
    exact ⟨one_le, fun r hr => k.one hr⟩
  have ij : ¬ i = j := fun z => c (decide_eq_true (by rw [z]))
  rw [if_neg ij] at k
  have iq : i < qs.length := by rw [S.len]; exact il
  have jq : j < qs.length := by rw [S.len]; exact jl
  have ei : (qs.map V.ref)[i]? = some (V.ref qs[i]) := by rw [List.getElem?_map, List.getElem?_eq_getElem iq]; rfl
  have ej : (qs.map V.ref)[j]? = some (V.ref qs[j]) := by rw [List.getElem?_map, List.getElem?_eq_getElem jq]; rfl
  refine ⟨_, rfl, x, dx, _, rfl, ho, sf_no _ _ _ (by decide +kernel) (by decide +kernel) (by decide +kernel), x, bg, s, ls, pa, la, qs, rfl, S, fun H1 s1 => ?_⟩
  have S1 := S.same s1
  have ho1 := s1 _ _ ho
  have xl : x ≠ la := ne_of ho S.lists (by intro z; cases z)
  refine ⟨_, rfl, x, C, dx, _, _, rfl, ho1, T.cl, T.nL, sf_lists _ _ _, _, rfl, la, _, _, _, rfl, rfl, SqL.of S1.lists, atI_nat ei, ?_⟩
  refine ⟨_, rfl, x, C, dx, _, _, rfl, ho1, T.cl, T.nL, sf_lists _ _ _, _, rfl, la, _, _, _, rfl, rfl, SqL.of S1.lists, atI_nat ej, ?_⟩
  refine ⟨_, rfl, x, C, dx, _, _, rfl, ho1, T.cl, T.nL, sf_lists _ _ _, _, rfl, la, _, _, i, rfl, rfl, S1.lists, ?_, ?_⟩
  · unfold ixN
    rw [List.length_map, if_pos (by lia), if_pos (by lia)]
    congr 1
  refine ⟨_, rfl, _, rfl, x, C, dx, _, _, rfl, by rw [upd_ne xl]; exact ho1, T.cl, T.nL, sf_lists _ _ _, _, rfl, la, _, _, j, rfl, rfl, upd_same, ?_, ?_⟩
  · unfold ixN
    rw [List.length_set, List.length_map, if_pos (by lia), if_pos (by lia)]
    congr 1
  have e2 : ((qs.map V.ref).set i (V.ref qs[j])).set j (V.ref qs[i]) = ((qs.set i qs[j]).set j qs[i]).map V.ref := by rw [List.map_set, List.map_set]
  rw [e2]
  have kp : ∀ b o, H1 b = some o → b ≠ la → (upd (upd H1 la (.lst ((qs.map V.ref).set i (V.ref qs[j])))) la (.lst (((qs.set i qs[j]).set j qs[i]).map V.ref))) b = some o := fun b o e hb => by
    rw [upd_ne hb, upd_ne hb]
    exact e
  have S2 := S1.swapped (H' := upd (upd H1 la (.lst ((qs.map V.ref).set i (V.ref qs[j])))) la (.lst (((qs.set i qs[j]).set j qs[i]).map V.ref))) iq jq upd_same kp
  obtain ⟨dx2, ho2⟩ := S2.obj
  generalize upd (upd H1 la (.lst ((qs.map V.ref).set i (V.ref qs[j])))) la (.lst (((qs.set i qs[j]).set j qs[i]).map V.ref)) = H2 at kp S2 ho2
  refine ⟨_, rfl, x, dx2, _, rfl, ho2, sf_no _ _ _ (by decide +kernel) (by decide +kernel) (by decide +kernel), x, bg, s, _, pa, la, _, rfl, S2, fun H3 s3 => ?_⟩
  refine ⟨_, rfl, two_le _ _, fun r hr' => ?_⟩
  have back : ∀ b, H b ≠ none → H3 b ≠ none := fun b hb => by
    cases q : H b with
    | none => exact absurd q hb
    | some o =>
      intro z
      by_cases e : b = la
      · subst e
        rw [s3 _ _ S2.lists] at z
        cases z
      · rw [s3 _ _ (kp _ _ (s1 _ _ q) e)] at z
        cases z
  have hr0 : H r = none := by
    cases q : H r with
    | none => rfl
    | some o => exact absurd hr' (back r (by rw [q]; exact fun z => nomatch z))
  refine k _ r pa la _ (S2.same (s3.trans (same_new hr' _))) (fun b z => .inl ?_) (fun b o e hb hn => ?_) hr0 ?_
  · rcases z with z | z | z
    · exact .inl z
    · exact .inr (.inl z)
    · exact .inr (.inr (mem_swap z (List.getElem_mem jq) (List.getElem_mem iq)))
  · exact (s3.trans (same_new hr' _)) _ _ (kp _ _ (s1 _ _ e) (fun z => hn (.inr (.inl z))))
  · rw [upd_same]
    rfl
/- ### ahead -/
theorem scAhead : FnScope ["self", "person", "others", "taken"] ["self", "person"] (defScope cAhead) := ⟨rfl, rfl, rfl, by decide +kernel, rfl, by decide +kernel, by decide +kernel⟩
noncomputable def aAhead (s : List Nat) (ls : List (List Nat)) (i : Nat) : List Int := [(((Su89.serve s (ls.getD i [] :: ls.eraseIdx i)).getD 0 0 : Nat) : Int), (((Su89.serve s ls).getD i 0 : Nat) : Int), ((Su89.served (Su89.serve s (ls.getD i [] :: ls.eraseIdx i)) : Nat) : Int)]
theorem ok_ahead {f h g c v C : Addr} {fd hd gd cd vd : FuncData} (F : Fun K "ahead" "Shop.ahead" cAhead f fd) (T : Txt K mg C) (Hp' : FnOk P w K mg base CX0 1 h hd ["self", "person"] (spHasPerson C)) (bH : Binds K hd ["self", "person"] []) (mH : Meth K C "has_person" h)
    (G : FnOk P w K mg base CX0 3 g gd ["self"] (spTaken C)) (bG : Binds K gd ["self"] []) (mG : Meth K C "taken_now" g)
    (D : FnOk P w K mg base CX0 1 c cd ["taken"] (spCount K)) (bD : Binds K cd ["taken"] []) (kD : PySem.W.keepIn K (.ref c) = true) (mD : mg "count_served" = some (.ref c))
    (V' : FnOk P w K mg base CX0 2 v vd ["pieces", "lists"] (spServe K)) (bV : Binds K vd ["pieces", "lists"] []) (kV' : PySem.W.keepIn K (.ref v) = true) (mV : mg "serve_all" = some (.ref v)) : FnOk P w K mg base CX0 4 f fd ["self", "person"] (spAskP C aAhead) := by
  refine F.ok scAhead (fun vs H Q E h => ?_) (fun cdv A outer s H vs Q E hr h => ?_)
  · obtain ⟨x, i, bg, s, ls, pa, la, qs, rfl, _⟩ := h
    rfl
  obtain ⟨x, i, bg, s, ls, pa, la, qs, rfl, S, k⟩ := h
  obtain ⟨dx, ho⟩ := S.obj
  obtain ⟨tn, mn⟩ := T.noneSuch
  have hr1 : Room 1 _ := hr.mono (by decide)
  have hr2 : Room 2 _ := hr.mono (by decide)
  refine ⟨_, pss_cons (ps_if (pt_not (pt_val (pe_meth (pv 0) T.cl mH Hp' hr1 bH .nil pass0 (pa_cons (pv 1) pa_nil)))) (pss_one (ps_ret (pe_lst (pa_cons (pe_glob (v := .int (-2)) rfl mn ⟨_, rfl⟩) pa_nil)))) pss_nil)
    (pss_cons (ps_set (i := 2) scAhead.nd rfl (Or.inl rfl) (pe_op op_cat (pe_slice sl_list (pe_fld (pv 0) rfl) po_none (po_some (pv 1))) (pe_slice sl_list (pe_fld (pv 0) rfl) (po_some (pe_op op_add (pv 1) pe_int)) po_none)))
    (pss_cons (ps_set (i := 3) scAhead.nd rfl (Or.inl rfl) (pe_call V' hr2 rfl mV kV' bV .nil pass0 (pa_cons (pe_fld (pv 0) rfl) (pa_cons (pe_op op_cat (pe_lst (pa_cons (pe_ix ix_list (pe_fld (pv 0) rfl) (pv 1) (fun _ _ => rfl)) pa_nil)) (pv 2)) pa_nil))))
    (pss_one (ps_ret (pe_lst (pa_cons (pe_ix ix_list (pv 3) pe_int (fun _ _ => rfl)) (pa_cons (pe_ix ix_list (pe_meth0 (pv 0) T.cl mG G hr bG .nil pass0) (pv 1) (fun _ _ => rfl)) (pa_cons (pe_call D hr1 rfl mD kD bD .nil pass0 (pa_cons (pv 3) pa_nil)) pa_nil)))))))), ?_⟩
  refine ⟨_, rfl, x, dx, _, rfl, ho, sf_no _ _ _ (by decide +kernel) (by decide +kernel) (by decide +kernel), _, rfl, x, i, bg, s, ls, pa, la, qs, rfl, S, _, rfl, ?_⟩
  refine pt_nota (fun c => ?_) (fun c => ?_)
  · have c' : ¬ i < ls.length := of_decide_eq_false c
    rw [if_neg c'] at k
    exact ⟨one_le, fun r hr => k.one hr⟩
  have il : i < ls.length := of_decide_eq_true c
  rw [if_pos il] at k
  have six := S.six
  have iq : i < qs.length := by rw [S.len]; exact il
  have eq : (qs.map V.ref)[i]? = some (V.ref qs[i]) := by rw [List.getElem?_map, List.getElem?_eq_getElem iq]; rfl
  refine ⟨_, rfl, x, C, dx, _, _, rfl, ho, T.cl, T.nL, sf_lists _ _ _, _, rfl, _, rfl, la, _, rfl, SqL.of S.lists, fun p hp => ?_⟩
  have s1 := same_new hp (.lst (cutV (qs.map V.ref) none (some (i : Int))))
  have S1 := S.same s1
  refine ⟨_, rfl, x, C, dx, _, _, rfl, s1 _ _ ho, T.cl, T.nL, sf_lists _ _ _, _, rfl, _, _, rfl, rfl, _, rfl, la, _, rfl, SqL.of S1.lists, fun p2 hp2 => ?_⟩
  have s2 := same_new hp2 (.lst (cutV (qs.map V.ref) (some ((i : Int) + 1)) none))
  have ec1 : cutV (qs.map V.ref) none (some (i : Int)) = (qs.map V.ref).take i := cut_to (by rw [List.length_map]; lia)
  have ec2 : cutV (qs.map V.ref) (some ((i : Int) + 1)) none = (qs.map V.ref).drop (i + 1) := cut_from (i := i + 1) (by rw [List.length_map]; lia)
  refine ⟨p, p2, _, _, rfl, rfl, s2 _ _ upd_same, upd_same, ?_, fun p3 hp3 => ?_⟩
  · have l1 := cutV_length (qs.map V.ref) none (some (i : Int))
    have l2 := cutV_length (qs.map V.ref) (some ((i : Int) + 1)) none
    rw [List.length_map, S.len] at l1 l2
    exact Nat.le_of_lt (small1000 (by lia))
  have eo : cutV (qs.map V.ref) none (some (i : Int)) ++ cutV (qs.map V.ref) (some ((i : Int) + 1)) none = (qs.eraseIdx i).map V.ref := by
    rw [ec1, ec2, ← erase_map, List.eraseIdx_eq_take_drop_succ]
  rw [eo]
  have s3 := same_new hp3 (.lst ((qs.eraseIdx i).map V.ref))
  have s13 := (s1.trans s2).trans s3
  have S3 := S.same s13
  have h3 : upd (upd (upd H p (.lst (cutV (qs.map V.ref) none (some (i : Int))))) p2 (.lst (cutV (qs.map V.ref) (some ((i : Int) + 1)) none))) p3 (.lst ((qs.eraseIdx i).map V.ref)) p3 = some (.lst ((qs.eraseIdx i).map V.ref)) := upd_same
  generalize upd (upd (upd H p (.lst (cutV (qs.map V.ref) none (some (i : Int))))) p2 (.lst (cutV (qs.map V.ref) (some ((i : Int) + 1)) none))) p3 (.lst ((qs.eraseIdx i).map V.ref)) = H3 at s13 S3 h3
  refine ⟨_, rfl, x, C, dx, _, _, rfl, s13 _ _ ho, T.cl, T.nP, sf_pieces _ _ _, _, rfl, x, C, dx, _, _, rfl, s13 _ _ ho, T.cl, T.nL, sf_lists _ _ _, _, rfl, la, _, _, _, rfl, rfl, SqL.of S3.lists, atI_nat eq, one_le, fun p4 hp4 => ?_⟩
  refine ⟨_, rfl, p4, p3, _, _, rfl, rfl, upd_same, by rw [upd_ne (ne_of_none h3 hp4)]; exact h3, ?_, fun p5 hp5 => ?_⟩
  · rw [List.length_map, List.length_eraseIdx, if_pos iq, S.len]
    refine Nat.le_of_lt (small1000 ?_)
    show 1 + _ ≤ 1000
    lia
  have s5 : Same H (upd (upd H3 p4 (.lst [V.ref qs[i]])) p5 (.lst ([V.ref qs[i]] ++ (qs.eraseIdx i).map V.ref))) := (s13.trans (same_new hp4 _)).trans (same_new hp5 _)
  have h5 : upd (upd H3 p4 (.lst [V.ref qs[i]])) p5 (.lst ([V.ref qs[i]] ++ (qs.eraseIdx i).map V.ref)) p5 = some (.lst ((qs[i] :: qs.eraseIdx i).map V.ref)) := upd_same
  generalize upd (upd H3 p4 (.lst [V.ref qs[i]])) p5 (.lst ([V.ref qs[i]] ++ (qs.eraseIdx i).map V.ref)) = H5 at s5 h5
  have S5 := S.same s5
  have L5 : Lists K H5 (qs[i] :: qs.eraseIdx i) (ls.getD i [] :: ls.eraseIdx i) := by
    refine ⟨by rw [List.length_cons, List.length_cons, List.length_eraseIdx, List.length_eraseIdx, if_pos iq, if_pos il, S.len], fun j q l h1 h2 => ?_⟩
    cases j with
    | zero =>
      cases h1
      cases h2
      exact SqL.of (S5.at_ i _ _ (List.getElem?_eq_getElem iq) (getL_of il))
    | succ j =>
      have h1' : (qs.eraseIdx i)[j]? = some q := h1
      have h2' : (ls.eraseIdx i)[j]? = some l := h2
      rw [List.getElem?_eraseIdx] at h1' h2'
      by_cases z : j < i
      · rw [if_pos z] at h1' h2'
        exact SqL.of (S5.at_ j q l h1' h2')
      · rw [if_neg z] at h1' h2'
        exact SqL.of (S5.at_ (j + 1) q l h1' h2')
  have G5 : Goods s.length (ls.getD i [] :: ls.eraseIdx i) := fun p hp => by
    rcases List.mem_cons.mp hp with z | z
    · exact S.lt p (z ▸ List.mem_of_getElem? (getL_of il))
    · exact S.lt p (List.mem_of_mem_eraseIdx z)
  have len5 : (ls.getD i [] :: ls.eraseIdx i).length = ls.length := by
    rw [List.length_cons, List.length_eraseIdx, if_pos il]
    lia
  refine ⟨pa, p5, s, _, _, rfl, SqL.of S5.pieces, SqL.of h5, L5, G5, by rw [len5]; lia, fun b H6 s6 hb h6 => ?_⟩
  have hv := get_of (l := Su89.serve s (ls.getD i [] :: ls.eraseIdx i)) (i := 0) (by rw [serve_len, len5]; lia)
  have hv' := get_of (l := Su89.serve s ls) (i := i) (by rw [serve_len]; exact il)
  have s56 := s5.trans s6
  refine ⟨_, rfl, b, _, _, _, rfl, rfl, SqL.of h6, atI_nat (j := 0) (nats_get hv), ?_⟩
  refine ⟨_, rfl, x, dx, _, rfl, s56 _ _ ho, sf_no _ _ _ (by decide +kernel) (by decide +kernel) (by decide +kernel), x, bg, s, ls, pa, la, qs, rfl, S.same s56, fun t H7 s7 ht h7 => ?_⟩
  refine ⟨_, rfl, t, _, _, _, rfl, rfl, SqL.of h7, atI_nat (nats_get hv'), _, rfl, b, _, rfl, SqL.of (s7 _ _ h6), (by show 3 ≤ sizeLine; decide), fun r hr => ?_⟩
  exact k.putS (s56.trans s7) hr rfl
/- ### lay -/
theorem scLay : FnScope ["self", "count", "stock"] ["self", "count"] (defScope cLay) := ⟨rfl, rfl, rfl, by decide +kernel, rfl, by decide +kernel, by decide +kernel⟩
noncomputable def aLay (s : List Nat) (ls : List (List Nat)) (n : Nat) : List Int := ((Su89.served (Su89.serve (layOf s.length n ls) ls) : Nat) : Int) :: zs (layOf s.length n ls)
noncomputable def spLay (C : Addr) : Sp := fun vs H Q _ => ∃ (x : Addr) (n : Nat) (s : List Nat) (ls : List (List Nat)) (pa la : Addr) (qs : List Addr), vs = [.ref x, .int (n : Int)] ∧ ShopAt C H x true s ls pa la qs ∧
  if 8 < n then Ask H Q [-22] else Ask H Q (aLay s ls n)
theorem foldl_mem {α : Type} (f : α → α → α) (hf : ∀ a b, f a b = a ∨ f a b = b) : ∀ (l : List α) (a : α), l.foldl f a = a ∨ l.foldl f a ∈ l
  | [], a => .inl rfl
  | x :: l, a => by
    rw [List.foldl_cons]
    rcases foldl_mem f hf l (f a x) with h | h
    · rw [h]
      rcases hf a x with e | e
      · exact .inl e
      · rw [e]
        exact .inr (by simp)
    · exact .inr (by simp [h])
theorem lay_len {g c : Nat} (ls : List (List Nat)) (h1 : 1 ≤ g) (hg : g ≤ 5) (hc : c ≤ 8) : (layOf g c ls).length = g := by
  have so := stocks_some h1 hg hc
  have hf : ∀ a b, better ls a b = a ∨ better ls a b = b := fun a b => by
    unfold better
    split
    · exact .inr rfl
    · exact .inl rfl
  refine stocks_len g c _ ?_
  unfold layOf
  rcases foldl_mem (better ls) hf ((Su89.stocks c g).drop 1) ((Su89.stocks c g).headD []) with h | h
  · rw [h]
    cases e : Su89.stocks c g with
    | nil => rw [e] at so; simp at so
    | cons a l => exact List.mem_cons_self ..
  · exact List.mem_of_mem_drop h
theorem ok_lay {f b c v C : Addr} {fd bd cd vd : FuncData} (F : Fun K "lay" "Shop.lay" cLay f fd) (T : Txt K mg C) (B : FnOk P w K mg base CX0 6 b bd ["goods", "count", "lists"] (spBest K)) (bB : Binds K bd ["goods", "count", "lists"] []) (kB : PySem.W.keepIn K (.ref b) = true) (mB : mg "best_stock" = some (.ref b))
    (D : FnOk P w K mg base CX0 1 c cd ["taken"] (spCount K)) (bD : Binds K cd ["taken"] []) (kD : PySem.W.keepIn K (.ref c) = true) (mD : mg "count_served" = some (.ref c))
    (V' : FnOk P w K mg base CX0 2 v vd ["pieces", "lists"] (spServe K)) (bV : Binds K vd ["pieces", "lists"] []) (kV' : PySem.W.keepIn K (.ref v) = true) (mV : mg "serve_all" = some (.ref v)) : FnOk P w K mg base CX0 7 f fd ["self", "count"] (spLay C) := by
  refine F.ok scLay (fun vs H Q E h => ?_) (fun cdv A outer s H vs Q E hr h => ?_)
  · obtain ⟨x, n, s, ls, pa, la, qs, rfl, _⟩ := h
    rfl
  obtain ⟨x, n, s, ls, pa, la, qs, rfl, S, k⟩ := h
  obtain ⟨dx, ho⟩ := S.obj
  obtain ⟨to, mo⟩ := T.out
  obtain ⟨tl, ml⟩ := T.laid
  have hr1 : Room 1 _ := hr.mono (by decide)
  have hr2 : Room 2 _ := hr.mono (by decide)
  refine ⟨_, pss_cons (ps_if (pt_cmpR op_gt (pv 1) (pe_glob (v := .int 8) rfl ml ⟨_, rfl⟩) (nomark _)) (pss_one (ps_ret (pe_lst (pa_cons (pe_glob (v := .int (-22)) rfl mo ⟨_, rfl⟩) pa_nil)))) pss_nil)
    (pss_cons (ps_set (i := 2) scLay.nd rfl (Or.inl rfl) (pe_call B hr rfl mB kB bB .nil pass0 (pa_cons (pe_callB call_len_seq rfl T.len PySem.boot_len (pa_cons (pe_fld (pv 0) rfl) pa_nil)) (pa_cons (pv 1) (pa_cons (pe_fld (pv 0) rfl) pa_nil)))))
    (pss_one (ps_ret (pe_op op_cat (pe_lst (pa_cons (pe_call D hr1 rfl mD kD bD .nil pass0 (pa_cons (pe_call V' hr2 rfl mV kV' bV .nil pass0 (pa_cons (pv 2) (pa_cons (pe_fld (pv 0) rfl) pa_nil))) pa_nil)) pa_nil)) (pv 2))))), ?_⟩
  refine ⟨_, rfl, _, _, rfl, rfl, _, rfl, ?_⟩
  refine ite2 (fun c => ?_) (fun c => ?_)
  · have c' : (8 : Int) < (n : Int) := of_decide_eq_true c
    rw [if_pos (by lia)] at k
    exact ⟨one_le, fun r hr => k.one hr⟩
  have c2 : ¬ (8 : Int) < (n : Int) := of_decide_eq_false (Bool.eq_false_iff.mpr c)
  rw [if_neg (by lia)] at k
  have Z := S.stock (K := K)
  have one := S.one rfl
  have five := S.five
  have gl := lay_len (g := s.length) (c := n) ls one five (by lia)
  refine ⟨_, rfl, x, C, dx, _, _, rfl, ho, T.cl, T.nP, sf_pieces _ _ _, pa, _, rfl, .inl (SqL.of S.pieces), _, rfl, _, rfl, x, C, dx, _, _, rfl, ho, T.cl, T.nL, sf_lists _ _ _, s.length, n, la, qs, ls, by rw [nats_len]; rfl, one, five, (by lia), Z.lists, Z.goods, Z.lt, Z.few, fun t H1 s1 ht h1 => ?_⟩
  have Z1 := Z.same s1
  refine ⟨_, rfl, _, rfl, x, C, dx, _, _, rfl, s1 _ _ ho, T.cl, T.nL, sf_lists _ _ _, t, la, _, qs, ls, rfl, SqL.of h1, Z1.lists, Z1.goods, by rw [gl]; exact S.lt, Z.few, fun a H2 s2 ha h2 => ?_⟩
  have h12 := s2 _ _ h1
  refine ⟨a, _, rfl, SqL.of h2, one_le, fun q hq => ⟨_, rfl, q, t, _, _, rfl, rfl, upd_same, by rw [upd_ne (ne_of_none h12 hq)]; exact h12, ?_, fun r hr => ?_⟩⟩
  · rw [nats_len, gl]
    refine Nat.le_of_lt (small1000 ?_)
    show 1 + _ ≤ 1000
    lia
  · exact k.putS ((s1.trans s2).trans (same_new hq _)) hr rfl
/- ### wanted -/
theorem scWanted : FnScope ["self", "good", "first", "anywhere", "goods"] ["self", "good"] (defScope cWanted) := ⟨rfl, rfl, rfl, by decide +kernel, rfl, by decide +kernel, by decide +kernel⟩
noncomputable def aWanted (s : List Nat) (ls : List (List Nat)) (g : Nat) : List Int := [(((ls.filter fun l => l.headD g == g && l.length != 0).length : Nat) : Int), (((ls.filter fun l => l.contains g).length : Nat) : Int)]
theorem in_nats (l : List Nat) (g : Nat) : inV (.int (g : Int)) (nats l) = l.contains g := by
  unfold inV
  induction l with
  | nil => rfl
  | cons a l ih =>
    rw [nats_cons, List.any_cons, ih, eqV_nat, List.contains_cons]
    congr 1
    by_cases h : a = g
    · subst h; simp
    · rw [decide_eq_false h]
      exact (by simpa using fun z => h z.symm : (g == a) = false).symm
theorem filter_take {p : List Nat → Bool} {ls : List (List Nat)} {i : Nat} {l : List Nat} (h : ls[i]? = some l) : ((ls.take (i + 1)).filter p).length = ((ls.take i).filter p).length + if p l = true then 1 else 0 := by
  rw [take_snoc h, List.filter_append, List.length_append, List.filter_cons]
  by_cases e : p l = true
  · rw [if_pos e, if_pos e]; rfl
  · rw [if_neg e, if_neg e]; rfl
theorem filter_few (p : List Nat → Bool) (ls : List (List Nat)) (i : Nat) : ((ls.take i).filter p).length ≤ ls.length := by
  have h1 := List.length_filter_le p (ls.take i)
  rw [List.length_take] at h1
  lia
theorem ok_wanted {f h C : Addr} {fd hd : FuncData} (F : Fun K "wanted" "Shop.wanted" cWanted f fd) (T : Txt K mg C) (Hg : FnOk P w K mg base CX0 1 h hd ["self", "good"] (spHasGood C)) (bH : Binds K hd ["self", "good"] []) (mH : Meth K C "has_good" h) :
    FnOk P w K mg base CX0 2 f fd ["self", "good"] (spAskG C aWanted) := by
  refine F.ok scWanted (fun vs H Q E h => ?_) (fun cdv A outer s H vs Q E hr h => ?_)
  · obtain ⟨x, g, bg, s, ls, pa, la, qs, rfl, _⟩ := h
    rfl
  obtain ⟨x, g, bg, s, ls, pa, la, qs, rfl, S, k⟩ := h
  obtain ⟨dx, ho⟩ := S.obj
  obtain ⟨tn, mn⟩ := T.noneSuch
  refine ⟨_, pss_cons (ps_if (pt_not (pt_val (pe_meth (pv 0) T.cl mH Hg hr bH .nil pass0 (pa_cons (pv 1) pa_nil)))) (pss_one (ps_ret (pe_lst (pa_cons (pe_glob (v := .int (-2)) rfl mn ⟨_, rfl⟩) pa_nil)))) pss_nil)
    (pss_cons (ps_setLc (i := 2) (own := [("goods", 4)]) rfl scWanted.nd rfl rfl (sw_true rfl rfl rfl (by decide +kernel)) (pi_list (pe_fld (pv 0) rfl)) (blkOk_by (N := ["self", "good", "first", "anywhere", "goods"]) (sc := defScope cWanted) (by decide +kernel))
      (fun s H C cl fp => pg_name (i := 4) scWanted.nd rfl (Or.inl rfl)) (fun s H C cl fp => pts_one (pt_cmpR op_eq (pe_ix (r := rIxL K) ix_list (pv 4) pe_int (fun _ _ => rfl)) (pv 1) (nomark _))) (fun s H C cl fp => pv 4))
    (pss_cons (ps_setLc (i := 3) (own := [("goods", 4)]) rfl scWanted.nd rfl rfl (sw_true rfl rfl rfl (by decide +kernel)) (pi_list (pe_fld (pv 0) rfl)) (blkOk_by (N := ["self", "good", "first", "anywhere", "goods"]) (sc := defScope cWanted) (by decide +kernel))
      (fun s H C cl fp => pg_name (i := 4) scWanted.nd rfl (Or.inl rfl)) (fun s H C cl fp => pts_one (pt_cmpR (r := rIn K false) op_in_seq (pv 1) (pv 4) rfl)) (fun s H C cl fp => pv 4))
    (pss_one (ps_ret (pe_lst (pa_cons (pe_callB call_len_seq rfl T.len PySem.boot_len (pa_cons (pv 2) pa_nil)) (pa_cons (pe_callB call_len_seq rfl T.len PySem.boot_len (pa_cons (pv 3) pa_nil)) pa_nil))))))), ?_⟩
  refine ⟨_, rfl, x, dx, _, rfl, ho, sf_no _ _ _ (by decide +kernel) (by decide +kernel) (by decide +kernel), _, rfl, x, g, bg, s, ls, pa, la, qs, rfl, S, _, rfl, ?_⟩
  refine pt_nota (fun c => ?_) (fun c => ?_)
  · have c' : ¬ g < s.length := of_decide_eq_false c
    rw [if_pos (by lia)] at k
    exact ⟨one_le, fun r hr => k.one hr⟩
  have gl : g < s.length := of_decide_eq_true c
  rw [if_neg (by lia)] at k
  have six := S.six
  have Z := S.stock (K := K)
  have ql : (qs.map V.ref).length = ls.length := by rw [List.length_map, S.len]
  refine ⟨_, rfl, x, C, dx, _, _, rfl, ho, T.cl, T.nL, sf_lists _ _ _, la, rfl, ⟨_, Z.lists⟩, fun D hD => ?_⟩
  refine lc_list (K := K) (a := la) (xs := qs.map V.ref) (fun i H' => Same H H' ∧ ∃ acc : List V, H' D = some (.lst acc) ∧ acc.length = ((ls.take i).filter fun l => l.headD g == g && l.length != 0).length)
    ⟨same_new hD _, [], upd_same, rfl⟩ (fun i H' _ hq => by obtain ⟨s1, _⟩ := hq; exact s1.seq Z.lists) ?_ ?_
  · rintro i y H' hi ⟨s1, acc, h1, e1⟩
    obtain ⟨q, l, rfl, hq, hl, hs⟩ := Z.goods.get hi
    have tl := S.told l (List.mem_of_getElem? hl)
    have l0 : l[0]? = some (l.headD g) := by
      cases l with
      | nil => simp at tl
      | cons a l => rfl
    refine ⟨rfl, _, rfl, q, _, _, _, rfl, rfl, s1.seq hs, atI_nat (j := 0) (nats_get l0), _, rfl, rfl, _, rfl, ?_⟩
    rw [filter_take hl]
    have few := filter_few (fun l => l.headD g == g && l.length != 0) ls i
    refine ite2 (fun c => ?_) (fun c => ?_)
    · have c' := V.int.inj (of_decide_eq_true c)
      rw [if_pos (by rw [Bool.and_eq_true, beq_iff_eq, bne_iff_ne]; lia)]
      exact ⟨_, rfl, acc, h1, small1000 (by lia), same_upd s1 hD _, _, upd_same, by rw [List.length_append, e1]; rfl⟩
    · have c' : ¬ l.headD g = g := fun z => c (decide_eq_true (by rw [z]))
      rw [if_neg (by rw [Bool.and_eq_true, beq_iff_eq]; exact fun z => c' z.1)]
      exact ⟨s1, acc, h1, e1⟩
  rintro H1 ⟨s1, acc, h1, e1⟩
  rw [ql, List.take_length] at e1
  refine ⟨_, rfl, x, C, dx, _, _, rfl, s1 _ _ ho, T.cl, T.nL, sf_lists _ _ _, la, rfl, ⟨_, s1.seq Z.lists⟩, fun D2 hD2 => ?_⟩
  refine lc_list (K := K) (a := la) (xs := qs.map V.ref) (fun i H' => Same H1 H' ∧ ∃ acc : List V, H' D2 = some (.lst acc) ∧ acc.length = ((ls.take i).filter fun l => l.contains g).length)
    ⟨same_new hD2 _, [], upd_same, rfl⟩ (fun i H' _ hq => by obtain ⟨s2, _⟩ := hq; exact (s1.trans s2).seq Z.lists) ?_ ?_
  · rintro i y H' hi ⟨s2, acc2, h2, e2⟩
    obtain ⟨q, l, rfl, hq, hl, hs⟩ := Z.goods.get hi
    refine ⟨rfl, _, rfl, _, rfl, q, _, rfl, .inl ((s1.trans s2).seq hs), rfl, nats_flat l, _, rfl, ?_⟩
    rw [filter_take hl]
    have few := filter_few (fun l => l.contains g) ls i
    have ec := in_nats l g
    refine ite2 (fun c => ?_) (fun c => ?_)
    · have c' : inV (.int (g : Int)) (nats l) = true := c
      rw [ec] at c'
      rw [if_pos c']
      exact ⟨_, rfl, acc2, h2, small1000 (by lia), same_upd s2 hD2 _, _, upd_same, by rw [List.length_append, e2]; rfl⟩
    · have c' : ¬ inV (.int (g : Int)) (nats l) = true := c
      rw [ec] at c'
      rw [if_neg c']
      exact ⟨s2, acc2, h2, e2⟩
  rintro H2 ⟨s2, acc2, h2, e2⟩
  rw [ql, List.take_length] at e2
  refine ⟨_, rfl, D, _, rfl, .inl (SqL.of (s2 _ _ h1)), _, rfl, D2, _, rfl, .inl (SqL.of h2), two_le _ _, fun r hr => ?_⟩
  refine k.putS (s1.trans s2) hr ?_
  rw [e1, e2]
  rfl
end
end Sg
end
-- text SgStore1
section
set_option Elab.async false
set_option linter.all false
set_option maxRecDepth 100000
set_option maxHeartbeats 4000000
namespace Sg
open PySem PySem.Spec PyProof.Rows L2
/- ### a call, as the line has it -/
noncomputable def encC : Su89.Call → List (List Int)
  | .begin_ a => [[0, (a : Int)]]
  | .put a b => [[1, (a : Int), (b : Int)]]
  | .person l => [[2], zs l]
  | .drop a => [[3, (a : Int)]]
  | .got => [[4]]
  | .lost => [[5]]
  | .left => [[6]]
  | .most => [[7]]
  | .plus a => [[8, (a : Int)]]
  | .told a l => [[9, (a : Int)], zs l]
  | .ahead a => [[10, (a : Int)]]
  | .lay a => [[11, (a : Int)]]
  | .ranks => [[12]]
  | .swap a b => [[13, (a : Int), (b : Int)]]
  | .needed => [[14]]
  | .wanted a => [[15, (a : Int)]]
  | .look a => [[16, (a : Int)]]
  | .serve => [[17]]
  | .sums => [[18]]
  | .state => [[19]]
/- its numbers behind its own -/
noncomputable def restC : Su89.Call → List Int
  | .begin_ a => [(a : Int)]
  | .put a b => [(a : Int), (b : Int)]
  | .person l => ((l.length : Nat) : Int) :: zs l
  | .drop a => [(a : Int)]
  | .got => []
  | .lost => []
  | .left => []
  | .most => []
  | .plus a => [(a : Int)]
  | .told a l => (a : Int) :: ((l.length : Nat) : Int) :: zs l
  | .ahead a => [(a : Int)]
  | .lay a => [(a : Int)]
  | .ranks => []
  | .swap a b => [(a : Int), (b : Int)]
  | .needed => []
  | .wanted a => [(a : Int)]
  | .look a => [(a : Int)]
  | .serve => []
  | .sums => []
  | .state => []
noncomputable def numOf : Su89.Call → Nat
  | .begin_ _ => 0
  | .put _ _ => 1
  | .person _ => 2
  | .drop _ => 3
  | .got => 4
  | .lost => 5
  | .left => 6
  | .most => 7
  | .plus _ => 8
  | .told _ _ => 9
  | .ahead _ => 10
  | .lay _ => 11
  | .ranks => 12
  | .swap _ _ => 13
  | .needed => 14
  | .wanted _ => 15
  | .look _ => 16
  | .serve => 17
  | .sums => 18
  | .state => 19
noncomputable def wholeOf : Su89.Call → Nat
  | .begin_ _ => 1
  | .put _ _ => 2
  | .person _ => 0
  | .drop _ => 1
  | .got => 0
  | .lost => 0
  | .left => 0
  | .most => 0
  | .plus _ => 1
  | .told _ _ => 1
  | .ahead _ => 1
  | .lay _ => 1
  | .ranks => 0
  | .swap _ _ => 2
  | .needed => 0
  | .wanted _ => 1
  | .look _ => 1
  | .serve => 0
  | .sums => 0
  | .state => 0
noncomputable def flatC (y : Su89.Call) : List Int := ((numOf y : Nat) : Int) :: restC y
/- lists are short -/
noncomputable def SmallC : Su89.Call → Prop
  | .person l => l.length ≤ 8
  | .told _ l => l.length ≤ 8
  | _ => True
theorem lrow_zs (l : List Nat) : lrow (zs l) = ((l.length : Nat) : Int) :: zs l := by unfold lrow; rw [zs_len]
theorem flat_enc (y : Su89.Call) : flat (encC y) = flatC y := by
  cases y with
  | person l =>
    show [(2 : Int)] ++ (lrow (zs l) ++ []) = (2 : Int) :: ((l.length : Nat) : Int) :: zs l
    rw [List.append_nil, lrow_zs]
    rfl
  | told i l =>
    show [(9 : Int), (i : Int)] ++ (lrow (zs l) ++ []) = (9 : Int) :: (i : Int) :: ((l.length : Nat) : Int) :: zs l
    rw [List.append_nil, lrow_zs]
    rfl
  | _ => rfl
theorem zs_back (l : List Nat) : (zs l).map Int.toNat = l := by
  unfold zs
  rw [List.map_map]
  have e : (Int.toNat ∘ fun (n : Nat) => (n : Int)) = id := by funext n; rfl
  rw [e, List.map_id]
theorem call_enc (y : Su89.Call) : Su89Neutral.callOf ((PySu89.whole (encC y)).headD []) = some y := by
  cases y with
  | person l =>
    show some (Su89.Call.person ((zs l).map Int.toNat)) = _
    rw [zs_back]
  | told i l =>
    show some (Su89.Call.told i ((zs l).map Int.toNat)) = _
    rw [zs_back]
  | _ => rfl
noncomputable def ansOf (a : Su89.Ans) : List Int := a.value :: zs a.out
theorem step_enc (s : Option Su89.Abs) (y : Su89.Call) : Su89Neutral.step s ((PySu89.whole (encC y)).headD []) = ((Su89.step s y).1, ansOf (Su89.step s y).2) := by
  unfold Su89Neutral.step
  rw [call_enc]
  rfl
/- ### every call that may be handed in is such a one -/
theorem len0 {α : Type} {l : List α} (h : l.length = 0) : l = [] := List.length_eq_zero_iff.mp h
theorem len1 {α : Type} {l : List α} (h : l.length = 1) : ∃ a, l = [a] := List.length_eq_one_iff.mp h
theorem len2 {α : Type} {l : List α} (h : l.length = 2) : ∃ a b, l = [a, b] := by
  match l, h with
  | [a, b], _ => exact ⟨a, b, rfl⟩
theorem in_nat {hi z : Int} (h : PyInside.within 0 hi z = true) : ∃ n : Nat, z = (n : Int) := by
  unfold PyInside.within at h
  rw [Bool.and_eq_true] at h
  have := of_decide_eq_true h.1
  exact ⟨z.toNat, by lia⟩
theorem in_nats_all {hi : Int} : ∀ {r : List Int}, r.all (PyInside.within 0 hi) = true → ∃ l : List Nat, r = zs l
  | [], _ => ⟨[], rfl⟩
  | z :: r, h => by
    rw [List.all_cons, Bool.and_eq_true] at h
    obtain ⟨n, rfl⟩ := in_nat h.1
    obtain ⟨l, rfl⟩ := in_nats_all h.2
    exact ⟨n :: l, rfl⟩
theorem in1 {hi z : Int} {b : Bool} (h : (PyInside.each [(0, hi)] [z] && b) = true) : ∃ n : Nat, z = (n : Int) := by
  have h' : ((PyInside.within 0 hi z && true) && b) = true := h
  rw [Bool.and_eq_true, Bool.and_eq_true] at h'
  exact in_nat h'.1.1
theorem in2 {hi hi' z y : Int} {b : Bool} (h : (PyInside.each [(0, hi), (0, hi')] [z, y] && b) = true) : ∃ n m : Nat, z = (n : Int) ∧ y = (m : Int) := by
  have h' : ((PyInside.within 0 hi z && (PyInside.within 0 hi' y && true)) && b) = true := h
  rw [Bool.and_eq_true, Bool.and_eq_true, Bool.and_eq_true] at h'
  obtain ⟨n, hn⟩ := in_nat h'.1.1
  obtain ⟨m, hm⟩ := in_nat h'.1.2.1
  exact ⟨n, m, hn, hm⟩
theorem inL {hi : Int} {r : List Int} {b : Bool} (h : (b && PyInside.lists [(0, hi, 0, 8)] [r]) = true) : ∃ l : List Nat, r = zs l ∧ l.length ≤ 8 := by
  have h' : (b && (((decide (0 ≤ r.length) && decide (r.length ≤ 8)) && r.all (PyInside.within 0 hi)) && true)) = true := h
  rw [Bool.and_eq_true, Bool.and_eq_true, Bool.and_eq_true, Bool.and_eq_true] at h'
  obtain ⟨l, rfl⟩ := in_nats_all h'.2.1.2
  have := of_decide_eq_true h'.2.1.1.2
  rw [zs_len] at this
  exact ⟨l, rfl, this⟩
theorem form_of {c : List (List Int)} (sh : Shaped PySu89.shape c) (hb : PyInside.call PySu89.bound c = true) : ∃ y : Su89.Call, c = encC y ∧ SmallC y := by
  obtain ⟨p, xs, rows, n, k, rfl, hs, hx, hr⟩ := sh.ex
  have hb : (PyInside.each (PySu89.bound p).1 xs && PyInside.lists (PySu89.bound p).2 rows) = true := hb
  by_cases e0 : p = 0
  · subst e0
    cases (show some (1, 0) = some (n, k) from hs)
    obtain ⟨z, rfl⟩ := len1 hx
    rw [len0 hr] at hb ⊢
    obtain ⟨a, rfl⟩ := in1 hb
    exact ⟨.begin_ a, rfl, trivial⟩
  by_cases e1 : p = 1
  · subst e1
    cases (show some (2, 0) = some (n, k) from hs)
    obtain ⟨z, y, rfl⟩ := len2 hx
    rw [len0 hr] at hb ⊢
    obtain ⟨a, b, rfl, rfl⟩ := in2 hb
    exact ⟨.put a b, rfl, trivial⟩
  by_cases e2 : p = 2
  · subst e2
    cases (show some (0, 1) = some (n, k) from hs)
    obtain ⟨r, rfl⟩ := len1 hr
    rw [len0 hx] at hb ⊢
    obtain ⟨l, rfl, hl⟩ := inL hb
    exact ⟨.person l, rfl, hl⟩
  by_cases e3 : p = 3
  · subst e3
    cases (show some (1, 0) = some (n, k) from hs)
    obtain ⟨z, rfl⟩ := len1 hx
    rw [len0 hr] at hb ⊢
    obtain ⟨a, rfl⟩ := in1 hb
    exact ⟨.drop a, rfl, trivial⟩
  by_cases e4 : p = 4
  · subst e4
    cases (show some (0, 0) = some (n, k) from hs)
    rw [len0 hx, len0 hr]
    exact ⟨.got, rfl, trivial⟩
  by_cases e5 : p = 5
  · subst e5
    cases (show some (0, 0) = some (n, k) from hs)
    rw [len0 hx, len0 hr]
    exact ⟨.lost, rfl, trivial⟩
  by_cases e6 : p = 6
  · subst e6
    cases (show some (0, 0) = some (n, k) from hs)
    rw [len0 hx, len0 hr]
    exact ⟨.left, rfl, trivial⟩
  by_cases e7 : p = 7
  · subst e7
    cases (show some (0, 0) = some (n, k) from hs)
    rw [len0 hx, len0 hr]
    exact ⟨.most, rfl, trivial⟩
  by_cases e8 : p = 8
  · subst e8
    cases (show some (1, 0) = some (n, k) from hs)
    obtain ⟨z, rfl⟩ := len1 hx
    rw [len0 hr] at hb ⊢
    obtain ⟨a, rfl⟩ := in1 hb
    exact ⟨.plus a, rfl, trivial⟩
  by_cases e9 : p = 9
  · subst e9
    cases (show some (1, 1) = some (n, k) from hs)
    obtain ⟨r, rfl⟩ := len1 hr
    obtain ⟨z, rfl⟩ := len1 hx
    obtain ⟨l, rfl, hl⟩ := inL hb
    obtain ⟨a, rfl⟩ := in1 hb
    exact ⟨.told a l, rfl, hl⟩
  by_cases e10 : p = 10
  · subst e10
    cases (show some (1, 0) = some (n, k) from hs)
    obtain ⟨z, rfl⟩ := len1 hx
    rw [len0 hr] at hb ⊢
    obtain ⟨a, rfl⟩ := in1 hb
    exact ⟨.ahead a, rfl, trivial⟩
  by_cases e11 : p = 11
  · subst e11
    cases (show some (1, 0) = some (n, k) from hs)
    obtain ⟨z, rfl⟩ := len1 hx
    rw [len0 hr] at hb ⊢
    obtain ⟨a, rfl⟩ := in1 hb
    exact ⟨.lay a, rfl, trivial⟩
  by_cases e12 : p = 12
  · subst e12
    cases (show some (0, 0) = some (n, k) from hs)
    rw [len0 hx, len0 hr]
    exact ⟨.ranks, rfl, trivial⟩
  by_cases e13 : p = 13
  · subst e13
    cases (show some (2, 0) = some (n, k) from hs)
    obtain ⟨z, y, rfl⟩ := len2 hx
    rw [len0 hr] at hb ⊢
    obtain ⟨a, b, rfl, rfl⟩ := in2 hb
    exact ⟨.swap a b, rfl, trivial⟩
  by_cases e14 : p = 14
  · subst e14
    cases (show some (0, 0) = some (n, k) from hs)
    rw [len0 hx, len0 hr]
    exact ⟨.needed, rfl, trivial⟩
  by_cases e15 : p = 15
  · subst e15
    cases (show some (1, 0) = some (n, k) from hs)
    obtain ⟨z, rfl⟩ := len1 hx
    rw [len0 hr] at hb ⊢
    obtain ⟨a, rfl⟩ := in1 hb
    exact ⟨.wanted a, rfl, trivial⟩
  by_cases e16 : p = 16
  · subst e16
    cases (show some (1, 0) = some (n, k) from hs)
    obtain ⟨z, rfl⟩ := len1 hx
    rw [len0 hr] at hb ⊢
    obtain ⟨a, rfl⟩ := in1 hb
    exact ⟨.look a, rfl, trivial⟩
  by_cases e17 : p = 17
  · subst e17
    cases (show some (0, 0) = some (n, k) from hs)
    rw [len0 hx, len0 hr]
    exact ⟨.serve, rfl, trivial⟩
  by_cases e18 : p = 18
  · subst e18
    cases (show some (0, 0) = some (n, k) from hs)
    rw [len0 hx, len0 hr]
    exact ⟨.sums, rfl, trivial⟩
  by_cases e19 : p = 19
  · subst e19
    cases (show some (0, 0) = some (n, k) from hs)
    rw [len0 hx, len0 hr]
    exact ⟨.state, rfl, trivial⟩
  have no : PySu89.shape p = none := ((if_neg e0).trans ((if_neg e1).trans ((if_neg e2).trans ((if_neg e3).trans ((if_neg e4).trans ((if_neg e5).trans ((if_neg e6).trans ((if_neg e7).trans ((if_neg e8).trans ((if_neg e9).trans ((if_neg e10).trans ((if_neg e11).trans ((if_neg e12).trans ((if_neg e13).trans ((if_neg e14).trans ((if_neg e15).trans ((if_neg e16).trans ((if_neg e17).trans ((if_neg e18).trans ((if_neg e19).trans rfl))))))))))))))))))))
  rw [no] at hs
  cases hs
theorem forms_of : ∀ {cs : List (List (List Int))}, (∀ c ∈ cs, Shaped PySu89.shape c) → PyInside.calls PySu89.bound cs = true → ∃ ys : List Su89.Call, cs = ys.map encC ∧ ∀ y ∈ ys, SmallC y
  | [], _, _ => ⟨[], rfl, fun y h => by simp at h⟩
  | c :: cs, sh, hb => by
    have hb' : (PyInside.call PySu89.bound c && PyInside.calls PySu89.bound cs) = true := hb
    rw [Bool.and_eq_true] at hb'
    obtain ⟨y, rfl, sy⟩ := form_of (sh c (by simp)) hb'.1
    obtain ⟨ys, rfl, sys⟩ := forms_of (cs := cs) (fun c hc => sh c (by simp [hc])) hb'.2
    refine ⟨y :: ys, rfl, fun z hz => ?_⟩
    rcases List.mem_cons.mp hz with rfl | hz
    · exact sy
    · exact sys z hz
/- ### a line played -/
noncomputable def stOf : Option Su89.Abs → List Su89.Call → Option Su89.Abs
  | s, [] => s
  | s, y :: l => stOf (Su89.step s y).1 l
noncomputable def anOf : Option Su89.Abs → List Su89.Call → List (List Int)
  | _, [] => []
  | s, y :: l => ansOf (Su89.step s y).2 :: anOf (Su89.step s y).1 l
theorem stOf_app : ∀ (l m : List Su89.Call) (s : Option Su89.Abs), stOf s (l ++ m) = stOf (stOf s l) m
  | [], _, _ => rfl
  | y :: l, m, s => stOf_app l m (Su89.step s y).1
theorem anOf_app : ∀ (l m : List Su89.Call) (s : Option Su89.Abs), anOf s (l ++ m) = anOf s l ++ anOf (stOf s l) m
  | [], _, _ => rfl
  | y :: l, m, s => by
    show _ :: anOf (Su89.step s y).1 (l ++ m) = _ :: (anOf (Su89.step s y).1 l ++ anOf (stOf (Su89.step s y).1 l) m)
    rw [anOf_app l m]
theorem played_enc : ∀ (ys : List Su89.Call) (s : Option Su89.Abs), PyFlat.played (fun s c => Su89Neutral.step s (c.headD [])) s ((ys.map encC).map PySu89.whole) = anOf s ys
  | [], _ => rfl
  | y :: ys, s => by
    show (Su89Neutral.step s ((PySu89.whole (encC y)).headD [])).2 :: PyFlat.played (fun s c => Su89Neutral.step s (c.headD [])) (Su89Neutral.step s ((PySu89.whole (encC y)).headD [])).1 ((ys.map encC).map PySu89.whole) = _
    rw [step_enc, played_enc ys]
    rfl
theorem told_app (l m : List (List Int)) : PyFlat.told (l ++ m) = PyFlat.told l ++ PyFlat.told m := List.flatMap_append
theorem told_one (a : List Int) : PyFlat.told [a] = (a.length : Int) :: a := by
  show ((a.length : Int) :: a) ++ [] = _
  rw [List.append_nil]
theorem told_snoc (ys : List Su89.Call) (y : Su89.Call) (s : Option Su89.Abs) : PyFlat.told (anOf s (ys ++ [y])) = PyFlat.told (anOf s ys) ++ (((ansOf (Su89.step (stOf s ys) y).2).length : Int) :: ansOf (Su89.step (stOf s ys) y).2) := by
  rw [anOf_app, told_app]
  show _ ++ PyFlat.told [ansOf (Su89.step (stOf s ys) y).2] = _
  rw [told_one]
theorem told_mono (ys : List Su89.Call) (s : Option Su89.Abs) (j : Nat) : (PyFlat.told (anOf s (ys.take j))).length ≤ (PyFlat.told (anOf s ys)).length := by
  have e : anOf s ys = anOf s (ys.take j) ++ anOf (stOf s (ys.take j)) (ys.drop j) := by rw [← anOf_app, List.take_append_drop]
  rw [e, told_app, List.length_append]
  lia
/- what is asked of a line, and what is due -/
theorem asked_of {ns : List Int} (h : PySu89.answers_asked ns = true) : ∃ ys : List Su89.Call, ns = ys.flatMap flatC ∧ (∀ y ∈ ys, SmallC y) ∧ PySu89.answers ns = PyFlat.told (anOf none ys) ∧ (PyFlat.told (anOf none ys)).length ≤ 10000000 := by
  unfold PySu89.answers_asked at h
  cases e : PyFlat.calls PySu89.shape ns.length ns with
  | none => rw [e] at h; cases h
  | some cs =>
    rw [e] at h
    have h : ((((!cs.isEmpty && PyFlat.atMost 400 cs) && PyInside.calls PySu89.bound cs) && Su89Neutral.asked ((cs.map PySu89.whole).map fun c => c.headD [])) && PyFlat.short 10000000 (PySu89.answers ns)) = true := h
    rw [Bool.and_eq_true, Bool.and_eq_true, Bool.and_eq_true] at h
    obtain ⟨h1, h2⟩ := calls_flat e
    obtain ⟨ys, rfl, sm⟩ := forms_of h2 h.1.1.2
    have ea : PySu89.answers ns = PyFlat.told (anOf none ys) := by
      unfold PySu89.answers PySu89.calls
      rw [e]
      show PyFlat.told (PyFlat.played (fun s c => Su89Neutral.step s (c.headD [])) Su89Neutral.start ((ys.map encC).map PySu89.whole)) = _
      rw [played_enc]
      rfl
    have hs : decide ((PySu89.answers ns).length ≤ 10000000) = true := h.2
    refine ⟨ys, ?_, sm, ea, by rw [← ea]; exact of_decide_eq_true hs⟩
    rw [h1, List.flatMap_map]
    congr 1
    funext y
    exact flat_enc y
end Sg
end
-- text SgStore2
section
set_option Elab.async false
set_option linter.all false
set_option maxRecDepth 100000
set_option maxHeartbeats 4000000
namespace Sg
open PySem PySem.Spec PyProof.Rows L2
/- ### the numbers of a call -/
noncomputable def wnl : List Int := [1, 2, 0, 1, 0, 0, 0, 0, 1, 1, 1, 1, 0, 2, 0, 1, 1, 0, 0, 0]
structure Txt2 (K : PySem.W.Frag) (mg : Str → Option Value) : Prop where
  cBegin : Cst mg "BEGIN" 0
  cPut : Cst mg "PUT" 1
  cPerson : Cst mg "PERSON" 2
  cDrop : Cst mg "DROP" 3
  cGot : Cst mg "GOT" 4
  cLost : Cst mg "LOST" 5
  cLeft : Cst mg "LEFT" 6
  cMost : Cst mg "MOST" 7
  cPlus : Cst mg "PLUS" 8
  cTold : Cst mg "TOLD" 9
  cAhead : Cst mg "AHEAD" 10
  cLay : Cst mg "LAY" 11
  cRanks : Cst mg "RANKS" 12
  cSwap : Cst mg "SWAP" 13
  cNeeded : Cst mg "NEEDED" 14
  cWanted : Cst mg "WANTED" 15
  cServe : Cst mg "SERVE" 17
  cSums : Cst mg "SUMS" 18
  cState : Cst mg "STATE" 19
  wn : ∃ a, mg "WHOLE_NUMBERS" = some (.ref a) ∧ ∀ H, SqT K H a (wnl.map V.int)
theorem wnl_at (y : Su89.Call) : (wnl.map V.int)[numOf y]? = some (V.int ((wholeOf y : Nat) : Int)) := by cases y <;> rfl
theorem lenC_list {y : Su89.Call} (h : numOf y = 2 ∨ numOf y = 9) : ∃ m : Nat, (flatC y)[1 + wholeOf y]? = some (m : Int) ∧ (flatC y).length = 1 + wholeOf y + (1 + m) := by
  cases y with
  | person l =>
    refine ⟨l.length, rfl, ?_⟩
    show (zs l).length + 1 + 1 = 1 + 0 + (1 + l.length)
    rw [zs_len]
    lia
  | told i l =>
    refine ⟨l.length, rfl, ?_⟩
    show (zs l).length + 1 + 1 + 1 = 1 + 1 + (1 + l.length)
    rw [zs_len]
    lia
  | _ => exact absurd h (by simp [numOf])
theorem lenC_flat {y : Su89.Call} (h : ¬ (numOf y = 2 ∨ numOf y = 9)) : (flatC y).length = 1 + wholeOf y := by
  cases y with
  | person l => exact absurd (.inl rfl) h
  | told i l => exact absurd (.inr rfl) h
  | _ => rfl
theorem lenC_pos (y : Su89.Call) : 1 ≤ (flatC y).length := by
  unfold flatC
  rw [List.length_cons]
  lia
theorem part_at {ns rest : List Int} {st m : Nat} {y : Su89.Call} {z : Int} (h : ns.drop st = flatC y ++ rest) (hz : (flatC y)[m]? = some z) : (ns.map V.int)[st + m]? = some (V.int z) := by
  have e : ns[st + m]? = some z := by
    rw [← List.getElem?_drop, h, List.getElem?_append_left (List.getElem?_eq_some_iff.mp hz).1]
    exact hz
  rw [List.getElem?_map, e]
  rfl
theorem cut_mid {xs : List V} {i j : Nat} (hij : i ≤ j) (hj : j ≤ xs.length) : cutV xs (some (i : Int)) (some (j : Int)) = (xs.drop i).take (j - i) := by
  unfold cutV
  rw [HT.sIx_nat, HT.sIx_nat, Nat.min_eq_left hj, Nat.min_eq_left (Nat.le_trans hij hj)]
noncomputable def rowC (y : Su89.Call) : List V := (flatC y).map V.int
theorem split_at {ys : List Su89.Call} {j : Nat} {y : Su89.Call} (h : ys[j]? = some y) : (ys.flatMap flatC).drop ((ys.take j).flatMap flatC).length = flatC y ++ (ys.drop (j + 1)).flatMap flatC := by
  have e : ys = ys.take j ++ y :: ys.drop (j + 1) := by
    obtain ⟨hl, he⟩ := List.getElem?_eq_some_iff.mp h
    rw [← he, ← List.drop_eq_getElem_cons hl, List.take_append_drop]
  have e2 : ys.flatMap flatC = (ys.take j).flatMap flatC ++ (flatC y ++ (ys.drop (j + 1)).flatMap flatC) := by
    rw [← List.flatMap_cons, ← List.flatMap_append, ← e]
  rw [e2, List.drop_left]
theorem flat_len (ys : List Su89.Call) : ys.length ≤ (ys.flatMap flatC).length := by
  induction ys with
  | nil => exact Nat.le_refl _
  | cons y ys ih =>
    have := lenC_pos y
    rw [List.flatMap_cons, List.length_append, List.length_cons]
    lia
/- rows that are new: r holds qs, these hold the rows -/
structure NewRows (H H' : Hp) (r : Addr) (qs : List Addr) (rows : List (List V)) : Prop where
  rn : H r = none
  lst : H' r = some (.lst (qs.map V.ref))
  len : qs.length = rows.length
  at_ : ∀ (i : Nat) (q : Addr) (l : List V), qs[i]? = some q → rows[i]? = some l → H' q = some (.lst l)
  nw : ∀ q ∈ qs, H q = none
  ne : ∀ q ∈ qs, q ≠ r
theorem NewRows.snoc {H H' H2 : Hp} {r u : Addr} {qs : List Addr} {ls : List (List V)} {l : List V} (L : NewRows H H' r qs ls) (hu0 : H u = none) (hur : u ≠ r) (hr : H2 r = some (.lst (qs.map V.ref ++ [.ref u]))) (hu : H2 u = some (.lst l))
    (kp : ∀ b o, H' b = some o → b ≠ r → H2 b = some o) : NewRows H H2 r (qs ++ [u]) (ls ++ [l]) := by
  refine ⟨L.rn, by rw [hr, List.map_append]; rfl, by rw [List.length_append, List.length_append, L.len]; rfl, fun i q l' h1 h2 => ?_, fun q hq => ?_, fun q hq => ?_⟩
  · by_cases hi : i < qs.length
    · rw [List.getElem?_append_left hi] at h1
      rw [List.getElem?_append_left (by rw [← L.len]; exact hi)] at h2
      exact kp _ _ (L.at_ i q l' h1 h2) (L.ne q (List.mem_of_getElem? h1))
    · have hi' : i = qs.length := by
        have := (List.getElem?_eq_some_iff.mp h1).1
        rw [List.length_append, List.length_singleton] at this
        lia
      subst hi'
      rw [List.getElem?_concat_length] at h1
      rw [L.len, List.getElem?_concat_length] at h2
      cases h1
      cases h2
      exact hu
  · rcases List.mem_append.mp hq with z | z
    · exact L.nw q z
    · rw [List.mem_singleton] at z
      subst z
      exact hu0
  · rcases List.mem_append.mp hq with z | z
    · exact L.ne q z
    · rw [List.mem_singleton] at z
      subst z
      exact hur
section
variable {P : Program} {w : World} {K : PySem.W.Frag} {mg : Str → Option Value} {base : Heap}
/- ### call_length -/
theorem scLength : FnScope ["calls", "start", "length"] ["calls", "start"] (defScope sLength) := ⟨rfl, rfl, rfl, by decide +kernel, rfl, by decide +kernel, by decide +kernel⟩
noncomputable def spLength (K : PySem.W.Frag) : Sp := fun vs H Q _ => ∃ (a : Addr) (ns rest : List Int) (st : Nat) (y : Su89.Call), vs = [.ref a, .int (st : Int)] ∧ SqL K H a (ns.map V.int) ∧ ns.drop st = flatC y ++ rest ∧ ∀ H', Same H H' → Q (.int ((flatC y).length : Nat)) H'
theorem ok_length {f : Addr} {fd : FuncData} (F : Fun K "call_length" "call_length" sLength f fd) (U : Txt2 K mg) : FnOk P w K mg base CX0 1 f fd ["calls", "start"] (spLength K) := by
  refine F.ok scLength (fun vs H Q E h => ?_) (fun cdv A outer s H vs Q E hr h => ?_)
  · obtain ⟨a, ns, rest, st, y, rfl, _⟩ := h
    rfl
  obtain ⟨a, ns, rest, st, y, rfl, hA, hd, k⟩ := h
  obtain ⟨wa, mW, hW⟩ := U.wn
  obtain ⟨t2, m2⟩ := U.cPerson
  obtain ⟨t9, m9⟩ := U.cTold
  refine ⟨_, pss_cons (ps_set (i := 2) scLength.nd rfl (Or.inl rfl) (pe_op op_add pe_int (pe_ix ix_tup (pe_glob (v := .ref wa) rfl mW rfl) (pe_ix ix_list (pv 0) (pv 1) (fun _ _ => rfl)) (fun _ _ => rfl))))
    (pss_cons (ps_if (pt_cmpR op_in_seq (pe_ix ix_list (pv 0) (pv 1) (fun _ _ => rfl)) (pe_tup (pa_cons (pe_glob (v := .int 2) rfl m2 ⟨_, rfl⟩) (pa_cons (pe_glob (v := .int 9) rfl m9 ⟨_, rfl⟩) pa_nil))) rfl)
      (pss_one (ps_aug (i := 2) scLength.nd rfl (Or.inl rfl) (pe_op op_add pe_int (pe_ix ix_list (pv 0) (pe_op op_add (pv 1) (pv 2)) (fun _ _ => rfl))) ip_add)) pss_nil)
    (pss_one (ps_ret (pv 2)))), ?_⟩
  have h0 : (ns.map V.int)[st]? = some (V.int ((numOf y : Nat) : Int)) := part_at (m := 0) hd rfl
  refine ⟨_, rfl, _, rfl, a, _, _, _, rfl, rfl, hA, atI_nat h0, wa, _, _, _, rfl, rfl, hW H, atI_nat (wnl_at y), _, _, rfl, rfl, ?_⟩
  refine ⟨_, rfl, _, rfl, a, _, _, _, rfl, rfl, hA, atI_nat h0, two_le _ _, fun t ht => ?_⟩
  have s1 := same_new ht (.tup [V.int 2, V.int 9])
  have ei : inV (V.int ((numOf y : Nat) : Int)) [V.int 2, V.int 9] = decide (numOf y = 2 ∨ numOf y = 9) := by
    cases y <;> rfl
  refine ⟨t, _, rfl, .inr (SqT.of upd_same), rfl, rfl, _, rfl, ?_⟩
  refine ite2 (fun c => ?_) (fun c => ?_)
  · have c' : inV (V.int ((numOf y : Nat) : Int)) [V.int 2, V.int 9] = true := c
    rw [ei] at c'
    obtain ⟨m, hm, hl⟩ := lenC_list (of_decide_eq_true c')
    have h1 := part_at hd hm
    refine ⟨_, rfl, _, rfl, _, rfl, _, rfl, _, _, rfl, rfl, a, _, _, _, rfl, rfl, s1.seq hA, at_of (j := st + (1 + wholeOf y)) (by lia) h1, _, _, rfl, rfl, _, _, rfl, rfl, _, rfl, ?_⟩
    have := k _ s1
    rw [hl] at this
    have e : V.int ((1 + ((wholeOf y : Nat) : Int)) + (1 + (m : Int))) = V.int ((1 + wholeOf y + (1 + m) : Nat) : Int) := by congr 1
    dsimp only
    rw [e]
    exact this
  · have c' : ¬ inV (V.int ((numOf y : Nat) : Int)) [V.int 2, V.int 9] = true := c
    rw [ei] at c'
    have hl := lenC_flat (fun z => c' (decide_eq_true z))
    refine ⟨_, rfl, ?_⟩
    have := k _ s1
    rw [hl] at this
    have e : V.int (1 + ((wholeOf y : Nat) : Int)) = V.int ((1 + wholeOf y : Nat) : Int) := by congr 1
    rw [← e] at this
    exact this
/- ### split_line -/
theorem scSplit : FnScope ["calls", "parts", "start", "end"] ["calls"] (defScope sSplit) := ⟨rfl, rfl, rfl, by decide +kernel, rfl, by decide +kernel, by decide +kernel⟩
noncomputable def spSplit (K : PySem.W.Frag) : Sp := fun vs H Q _ => ∃ (a : Addr) (ys : List Su89.Call), vs = [.ref a] ∧ SqL K H a ((ys.flatMap flatC).map V.int) ∧ (ys.flatMap flatC).length ≤ 4400 ∧ ∀ (r : Addr) (H' : Hp) (qs : List Addr), Same H H' → NewRows H H' r qs (ys.map rowC) → Q (.ref r) H'
theorem ok_split {f g : Addr} {fd gd : FuncData} (F : Fun K "split_line" "split_line" sSplit f fd) (ml : mg "len" = none) (G : FnOk P w K mg base CX0 1 g gd ["calls", "start"] (spLength K)) (bG : Binds K gd ["calls", "start"] []) (kG : PySem.W.keepIn K (.ref g) = true) (mG : mg "call_length" = some (.ref g)) :
    FnOk P w K mg base CX0 2 f fd ["calls"] (spSplit K) := by
  refine F.ok scSplit (fun vs H Q E h => ?_) (fun cdv A outer s H vs Q E hr h => ?_)
  · obtain ⟨a, ys, rfl, _⟩ := h
    rfl
  obtain ⟨a, ys, rfl, hA, few, k⟩ := h
  refine ⟨_, pss_cons (ps_set (i := 1) scSplit.nd rfl (Or.inl rfl) (pe_lst pa_nil))
    (pss_cons (ps_set (i := 2) scSplit.nd rfl (Or.inl rfl) pe_int)
    (pss_cons (ps_while PassesOwn.never (pt_cmpR op_lt (pv 2) (pe_callB call_len_seq rfl ml PySem.boot_len (pa_cons (pv 0) pa_nil)) (nomark _))
      (pss_cons (ps_set (i := 3) scSplit.nd rfl (Or.inl rfl) (pe_op op_add (pv 2) (pe_call G hr rfl mG kG bG .nil pass0 (pa_cons (pv 0) (pa_cons (pv 2) pa_nil)))))
      (pss_cons (ps_expr (pe_bm PySem.F.plainAttrs_list PySem.F.slot_list_append PySem.F.type_list_append mt_append (pv 1) (pa_cons (pe_slice sl_list (pv 0) (po_some (pv 2)) (po_some (pv 3))) pa_nil)))
      (pss_one (ps_set (i := 2) scSplit.nd rfl (Or.inl rfl) (pv 3))))))
    (pss_one (ps_ret (pv 1))))), ?_⟩
  refine ⟨(by show 0 ≤ sizeLine; decide), fun r hr' => ?_⟩
  have fl := flat_len ys
  refine while_by (fun σ H' => ∃ (j : Nat) (v3 : Option V) (qs : List Addr), σ = [some (.ref a), some (.ref r), some (.int ((((ys.take j).flatMap flatC).length : Nat) : Int)), v3] ∧ j ≤ ys.length ∧ Same H H' ∧ NewRows H H' r qs ((ys.take j).map rowC))
    (fun σ _ => match σ with | [_, _, some (.int z), _] => (ys.flatMap flatC).length - z.toNat | _ => 0)
    ⟨0, none, [], rfl, Nat.zero_le _, same_new hr' _, hr', upd_same, rfl, fun i q l h => (by simp at h), fun q hq => (by simp at hq), fun q hq => (by simp at hq)⟩ ?_ ?_
  · rintro σ H1 ⟨j, v3, qs, rfl, hj, s1, L⟩
    refine ⟨_, rfl, _, rfl, a, _, rfl, .inl (s1.seq hA), _, _, rfl, rfl, _, rfl, ?_⟩
    rw [List.length_map]
    refine ite2 (fun c => ?_) (fun c => ?_)
    · have c' : ((((ys.take j).flatMap flatC).length : Nat) : Int) < (((ys.flatMap flatC).length : Nat) : Int) := of_decide_eq_true c
      have jl : j < ys.length := by
        rcases Nat.lt_or_ge j ys.length with z | z
        · exact z
        · rw [List.take_of_length_le z] at c'
          lia
      have ey : ys[j]? = some ys[j] := List.getElem?_eq_getElem jl
      generalize ys[j] = y at ey
      have hd := split_at ey
      have lp := lenC_pos y
      have ht : ((ys.take (j + 1)).flatMap flatC).length = ((ys.take j).flatMap flatC).length + (flatC y).length := by
        rw [take_snoc ey, List.flatMap_append, List.length_append, List.flatMap_cons, List.flatMap_nil, List.append_nil]
      have hle : ((ys.take j).flatMap flatC).length + (flatC y).length ≤ (ys.flatMap flatC).length := by
        have := congrArg List.length hd
        rw [List.length_drop, List.length_append] at this
        lia
      refine ⟨_, rfl, _, rfl, _, rfl, a, _, _, _, y, rfl, s1.seq hA, hd, fun H2 s2 => ⟨_, _, rfl, rfl, ?_⟩⟩
      have s12 := s1.trans s2
      have e3 : V.int (((((ys.take j).flatMap flatC).length : Nat) : Int) + ((flatC y).length : Nat)) = V.int ((((ys.take (j + 1)).flatMap flatC).length : Nat) : Int) := by
        rw [ht]
        congr 1
      dsimp only
      rw [e3]
      refine ⟨_, rfl, .inl ⟨rfl, _, SqL.of (s2 _ _ L.lst)⟩, _, rfl, _, rfl, _, rfl, _, rfl, _, rfl, a, _, rfl, s12.seq hA, fun u hu => ?_⟩
      have ec : cutV ((ys.flatMap flatC).map V.int) (some ((((ys.take j).flatMap flatC).length : Nat) : Int)) (some ((((ys.take (j + 1)).flatMap flatC).length : Nat) : Int)) = rowC y := by
        rw [cut_mid (by lia) (by rw [List.length_map, ht]; exact hle), ← List.map_drop, hd, ht, Nat.add_sub_cancel_left, ← List.map_take, List.take_left]
        rfl
      rw [ec]
      have ru : r ≠ u := ne_of_none (s2 _ _ L.lst) hu
      refine ⟨r, _, _, rfl, rfl, by rw [upd_ne ru]; exact s2 _ _ L.lst, ?_, ?_⟩
      · rw [List.length_map, L.len, List.length_map, List.length_take]
        exact Nat.lt_of_le_of_lt (show _ ≤ 4400 by lia) (by decide)
      have keep : ∀ b o, H2 b = some o → b ≠ r → upd (upd H2 u (.lst (rowC y))) r (.lst (qs.map V.ref ++ [.ref u])) b = some o := fun b o e hb => by
        rw [upd_ne hb, upd_ne (ne_of_none e hu)]
        exact e
      refine ⟨_, rfl, ⟨j + 1, _, qs ++ [u], rfl, jl, fun b o e => keep b o (s12 b o e) (ne_of_none e hr'), ?_⟩, ?_⟩
      · rw [take_snoc ey, List.map_append]
        exact L.snoc (s12.free hu) ru.symm upd_same (by rw [upd_ne ru.symm, upd_same]) fun b o e hb => keep b o (s2 b o e) hb
      · show (ys.flatMap flatC).length - ((((ys.take (j + 1)).flatMap flatC).length : Nat) : Int).toNat < (ys.flatMap flatC).length - ((((ys.take j).flatMap flatC).length : Nat) : Int).toNat
        rw [Int.toNat_natCast, Int.toNat_natCast, ht]
        lia
    · have c' : ¬ ((((ys.take j).flatMap flatC).length : Nat) : Int) < (((ys.flatMap flatC).length : Nat) : Int) := of_decide_eq_false (Bool.eq_false_iff.mpr c)
      have jl : j = ys.length := by
        rcases Nat.lt_or_ge j ys.length with z | z
        · have hd := congrArg List.length (split_at (List.getElem?_eq_getElem z))
          have lp := lenC_pos ys[j]
          rw [List.length_drop, List.length_append] at hd
          lia
        · lia
      subst jl
      rw [List.take_length] at L
      exact ⟨_, rfl, k r H1 qs s1 L⟩
  · rintro σ H1 Q1 Q2 hq ⟨x, hx, h⟩
    refine ⟨x, hx, ?_⟩
    obtain ⟨y, hy, b, zs', e1, e2, i1, i2, e3, e4, z, e5, h⟩ := h
    exact ⟨y, hy, b, zs', e1, e2, i1, i2, e3, e4, z, e5, hq _ _ h⟩
end
end Sg
end
-- text SgStore3
section
set_option Elab.async false
set_option linter.all false
set_option maxRecDepth 100000
set_option maxHeartbeats 4000000
namespace Sg
open PySem PySem.Spec PyProof.Rows L2
/- ### which call it is, by its number -/
noncomputable def sameC (y : Su89.Call) : Nat → Prop
  | 0 => ∃ a, y = .begin_ a
  | 1 => ∃ a b, y = .put a b
  | 2 => ∃ l, y = .person l
  | 3 => ∃ a, y = .drop a
  | 4 => y = .got
  | 5 => y = .lost
  | 6 => y = .left
  | 7 => y = .most
  | 8 => ∃ a, y = .plus a
  | 9 => ∃ a b, y = .told a b
  | 10 => ∃ a, y = .ahead a
  | 11 => ∃ a, y = .lay a
  | 12 => y = .ranks
  | 13 => ∃ a b, y = .swap a b
  | 14 => y = .needed
  | 15 => ∃ a, y = .wanted a
  | 16 => ∃ a, y = .look a
  | 17 => y = .serve
  | 18 => y = .sums
  | 19 => y = .state
  | _ => True
theorem same_c (y : Su89.Call) : sameC y (numOf y) := by
  cases y with
  | begin_ a => exact ⟨a, rfl⟩
  | put a b => exact ⟨a, b, rfl⟩
  | person l => exact ⟨l, rfl⟩
  | drop a => exact ⟨a, rfl⟩
  | got => exact rfl
  | lost => exact rfl
  | left => exact rfl
  | most => exact rfl
  | plus a => exact ⟨a, rfl⟩
  | told a b => exact ⟨a, b, rfl⟩
  | ahead a => exact ⟨a, rfl⟩
  | lay a => exact ⟨a, rfl⟩
  | ranks => exact rfl
  | swap a b => exact ⟨a, b, rfl⟩
  | needed => exact rfl
  | wanted a => exact ⟨a, rfl⟩
  | look a => exact ⟨a, rfl⟩
  | serve => exact rfl
  | sums => exact rfl
  | state => exact rfl
theorem is_begin_ {y : Su89.Call} (h : numOf y = 0) : ∃ a, y = .begin_ a := (h ▸ same_c y : sameC y 0)
theorem is_put {y : Su89.Call} (h : numOf y = 1) : ∃ a b, y = .put a b := (h ▸ same_c y : sameC y 1)
theorem is_person {y : Su89.Call} (h : numOf y = 2) : ∃ l, y = .person l := (h ▸ same_c y : sameC y 2)
theorem is_drop {y : Su89.Call} (h : numOf y = 3) : ∃ a, y = .drop a := (h ▸ same_c y : sameC y 3)
theorem is_got {y : Su89.Call} (h : numOf y = 4) : y = .got := (h ▸ same_c y : sameC y 4)
theorem is_lost {y : Su89.Call} (h : numOf y = 5) : y = .lost := (h ▸ same_c y : sameC y 5)
theorem is_left {y : Su89.Call} (h : numOf y = 6) : y = .left := (h ▸ same_c y : sameC y 6)
theorem is_most {y : Su89.Call} (h : numOf y = 7) : y = .most := (h ▸ same_c y : sameC y 7)
theorem is_plus {y : Su89.Call} (h : numOf y = 8) : ∃ a, y = .plus a := (h ▸ same_c y : sameC y 8)
theorem is_told {y : Su89.Call} (h : numOf y = 9) : ∃ a b, y = .told a b := (h ▸ same_c y : sameC y 9)
theorem is_ahead {y : Su89.Call} (h : numOf y = 10) : ∃ a, y = .ahead a := (h ▸ same_c y : sameC y 10)
theorem is_lay {y : Su89.Call} (h : numOf y = 11) : ∃ a, y = .lay a := (h ▸ same_c y : sameC y 11)
theorem is_ranks {y : Su89.Call} (h : numOf y = 12) : y = .ranks := (h ▸ same_c y : sameC y 12)
theorem is_swap {y : Su89.Call} (h : numOf y = 13) : ∃ a b, y = .swap a b := (h ▸ same_c y : sameC y 13)
theorem is_needed {y : Su89.Call} (h : numOf y = 14) : y = .needed := (h ▸ same_c y : sameC y 14)
theorem is_wanted {y : Su89.Call} (h : numOf y = 15) : ∃ a, y = .wanted a := (h ▸ same_c y : sameC y 15)
theorem is_look {y : Su89.Call} (h : numOf y = 16) : ∃ a, y = .look a := (h ▸ same_c y : sameC y 16)
theorem is_serve {y : Su89.Call} (h : numOf y = 17) : y = .serve := (h ▸ same_c y : sameC y 17)
theorem is_sums {y : Su89.Call} (h : numOf y = 18) : y = .sums := (h ▸ same_c y : sameC y 18)
theorem is_state {y : Su89.Call} (h : numOf y = 19) : y = .state := (h ▸ same_c y : sameC y 19)
theorem num_yes {y : Su89.Call} {n : Nat} (c : decide (V.int ((numOf y : Nat) : Int) = V.int (n : Int)) = true) : numOf y = n := by
  have := V.int.inj (of_decide_eq_true c)
  lia
theorem num_no {y : Su89.Call} {n : Nat} (c : ¬ decide (V.int ((numOf y : Nat) : Int) = V.int (n : Int)) = true) : numOf y ≠ n := fun z => c (decide_eq_true (by rw [z]))
theorem Ask.later {H H1 : Hp} {Q : VK} {ans : List Int} (s : Same H H1) (k : Ask H Q ans) : Ask H1 Q ans := fun H' r e hr h' => k H' r (s.trans e) (s.free hr) h'
theorem Post.later {C : Addr} {H H1 : Hp} {x pa la : Addr} {qs : List Addr} {bg : Bool} {s : List Nat} {ls : List (List Nat)} {ans : List Int} {Q : VK} (e : Same H H1) (h : Post C H x pa la qs bg s ls ans Q) : Post C H1 x pa la qs bg s ls ans Q :=
  fun H' r pa' la' qs' S' own keep hr h' => h H' r pa' la' qs' S' (fun b z => (own b z).imp id e.free) (fun b o q hb hn => keep b o (e b o q) hb hn) (e.free hr) h'
theorem cut_person (l : List Nat) : cutV (rowC (.person l)) (some (2 : Int)) none = nats l := by
  have e : cutV (rowC (.person l)) (some ((2 : Nat) : Int)) none = (rowC (.person l)).drop 2 := cut_from (by
    show 2 ≤ ((zs l).map V.int).length + 1 + 1
    lia)
  exact e
theorem cut_told (i : Nat) (l : List Nat) : cutV (rowC (.told i l)) (some (3 : Int)) none = nats l := by
  have e : cutV (rowC (.told i l)) (some ((3 : Nat) : Int)) none = (rowC (.told i l)).drop 3 := cut_from (by
    show 3 ≤ ((zs l).map V.int).length + 1 + 1 + 1
    lia)
  exact e
/- ### the questions' answers are the specification's -/
theorem left_eq (a : Su89.Abs) : a.left = leftOf a.stock (Su89.serve a.stock a.people) := by
  unfold Su89.Abs.left leftOf
  congr 1
  funext g
  congr 1
  rw [List.count, List.countP_eq_length_filter]
  rfl
theorem d_left (a : Su89.Abs) : ansOf (Su89.does a .left).2 = aLeft a.stock a.people := by
  show ((a.left.sum : Nat) : Int) :: zs a.left = _
  rw [left_eq]
  rfl
section
variable {P : Program} {w : World} {K : PySem.W.Frag} {mg : Str → Option Value} {base : Heap}
/- a method, a def, as it is called -/
noncomputable def MOk (P : Program) (w : World) (K : PySem.W.Frag) (mg : Str → Option Value) (base : Heap) (C : Addr) (x : Str) (k : Nat) (ps : List Str) (sp : Sp) : Prop := ∃ f fd, Meth K C x f ∧ L2.Binds K fd ps [] ∧ FnOk P w K mg base CX0 k f fd ps sp
noncomputable def FOk (P : Program) (w : World) (K : PySem.W.Frag) (mg : Str → Option Value) (base : Heap) (x : Str) (k : Nat) (ps : List Str) (sp : Sp) : Prop := ∃ f fd, mg x = some (.ref f) ∧ PySem.W.keepIn K (.ref f) = true ∧ L2.Binds K fd ps [] ∧ FnOk P w K mg base CX0 k f fd ps sp
/- ### answer_question_about -/
theorem scAbout : FnScope ["shop", "call", "number"] ["shop", "call"] (defScope sAbout) := ⟨rfl, rfl, rfl, by decide +kernel, rfl, by decide +kernel, by decide +kernel⟩
noncomputable def spQ (K : PySem.W.Frag) (C : Addr) (ok : Nat → Prop) : Sp := fun vs H Q _ => ∃ (x p : Addr) (y : Su89.Call) (a : Su89.Abs) (pa la : Addr) (qs : List Addr), vs = [.ref x, .ref p] ∧ SqL K H p (rowC y) ∧ SmallC y ∧ ok (numOf y) ∧ ShopAt C H x true a.stock a.people pa la qs ∧ Ask H Q (ansOf (Su89.does a y).2)
noncomputable def isAbout (n : Nat) : Prop := n = 8 ∨ n = 9 ∨ n = 10 ∨ n = 11 ∨ n = 15 ∨ n = 16
noncomputable def isAsk (n : Nat) : Prop := n ≠ 0 ∧ n ≠ 1 ∧ n ≠ 2 ∧ n ≠ 3 ∧ n ≠ 13 ∧ n ≠ 17
theorem about_rest {y : Su89.Call} (h : isAsk (numOf y)) (n4 : numOf y ≠ 4) (n5 : numOf y ≠ 5) (n6 : numOf y ≠ 6) (n7 : numOf y ≠ 7) (n12 : numOf y ≠ 12) (n14 : numOf y ≠ 14) (n18 : numOf y ≠ 18) (n19 : numOf y ≠ 19) : isAbout (numOf y) := by
  cases y with
  | begin_ n => exact absurd rfl h.1
  | put g n => exact absurd rfl h.2.1
  | person l => exact absurd rfl h.2.2.1
  | drop i => exact absurd rfl h.2.2.2.1
  | swap i j => exact absurd rfl h.2.2.2.2.1
  | serve => exact absurd rfl h.2.2.2.2.2
  | got => exact absurd rfl n4
  | lost => exact absurd rfl n5
  | left => exact absurd rfl n6
  | most => exact absurd rfl n7
  | ranks => exact absurd rfl n12
  | needed => exact absurd rfl n14
  | sums => exact absurd rfl n18
  | state => exact absurd rfl n19
  | plus g => exact .inl rfl
  | told i l => exact .inr (.inl rfl)
  | ahead i => exact .inr (.inr (.inl rfl))
  | lay n => exact .inr (.inr (.inr (.inl rfl)))
  | wanted g => exact .inr (.inr (.inr (.inr (.inl rfl))))
  | look i => exact .inr (.inr (.inr (.inr (.inr rfl))))
theorem ok_about {f C : Addr} {fd : FuncData} (F : Fun K "answer_question_about" "answer_question_about" sAbout f fd) (T : Txt K mg C) (U : Txt2 K mg) (m_plus : MOk P w K mg base C "plus" 4 ["self", "good"] (spAskG C aPlus)) (m_told : MOk P w K mg base C "told" 4 ["self", "person", "goods"] (spTold K C)) (m_ahead : MOk P w K mg base C "ahead" 4 ["self", "person"] (spAskP C aAhead)) (m_lay : MOk P w K mg base C "lay" 7 ["self", "count"] (spLay C)) (m_wanted : MOk P w K mg base C "wanted" 2 ["self", "good"] (spAskG C aWanted)) (m_look : MOk P w K mg base C "look" 2 ["self", "person"] (spAskP C aLook)) : FnOk P w K mg base CX0 8 f fd ["shop", "call"] (spQ K C isAbout) := by
  refine F.ok scAbout (fun vs H Q E h => ?_) (fun cdv A outer s H vs Q E hr h => ?_)
  · obtain ⟨x, p, y, a, pa, la, qs, rfl, _⟩ := h
    rfl
  obtain ⟨x, p, y, a, pa, la, qs, rfl, hP, sm, ok, S, k⟩ := h
  obtain ⟨dx, ho⟩ := S.obj
  obtain ⟨t_plus, c_plus⟩ := U.cPlus
  obtain ⟨t_told, c_told⟩ := U.cTold
  obtain ⟨t_ahead, c_ahead⟩ := U.cAhead
  obtain ⟨t_lay, c_lay⟩ := U.cLay
  obtain ⟨t_wanted, c_wanted⟩ := U.cWanted
  obtain ⟨f_plus, g_plus, e_plus, b_plus, o_plus⟩ := m_plus
  have r_plus : Room 4 _ := hr.mono (by decide)
  obtain ⟨f_told, g_told, e_told, b_told, o_told⟩ := m_told
  have r_told : Room 4 _ := hr.mono (by decide)
  obtain ⟨f_ahead, g_ahead, e_ahead, b_ahead, o_ahead⟩ := m_ahead
  have r_ahead : Room 4 _ := hr.mono (by decide)
  obtain ⟨f_lay, g_lay, e_lay, b_lay, o_lay⟩ := m_lay
  have r_lay : Room 7 _ := hr.mono (by decide)
  obtain ⟨f_wanted, g_wanted, e_wanted, b_wanted, o_wanted⟩ := m_wanted
  have r_wanted : Room 2 _ := hr.mono (by decide)
  obtain ⟨f_look, g_look, e_look, b_look, o_look⟩ := m_look
  have r_look : Room 2 _ := hr.mono (by decide)
  refine ⟨_, pss_cons (ps_set (i := 2) scAbout.nd rfl (Or.inl rfl) (pe_ix ix_list (pv 1) pe_int (fun _ _ => rfl)))
    (pss_cons (ps_if (pt_cmpR op_eq (pv 2) (pe_glob (v := .int 8) rfl c_plus ⟨_, rfl⟩) (nomark _)) (pss_one (ps_ret (pe_meth (pv 0) T.cl e_plus o_plus r_plus b_plus .nil pass0 (pa_cons (pe_ix ix_list (pv 1) pe_int (fun _ _ => rfl)) pa_nil)))) pss_nil)
    (pss_cons (ps_if (pt_cmpR op_eq (pv 2) (pe_glob (v := .int 9) rfl c_told ⟨_, rfl⟩) (nomark _)) (pss_one (ps_ret (pe_meth (pv 0) T.cl e_told o_told r_told b_told .nil pass0 (pa_cons (pe_ix ix_list (pv 1) pe_int (fun _ _ => rfl)) (pa_cons (pe_slice sl_list (pv 1) (po_some pe_int) po_none) pa_nil))))) pss_nil)
    (pss_cons (ps_if (pt_cmpR op_eq (pv 2) (pe_glob (v := .int 10) rfl c_ahead ⟨_, rfl⟩) (nomark _)) (pss_one (ps_ret (pe_meth (pv 0) T.cl e_ahead o_ahead r_ahead b_ahead .nil pass0 (pa_cons (pe_ix ix_list (pv 1) pe_int (fun _ _ => rfl)) pa_nil)))) pss_nil)
    (pss_cons (ps_if (pt_cmpR op_eq (pv 2) (pe_glob (v := .int 11) rfl c_lay ⟨_, rfl⟩) (nomark _)) (pss_one (ps_ret (pe_meth (pv 0) T.cl e_lay o_lay r_lay b_lay .nil pass0 (pa_cons (pe_ix ix_list (pv 1) pe_int (fun _ _ => rfl)) pa_nil)))) pss_nil)
    (pss_cons (ps_if (pt_cmpR op_eq (pv 2) (pe_glob (v := .int 15) rfl c_wanted ⟨_, rfl⟩) (nomark _)) (pss_one (ps_ret (pe_meth (pv 0) T.cl e_wanted o_wanted r_wanted b_wanted .nil pass0 (pa_cons (pe_ix ix_list (pv 1) pe_int (fun _ _ => rfl)) pa_nil)))) pss_nil)
    (pss_one (ps_ret (pe_meth (pv 0) T.cl e_look o_look r_look b_look .nil pass0 (pa_cons (pe_ix ix_list (pv 1) pe_int (fun _ _ => rfl)) pa_nil))))))))), ?_⟩
  refine ⟨_, rfl, p, _, _, _, rfl, rfl, hP, atI_nat (j := 0) rfl, ?_⟩
  refine ⟨_, rfl, rfl, _, rfl, ?_⟩
  refine ite2 (fun c => ?_) (fun c => ?_)
  · obtain ⟨g, rfl⟩ := is_plus (num_yes (n := 8) c)
    refine ⟨_, rfl, x, dx, _, rfl, ho, sf_no _ _ _ (by decide +kernel) (by decide +kernel) (by decide +kernel), _, rfl, p, _, _, _, rfl, rfl, hP, atI_nat (j := 1) rfl, x, g, true, a.stock, a.people, pa, la, qs, rfl, S, ?_⟩
    by_cases h : a.stock.length ≤ g
    · rw [if_pos h]
      have k : Ask H Q (ansOf (if a.goods ≤ g then _ else _ : Su89.Abs × Su89.Ans).2) := k
      rw [if_pos (show a.goods ≤ g from h)] at k
      exact k
    · rw [if_neg h]
      have k : Ask H Q (ansOf (if a.goods ≤ g then _ else _ : Su89.Abs × Su89.Ans).2) := k
      rw [if_neg (show ¬ a.goods ≤ g from h)] at k
      exact k
  have n8 := num_no (n := 8) c
  refine ⟨_, rfl, rfl, _, rfl, ?_⟩
  refine ite2 (fun c => ?_) (fun c => ?_)
  · obtain ⟨g, l, rfl⟩ := is_told (num_yes (n := 9) c)
    refine ⟨_, rfl, x, dx, _, rfl, ho, sf_no _ _ _ (by decide +kernel) (by decide +kernel) (by decide +kernel), _, rfl, p, _, _, _, rfl, rfl, hP, atI_nat (j := 1) rfl, _, rfl, _, rfl, p, _, rfl, hP, fun u hu => ?_⟩
    rw [cut_told]
    have s1 := same_new hu (.lst (nats l))
    have sm : l.length ≤ 8 := sm
    refine ⟨x, u, g, l, true, a.stock, a.people, pa, la, qs, rfl, SqL.of upd_same, by lia, S.same s1, ?_⟩
    have k : Ask H Q (ansOf (if a.isP g = false then _ else (if a.okL l = false then _ else _) : Su89.Abs × Su89.Ans).2) := k
    by_cases h : g < a.people.length
    · rw [if_pos h]
      rw [if_neg (show ¬ a.isP g = false by unfold Su89.Abs.isP; rw [decide_eq_true h]; decide)] at k
      by_cases h2 : okL a.stock.length l = false
      · rw [if_pos h2]
        rw [if_pos (show a.okL l = false from h2)] at k
        exact k.later s1
      · rw [if_neg h2]
        rw [if_neg (show ¬ a.okL l = false from h2)] at k
        exact k.later s1
    · rw [if_neg h]
      rw [if_pos (show a.isP g = false from decide_eq_false h)] at k
      exact k.later s1
  have n9 := num_no (n := 9) c
  refine ⟨_, rfl, rfl, _, rfl, ?_⟩
  refine ite2 (fun c => ?_) (fun c => ?_)
  · obtain ⟨g, rfl⟩ := is_ahead (num_yes (n := 10) c)
    refine ⟨_, rfl, x, dx, _, rfl, ho, sf_no _ _ _ (by decide +kernel) (by decide +kernel) (by decide +kernel), _, rfl, p, _, _, _, rfl, rfl, hP, atI_nat (j := 1) rfl, x, g, true, a.stock, a.people, pa, la, qs, rfl, S, ?_⟩
    have k : Ask H Q (ansOf (if a.isP g = false then _ else _ : Su89.Abs × Su89.Ans).2) := k
    by_cases h : g < a.people.length
    · rw [if_pos h]
      rw [if_neg (show ¬ a.isP g = false by unfold Su89.Abs.isP; rw [decide_eq_true h]; decide)] at k
      exact k
    · rw [if_neg h]
      rw [if_pos (show a.isP g = false from decide_eq_false h)] at k
      exact k
  have n10 := num_no (n := 10) c
  refine ⟨_, rfl, rfl, _, rfl, ?_⟩
  refine ite2 (fun c => ?_) (fun c => ?_)
  · obtain ⟨g, rfl⟩ := is_lay (num_yes (n := 11) c)
    refine ⟨_, rfl, x, dx, _, rfl, ho, sf_no _ _ _ (by decide +kernel) (by decide +kernel) (by decide +kernel), _, rfl, p, _, _, _, rfl, rfl, hP, atI_nat (j := 1) rfl, x, g, a.stock, a.people, pa, la, qs, rfl, S, ?_⟩
    have k : Ask H Q (ansOf (if 8 < g then _ else _ : Su89.Abs × Su89.Ans).2) := k
    by_cases h : 8 < g
    · rw [if_pos h] at k ⊢
      exact k
    · rw [if_neg h] at k ⊢
      exact k
  have n11 := num_no (n := 11) c
  refine ⟨_, rfl, rfl, _, rfl, ?_⟩
  refine ite2 (fun c => ?_) (fun c => ?_)
  · obtain ⟨g, rfl⟩ := is_wanted (num_yes (n := 15) c)
    refine ⟨_, rfl, x, dx, _, rfl, ho, sf_no _ _ _ (by decide +kernel) (by decide +kernel) (by decide +kernel), _, rfl, p, _, _, _, rfl, rfl, hP, atI_nat (j := 1) rfl, x, g, true, a.stock, a.people, pa, la, qs, rfl, S, ?_⟩
    by_cases h : a.stock.length ≤ g
    · rw [if_pos h]
      have k : Ask H Q (ansOf (if a.goods ≤ g then _ else _ : Su89.Abs × Su89.Ans).2) := k
      rw [if_pos (show a.goods ≤ g from h)] at k
      exact k
    · rw [if_neg h]
      have k : Ask H Q (ansOf (if a.goods ≤ g then _ else _ : Su89.Abs × Su89.Ans).2) := k
      rw [if_neg (show ¬ a.goods ≤ g from h)] at k
      exact k
  have n15 := num_no (n := 15) c
  obtain ⟨g, rfl⟩ := is_look (((((ok.resolve_left n8).resolve_left n9).resolve_left n10).resolve_left n11).resolve_left n15)
  refine ⟨_, rfl, x, dx, _, rfl, ho, sf_no _ _ _ (by decide +kernel) (by decide +kernel) (by decide +kernel), _, rfl, p, _, _, _, rfl, rfl, hP, atI_nat (j := 1) rfl, x, g, true, a.stock, a.people, pa, la, qs, rfl, S, ?_⟩
  have k : Ask H Q (ansOf (if a.isP g = false then _ else _ : Su89.Abs × Su89.Ans).2) := k
  by_cases h : g < a.people.length
  · rw [if_pos h]
    rw [if_neg (show ¬ a.isP g = false by unfold Su89.Abs.isP; rw [decide_eq_true h]; decide)] at k
    exact k
  · rw [if_neg h]
    rw [if_pos (show a.isP g = false from decide_eq_false h)] at k
    exact k
/- ### answer_question -/
theorem scAskQ : FnScope ["shop", "call", "number"] ["shop", "call"] (defScope sAskQ) := ⟨rfl, rfl, rfl, by decide +kernel, rfl, by decide +kernel, by decide +kernel⟩
theorem ok_askQ {f C : Addr} {fd : FuncData} (F : Fun K "answer_question" "answer_question" sAskQ f fd) (T : Txt K mg C) (U : Txt2 K mg) (m_got : MOk P w K mg base C "got" 4 ["self"] (spAsk0 C aGot)) (m_lost : MOk P w K mg base C "lost" 4 ["self"] (spAsk0 C aLost)) (m_left : MOk P w K mg base C "left" 4 ["self"] (spAsk0 C aLeft)) (m_most : MOk P w K mg base C "most" 13 ["self"] (spAsk0 C aMost)) (m_ranks : MOk P w K mg base C "ranks" 4 ["self"] (spAsk0 C aRanks)) (m_needed : MOk P w K mg base C "needed" 6 ["self"] (spAsk0 C aNeeded)) (m_sums : MOk P w K mg base C "sums" 5 ["self"] (spAsk0 C aSums)) (m_state : MOk P w K mg base C "state" 1 ["self"] (spAsk0 C aState)) (B : FOk P w K mg base "answer_question_about" 8 ["shop", "call"] (spQ K C isAbout)) : FnOk P w K mg base CX0 14 f fd ["shop", "call"] (spQ K C isAsk) := by
  refine F.ok scAskQ (fun vs H Q E h => ?_) (fun cdv A outer s H vs Q E hr h => ?_)
  · obtain ⟨x, p, y, a, pa, la, qs, rfl, _⟩ := h
    rfl
  obtain ⟨x, p, y, a, pa, la, qs, rfl, hP, sm, ok, S, k⟩ := h
  obtain ⟨dx, ho⟩ := S.obj
  obtain ⟨fB, dB, mB, kB, bB, oB⟩ := B
  have rB : Room 8 _ := hr.mono (by decide)
  obtain ⟨t_got, c_got⟩ := U.cGot
  obtain ⟨t_lost, c_lost⟩ := U.cLost
  obtain ⟨t_left, c_left⟩ := U.cLeft
  obtain ⟨t_most, c_most⟩ := U.cMost
  obtain ⟨t_ranks, c_ranks⟩ := U.cRanks
  obtain ⟨t_needed, c_needed⟩ := U.cNeeded
  obtain ⟨t_sums, c_sums⟩ := U.cSums
  obtain ⟨t_state, c_state⟩ := U.cState
  obtain ⟨f_got, g_got, e_got, b_got, o_got⟩ := m_got
  have r_got : Room 4 _ := hr.mono (by decide)
  obtain ⟨f_lost, g_lost, e_lost, b_lost, o_lost⟩ := m_lost
  have r_lost : Room 4 _ := hr.mono (by decide)
  obtain ⟨f_left, g_left, e_left, b_left, o_left⟩ := m_left
  have r_left : Room 4 _ := hr.mono (by decide)
  obtain ⟨f_most, g_most, e_most, b_most, o_most⟩ := m_most
  have r_most : Room 13 _ := hr.mono (by decide)
  obtain ⟨f_ranks, g_ranks, e_ranks, b_ranks, o_ranks⟩ := m_ranks
  have r_ranks : Room 4 _ := hr.mono (by decide)
  obtain ⟨f_needed, g_needed, e_needed, b_needed, o_needed⟩ := m_needed
  have r_needed : Room 6 _ := hr.mono (by decide)
  obtain ⟨f_sums, g_sums, e_sums, b_sums, o_sums⟩ := m_sums
  have r_sums : Room 5 _ := hr.mono (by decide)
  obtain ⟨f_state, g_state, e_state, b_state, o_state⟩ := m_state
  have r_state : Room 1 _ := hr.mono (by decide)
  refine ⟨_, pss_cons (ps_set (i := 2) scAskQ.nd rfl (Or.inl rfl) (pe_ix ix_list (pv 1) pe_int (fun _ _ => rfl)))
    (pss_cons (ps_if (pt_cmpR op_eq (pv 2) (pe_glob (v := .int 4) rfl c_got ⟨_, rfl⟩) (nomark _)) (pss_one (ps_ret (pe_meth0 (pv 0) T.cl e_got o_got r_got b_got .nil pass0))) pss_nil)
    (pss_cons (ps_if (pt_cmpR op_eq (pv 2) (pe_glob (v := .int 5) rfl c_lost ⟨_, rfl⟩) (nomark _)) (pss_one (ps_ret (pe_meth0 (pv 0) T.cl e_lost o_lost r_lost b_lost .nil pass0))) pss_nil)
    (pss_cons (ps_if (pt_cmpR op_eq (pv 2) (pe_glob (v := .int 6) rfl c_left ⟨_, rfl⟩) (nomark _)) (pss_one (ps_ret (pe_meth0 (pv 0) T.cl e_left o_left r_left b_left .nil pass0))) pss_nil)
    (pss_cons (ps_if (pt_cmpR op_eq (pv 2) (pe_glob (v := .int 7) rfl c_most ⟨_, rfl⟩) (nomark _)) (pss_one (ps_ret (pe_meth0 (pv 0) T.cl e_most o_most r_most b_most .nil pass0))) pss_nil)
    (pss_cons (ps_if (pt_cmpR op_eq (pv 2) (pe_glob (v := .int 12) rfl c_ranks ⟨_, rfl⟩) (nomark _)) (pss_one (ps_ret (pe_meth0 (pv 0) T.cl e_ranks o_ranks r_ranks b_ranks .nil pass0))) pss_nil)
    (pss_cons (ps_if (pt_cmpR op_eq (pv 2) (pe_glob (v := .int 14) rfl c_needed ⟨_, rfl⟩) (nomark _)) (pss_one (ps_ret (pe_meth0 (pv 0) T.cl e_needed o_needed r_needed b_needed .nil pass0))) pss_nil)
    (pss_cons (ps_if (pt_cmpR op_eq (pv 2) (pe_glob (v := .int 18) rfl c_sums ⟨_, rfl⟩) (nomark _)) (pss_one (ps_ret (pe_meth0 (pv 0) T.cl e_sums o_sums r_sums b_sums .nil pass0))) pss_nil)
    (pss_cons (ps_if (pt_cmpR op_eq (pv 2) (pe_glob (v := .int 19) rfl c_state ⟨_, rfl⟩) (nomark _)) (pss_one (ps_ret (pe_meth0 (pv 0) T.cl e_state o_state r_state b_state .nil pass0))) pss_nil)
    (pss_one (ps_ret (pe_call oB rB rfl mB kB bB .nil pass0 (pa_cons (pv 0) (pa_cons (pv 1) pa_nil))))))))))))), ?_⟩
  refine ⟨_, rfl, p, _, _, _, rfl, rfl, hP, atI_nat (j := 0) rfl, ?_⟩
  refine ⟨_, rfl, rfl, _, rfl, ?_⟩
  refine ite2 (fun c => ?_) (fun c => ?_)
  · obtain rfl := is_got (num_yes (n := 4) c)
    exact ⟨_, rfl, x, dx, _, rfl, ho, sf_no _ _ _ (by decide +kernel) (by decide +kernel) (by decide +kernel), x, true, a.stock, a.people, pa, la, qs, rfl, S, k⟩
  have n4 := num_no (n := 4) c
  refine ⟨_, rfl, rfl, _, rfl, ?_⟩
  refine ite2 (fun c => ?_) (fun c => ?_)
  · obtain rfl := is_lost (num_yes (n := 5) c)
    exact ⟨_, rfl, x, dx, _, rfl, ho, sf_no _ _ _ (by decide +kernel) (by decide +kernel) (by decide +kernel), x, true, a.stock, a.people, pa, la, qs, rfl, S, k⟩
  have n5 := num_no (n := 5) c
  refine ⟨_, rfl, rfl, _, rfl, ?_⟩
  refine ite2 (fun c => ?_) (fun c => ?_)
  · obtain rfl := is_left (num_yes (n := 6) c)
    exact ⟨_, rfl, x, dx, _, rfl, ho, sf_no _ _ _ (by decide +kernel) (by decide +kernel) (by decide +kernel), x, true, a.stock, a.people, pa, la, qs, rfl, S, by rw [← d_left]; exact k⟩
  have n6 := num_no (n := 6) c
  refine ⟨_, rfl, rfl, _, rfl, ?_⟩
  refine ite2 (fun c => ?_) (fun c => ?_)
  · obtain rfl := is_most (num_yes (n := 7) c)
    exact ⟨_, rfl, x, dx, _, rfl, ho, sf_no _ _ _ (by decide +kernel) (by decide +kernel) (by decide +kernel), x, true, a.stock, a.people, pa, la, qs, rfl, S, k⟩
  have n7 := num_no (n := 7) c
  refine ⟨_, rfl, rfl, _, rfl, ?_⟩
  refine ite2 (fun c => ?_) (fun c => ?_)
  · obtain rfl := is_ranks (num_yes (n := 12) c)
    exact ⟨_, rfl, x, dx, _, rfl, ho, sf_no _ _ _ (by decide +kernel) (by decide +kernel) (by decide +kernel), x, true, a.stock, a.people, pa, la, qs, rfl, S, k⟩
  have n12 := num_no (n := 12) c
  refine ⟨_, rfl, rfl, _, rfl, ?_⟩
  refine ite2 (fun c => ?_) (fun c => ?_)
  · obtain rfl := is_needed (num_yes (n := 14) c)
    exact ⟨_, rfl, x, dx, _, rfl, ho, sf_no _ _ _ (by decide +kernel) (by decide +kernel) (by decide +kernel), x, true, a.stock, a.people, pa, la, qs, rfl, S, k⟩
  have n14 := num_no (n := 14) c
  refine ⟨_, rfl, rfl, _, rfl, ?_⟩
  refine ite2 (fun c => ?_) (fun c => ?_)
  · obtain rfl := is_sums (num_yes (n := 18) c)
    exact ⟨_, rfl, x, dx, _, rfl, ho, sf_no _ _ _ (by decide +kernel) (by decide +kernel) (by decide +kernel), x, true, a.stock, a.people, pa, la, qs, rfl, S, k⟩
  have n18 := num_no (n := 18) c
  refine ⟨_, rfl, rfl, _, rfl, ?_⟩
  refine ite2 (fun c => ?_) (fun c => ?_)
  · obtain rfl := is_state (num_yes (n := 19) c)
    exact ⟨_, rfl, x, dx, _, rfl, ho, sf_no _ _ _ (by decide +kernel) (by decide +kernel) (by decide +kernel), x, true, a.stock, a.people, pa, la, qs, rfl, S, k⟩
  have n19 := num_no (n := 19) c
  exact ⟨_, rfl, _, rfl, x, p, y, a, pa, la, qs, rfl, hP, sm, about_rest ok n4 n5 n6 n7 n12 n14 n18 n19, S, k⟩
/- ### answer_call -/
noncomputable def bgOf (st : Option Su89.Abs) : Bool := st.isSome
noncomputable def sOf : Option Su89.Abs → List Nat
  | none => []
  | some a => a.stock
noncomputable def lsOf : Option Su89.Abs → List (List Nat)
  | none => []
  | some a => a.people
noncomputable def spCall (K : PySem.W.Frag) (C : Addr) : Sp := fun vs H Q _ => ∃ (x p : Addr) (y : Su89.Call) (st : Option Su89.Abs) (pa la : Addr) (qs : List Addr), vs = [.ref x, .ref p] ∧ SqL K H p (rowC y) ∧ SmallC y ∧ ShopAt C H x (bgOf st) (sOf st) (lsOf st) pa la qs ∧
  Post C H x pa la qs (bgOf (Su89.step st y).1) (sOf (Su89.step st y).1) (lsOf (Su89.step st y).1) (ansOf (Su89.step st y).2) Q
/- a question changes nothing -/
theorem ask_same {a : Su89.Abs} {y : Su89.Call} (h : isAsk (numOf y)) : (Su89.does a y).1 = a := by
  unfold isAsk at h
  cases y with
  | begin_ n => exact absurd rfl h.1
  | put g n => exact absurd rfl h.2.1
  | person l => exact absurd rfl h.2.2.1
  | drop i => exact absurd rfl h.2.2.2.1
  | swap i j => exact absurd rfl h.2.2.2.2.1
  | serve => exact absurd rfl h.2.2.2.2.2
  | plus g =>
    show (if _ then _ else _ : Su89.Abs × Su89.Ans).1 = a
    split <;> rfl
  | told i l =>
    show (if _ then _ else (if _ then _ else _) : Su89.Abs × Su89.Ans).1 = a
    split
    · rfl
    · split <;> rfl
  | ahead i =>
    show (if _ then _ else _ : Su89.Abs × Su89.Ans).1 = a
    split <;> rfl
  | lay n =>
    show (if _ then _ else _ : Su89.Abs × Su89.Ans).1 = a
    split <;> rfl
  | wanted g =>
    show (if _ then _ else _ : Su89.Abs × Su89.Ans).1 = a
    split <;> rfl
  | look i =>
    show (if _ then _ else _ : Su89.Abs × Su89.Ans).1 = a
    split <;> rfl
  | _ => rfl
theorem scCall : FnScope ["shop", "call", "number"] ["shop", "call"] (defScope sCall) := ⟨rfl, rfl, rfl, by decide +kernel, rfl, by decide +kernel, by decide +kernel⟩
theorem ok_call {f C : Addr} {fd : FuncData} (F : Fun K "answer_call" "answer_call" sCall f fd) (T : Txt K mg C) (U : Txt2 K mg) (m_begin : MOk P w K mg base C "begin" 1 ["self", "count"] (spBegin C)) (m_put : MOk P w K mg base C "put" 2 ["self", "good", "count"] (spPut C)) (m_person : MOk P w K mg base C "person" 3 ["self", "goods"] (spPerson K C)) (m_drop : MOk P w K mg base C "drop" 2 ["self", "person"] (spDrop C)) (m_swap : MOk P w K mg base C "swap" 5 ["self", "one", "other"] (spSwap C)) (m_serve : MOk P w K mg base C "serve" 4 ["self"] (spServeM C)) (B : FOk P w K mg base "answer_question" 14 ["shop", "call"] (spQ K C isAsk)) : FnOk P w K mg base CX0 15 f fd ["shop", "call"] (spCall K C) := by
  refine F.ok scCall (fun vs H Q E h => ?_) (fun cdv A outer s H vs Q E hr h => ?_)
  · obtain ⟨x, p, y, st, pa, la, qs, rfl, _⟩ := h
    rfl
  obtain ⟨x, p, y, st, pa, la, qs, rfl, hP, sm, S, k⟩ := h
  obtain ⟨dx, ho⟩ := S.obj
  obtain ⟨fB, dB, mB, kB, bB, oB⟩ := B
  obtain ⟨tn, mn⟩ := T.notBegun
  obtain ⟨t_begin_, c_begin_⟩ := U.cBegin
  obtain ⟨t_put, c_put⟩ := U.cPut
  obtain ⟨t_person, c_person⟩ := U.cPerson
  obtain ⟨t_drop, c_drop⟩ := U.cDrop
  obtain ⟨t_swap, c_swap⟩ := U.cSwap
  obtain ⟨t_serve, c_serve⟩ := U.cServe
  obtain ⟨f_begin, g_begin, e_begin, b_begin, o_begin⟩ := m_begin
  have r_begin : Room 1 _ := hr.mono (by decide)
  obtain ⟨f_put, g_put, e_put, b_put, o_put⟩ := m_put
  have r_put : Room 2 _ := hr.mono (by decide)
  obtain ⟨f_person, g_person, e_person, b_person, o_person⟩ := m_person
  have r_person : Room 3 _ := hr.mono (by decide)
  obtain ⟨f_drop, g_drop, e_drop, b_drop, o_drop⟩ := m_drop
  have r_drop : Room 2 _ := hr.mono (by decide)
  obtain ⟨f_swap, g_swap, e_swap, b_swap, o_swap⟩ := m_swap
  have r_swap : Room 5 _ := hr.mono (by decide)
  obtain ⟨f_serve, g_serve, e_serve, b_serve, o_serve⟩ := m_serve
  have r_serve : Room 4 _ := hr.mono (by decide)
  refine ⟨_, pss_cons (ps_set (i := 2) scCall.nd rfl (Or.inl rfl) (pe_ix ix_list (pv 1) pe_int (fun _ _ => rfl)))
    (pss_cons (ps_if (pt_cmpR op_eq (pv 2) (pe_glob (v := .int 0) rfl c_begin_ ⟨_, rfl⟩) (nomark _)) (pss_one (ps_ret (pe_meth (pv 0) T.cl e_begin o_begin r_begin b_begin .nil pass0 (pa_cons (pe_ix ix_list (pv 1) pe_int (fun _ _ => rfl)) pa_nil)))) pss_nil)
    (pss_cons (ps_if (pt_not (pt_val (pe_fld (pv 0) rfl))) (pss_one (ps_ret (pe_lst (pa_cons (pe_glob (v := .int (-11)) rfl mn ⟨_, rfl⟩) pa_nil)))) pss_nil)
    (pss_cons (ps_if (pt_cmpR op_eq (pv 2) (pe_glob (v := .int 1) rfl c_put ⟨_, rfl⟩) (nomark _)) (pss_one (ps_ret (pe_meth (pv 0) T.cl e_put o_put r_put b_put .nil pass0 (pa_cons (pe_ix ix_list (pv 1) pe_int (fun _ _ => rfl)) (pa_cons (pe_ix ix_list (pv 1) pe_int (fun _ _ => rfl)) pa_nil))))) pss_nil)
    (pss_cons (ps_if (pt_cmpR op_eq (pv 2) (pe_glob (v := .int 2) rfl c_person ⟨_, rfl⟩) (nomark _)) (pss_one (ps_ret (pe_meth (pv 0) T.cl e_person o_person r_person b_person .nil pass0 (pa_cons (pe_slice sl_list (pv 1) (po_some pe_int) po_none) pa_nil)))) pss_nil)
    (pss_cons (ps_if (pt_cmpR op_eq (pv 2) (pe_glob (v := .int 3) rfl c_drop ⟨_, rfl⟩) (nomark _)) (pss_one (ps_ret (pe_meth (pv 0) T.cl e_drop o_drop r_drop b_drop .nil pass0 (pa_cons (pe_ix ix_list (pv 1) pe_int (fun _ _ => rfl)) pa_nil)))) pss_nil)
    (pss_cons (ps_if (pt_cmpR op_eq (pv 2) (pe_glob (v := .int 13) rfl c_swap ⟨_, rfl⟩) (nomark _)) (pss_one (ps_ret (pe_meth (pv 0) T.cl e_swap o_swap r_swap b_swap .nil pass0 (pa_cons (pe_ix ix_list (pv 1) pe_int (fun _ _ => rfl)) (pa_cons (pe_ix ix_list (pv 1) pe_int (fun _ _ => rfl)) pa_nil))))) pss_nil)
    (pss_cons (ps_if (pt_cmpR op_eq (pv 2) (pe_glob (v := .int 17) rfl c_serve ⟨_, rfl⟩) (nomark _)) (pss_one (ps_ret (pe_meth0 (pv 0) T.cl e_serve o_serve r_serve b_serve .nil pass0))) pss_nil)
    (pss_one (ps_ret (pe_call oB hr rfl mB kB bB .nil pass0 (pa_cons (pv 0) (pa_cons (pv 1) pa_nil)))))))))))), ?_⟩
  refine ⟨_, rfl, p, _, _, _, rfl, rfl, hP, atI_nat (j := 0) rfl, ?_⟩
  refine ⟨_, rfl, rfl, _, rfl, ?_⟩
  refine ite2 (fun c => ?_) (fun c => ?_)
  · obtain ⟨g, rfl⟩ := is_begin_ (num_yes (n := 0) c)
    refine ⟨_, rfl, x, dx, _, rfl, ho, sf_no _ _ _ (by decide +kernel) (by decide +kernel) (by decide +kernel), _, rfl, p, _, _, _, rfl, rfl, hP, atI_nat (j := 1) rfl, x, g, _, _, _, pa, la, qs, rfl, S, ?_⟩
    by_cases h : g = 0 ∨ 5 < g
    · rw [if_pos h]
      have e : Su89.step st (.begin_ g) = (st, Su89.no (-22)) := by
        cases st with
        | none =>
          show ((if (if g = 0 ∨ 5 < g then (Su89.new 1, Su89.no (-22)) else (Su89.new g, Su89.no 0) : Su89.Abs × Su89.Ans).2.value < 0 then none else some (if g = 0 ∨ 5 < g then (Su89.new 1, Su89.no (-22)) else (Su89.new g, Su89.no 0) : Su89.Abs × Su89.Ans).1), (if g = 0 ∨ 5 < g then (Su89.new 1, Su89.no (-22)) else (Su89.new g, Su89.no 0) : Su89.Abs × Su89.Ans).2) = _
          rw [if_pos h]
          rfl
        | some a =>
          show (some (if g = 0 ∨ 5 < g then (a, Su89.no (-22)) else (Su89.new g, Su89.no 0) : Su89.Abs × Su89.Ans).1, (if g = 0 ∨ 5 < g then (a, Su89.no (-22)) else (Su89.new g, Su89.no 0) : Su89.Abs × Su89.Ans).2) = _
          rw [if_pos h]
      rw [e] at k
      exact k.ask S
    · rw [if_neg h]
      have e : Su89.step st (.begin_ g) = (some (Su89.new g), Su89.no 0) := by
        cases st with
        | none =>
          show ((if (if g = 0 ∨ 5 < g then (Su89.new 1, Su89.no (-22)) else (Su89.new g, Su89.no 0) : Su89.Abs × Su89.Ans).2.value < 0 then none else some (if g = 0 ∨ 5 < g then (Su89.new 1, Su89.no (-22)) else (Su89.new g, Su89.no 0) : Su89.Abs × Su89.Ans).1), (if g = 0 ∨ 5 < g then (Su89.new 1, Su89.no (-22)) else (Su89.new g, Su89.no 0) : Su89.Abs × Su89.Ans).2) = _
          rw [if_neg h]
          rfl
        | some a =>
          show (some (if g = 0 ∨ 5 < g then (a, Su89.no (-22)) else (Su89.new g, Su89.no 0) : Su89.Abs × Su89.Ans).1, (if g = 0 ∨ 5 < g then (a, Su89.no (-22)) else (Su89.new g, Su89.no 0) : Su89.Abs × Su89.Ans).2) = _
          rw [if_neg h]
      rw [e] at k
      exact k
  have n0 := num_no (n := 0) c
  refine ⟨_, rfl, x, C, dx, _, _, rfl, ho, T.cl, T.nB, sf_begun _ _ _, _, rfl, ?_⟩
  refine pt_nota (fun c => ?_) (fun c => ?_)
  · have es : st = none := by
      cases st with
      | none => rfl
      | some a => cases c
    subst es
    have e : Su89.step none y = (none, Su89.no (-11)) := by
      cases y with
      | begin_ n => exact absurd rfl n0
      | _ => rfl
    rw [e] at k
    exact ⟨one_le, fun r hr => (k.ask S).one hr⟩
  obtain ⟨a, rfl⟩ : ∃ a, st = some a := by
    cases st with
    | none => cases c
    | some a => exact ⟨a, rfl⟩
  have k : Post C H x pa la qs true (Su89.does a y).1.stock (Su89.does a y).1.people (ansOf (Su89.does a y).2) Q := k
  have S : ShopAt C H x true a.stock a.people pa la qs := S
  refine ⟨_, rfl, rfl, _, rfl, ?_⟩
  refine ite2 (fun c => ?_) (fun c => ?_)
  · obtain ⟨g, n, rfl⟩ := is_put (num_yes (n := 1) c)
    refine ⟨_, rfl, x, dx, _, rfl, ho, sf_no _ _ _ (by decide +kernel) (by decide +kernel) (by decide +kernel), _, rfl, p, _, _, _, rfl, rfl, hP, atI_nat (j := 1) rfl, _, rfl, p, _, _, _, rfl, rfl, hP, atI_nat (j := 2) rfl, x, g, n, true, a.stock, a.people, pa, la, qs, rfl, S, ?_⟩
    by_cases h : a.stock.length ≤ g
    · rw [if_pos h]
      have e : Su89.does a (.put g n) = (a, Su89.no (-2)) := if_pos h
      rw [e] at k
      exact k.ask S
    · rw [if_neg h]
      have e : Su89.does a (.put g n) = if 100 < n then (a, Su89.no (-22)) else ({ a with stock := a.stock.set g n }, Su89.num (a.stock.getD g 0) []) := if_neg h
      by_cases h2 : 100 < n
      · rw [if_pos h2] at e ⊢
        rw [e] at k
        exact k.ask S
      · rw [if_neg h2] at e ⊢
        rw [e] at k
        exact k
  have n1 := num_no (n := 1) c
  refine ⟨_, rfl, rfl, _, rfl, ?_⟩
  refine ite2 (fun c => ?_) (fun c => ?_)
  · obtain ⟨l, rfl⟩ := is_person (num_yes (n := 2) c)
    refine ⟨_, rfl, x, dx, _, rfl, ho, sf_no _ _ _ (by decide +kernel) (by decide +kernel) (by decide +kernel), _, rfl, _, rfl, p, _, rfl, hP, fun u hu => ?_⟩
    rw [cut_person]
    have s1 := same_new hu (.lst (nats l))
    have sm : l.length ≤ 8 := sm
    refine ⟨x, u, l, true, a.stock, a.people, pa, la, qs, rfl, SqL.of upd_same, by lia, S.same s1, ?_⟩
    by_cases h : okL a.stock.length l = false
    · rw [if_pos h]
      have e : Su89.does a (.person l) = (a, Su89.no (-22)) := if_pos h
      rw [e] at k
      exact (k.ask S).later s1
    · rw [if_neg h]
      have e : Su89.does a (.person l) = if 6 ≤ a.people.length then (a, Su89.no (-28)) else ({ a with people := a.people ++ [l] }, Su89.num a.people.length []) := if_neg h
      by_cases h2 : 6 ≤ a.people.length
      · rw [if_pos h2] at e ⊢
        rw [e] at k
        exact (k.ask S).later s1
      · rw [if_neg h2] at e ⊢
        rw [e] at k
        exact k.later s1
  have n2 := num_no (n := 2) c
  refine ⟨_, rfl, rfl, _, rfl, ?_⟩
  refine ite2 (fun c => ?_) (fun c => ?_)
  · obtain ⟨g, rfl⟩ := is_drop (num_yes (n := 3) c)
    refine ⟨_, rfl, x, dx, _, rfl, ho, sf_no _ _ _ (by decide +kernel) (by decide +kernel) (by decide +kernel), _, rfl, p, _, _, _, rfl, rfl, hP, atI_nat (j := 1) rfl, x, g, true, a.stock, a.people, pa, la, qs, rfl, S, ?_⟩
    by_cases h : g < a.people.length
    · rw [if_pos h]
      have e : Su89.does a (.drop g) = ({ a with people := a.people.eraseIdx g }, Su89.num (a.people.length - 1) []) := if_neg (show ¬ a.isP g = false by unfold Su89.Abs.isP; rw [decide_eq_true h]; decide)
      rw [e] at k
      exact k
    · rw [if_neg h]
      have e : Su89.does a (.drop g) = (a, Su89.no (-2)) := if_pos (show a.isP g = false from decide_eq_false h)
      rw [e] at k
      exact k.ask S
  have n3 := num_no (n := 3) c
  refine ⟨_, rfl, rfl, _, rfl, ?_⟩
  refine ite2 (fun c => ?_) (fun c => ?_)
  · obtain ⟨g, n, rfl⟩ := is_swap (num_yes (n := 13) c)
    refine ⟨_, rfl, x, dx, _, rfl, ho, sf_no _ _ _ (by decide +kernel) (by decide +kernel) (by decide +kernel), _, rfl, p, _, _, _, rfl, rfl, hP, atI_nat (j := 1) rfl, _, rfl, p, _, _, _, rfl, rfl, hP, atI_nat (j := 2) rfl, x, g, n, true, a.stock, a.people, pa, la, qs, rfl, S, ?_⟩
    by_cases h : g < a.people.length ∧ n < a.people.length
    · rw [if_pos h]
      have h' : ¬ (a.isP g = false ∨ a.isP n = false) := by
        unfold Su89.Abs.isP
        rw [decide_eq_true h.1, decide_eq_true h.2]
        decide
      have e : Su89.does a (.swap g n) = if g = n then (a, Su89.no (-22)) else ({ a with people := swapL a.people g n }, Su89.num (Su89.served ({ a with people := swapL a.people g n } : Su89.Abs).got) [Su89.served a.got]) := if_neg h'
      by_cases h2 : g = n
      · rw [if_pos h2] at e ⊢
        rw [e] at k
        exact k.ask S
      · rw [if_neg h2] at e ⊢
        rw [e] at k
        exact k
    · rw [if_neg h]
      have h' : a.isP g = false ∨ a.isP n = false := by
        unfold Su89.Abs.isP
        by_cases q : g < a.people.length
        · exact .inr (decide_eq_false fun z => h ⟨q, z⟩)
        · exact .inl (decide_eq_false q)
      have e : Su89.does a (.swap g n) = (a, Su89.no (-2)) := if_pos h'
      rw [e] at k
      exact k.ask S
  have n13 := num_no (n := 13) c
  refine ⟨_, rfl, rfl, _, rfl, ?_⟩
  refine ite2 (fun c => ?_) (fun c => ?_)
  · obtain rfl := is_serve (num_yes (n := 17) c)
    refine ⟨_, rfl, x, dx, _, rfl, ho, sf_no _ _ _ (by decide +kernel) (by decide +kernel) (by decide +kernel), x, true, a.stock, a.people, pa, la, qs, rfl, S, ?_⟩
    have k : Post C H x pa la qs true a.left [] (aGot a.stock a.people) Q := k
    rw [left_eq] at k
    exact k
  have n17 := num_no (n := 17) c
  have ia : isAsk (numOf y) := ⟨n0, n1, n2, n3, n13, n17⟩
  have ea := ask_same (a := a) ia
  rw [ea] at k
  exact ⟨_, rfl, _, rfl, x, p, y, a, pa, la, qs, rfl, hP, sm, ia, S, k.ask S⟩
end
end Sg
end
-- text SgStore4
section
set_option Elab.async false
set_option linter.all false
set_option maxRecDepth 100000
set_option maxHeartbeats 4000000
namespace Sg
open PySem PySem.Spec PyProof.Rows L2
theorem ShopAt.off_upd {C : Addr} {H : Hp} {x : Addr} {bg : Bool} {s : List Nat} {ls : List (List Nat)} {pa la : Addr} {qs : List Addr} (S : ShopAt C H x bg s ls pa la qs) {b : Addr} (o : HO) (hx : b ≠ x) (hn : ¬ Owns pa la qs b) : ShopAt C (upd H b o) x bg s ls pa la qs := by
  obtain ⟨dx, ho⟩ := S.obj
  refine ⟨⟨dx, by rw [upd_ne hx.symm]; exact ho⟩, ?_, ?_, S.len, fun i q l h1 h2 => ?_, S.pl, S.off, S.lt, S.five, S.six, S.told, S.one⟩
  · rw [upd_ne (fun z => hn (.inl z.symm))]
    exact S.pieces
  · rw [upd_ne (fun z => hn (.inr (.inl z.symm)))]
    exact S.lists
  · have qb : q ≠ b := fun z => hn (.inr (.inr (z ▸ List.mem_of_getElem? h1)))
    rw [upd_ne qb]
    exact S.at_ i q l h1 h2
section
variable {P : Program} {w : World} {K : PySem.W.Frag} {mg : Str → Option Value} {base : Heap}
/- ### answers -/
theorem scAnswers : FnScope ["calls", "shop", "given", "call", "numbers"] ["calls"] (defScope sAnswers) := ⟨rfl, rfl, rfl, by decide +kernel, rfl, by decide +kernel, by decide +kernel⟩
noncomputable def spAnswers (K : PySem.W.Frag) : Sp := fun vs H Q _ => ∃ (a : Addr) (ns : List Int), vs = [.ref a] ∧ SqL K H a (ns.map V.int) ∧ ns.length ≤ 4400 ∧ PySu89.answers_asked ns = true ∧ ∀ (H' : Hp) (p : Addr), H' p = some (.lst ((PySu89.answers ns).map V.int)) → Q (.ref p) H'
theorem ok_answers {f C fI : Addr} {fd dI : FuncData} (F : Fun K "answers" "answers" sAnswers f fd) (T : Txt K mg C) (mC : mg "Shop" = some (.ref C)) (M : Mk K C fI) (GI : FnOk P w K mg base CX0 1 fI dI ["self"] (spInit C)) (bI : L2.Binds K dI ["self"] [])
    (B : FOk P w K mg base "answer_call" 15 ["shop", "call"] (spCall K C)) (L : FOk P w K mg base "split_line" 2 ["calls"] (spSplit K)) : FnOk P w K mg base CX0 16 f fd ["calls"] (spAnswers K) := by
  refine F.ok scAnswers (fun vs H Q E h => ?_) (fun cdv A outer s H vs Q E hr h => ?_)
  · obtain ⟨a, ns, rfl, _⟩ := h
    rfl
  obtain ⟨a, ns, rfl, hA, few, ask, k⟩ := h
  obtain ⟨fB, dB, mB, kB, bB, oB⟩ := B
  obtain ⟨fL, dL, mL, kL, bL, oL⟩ := L
  obtain ⟨ys, rfl, sm, ea, big⟩ := asked_of ask
  rw [ea] at k
  have hr2 : Room 2 _ := hr.mono (by decide)
  refine ⟨_, pss_cons (ps_set (i := 1) scAnswers.nd rfl (Or.inl rfl) (pe_make0 M GI hr2 rfl mC bI .nil pass0))
    (pss_cons (ps_set (i := 2) scAnswers.nd rfl (Or.inl rfl) (pe_lst pa_nil))
    (pss_cons (ps_for PassesOwn.never rfl (pi_list (pe_call oL hr2 rfl mL kL bL .nil pass0 (pa_cons (pv 0) pa_nil))) (pg_name (i := 3) scAnswers.nd rfl (Or.inl rfl))
      (pss_cons (ps_set (i := 4) scAnswers.nd rfl (Or.inl rfl) (pe_call oB hr rfl mB kB bB .nil pass0 (pa_cons (pv 1) (pa_cons (pv 3) pa_nil))))
      (pss_cons (ps_expr (pe_bm PySem.F.plainAttrs_list PySem.F.slot_list_append PySem.F.type_list_append mt_append (pv 2) (pa_cons (pe_callB call_len_seq rfl T.len PySem.boot_len (pa_cons (pv 4) pa_nil)) pa_nil)))
      (pss_one (ps_expr (pe_bm PySem.F.plainAttrs_list PySem.F.slot_list_extend PySem.F.type_list_extend mt_extend (pv 2) (pa_cons (pv 4) pa_nil)))))))
    (pss_one (ps_ret (pv 2))))), ?_⟩
  intro x dx nx ndx nex
  refine ⟨x, dx, rfl, upd_same, fun H1 pa la S1 hpa hla kp => ⟨rfl, ?_⟩⟩
  have s1 : Same H H1 := Same.made nx ndx kp
  refine ⟨(by show 0 ≤ sizeLine; decide), fun g hg => ?_⟩
  have s2 := same_new hg (.lst [])
  have s12 := s1.trans s2
  have S2 := S1.same s2
  have g2 : upd H1 g (.lst []) g = some (.lst []) := upd_same
  have ng : ∀ b, Owns pa la [] b → b ≠ g := by
    rintro b (rfl | rfl | h)
    · exact ne_of_none S1.pieces hg
    · exact ne_of_none S1.lists hg
    · simp at h
  generalize upd H1 g (.lst []) = H2 at s2 s12 S2 g2
  refine ⟨_, rfl, a, ys, rfl, s12.seq hA, few, fun r H3 ps s3 R => ?_⟩
  have S3 := S2.same s3
  have g3 := s3 _ _ g2
  have gr : g ≠ r := ne_of_none g2 R.rn
  have gp : g ∉ ps := fun z => by
    have := R.nw g z
    rw [g2] at this
    cases this
  have pl : ps.length = ys.length := by rw [R.len, List.length_map]
  have no3 : ∀ b, Owns pa la [] b → b ≠ g ∧ b ≠ r ∧ b ∉ ps := fun b hb => by
    have hs : ∃ o, H2 b = some o := by
      rcases hb with z | z | z
      · exact ⟨_, z ▸ S2.pieces⟩
      · exact ⟨_, z ▸ S2.lists⟩
      · simp at z
    obtain ⟨o, ho⟩ := hs
    refine ⟨ng b hb, ne_of_none ho R.rn, fun z => ?_⟩
    rw [R.nw b z] at ho
    cases ho
  refine ⟨r, rfl, ⟨_, SqL.of R.lst⟩, for_list (K := K) (a := r) (xs := ps.map V.ref) (fun j σ H' => ∃ (v3 v4 : Option V) (pa la : Addr) (qs : List Addr), σ = [some (.ref a), some (.ref x), some (.ref g), v3, v4] ∧
      ShopAt C H' x (bgOf (stOf none (ys.take j))) (sOf (stOf none (ys.take j))) (lsOf (stOf none (ys.take j))) pa la qs ∧ H' g = some (.lst ((PyFlat.told (anOf none (ys.take j))).map V.int)) ∧ H' r = some (.lst (ps.map V.ref)) ∧
      (∀ (i : Nat) (p : Addr) (y : Su89.Call), ps[i]? = some p → ys[i]? = some y → H' p = some (.lst (rowC y))) ∧ ∀ b, Owns pa la qs b → b ≠ g ∧ b ≠ r ∧ b ∉ ps)
    ⟨none, none, pa, la, [], rfl, S3, g3, R.lst, fun i p y h1 h2 => R.at_ i p _ h1 (by rw [List.getElem?_map, h2]; rfl), no3⟩ (fun j σ H' _ hq => by obtain ⟨_, _, _, _, _, _, _, _, h, _⟩ := hq; exact SqL.of h) ?_ ?_⟩
  · rintro j v σ H' hj ⟨v3, v4, pa, la, qs, rfl, S, hg', hr', rows, own⟩
    rw [List.getElem?_map] at hj
    cases ep : ps[j]? with
    | none => rw [ep] at hj; cases hj
    | some p =>
      rw [ep] at hj
      obtain rfl := Option.some.inj hj
      have jl : j < ys.length := by rw [← pl]; exact (List.getElem?_eq_some_iff.mp ep).1
      have ey : ys[j]? = some ys[j] := List.getElem?_eq_getElem jl
      generalize ys[j] = y at ey
      have hp := rows j p y ep ey
      obtain ⟨dx', ho⟩ := S.obj
      have e1 : ys.take (j + 1) = ys.take j ++ [y] := take_snoc ey
      have m1 := told_mono ys none (j + 1)
      have xg : g ≠ x := ne_of hg' ho (by intro z; cases z)
      have xr : r ≠ x := ne_of hr' ho (by intro z; cases z)
      refine ⟨_, rfl, _, rfl, x, p, y, _, pa, la, qs, rfl, SqL.of hp, sm y (List.mem_of_getElem? ey), S, fun H4 rr pa' la' qs' S4 own4 keep hrr h4 => ?_⟩
      have est : stOf none (ys.take (j + 1)) = (Su89.step (stOf none (ys.take j)) y).1 := by rw [e1, stOf_app]; rfl
      have eto := told_snoc (ys.take j) y none
      rw [← e1] at eto
      rw [eto, List.length_append, List.length_cons] at m1
      have g4 : H4 g = some (.lst ((PyFlat.told (anOf none (ys.take j))).map V.int)) := keep g _ hg' xg fun z => (own g z).1 rfl
      have r4 : H4 r = some (.lst (ps.map V.ref)) := keep r _ hr' xr fun z => (own r z).2.1 rfl
      have rows4 : ∀ (i : Nat) (p : Addr) (y : Su89.Call), ps[i]? = some p → ys[i]? = some y → H4 p = some (.lst (rowC y)) := fun i p y h1 h2 => by
        have hp := rows i p y h1 h2
        exact keep p _ hp (ne_of hp ho (by intro z; cases z)) fun z => (own p z).2.2 (List.mem_of_getElem? h1)
      have rg : rr ≠ g := (ne_of_none hg' hrr).symm
      have own5 : ∀ b, Owns pa' la' qs' b → b ≠ g ∧ b ≠ r ∧ b ∉ ps := fun b hb => by
        rcases own4 b hb with z | z
        · exact own b z
        · refine ⟨(ne_of_none hg' z).symm, (ne_of_none hr' z).symm, fun m => ?_⟩
          obtain ⟨i, hi⟩ := List.mem_iff_getElem?.mp m
          have il : i < ys.length := by rw [← pl]; exact (List.getElem?_eq_some_iff.mp hi).1
          rw [rows i b _ hi (List.getElem?_eq_getElem il)] at z
          cases z
      have gn : ¬ Owns pa' la' qs' g := fun z => (own5 g z).1 rfl
      refine ⟨_, rfl, .inl ⟨rfl, _, SqL.of g4⟩, _, rfl, rr, _, rfl, .inl (SqL.of h4), g, _, _, rfl, rfl, g4, ?_, ?_⟩
      · rw [List.length_map]
        exact Nat.lt_of_le_of_lt (show _ ≤ 10000000 by lia) (by decide)
      refine ⟨_, rfl, .inl ⟨rfl, _, SqL.of upd_same⟩, _, rfl, g, rr, _, _, rfl, rfl, upd_same, by rw [upd_ne rg]; exact h4, ?_, ?_⟩
      · rw [List.length_append, List.length_map, List.length_map]
        show _ + 1 + _ ≤ sizeLine
        exact Nat.le_of_lt (Nat.lt_of_le_of_lt (show _ ≤ 10000000 by lia) (by decide))
      refine ⟨_, _, pa', la', qs', rfl, ?_, ?_, ?_, fun i q z h1 h2 => ?_, own5⟩
      · rw [est]
        exact (S4.off_upd _ xg gn).off_upd _ xg gn
      · rw [upd_same, eto, List.map_append, List.map_cons, List.length_map, List.append_assoc]
        rfl
      · rw [upd_ne gr.symm, upd_ne gr.symm]
        exact r4
      · have qg : q ≠ g := fun z => gp (z ▸ List.mem_of_getElem? h1)
        rw [upd_ne qg, upd_ne qg]
        exact rows4 i q z h1 h2
  · rintro σ H' ⟨v3, v4, pa, la, qs, rfl, S, hg', hr', rows, own⟩
    rw [List.length_map, pl, List.take_length] at hg'
    exact ⟨_, rfl, k H' g hg'⟩
end
end Sg
end
-- text SgAll
section
set_option Elab.async false
set_option linter.all false
set_option maxRecDepth 100000
set_option maxHeartbeats 4000000
namespace Sg
open PySem PySem.Spec PyProof.Rows L2
section
variable {K : PySem.W.Frag} {mg : Str → Option Value} {h : Heap}
/- a def of the text, a method of the class, as the top leaves it -/
noncomputable def TopDef (K : PySem.W.Frag) (mg : Str → Option Value) (x : Str) (st : Stmt) : Prop := ∃ f fd, mg x = some (.ref f) ∧ Fun K x x st f fd
noncomputable def MethDef (K : PySem.W.Frag) (C : Addr) (x qual : Str) (st : Stmt) : Prop := ∃ f fd, Meth K C x f ∧ Fun K x qual st f fd
theorem top_mk {x : Str} {st : Stmt} {f : Addr} {oc : Value} {od an : Option Addr} {osl : Array (Option Value)} {kV doc pm cdv ct : Value} (X : K.In h) (G : h.Ns mainGlobals mg) (a : PySem.W.nsIn K mainGlobals x = some (some (.ref f)))
    (l : K.lookup f = some ⟨oc, od, .func (PySem.W.fnOf x x (defArgs st) (defBody st) (defScope st) .none kV doc pm an cdv ct), osl⟩) (c : PySem.W.codeIn K cdv x = true) (k : PySem.W.keepIn K (.ref f) = true) : TopDef K mg x st :=
  ⟨f, _, PySem.W.mg_of X G a, fun_mk l c k⟩
theorem meth_mk {C : Addr} {x qual : Str} {st : Stmt} {f : Addr} {oc : Value} {od an : Option Addr} {osl : Array (Option Value)} {kV doc pm cdv ct : Value} (a : PySem.W.findIn K (.ref C) x = some (some (.ref f))) (i : PySem.W.isFn K (.ref f) = true)
    (l : K.lookup f = some ⟨oc, od, .func (PySem.W.fnOf x qual (defArgs st) (defBody st) (defScope st) .none kV doc pm an cdv ct), osl⟩) (c : PySem.W.codeIn K cdv qual = true) (k : PySem.W.keepIn K (.ref f) = true) : MethDef K C x qual st :=
  ⟨f, _, ⟨a, i, k⟩, fun_mk l c k⟩
theorem cst_mk {x : Str} {i : Int} {t : Tok} (X : K.In h) (G : h.Ns mainGlobals mg) (a : PySem.W.nsIn K mainGlobals x = some (some (.int i t))) : Cst mg x i := ⟨t, PySem.W.mg_of X G a⟩
theorem len3 {α : Type} {l : List α} (h : l.length = 3) : ∃ a b c, l = [a, b, c] := by
  match l, h with
  | [a, b, c], _ => exact ⟨a, b, c, rfl⟩
theorem len5 {α : Type} {l : List α} (h : l.length = 5) : ∃ a b c d e, l = [a, b, c, d, e] := by
  match l, h with
  | [a, b, c, d, e], _ => exact ⟨a, b, c, d, e, rfl⟩
end
theorem txt_mk {K : PySem.W.Frag} {mg : Str → Option Value} {h : Heap} {C : Addr} {t_NOTHING t_NONE_SUCH t_NOT_BEGUN t_OUT_OF_RANGE t_TOO_MANY t_MOST_GOODS t_MOST_PIECES t_MOST_PEOPLE t_LONGEST_LIST t_MOST_LAID : Tok} (X : K.In h) (G : h.Ns mainGlobals mg)
    (pg : PySem.W.plainGet K C Str.empty = true) (hd : PySem.W.hasDictIn K C = true) (po : PySem.W.plainOver K C = true) (sa : PySem.W.findIn K (.ref C) "__setattr__" = some (some (.builtin "object.__setattr__")))
    (nB : PySem.W.findIn K (.ref C) "begun" = some none) (nP : PySem.W.findIn K (.ref C) "pieces" = some none) (nL : PySem.W.findIn K (.ref C) "lists" = some none)
    (z_len : PySem.W.nsIn K mainGlobals "len" = some none) (z_range : PySem.W.nsIn K mainGlobals "range" = some none) (z_list : PySem.W.nsIn K mainGlobals "list" = some none) (z_set : PySem.W.nsIn K mainGlobals "set" = some none) (z_all : PySem.W.nsIn K mainGlobals "all" = some none) (z_sum : PySem.W.nsIn K mainGlobals "sum" = some none) (z_zip : PySem.W.nsIn K mainGlobals "zip" = some none)
    (c_NOTHING : PySem.W.nsIn K mainGlobals "NOTHING" = some (some (.int 0 t_NOTHING))) (c_NONE_SUCH : PySem.W.nsIn K mainGlobals "NONE_SUCH" = some (some (.int (-2) t_NONE_SUCH))) (c_NOT_BEGUN : PySem.W.nsIn K mainGlobals "NOT_BEGUN" = some (some (.int (-11) t_NOT_BEGUN))) (c_OUT_OF_RANGE : PySem.W.nsIn K mainGlobals "OUT_OF_RANGE" = some (some (.int (-22) t_OUT_OF_RANGE))) (c_TOO_MANY : PySem.W.nsIn K mainGlobals "TOO_MANY" = some (some (.int (-28) t_TOO_MANY))) (c_MOST_GOODS : PySem.W.nsIn K mainGlobals "MOST_GOODS" = some (some (.int 5 t_MOST_GOODS))) (c_MOST_PIECES : PySem.W.nsIn K mainGlobals "MOST_PIECES" = some (some (.int 100 t_MOST_PIECES))) (c_MOST_PEOPLE : PySem.W.nsIn K mainGlobals "MOST_PEOPLE" = some (some (.int 6 t_MOST_PEOPLE))) (c_LONGEST_LIST : PySem.W.nsIn K mainGlobals "LONGEST_LIST" = some (some (.int 5 t_LONGEST_LIST))) (c_MOST_LAID : PySem.W.nsIn K mainGlobals "MOST_LAID" = some (some (.int 8 t_MOST_LAID))) : Txt K mg C :=
  ⟨⟨pg, hd, po, sa⟩, nB, nP, nL, PySem.W.mg_none_of X G z_len, PySem.W.mg_none_of X G z_range, PySem.W.mg_none_of X G z_list, PySem.W.mg_none_of X G z_set, PySem.W.mg_none_of X G z_all, PySem.W.mg_none_of X G z_sum, cst_mk X G c_NOTHING, cst_mk X G c_NONE_SUCH, cst_mk X G c_NOT_BEGUN, cst_mk X G c_OUT_OF_RANGE, cst_mk X G c_TOO_MANY, cst_mk X G c_MOST_GOODS, cst_mk X G c_MOST_PIECES, cst_mk X G c_MOST_PEOPLE, cst_mk X G c_LONGEST_LIST, cst_mk X G c_MOST_LAID, PySem.W.mg_none_of X G z_zip⟩
theorem txt2_mk {K : PySem.W.Frag} {mg : Str → Option Value} {h : Heap} {wa : Addr} {dw : Option Addr} {its : Array Value} {nw : Nat} {slw : Array (Option Value)} {t_BEGIN t_PUT t_PERSON t_DROP t_GOT t_LOST t_LEFT t_MOST t_PLUS t_TOLD t_AHEAD t_LAY t_RANKS t_SWAP t_NEEDED t_WANTED t_SERVE t_SUMS t_STATE : Tok} (X : K.In h) (G : h.Ns mainGlobals mg)
    (c_BEGIN : PySem.W.nsIn K mainGlobals "BEGIN" = some (some (.int 0 t_BEGIN))) (c_PUT : PySem.W.nsIn K mainGlobals "PUT" = some (some (.int 1 t_PUT))) (c_PERSON : PySem.W.nsIn K mainGlobals "PERSON" = some (some (.int 2 t_PERSON))) (c_DROP : PySem.W.nsIn K mainGlobals "DROP" = some (some (.int 3 t_DROP))) (c_GOT : PySem.W.nsIn K mainGlobals "GOT" = some (some (.int 4 t_GOT))) (c_LOST : PySem.W.nsIn K mainGlobals "LOST" = some (some (.int 5 t_LOST))) (c_LEFT : PySem.W.nsIn K mainGlobals "LEFT" = some (some (.int 6 t_LEFT))) (c_MOST : PySem.W.nsIn K mainGlobals "MOST" = some (some (.int 7 t_MOST))) (c_PLUS : PySem.W.nsIn K mainGlobals "PLUS" = some (some (.int 8 t_PLUS))) (c_TOLD : PySem.W.nsIn K mainGlobals "TOLD" = some (some (.int 9 t_TOLD))) (c_AHEAD : PySem.W.nsIn K mainGlobals "AHEAD" = some (some (.int 10 t_AHEAD))) (c_LAY : PySem.W.nsIn K mainGlobals "LAY" = some (some (.int 11 t_LAY))) (c_RANKS : PySem.W.nsIn K mainGlobals "RANKS" = some (some (.int 12 t_RANKS))) (c_SWAP : PySem.W.nsIn K mainGlobals "SWAP" = some (some (.int 13 t_SWAP))) (c_NEEDED : PySem.W.nsIn K mainGlobals "NEEDED" = some (some (.int 14 t_NEEDED))) (c_WANTED : PySem.W.nsIn K mainGlobals "WANTED" = some (some (.int 15 t_WANTED))) (c_SERVE : PySem.W.nsIn K mainGlobals "SERVE" = some (some (.int 17 t_SERVE))) (c_SUMS : PySem.W.nsIn K mainGlobals "SUMS" = some (some (.int 18 t_SUMS))) (c_STATE : PySem.W.nsIn K mainGlobals "STATE" = some (some (.int 19 t_STATE)))
    (aw : PySem.W.nsIn K mainGlobals "WHOLE_NUMBERS" = some (some (.ref wa))) (lw : K.lookup wa = some ⟨.type "tuple", dw, .seq its nw, slw⟩) (vw : Vals (wnl.map V.int) its.toList) (zw : its.size ≤ sizeLine) : Txt2 K mg :=
  ⟨cst_mk X G c_BEGIN, cst_mk X G c_PUT, cst_mk X G c_PERSON, cst_mk X G c_DROP, cst_mk X G c_GOT, cst_mk X G c_LOST, cst_mk X G c_LEFT, cst_mk X G c_MOST, cst_mk X G c_PLUS, cst_mk X G c_TOLD, cst_mk X G c_AHEAD, cst_mk X G c_LAY, cst_mk X G c_RANKS, cst_mk X G c_SWAP, cst_mk X G c_NEEDED, cst_mk X G c_WANTED, cst_mk X G c_SERVE, cst_mk X G c_SUMS, cst_mk X G c_STATE, ⟨wa, PySem.W.mg_of X G aw, fun H => .inr ⟨_, its, nw, lw, rfl, rfl, zw, vw⟩⟩⟩
theorem all_ok {P : Program} {w : World} {K : PySem.W.Frag} {mg : Str → Option Value} {fa C : Addr} {h : Heap} (X : K.In h) (G : h.Ns mainGlobals mg) (hfa : mg "answers" = some (.ref fa)) (aC : PySem.W.nsIn K mainGlobals "Shop" = some (some (.ref C))) (T : Txt K mg C) (U : Txt2 K mg) (makes : PySem.W.makesIn K C = true) (kc : PySem.W.keepIn K (.ref C) = true)
    (d_first : TopDef K mg "first_there" sFirst) (d_serve : TopDef K mg "serve_all" sServe) (d_count : TopDef K mg "count_served" sCount) (d_far : TopDef K mg "how_far_down" sFar) (d_allfar : TopDef K mg "all_far_down" sAllFar) (d_left : TopDef K mg "pieces_left" sLeft) (d_most : TopDef K mg "most_served" sMost) (d_give : TopDef K mg "give_piece" sGive) (d_find : TopDef K mg "find_piece" sFind) (d_stocks : TopDef K mg "all_stocks" sStocks) (d_best : TopDef K mg "best_stock" sBest) (d_worth : TopDef K mg "worth" sWorth) (d_answers : TopDef K mg "answers" sAnswers) (d_split : TopDef K mg "split_line" sSplit) (d_length : TopDef K mg "call_length" sLength) (d_call : TopDef K mg "answer_call" sCall) (d_askq : TopDef K mg "answer_question" sAskQ) (d_about : TopDef K mg "answer_question_about" sAbout)
    (q___init__ : MethDef K C "__init__" "Shop.__init__" cInit) (q_begin : MethDef K C "begin" "Shop.begin" cBegin) (q_put : MethDef K C "put" "Shop.put" cPut) (q_person : MethDef K C "person" "Shop.person" cPerson) (q_drop : MethDef K C "drop" "Shop.drop" cDrop) (q_swap : MethDef K C "swap" "Shop.swap" cSwap) (q_serve : MethDef K C "serve" "Shop.serve" cServe) (q_got : MethDef K C "got" "Shop.got" cGot) (q_lost : MethDef K C "lost" "Shop.lost" cLost) (q_left : MethDef K C "left" "Shop.left" cLeft) (q_ranks : MethDef K C "ranks" "Shop.ranks" cRanks) (q_most : MethDef K C "most" "Shop.most" cMost) (q_needed : MethDef K C "needed" "Shop.needed" cNeeded) (q_plus : MethDef K C "plus" "Shop.plus" cPlus) (q_told : MethDef K C "told" "Shop.told" cTold) (q_ahead : MethDef K C "ahead" "Shop.ahead" cAhead) (q_lay : MethDef K C "lay" "Shop.lay" cLay) (q_wanted : MethDef K C "wanted" "Shop.wanted" cWanted) (q_look : MethDef K C "look" "Shop.look" cLook) (q_sums : MethDef K C "sums" "Shop.sums" cSums) (q_state : MethDef K C "state" "Shop.state" cState) (q_has_good : MethDef K C "has_good" "Shop.has_good" cHasGood) (q_has_person : MethDef K C "has_person" "Shop.has_person" cHasPerson) (q_may_be_told : MethDef K C "may_be_told" "Shop.may_be_told" cMay) (q_taken_now : MethDef K C "taken_now" "Shop.taken_now" cTaken) (q_served_now : MethDef K C "served_now" "Shop.served_now" cServed) (q_is_needed : MethDef K C "is_needed" "Shop.is_needed" cIsNeeded) :
    ∃ fd : FuncData, (∀ (s : Shared) (us : List Value), us.length = (["calls"] : List Str).length → BindsTo s fd ⟨us, []⟩ ((["calls"] : List Str).zip us)) ∧ ∀ base : Heap, K.In base → base.Ns mainGlobals mg → FnOk P w K mg base CX0 16 fa fd ["calls"] (spAnswers K) := by
  obtain ⟨tN, mN⟩ := T.nothing
  obtain ⟨f_first, g_first, n_first, F_first⟩ := d_first
  have b_first := F_first.binds (ps := ["goods", "pieces"]) fun _ _ _ _ _ _ us hl => by obtain ⟨a, b, rfl⟩ := len2 hl; rfl
  have k_first := F_first.kp
  obtain ⟨f_serve, g_serve, n_serve, F_serve⟩ := d_serve
  have b_serve := F_serve.binds (ps := ["pieces", "lists"]) fun _ _ _ _ _ _ us hl => by obtain ⟨a, b, rfl⟩ := len2 hl; rfl
  have k_serve := F_serve.kp
  obtain ⟨f_count, g_count, n_count, F_count⟩ := d_count
  have b_count := F_count.binds (ps := ["taken"]) fun _ _ _ _ _ _ us hl => by obtain ⟨a, rfl⟩ := len1 hl; rfl
  have k_count := F_count.kp
  obtain ⟨f_far, g_far, n_far, F_far⟩ := d_far
  have b_far := F_far.binds (ps := ["goods", "take"]) fun _ _ _ _ _ _ us hl => by obtain ⟨a, b, rfl⟩ := len2 hl; rfl
  have k_far := F_far.kp
  obtain ⟨f_allfar, g_allfar, n_allfar, F_allfar⟩ := d_allfar
  have b_allfar := F_allfar.binds (ps := ["lists", "taken"]) fun _ _ _ _ _ _ us hl => by obtain ⟨a, b, rfl⟩ := len2 hl; rfl
  have k_allfar := F_allfar.kp
  obtain ⟨f_left, g_left, n_left, F_left⟩ := d_left
  have b_left := F_left.binds (ps := ["pieces", "taken"]) fun _ _ _ _ _ _ us hl => by obtain ⟨a, b, rfl⟩ := len2 hl; rfl
  have k_left := F_left.kp
  obtain ⟨f_most, g_most, n_most, F_most⟩ := d_most
  have b_most := F_most.binds (ps := ["pieces", "lists"]) fun _ _ _ _ _ _ us hl => by obtain ⟨a, b, rfl⟩ := len2 hl; rfl
  have k_most := F_most.kp
  obtain ⟨f_give, g_give, n_give, F_give⟩ := d_give
  have b_give := F_give.binds (ps := ["person", "pieces", "lists", "taken", "tried"]) fun _ _ _ _ _ _ us hl => by obtain ⟨a, b, c, d, e, rfl⟩ := len5 hl; rfl
  have k_give := F_give.kp
  obtain ⟨f_find, g_find, n_find, F_find⟩ := d_find
  have b_find := F_find.binds (ps := ["good", "pieces", "lists", "taken", "tried"]) fun _ _ _ _ _ _ us hl => by obtain ⟨a, b, c, d, e, rfl⟩ := len5 hl; rfl
  have k_find := F_find.kp
  obtain ⟨f_stocks, g_stocks, n_stocks, F_stocks⟩ := d_stocks
  have b_stocks := F_stocks.binds (ps := ["goods", "count"]) fun _ _ _ _ _ _ us hl => by obtain ⟨a, b, rfl⟩ := len2 hl; rfl
  have k_stocks := F_stocks.kp
  obtain ⟨f_best, g_best, n_best, F_best⟩ := d_best
  have b_best := F_best.binds (ps := ["goods", "count", "lists"]) fun _ _ _ _ _ _ us hl => by obtain ⟨a, b, c, rfl⟩ := len3 hl; rfl
  have k_best := F_best.kp
  obtain ⟨f_worth, g_worth, n_worth, F_worth⟩ := d_worth
  have b_worth := F_worth.binds (ps := ["stock", "lists"]) fun _ _ _ _ _ _ us hl => by obtain ⟨a, b, rfl⟩ := len2 hl; rfl
  have k_worth := F_worth.kp
  obtain ⟨f_answers, g_answers, n_answers, F_answers⟩ := d_answers
  rw [hfa] at n_answers
  cases n_answers
  obtain ⟨f_split, g_split, n_split, F_split⟩ := d_split
  have b_split := F_split.binds (ps := ["calls"]) fun _ _ _ _ _ _ us hl => by obtain ⟨a, rfl⟩ := len1 hl; rfl
  have k_split := F_split.kp
  obtain ⟨f_length, g_length, n_length, F_length⟩ := d_length
  have b_length := F_length.binds (ps := ["calls", "start"]) fun _ _ _ _ _ _ us hl => by obtain ⟨a, b, rfl⟩ := len2 hl; rfl
  have k_length := F_length.kp
  obtain ⟨f_call, g_call, n_call, F_call⟩ := d_call
  have b_call := F_call.binds (ps := ["shop", "call"]) fun _ _ _ _ _ _ us hl => by obtain ⟨a, b, rfl⟩ := len2 hl; rfl
  have k_call := F_call.kp
  obtain ⟨f_askq, g_askq, n_askq, F_askq⟩ := d_askq
  have b_askq := F_askq.binds (ps := ["shop", "call"]) fun _ _ _ _ _ _ us hl => by obtain ⟨a, b, rfl⟩ := len2 hl; rfl
  have k_askq := F_askq.kp
  obtain ⟨f_about, g_about, n_about, F_about⟩ := d_about
  have b_about := F_about.binds (ps := ["shop", "call"]) fun _ _ _ _ _ _ us hl => by obtain ⟨a, b, rfl⟩ := len2 hl; rfl
  have k_about := F_about.kp
  obtain ⟨mf___init__, mg___init__, mm___init__, MF___init__⟩ := q___init__
  have mb___init__ := MF___init__.binds (ps := ["self"]) fun _ _ _ _ _ _ us hl => by obtain ⟨a, rfl⟩ := len1 hl; rfl
  obtain ⟨mf_begin, mg_begin, mm_begin, MF_begin⟩ := q_begin
  have mb_begin := MF_begin.binds (ps := ["self", "count"]) fun _ _ _ _ _ _ us hl => by obtain ⟨a, b, rfl⟩ := len2 hl; rfl
  obtain ⟨mf_put, mg_put, mm_put, MF_put⟩ := q_put
  have mb_put := MF_put.binds (ps := ["self", "good", "count"]) fun _ _ _ _ _ _ us hl => by obtain ⟨a, b, c, rfl⟩ := len3 hl; rfl
  obtain ⟨mf_person, mg_person, mm_person, MF_person⟩ := q_person
  have mb_person := MF_person.binds (ps := ["self", "goods"]) fun _ _ _ _ _ _ us hl => by obtain ⟨a, b, rfl⟩ := len2 hl; rfl
  obtain ⟨mf_drop, mg_drop, mm_drop, MF_drop⟩ := q_drop
  have mb_drop := MF_drop.binds (ps := ["self", "person"]) fun _ _ _ _ _ _ us hl => by obtain ⟨a, b, rfl⟩ := len2 hl; rfl
  obtain ⟨mf_swap, mg_swap, mm_swap, MF_swap⟩ := q_swap
  have mb_swap := MF_swap.binds (ps := ["self", "one", "other"]) fun _ _ _ _ _ _ us hl => by obtain ⟨a, b, c, rfl⟩ := len3 hl; rfl
  obtain ⟨mf_serve, mg_serve, mm_serve, MF_serve⟩ := q_serve
  have mb_serve := MF_serve.binds (ps := ["self"]) fun _ _ _ _ _ _ us hl => by obtain ⟨a, rfl⟩ := len1 hl; rfl
  obtain ⟨mf_got, mg_got, mm_got, MF_got⟩ := q_got
  have mb_got := MF_got.binds (ps := ["self"]) fun _ _ _ _ _ _ us hl => by obtain ⟨a, rfl⟩ := len1 hl; rfl
  obtain ⟨mf_lost, mg_lost, mm_lost, MF_lost⟩ := q_lost
  have mb_lost := MF_lost.binds (ps := ["self"]) fun _ _ _ _ _ _ us hl => by obtain ⟨a, rfl⟩ := len1 hl; rfl
  obtain ⟨mf_left, mg_left, mm_left, MF_left⟩ := q_left
  have mb_left := MF_left.binds (ps := ["self"]) fun _ _ _ _ _ _ us hl => by obtain ⟨a, rfl⟩ := len1 hl; rfl
  obtain ⟨mf_ranks, mg_ranks, mm_ranks, MF_ranks⟩ := q_ranks
  have mb_ranks := MF_ranks.binds (ps := ["self"]) fun _ _ _ _ _ _ us hl => by obtain ⟨a, rfl⟩ := len1 hl; rfl
  obtain ⟨mf_most, mg_most, mm_most, MF_most⟩ := q_most
  have mb_most := MF_most.binds (ps := ["self"]) fun _ _ _ _ _ _ us hl => by obtain ⟨a, rfl⟩ := len1 hl; rfl
  obtain ⟨mf_needed, mg_needed, mm_needed, MF_needed⟩ := q_needed
  have mb_needed := MF_needed.binds (ps := ["self"]) fun _ _ _ _ _ _ us hl => by obtain ⟨a, rfl⟩ := len1 hl; rfl
  obtain ⟨mf_plus, mg_plus, mm_plus, MF_plus⟩ := q_plus
  have mb_plus := MF_plus.binds (ps := ["self", "good"]) fun _ _ _ _ _ _ us hl => by obtain ⟨a, b, rfl⟩ := len2 hl; rfl
  obtain ⟨mf_told, mg_told, mm_told, MF_told⟩ := q_told
  have mb_told := MF_told.binds (ps := ["self", "person", "goods"]) fun _ _ _ _ _ _ us hl => by obtain ⟨a, b, c, rfl⟩ := len3 hl; rfl
  obtain ⟨mf_ahead, mg_ahead, mm_ahead, MF_ahead⟩ := q_ahead
  have mb_ahead := MF_ahead.binds (ps := ["self", "person"]) fun _ _ _ _ _ _ us hl => by obtain ⟨a, b, rfl⟩ := len2 hl; rfl
  obtain ⟨mf_lay, mg_lay, mm_lay, MF_lay⟩ := q_lay
  have mb_lay := MF_lay.binds (ps := ["self", "count"]) fun _ _ _ _ _ _ us hl => by obtain ⟨a, b, rfl⟩ := len2 hl; rfl
  obtain ⟨mf_wanted, mg_wanted, mm_wanted, MF_wanted⟩ := q_wanted
  have mb_wanted := MF_wanted.binds (ps := ["self", "good"]) fun _ _ _ _ _ _ us hl => by obtain ⟨a, b, rfl⟩ := len2 hl; rfl
  obtain ⟨mf_look, mg_look, mm_look, MF_look⟩ := q_look
  have mb_look := MF_look.binds (ps := ["self", "person"]) fun _ _ _ _ _ _ us hl => by obtain ⟨a, b, rfl⟩ := len2 hl; rfl
  obtain ⟨mf_sums, mg_sums, mm_sums, MF_sums⟩ := q_sums
  have mb_sums := MF_sums.binds (ps := ["self"]) fun _ _ _ _ _ _ us hl => by obtain ⟨a, rfl⟩ := len1 hl; rfl
  obtain ⟨mf_state, mg_state, mm_state, MF_state⟩ := q_state
  have mb_state := MF_state.binds (ps := ["self"]) fun _ _ _ _ _ _ us hl => by obtain ⟨a, rfl⟩ := len1 hl; rfl
  obtain ⟨mf_has_good, mg_has_good, mm_has_good, MF_has_good⟩ := q_has_good
  have mb_has_good := MF_has_good.binds (ps := ["self", "good"]) fun _ _ _ _ _ _ us hl => by obtain ⟨a, b, rfl⟩ := len2 hl; rfl
  obtain ⟨mf_has_person, mg_has_person, mm_has_person, MF_has_person⟩ := q_has_person
  have mb_has_person := MF_has_person.binds (ps := ["self", "person"]) fun _ _ _ _ _ _ us hl => by obtain ⟨a, b, rfl⟩ := len2 hl; rfl
  obtain ⟨mf_may_be_told, mg_may_be_told, mm_may_be_told, MF_may_be_told⟩ := q_may_be_told
  have mb_may_be_told := MF_may_be_told.binds (ps := ["self", "goods"]) fun _ _ _ _ _ _ us hl => by obtain ⟨a, b, rfl⟩ := len2 hl; rfl
  obtain ⟨mf_taken_now, mg_taken_now, mm_taken_now, MF_taken_now⟩ := q_taken_now
  have mb_taken_now := MF_taken_now.binds (ps := ["self"]) fun _ _ _ _ _ _ us hl => by obtain ⟨a, rfl⟩ := len1 hl; rfl
  obtain ⟨mf_served_now, mg_served_now, mm_served_now, MF_served_now⟩ := q_served_now
  have mb_served_now := MF_served_now.binds (ps := ["self"]) fun _ _ _ _ _ _ us hl => by obtain ⟨a, rfl⟩ := len1 hl; rfl
  obtain ⟨mf_is_needed, mg_is_needed, mm_is_needed, MF_is_needed⟩ := q_is_needed
  have mb_is_needed := MF_is_needed.binds (ps := ["self", "good"]) fun _ _ _ _ _ _ us hl => by obtain ⟨a, b, rfl⟩ := len2 hl; rfl
  refine ⟨g_answers, ?_, fun base _ _ => ?_⟩
  · obtain ⟨oc, od, kV, doc, pm, an, cdv, ct, osl, rfl, lk, hcd⟩ := F_answers.ex
    exact fun s us hu => by
      obtain ⟨a, rfl⟩ := len1 hu
      exact .of_eq rfl
  have o_first := ok_first (P := P) (w := w) (base := base) F_first mN
  have o_serve := ok_serve (P := P) (w := w) (base := base) F_serve o_first b_first k_first n_first T.list mN
  have o_count := ok_count (P := P) (w := w) (base := base) F_count T.len mN
  have o_far := ok_far (P := P) (w := w) (base := base) F_far T.len mN
  have o_allfar := ok_allFar (P := P) (w := w) (base := base) F_allfar T.zip o_far b_far k_far n_far
  have o_left := ok_left (P := P) (w := w) (base := base) F_left T.len T.range
  have o_both := both (P := P) (w := w) (base := base) F_give b_give n_give F_find b_find n_find T.len T.range 11
  have o_most := ok_most (P := P) (w := w) (base := base) F_most o_both.1 b_give k_give n_give o_count b_count k_count n_count T.len T.range mN
  have o_stocks := all_stocks_ok (P := P) (w := w) (base := base) F_stocks b_stocks n_stocks T.range 5
  have o_worth := ok_worth (P := P) (w := w) (base := base) F_worth T.sum o_serve b_serve k_serve n_serve o_count b_count k_count n_count o_allfar b_allfar k_allfar n_allfar
  have o_best := ok_best (P := P) (w := w) (base := base) F_best o_stocks b_stocks k_stocks n_stocks o_worth b_worth k_worth n_worth
  have mo___init__ := ok_init (P := P) (w := w) (base := base) MF___init__ T
  have mo_has_good := ok_hasGood (P := P) (w := w) (base := base) MF_has_good T
  have mo_has_person := ok_hasPerson (P := P) (w := w) (base := base) MF_has_person T
  have mo_taken_now := ok_taken (P := P) (w := w) (base := base) MF_taken_now T o_serve b_serve k_serve n_serve
  have mo_may_be_told := ok_may (P := P) (w := w) (base := base) MF_may_be_told T mo_has_good mb_has_good mm_has_good
  have mo_served_now := ok_served (P := P) (w := w) (base := base) MF_served_now T mo_taken_now mb_taken_now mm_taken_now o_count b_count k_count n_count
  have mo_is_needed := ok_isNeeded (P := P) (w := w) (base := base) MF_is_needed T mo_served_now mb_served_now mm_served_now o_count b_count k_count n_count o_serve b_serve k_serve n_serve
  have mo_begin := ok_begin (P := P) (w := w) (base := base) MF_begin T
  have mo_put := ok_put (P := P) (w := w) (base := base) MF_put T mo_has_good mb_has_good mm_has_good
  have mo_person := ok_person (P := P) (w := w) (base := base) MF_person T mo_may_be_told mb_may_be_told mm_may_be_told
  have mo_drop := ok_drop (P := P) (w := w) (base := base) MF_drop T mo_has_person mb_has_person mm_has_person
  have mo_swap := ok_swap (P := P) (w := w) (base := base) MF_swap T mo_has_person mb_has_person mm_has_person mo_served_now mb_served_now mm_served_now
  have mo_serve := ok_serveM (P := P) (w := w) (base := base) MF_serve T mo_taken_now mb_taken_now mm_taken_now o_count b_count k_count n_count o_left b_left k_left n_left
  have mo_got := ok_got (P := P) (w := w) (base := base) MF_got T mo_taken_now mb_taken_now mm_taken_now o_count b_count k_count n_count
  have mo_lost := ok_lost (P := P) (w := w) (base := base) MF_lost T mo_taken_now mb_taken_now mm_taken_now
  have mo_left := ok_leftM (P := P) (w := w) (base := base) MF_left T mo_taken_now mb_taken_now mm_taken_now o_left b_left k_left n_left
  have mo_ranks := ok_ranks (P := P) (w := w) (base := base) MF_ranks T mo_taken_now mb_taken_now mm_taken_now o_allfar b_allfar k_allfar n_allfar
  have mo_most := ok_mostM (P := P) (w := w) (base := base) MF_most T mo_served_now mb_served_now mm_served_now o_most b_most k_most n_most
  have mo_needed := ok_needed (P := P) (w := w) (base := base) MF_needed T mo_is_needed mb_is_needed mm_is_needed
  have mo_plus := ok_plus (P := P) (w := w) (base := base) MF_plus T mo_has_good mb_has_good mm_has_good mo_taken_now mb_taken_now mm_taken_now o_count b_count k_count n_count o_serve b_serve k_serve n_serve
  have mo_told := ok_told (P := P) (w := w) (base := base) MF_told T mo_has_person mb_has_person mm_has_person mo_may_be_told mb_may_be_told mm_may_be_told mo_taken_now mb_taken_now mm_taken_now o_serve b_serve k_serve n_serve
  have mo_ahead := ok_ahead (P := P) (w := w) (base := base) MF_ahead T mo_has_person mb_has_person mm_has_person mo_taken_now mb_taken_now mm_taken_now o_count b_count k_count n_count o_serve b_serve k_serve n_serve
  have mo_lay := ok_lay (P := P) (w := w) (base := base) MF_lay T o_best b_best k_best n_best o_count b_count k_count n_count o_serve b_serve k_serve n_serve
  have mo_wanted := ok_wanted (P := P) (w := w) (base := base) MF_wanted T mo_has_good mb_has_good mm_has_good
  have mo_look := ok_look (P := P) (w := w) (base := base) MF_look T mo_has_person mb_has_person mm_has_person
  have mo_sums := ok_sums (P := P) (w := w) (base := base) MF_sums T mo_served_now mb_served_now mm_served_now
  have mo_state := ok_state (P := P) (w := w) (base := base) MF_state T
  have o_length := ok_length (P := P) (w := w) (base := base) F_length U
  have o_split := ok_split (P := P) (w := w) (base := base) F_split T.len o_length b_length k_length n_length
  have o_about := ok_about F_about T U ⟨_, _, mm_plus, mb_plus, mo_plus⟩ ⟨_, _, mm_told, mb_told, mo_told⟩ ⟨_, _, mm_ahead, mb_ahead, mo_ahead⟩ ⟨_, _, mm_lay, mb_lay, mo_lay⟩ ⟨_, _, mm_wanted, mb_wanted, mo_wanted⟩ ⟨_, _, mm_look, mb_look, mo_look⟩
  have o_askq := ok_askQ F_askq T U ⟨_, _, mm_got, mb_got, mo_got⟩ ⟨_, _, mm_lost, mb_lost, mo_lost⟩ ⟨_, _, mm_left, mb_left, mo_left⟩ ⟨_, _, mm_most, mb_most, mo_most⟩ ⟨_, _, mm_ranks, mb_ranks, mo_ranks⟩ ⟨_, _, mm_needed, mb_needed, mo_needed⟩ ⟨_, _, mm_sums, mb_sums, mo_sums⟩ ⟨_, _, mm_state, mb_state, mo_state⟩ ⟨_, _, n_about, k_about, b_about, o_about⟩
  have o_call := ok_call F_call T U ⟨_, _, mm_begin, mb_begin, mo_begin⟩ ⟨_, _, mm_put, mb_put, mo_put⟩ ⟨_, _, mm_person, mb_person, mo_person⟩ ⟨_, _, mm_drop, mb_drop, mo_drop⟩ ⟨_, _, mm_swap, mb_swap, mo_swap⟩ ⟨_, _, mm_serve, mb_serve, mo_serve⟩ ⟨_, _, n_askq, k_askq, b_askq, o_askq⟩
  exact ok_answers F_answers T (PySem.W.mg_of X G aC) ⟨makes, mm___init__.at_, mm___init__.fn, kc⟩ mo___init__ mb___init__ ⟨_, _, n_call, k_call, b_call, o_call⟩ ⟨_, _, n_split, k_split, b_split, o_split⟩
end Sg
end
-- text SgFinal
set_option Elab.async false
set_option maxRecDepth 100000
set_option maxHeartbeats 4000000
open PySem PySem.W PyProof.Rows
set_option maxRecDepth 100000 in
set_option maxHeartbeats 0 in
theorem PySem.Challenge.cw_standgoods_s01_answers_holds : PySem.Challenge.rw_standgoods_s01_answers.Holds := by
  w_on; k_headS; (case hw => exact ⟨[.list [.int 4]], by decide +kernel, by decide +kernel⟩)
  k_fillS
  refine L2.walk_specK (r := PySem.Challenge.rw_standgoods_s01_answers) (k := 16) (CX := L2.CX0) (ps := ["calls"]) (sp := Sg.spAnswers) (fun a => by show (L2.plWs (a.1.map WData.int) && true) = true; rw [L2.plWs_map (fun _ => rfl)]; rfl) (by decide +kernel) rfl rfl ⟨rfl, by decide, by decide⟩ (fun w h Y => PySem.W.kIn_of Y) ?F ?S (fun _ _ _ _ z => z)
  case F =>
    intro w mg fa h Y KX G hmg
    refine' Sg.all_ok KX G hmg ?aC (Sg.txt_mk KX G ?pg ?hd ?po ?sa ?nB ?nP ?nL ?z_len ?z_range ?z_list ?z_set ?z_all ?z_sum ?z_zip ?c_NOTHING ?c_NONE_SUCH ?c_NOT_BEGUN ?c_OUT_OF_RANGE ?c_TOO_MANY ?c_MOST_GOODS ?c_MOST_PIECES ?c_MOST_PEOPLE ?c_LONGEST_LIST ?c_MOST_LAID) (Sg.txt2_mk KX G ?c_BEGIN ?c_PUT ?c_PERSON ?c_DROP ?c_GOT ?c_LOST ?c_LEFT ?c_MOST ?c_PLUS ?c_TOLD ?c_AHEAD ?c_LAY ?c_RANKS ?c_SWAP ?c_NEEDED ?c_WANTED ?c_SERVE ?c_SUMS ?c_STATE ?aw ?lw ?vw ?zw) ?mk ?kc ?d_first ?d_serve ?d_count ?d_far ?d_allfar ?d_left ?d_most ?d_give ?d_find ?d_stocks ?d_best ?d_worth ?d_answers ?d_split ?d_length ?d_call ?d_askq ?d_about ?q___init__ ?q_begin ?q_put ?q_person ?q_drop ?q_swap ?q_serve ?q_got ?q_lost ?q_left ?q_ranks ?q_most ?q_needed ?q_plus ?q_told ?q_ahead ?q_lay ?q_wanted ?q_look ?q_sums ?q_state ?q_has_good ?q_has_person ?q_may_be_told ?q_taken_now ?q_served_now ?q_is_needed
    (case aC => k_is)
    (case pg => k_is)
    (case hd => k_is)
    (case po => k_is)
    (case sa => k_is)
    (case mk => k_is)
    (case kc => k_is)
    (case nB => k_is)
    (case nP => k_is)
    (case nL => k_is)
    (case z_len => k_is)
    (case z_range => k_is)
    (case z_list => k_is)
    (case z_set => k_is)
    (case z_all => k_is)
    (case z_sum => k_is)
    (case z_zip => k_is)
    (case c_NOTHING => k_is)
    (case c_NONE_SUCH => k_is)
    (case c_NOT_BEGUN => k_is)
    (case c_OUT_OF_RANGE => k_is)
    (case c_TOO_MANY => k_is)
    (case c_MOST_GOODS => k_is)
    (case c_MOST_PIECES => k_is)
    (case c_MOST_PEOPLE => k_is)
    (case c_LONGEST_LIST => k_is)
    (case c_MOST_LAID => k_is)
    (case c_BEGIN => k_is)
    (case c_PUT => k_is)
    (case c_PERSON => k_is)
    (case c_DROP => k_is)
    (case c_GOT => k_is)
    (case c_LOST => k_is)
    (case c_LEFT => k_is)
    (case c_MOST => k_is)
    (case c_PLUS => k_is)
    (case c_TOLD => k_is)
    (case c_AHEAD => k_is)
    (case c_LAY => k_is)
    (case c_RANKS => k_is)
    (case c_SWAP => k_is)
    (case c_NEEDED => k_is)
    (case c_WANTED => k_is)
    (case c_SERVE => k_is)
    (case c_SUMS => k_is)
    (case c_STATE => k_is)
    (case aw => k_is)
    (case lw => k_is)
    (case vw => exact (.cons ⟨_, rfl⟩ (.cons ⟨_, rfl⟩ (.cons ⟨_, rfl⟩ (.cons ⟨_, rfl⟩ (.cons ⟨_, rfl⟩ (.cons ⟨_, rfl⟩ (.cons ⟨_, rfl⟩ (.cons ⟨_, rfl⟩ (.cons ⟨_, rfl⟩ (.cons ⟨_, rfl⟩ (.cons ⟨_, rfl⟩ (.cons ⟨_, rfl⟩ (.cons ⟨_, rfl⟩ (.cons ⟨_, rfl⟩ (.cons ⟨_, rfl⟩ (.cons ⟨_, rfl⟩ (.cons ⟨_, rfl⟩ (.cons ⟨_, rfl⟩ (.cons ⟨_, rfl⟩ (.cons ⟨_, rfl⟩ .nil)))))))))))))))))))))
    (case zw => decide)
    (case d_first => refine' Sg.top_mk KX G ?a ?l ?c ?k; (case a => k_is); (case l => k_is); (case c => k_is); (case k => k_is))
    (case d_serve => refine' Sg.top_mk KX G ?a ?l ?c ?k; (case a => k_is); (case l => k_is); (case c => k_is); (case k => k_is))
    (case d_count => refine' Sg.top_mk KX G ?a ?l ?c ?k; (case a => k_is); (case l => k_is); (case c => k_is); (case k => k_is))
    (case d_far => refine' Sg.top_mk KX G ?a ?l ?c ?k; (case a => k_is); (case l => k_is); (case c => k_is); (case k => k_is))
    (case d_allfar => refine' Sg.top_mk KX G ?a ?l ?c ?k; (case a => k_is); (case l => k_is); (case c => k_is); (case k => k_is))
    (case d_left => refine' Sg.top_mk KX G ?a ?l ?c ?k; (case a => k_is); (case l => k_is); (case c => k_is); (case k => k_is))
    (case d_most => refine' Sg.top_mk KX G ?a ?l ?c ?k; (case a => k_is); (case l => k_is); (case c => k_is); (case k => k_is))
    (case d_give => refine' Sg.top_mk KX G ?a ?l ?c ?k; (case a => k_is); (case l => k_is); (case c => k_is); (case k => k_is))
    (case d_find => refine' Sg.top_mk KX G ?a ?l ?c ?k; (case a => k_is); (case l => k_is); (case c => k_is); (case k => k_is))
    (case d_stocks => refine' Sg.top_mk KX G ?a ?l ?c ?k; (case a => k_is); (case l => k_is); (case c => k_is); (case k => k_is))
    (case d_best => refine' Sg.top_mk KX G ?a ?l ?c ?k; (case a => k_is); (case l => k_is); (case c => k_is); (case k => k_is))
    (case d_worth => refine' Sg.top_mk KX G ?a ?l ?c ?k; (case a => k_is); (case l => k_is); (case c => k_is); (case k => k_is))
    (case d_answers => refine' Sg.top_mk KX G ?a ?l ?c ?k; (case a => k_is); (case l => k_is); (case c => k_is); (case k => k_is))
    (case d_split => refine' Sg.top_mk KX G ?a ?l ?c ?k; (case a => k_is); (case l => k_is); (case c => k_is); (case k => k_is))
    (case d_length => refine' Sg.top_mk KX G ?a ?l ?c ?k; (case a => k_is); (case l => k_is); (case c => k_is); (case k => k_is))
    (case d_call => refine' Sg.top_mk KX G ?a ?l ?c ?k; (case a => k_is); (case l => k_is); (case c => k_is); (case k => k_is))
    (case d_askq => refine' Sg.top_mk KX G ?a ?l ?c ?k; (case a => k_is); (case l => k_is); (case c => k_is); (case k => k_is))
    (case d_about => refine' Sg.top_mk KX G ?a ?l ?c ?k; (case a => k_is); (case l => k_is); (case c => k_is); (case k => k_is))
    (case q___init__ => refine' Sg.meth_mk ?a ?i ?l ?c ?k; (case a => k_is); (case i => k_is); (case l => k_is); (case c => k_is); (case k => k_is))
    (case q_begin => refine' Sg.meth_mk ?a ?i ?l ?c ?k; (case a => k_is); (case i => k_is); (case l => k_is); (case c => k_is); (case k => k_is))
    (case q_put => refine' Sg.meth_mk ?a ?i ?l ?c ?k; (case a => k_is); (case i => k_is); (case l => k_is); (case c => k_is); (case k => k_is))
    (case q_person => refine' Sg.meth_mk ?a ?i ?l ?c ?k; (case a => k_is); (case i => k_is); (case l => k_is); (case c => k_is); (case k => k_is))
    (case q_drop => refine' Sg.meth_mk ?a ?i ?l ?c ?k; (case a => k_is); (case i => k_is); (case l => k_is); (case c => k_is); (case k => k_is))
    (case q_swap => refine' Sg.meth_mk ?a ?i ?l ?c ?k; (case a => k_is); (case i => k_is); (case l => k_is); (case c => k_is); (case k => k_is))
    (case q_serve => refine' Sg.meth_mk ?a ?i ?l ?c ?k; (case a => k_is); (case i => k_is); (case l => k_is); (case c => k_is); (case k => k_is))
    (case q_got => refine' Sg.meth_mk ?a ?i ?l ?c ?k; (case a => k_is); (case i => k_is); (case l => k_is); (case c => k_is); (case k => k_is))
    (case q_lost => refine' Sg.meth_mk ?a ?i ?l ?c ?k; (case a => k_is); (case i => k_is); (case l => k_is); (case c => k_is); (case k => k_is))
    (case q_left => refine' Sg.meth_mk ?a ?i ?l ?c ?k; (case a => k_is); (case i => k_is); (case l => k_is); (case c => k_is); (case k => k_is))
    (case q_ranks => refine' Sg.meth_mk ?a ?i ?l ?c ?k; (case a => k_is); (case i => k_is); (case l => k_is); (case c => k_is); (case k => k_is))
    (case q_most => refine' Sg.meth_mk ?a ?i ?l ?c ?k; (case a => k_is); (case i => k_is); (case l => k_is); (case c => k_is); (case k => k_is))
    (case q_needed => refine' Sg.meth_mk ?a ?i ?l ?c ?k; (case a => k_is); (case i => k_is); (case l => k_is); (case c => k_is); (case k => k_is))
    (case q_plus => refine' Sg.meth_mk ?a ?i ?l ?c ?k; (case a => k_is); (case i => k_is); (case l => k_is); (case c => k_is); (case k => k_is))
    (case q_told => refine' Sg.meth_mk ?a ?i ?l ?c ?k; (case a => k_is); (case i => k_is); (case l => k_is); (case c => k_is); (case k => k_is))
    (case q_ahead => refine' Sg.meth_mk ?a ?i ?l ?c ?k; (case a => k_is); (case i => k_is); (case l => k_is); (case c => k_is); (case k => k_is))
    (case q_lay => refine' Sg.meth_mk ?a ?i ?l ?c ?k; (case a => k_is); (case i => k_is); (case l => k_is); (case c => k_is); (case k => k_is))
    (case q_wanted => refine' Sg.meth_mk ?a ?i ?l ?c ?k; (case a => k_is); (case i => k_is); (case l => k_is); (case c => k_is); (case k => k_is))
    (case q_look => refine' Sg.meth_mk ?a ?i ?l ?c ?k; (case a => k_is); (case i => k_is); (case l => k_is); (case c => k_is); (case k => k_is))
    (case q_sums => refine' Sg.meth_mk ?a ?i ?l ?c ?k; (case a => k_is); (case i => k_is); (case l => k_is); (case c => k_is); (case k => k_is))
    (case q_state => refine' Sg.meth_mk ?a ?i ?l ?c ?k; (case a => k_is); (case i => k_is); (case l => k_is); (case c => k_is); (case k => k_is))
    (case q_has_good => refine' Sg.meth_mk ?a ?i ?l ?c ?k; (case a => k_is); (case i => k_is); (case l => k_is); (case c => k_is); (case k => k_is))
    (case q_has_person => refine' Sg.meth_mk ?a ?i ?l ?c ?k; (case a => k_is); (case i => k_is); (case l => k_is); (case c => k_is); (case k => k_is))
    (case q_may_be_told => refine' Sg.meth_mk ?a ?i ?l ?c ?k; (case a => k_is); (case i => k_is); (case l => k_is); (case c => k_is); (case k => k_is))
    (case q_taken_now => refine' Sg.meth_mk ?a ?i ?l ?c ?k; (case a => k_is); (case i => k_is); (case l => k_is); (case c => k_is); (case k => k_is))
    (case q_served_now => refine' Sg.meth_mk ?a ?i ?l ?c ?k; (case a => k_is); (case i => k_is); (case l => k_is); (case c => k_is); (case k => k_is))
    (case q_is_needed => refine' Sg.meth_mk ?a ?i ?l ?c ?k; (case a => k_is); (case i => k_is); (case l => k_is); (case c => k_is); (case k => k_is))
  case S =>
    intro K H xs a hO hwi hask hx
    cases hx with
    | cons h1 h2 =>
      cases h2
      cases h1 with
      | lst hs ha =>
        have e := L2.ints_dw a.1 _ ha
        subst e
        have q : ((Codec.inLen 0 4400 a.1 && a.1.all (Codec.inInt 0 4294967295)) && true) = true := hwi
        rw [Bool.and_eq_true, Bool.and_eq_true] at q
        exact ⟨_, a.1, rfl, hs, (Codec.inNat_iff.mp q.1.1).2, hask, fun H' p hp => .lst (L2.SqL.of hp) (L2.dw_ints _)⟩
#print axioms PySem.Challenge.cw_standgoods_s01_answers_holds
