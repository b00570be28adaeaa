import PyProof.Rows.All
import Wide.All
import OpenK.AllK
import Wide.FinOn
import Lean
import PyProof.EqAt
import PyProof.EqKinds
import PyProof.TupleCall
import PyProof.Rows.SumAny
import PySem.Challenge.RW_weightrooms_k27_floors
set_option Elab.async false
set_option linter.all false
set_option maxRecDepth 100000
/-! THE HAND LAYER, for ints, bools, texts, own classes, LISTS and tuples (index, slices, in, append, pop ..), calls, loops. Paste it whole ahead of your own text; what your proof does not reach may be deleted. -/
namespace L2
open PySem PySem.Spec PyProof.Rows

/-- a key: an int or a str -/
abbrev Key := Sum Int Str
def keyIs : Key → Value → Bool
  | .inl k, v => Value.isInt k v
  | .inr x, v => Value.isStrOf x v
def keyH (w : World) : Key → Int
  | .inl k => hashInt k
  | .inr x => hashStr w x
theorem keyIs_shape : ∀ {k : Key} {v : Value}, keyIs k v = true → (∃ i t, k = Sum.inl i ∧ v = Value.int i t) ∨ (∃ x t, k = Sum.inr x ∧ v = Value.str x t)
  | .inl i, v, h => by
    obtain ⟨t, e⟩ := Value.isInt_shape (k := i) (v := v) h
    exact .inl ⟨i, t, rfl, e⟩
  | .inr x, v, h => by
    obtain ⟨t, e⟩ := Value.isStrOf_shape (x := x) (v := v) h
    exact .inr ⟨x, t, rfl, e⟩
theorem key_ll (a b : Int) : decide ((Sum.inl a : Key) = Sum.inl b) = (a == b) := by
  by_cases e : a = b
  · subst e; simp
  · have h : ¬ (Sum.inl a : Key) = Sum.inl b := fun q => e (Sum.inl.inj q)
    rw [decide_eq_false h]
    exact (beq_eq_false_iff_ne.mpr e).symm
theorem key_rr (a b : Str) : decide ((Sum.inr a : Key) = Sum.inr b) = decide (a = b) := by
  by_cases e : a = b
  · subst e; simp
  · have h : ¬ (Sum.inr a : Key) = Sum.inr b := fun q => e (Sum.inr.inj q)
    rw [decide_eq_false h, decide_eq_false e]
theorem key_lr (a : Int) (b : Str) : decide ((Sum.inl a : Key) = Sum.inr b) = false := decide_eq_false (fun q => nomatch q)
theorem key_rl (a : Str) (b : Int) : decide ((Sum.inr a : Key) = Sum.inl b) = false := decide_eq_false (fun q => nomatch q)

def mixKind (prog : Program) (w : World) : PySem.KeyKind prog w Key where
  is := keyIs
  hash := keyH w
  inj := fun v a b ha hb => by
    rcases keyIs_shape ha with ⟨i, t, rfl, rfl⟩ | ⟨x, t, rfl, rfl⟩
    · rcases keyIs_shape hb with ⟨j, u, rfl, e⟩ | ⟨y, u, rfl, e⟩
      · injection e with e1 _; rw [e1]
      · exact nomatch e
    · rcases keyIs_shape hb with ⟨j, u, rfl, e⟩ | ⟨y, u, rfl, e⟩
      · exact nomatch e
      · injection e with e1 _; rw [e1]
  byValue := fun k v h => by
    rcases keyIs_shape h with ⟨i, t, rfl, rfl⟩ | ⟨x, t, rfl, rfl⟩ <;> rfl
  pyHash := fun hv h => by
    rcases keyIs_shape hv with ⟨i, t, rfl, rfl⟩ | ⟨x, t, rfl, rfl⟩
    · exact wpAny_pyHash_int h
    · exact wpAny_pyHash_str h
  eqBool := fun hu hv h => by
    rcases keyIs_shape hu with ⟨i, t, rfl, rfl⟩ | ⟨x, t, rfl, rfl⟩
    · rcases keyIs_shape hv with ⟨j, u, rfl, rfl⟩ | ⟨y, u, rfl, rfl⟩
      · rw [key_ll] at h; exact wpAny_eqBool_int h
      · rw [key_lr] at h; exact SeqAt.EqAt.int_str i t y u _ _ _ _ h
    · rcases keyIs_shape hv with ⟨j, u, rfl, rfl⟩ | ⟨y, u, rfl, rfl⟩
      · rw [key_rl] at h; exact SeqAt.EqAt.str_int x t j u _ _ _ _ h
      · rw [key_rr] at h; exact wpAny_eqBool_str h
  «strs» := fun k x t v h => by
    rcases keyIs_shape h with ⟨i, u, rfl, e⟩ | ⟨y, u, rfl, e⟩
    · exact nomatch e
    · injection e with e1 _
      subst e1
      cases v <;> rfl

end L2

namespace L2
open PySem PySem.Spec PyProof.Rows

/-- a value, without the heap -/
inductive V where
  | non | bl (b : Bool) | int (i : Int) | str (x : Str) | byt (b : Array UInt8) | flt (b : UInt64) | ref (a : Addr) | ty (n : String)
  deriving DecidableEq

def RelV : V → Value → Prop
  | .non, u => u = Value.none
  | .bl b, u => u = Value.bool b
  | .int i, u => ∃ t, u = Value.int i t
  | .str x, u => ∃ t, u = Value.str x t
  | .byt b, u => ∃ t, u = Value.bytes b t
  | .flt b, u => ∃ t, u = Value.float b t
  | .ref a, u => u = Value.ref a
  | .ty n, u => u = Value.type n

abbrev Vals : List V → List Value → Prop := Paired RelV
theorem Vals.length {xs : List V} {us : List Value} (r : Vals xs us) : xs.length = us.length := Paired.length r
theorem Vals.get : ∀ {xs : List V} {us : List Value} {i : Nat} {x : V}, Vals xs us → xs[i]? = some x → ∃ u, us[i]? = some u ∧ RelV x u
  | _, _, _, _, .nil, e => by simp at e
  | _, _, 0, _, .cons r _, e => by simp at e; subst e; exact ⟨_, rfl, r⟩
  | _, _, i + 1, x, .cons _ t, e => by
    obtain ⟨u, h1, h2⟩ := Vals.get (i := i) (x := x) t (by simpa using e)
    exact ⟨u, by simpa using h1, h2⟩
theorem Vals.set {x : V} {u : Value} (r : RelV x u) : ∀ {xs : List V} {us : List Value} (i : Nat), Vals xs us → Vals (xs.set i x) (us.set i u)
  | _, _, _, .nil => .nil
  | _, _, 0, .cons _ t => .cons r t
  | _, _, i + 1, .cons q t => .cons q (Vals.set r i t)
theorem Vals.append : ∀ {xs ys : List V} {us ws : List Value}, Vals xs us → Vals ys ws → Vals (xs ++ ys) (us ++ ws)
  | _, _, _, _, .nil, s => s
  | _, _, _, _, .cons r t, s => .cons r (Vals.append t s)
theorem Vals.take : ∀ {xs : List V} {us : List Value} (n : Nat), Vals xs us → Vals (xs.take n) (us.take n)
  | _, _, 0, _ => .nil
  | _, _, _ + 1, .nil => .nil
  | _, _, n + 1, .cons r t => .cons r (Vals.take n t)
theorem Vals.drop : ∀ {xs : List V} {us : List Value} (n : Nat), Vals xs us → Vals (xs.drop n) (us.drop n)
  | _, _, 0, r => r
  | _, _, _ + 1, .nil => .nil
  | _, _, n + 1, .cons _ t => Vals.drop n t
theorem Vals.none_of : ∀ {xs : List V} {us : List Value} {i : Nat}, Vals xs us → xs[i]? = none → us[i]? = none := fun {xs us i} r e => by
  have h1 := r.length
  have h2 : xs.length ≤ i := List.getElem?_eq_none_iff.mp e
  exact List.getElem?_eq_none_iff.mpr (by omega)

def RelO : Option V → Option Value → Prop
  | some v, some u => RelV v u
  | none, none => True
  | _, _ => False
def KV {κ : Type} : List (κ × V) → List (κ × Value) → Prop := Paired fun (p : κ × V) (q : κ × Value) => p.1 = q.1 ∧ RelV p.2 q.2

/-- a key of a dict (00_mix): an int or a text -/
def kV : Key → V
  | .inl i => .int i
  | .inr x => .str x

/-- what stands at a tracked address -/
inductive HO where
  /-- a list -/
  | lst (xs : List V)
  /-- a tuple (never changes) -/
  | tup (xs : List V)
  /-- a dict whose keys are ints and texts; one whose keys are tuples of ints and texts (the empty one is both) -/
  | dK (kvs : List (Key × V)) | dT (kvs : List (List Key × V))
  /-- a set of ints: its members, its size -/
  | set (S : Int → Bool) (n : Nat)
  /-- an instance of the class at C, its dict at dx, its attributes -/
  | ins (C dx : Addr) (fs : List (Str × V))
  /-- the dict of the instance at x -/
  | own (x : Addr)
  /-- the dict of an exception -/
  | xd (fs : List (Str × V))
  /-- a bound method, f of x -/
  | met (f x : Addr)
  /-- a range object lo, lo + 1, .. below hi -/
  | rng (lo hi : Int)
  /-- a thing that is known to the object (the script; a dict while a loop walks it): read, never written while it is so -/
  | frz (o : Obj) (u : HO)
  /-- a code object's table -/
  | tbl (ps : Array Value)
  /-- any other thing, by what is true of its one object (a def of one's own: SetO a S n := HO.ext fun h => ..) -/
  | ext (φ : Heap → Prop)

abbrev Hp := Addr → Option HO
def upd (H : Hp) (a : Addr) (o : HO) : Hp := fun b => if b = a then some o else H b
theorem upd_same {H : Hp} {a : Addr} {o : HO} : upd H a o a = some o := by unfold upd; rw [if_pos rfl]
theorem upd_ne {H : Hp} {a b : Addr} {o : HO} (h : b ≠ a) : upd H a o b = H b := by unfold upd; rw [if_neg h]
theorem ne_of_none {H : Hp} {a b : Addr} {o : HO} (h : H a = some o) (h' : H b = none) : a ≠ b := by
  intro e; subst e; rw [h] at h'; cases h'

section
variable (P : Program) (w : World)
def ObjOk (H : Hp) (h : Heap) (a : Addr) : HO → Prop
  | .lst xs => xs.length ≤ sizeLine ∧ ∃ (its : List Value) (n : Nat), Vals xs its ∧ h.get? a = some { cls := .type "list", data := .seq its.toArray n }
  | .tup xs => xs.length ≤ sizeLine ∧ ∃ its : List Value, Vals xs its ∧ IsTup h a its.toArray
  | .dK kvs => kvs.length ≤ sizeLine ∧ (a == sysModules) = false ∧ ∃ vs, KV kvs vs ∧ h.DictOf (mixKind P w) a vs
  | .dT kvs => kvs.length ≤ sizeLine ∧ (a == sysModules) = false ∧ ∃ xs : List (List Key × Addr × Value),
      Paired (fun (p : List Key × V) (q : List Key × Addr × Value) => p.1 = q.1 ∧ H q.2.1 = some (.tup (p.1.map kV)) ∧ RelV p.2 q.2.2) kvs xs ∧
      ∃ o es ep, h.get? a = some o ∧ o.ExactDict ∧ o.data = .dict es ep ∧ es.toList = xs.map (entryOfKey (tupleKind (mixKind P w))) ∧ (xs.map (·.1)).Nodup
  | .set S n => h.SetOf (intKind P w) a S n
  | .ins C dx fs => H dx = some (.own a) ∧ fs.length ≤ 1000 ∧ dx ≠ a ∧ h.get? a = some (PySem.W.instObj C dx) ∧
      ∃ mA, h.Ns1 dx mA ∧ (∀ f, RelO (fs.lookup f) (mA f)) ∧ PySem.Within mA (fs.map (·.1))
  | .own _ => ∃ o, h.get? a = some o
  | .xd fs => ∃ mA, h.Ns1 a mA ∧ ∀ f, RelO (fs.lookup f) (mA f)
  | .rng lo hi => ∃ t u v, h.get? a = some { cls := .type "range", data := .fields #[.int lo t, .int hi u, .int 1 v] }
  | .frz o u => h.get? a = some o ∧ ObjOk H h a u
  | .tbl ps => h.get? a = some { cls := .none, data := .fields ps }
  | .met f x => h.get? a = some (PySem.W.methodObj (.ref f) (.ref x))
  | .ext φ => φ h ∧ (∃ o, h.get? a = some o) ∧ ∀ h1 h2 : Heap, φ h1 → (∀ o, h1.get? a = some o → h2.get? a = some o) → φ h2
/-- the abstract heap is held -/
def HOk (H : Hp) (h : Heap) : Prop := ∀ a o, H a = some o → ObjOk P w H h a o
end

section
variable {P : Program} {w : World} {H H' : Hp} {h h' : Heap} {a : Addr} {o : HO}
theorem ObjOk.lt (x : ObjOk P w H h a o) : a < h.objs.size := by
  cases o with
  | lst xs => obtain ⟨_, _, _, _, e⟩ := x; exact Heap.lt_size e
  | tup xs => obtain ⟨_, _, _, p⟩ := x; exact p.lt
  | dK kvs => obtain ⟨_, _, _, _, o, _, _, e, _⟩ := x; exact Heap.lt_size e
  | dT kvs => obtain ⟨_, _, _, _, o, _, _, e, _⟩ := x; exact Heap.lt_size e
  | set S n => obtain ⟨o, _, _, _, e, _⟩ := x; exact Heap.lt_size e
  | ins C dx fs => obtain ⟨_, _, _, e, _⟩ := x; exact Heap.lt_size e
  | own y => obtain ⟨_, e⟩ := x; exact Heap.lt_size e
  | xd fs => obtain ⟨_, ⟨_, _, _, e, _⟩, _⟩ := x; exact Heap.lt_size e
  | rng lo hi => obtain ⟨_, _, _, e⟩ := x; exact Heap.lt_size e
  | frz ob u => obtain ⟨e, _⟩ := x; exact Heap.lt_size e
  | tbl ps => exact Heap.lt_size (show h.get? a = some _ from x)
  | met f y => exact Heap.lt_size (show h.get? a = some _ from x)
  | ext φ => obtain ⟨_, ⟨_, e⟩, _⟩ := x; exact Heap.lt_size e
theorem Paired.mapP {α β : Type} {F G : α → β → Prop} : ∀ {l₁ : List α} {l₂ : List β}, Paired F l₁ l₂ → (∀ a b, F a b → G a b) → Paired G l₁ l₂
  | _, _, .nil, _ => .nil
  | _, _, .cons r t, f => .cons (f _ _ r) (Paired.mapP t f)
/-- what an object's description leans on: its own object, its own dict, the tuples -/
theorem ObjOk.stay (x : ObjOk P w H h a o) (k : ∀ b u, (b = a ∨ H b = some (.own a)) → h.get? b = some u → h'.get? b = some u)
    (ho : ∀ b, H b = some (.own a) → H' b = some (.own a)) (ht : ∀ b xs, H b = some (.tup xs) → H' b = some (.tup xs)) : ObjOk P w H' h' a o := by
  induction o with
  | lst xs => obtain ⟨z, its, n, r, e⟩ := x; exact ⟨z, its, n, r, k _ _ (.inl rfl) e⟩
  | tup xs => obtain ⟨z, its, r, ob, e, c⟩ := x; exact ⟨z, its, r, ob, k _ _ (.inl rfl) e, c⟩
  | dK kvs => obtain ⟨z, y, vs, r, ob, es, ep, e, c⟩ := x; exact ⟨z, y, vs, r, ob, es, ep, k _ _ (.inl rfl) e, c⟩
  | dT kvs =>
    obtain ⟨z, y, xs, r, ob, es, ep, e, c⟩ := x
    exact ⟨z, y, xs, Paired.mapP r fun p q z => ⟨z.1, ht _ _ z.2.1, z.2.2⟩, ob, es, ep, k _ _ (.inl rfl) e, c⟩
  | set S n => obtain ⟨ob, es, ep, t, e, c⟩ := x; exact ⟨ob, es, ep, t, k _ _ (.inl rfl) e, c⟩
  | ins C dx fs =>
    obtain ⟨d, z, ne, e, mA, ⟨od, es, ep, e2, c⟩, r⟩ := x
    exact ⟨ho _ d, z, ne, k _ _ (.inl rfl) e, mA, ⟨od, es, ep, k _ _ (.inr d) e2, c⟩, r⟩
  | own y => obtain ⟨ob, e⟩ := x; exact ⟨ob, k _ _ (.inl rfl) e⟩
  | xd fs => obtain ⟨mA, ⟨od, es, ep, e, c⟩, r⟩ := x; exact ⟨mA, ⟨od, es, ep, k _ _ (.inl rfl) e, c⟩, r⟩
  | rng lo hi => obtain ⟨t, u, v, e⟩ := x; exact ⟨t, u, v, k _ _ (.inl rfl) e⟩
  | frz ob u ih => obtain ⟨e, q⟩ := x; exact ⟨k _ _ (.inl rfl) e, ih q⟩
  | tbl ps =>
    have e : h.get? a = some { cls := .none, data := .fields ps } := x
    show h'.get? a = some { cls := .none, data := .fields ps }
    exact k a _ (.inl rfl) e
  | met f y =>
    have e : h.get? a = some (PySem.W.methodObj (.ref f) (.ref y)) := x
    show h'.get? a = some (PySem.W.methodObj (.ref f) (.ref y))
    exact k a _ (.inl rfl) e
  | ext φ => obtain ⟨p, ⟨o, e⟩, st⟩ := x; exact ⟨st _ _ p fun o q => k _ _ (.inl rfl) q, ⟨o, k _ _ (.inl rfl) e⟩, st⟩
theorem HOk.lt (x : HOk P w H h) (e : H a = some o) : a < h.objs.size := (x a o e).lt
theorem HOk.fresh (x : HOk P w H h) (e : h.objs.size ≤ a) : H a = none := by
  cases q : H a with
  | none => rfl
  | some u => exact absurd (Nat.lt_of_lt_of_le (x.lt q) e) (Nat.lt_irrefl _)
/-- every object of the heap is kept -/
theorem HOk.kept (x : HOk P w H h) (k : ∀ b u, h.get? b = some u → h'.get? b = some u) : HOk P w H h' := fun a o e =>
  (x a o e).stay (fun b u _ q => k b u q) (fun _ q => q) fun _ _ q => q
/-- a new object is laid and tracked -/
theorem HOk.laid (x : HOk P w H h) (k : ∀ b u, h.get? b = some u → h'.get? b = some u) (hp : h.objs.size ≤ a) (new : ObjOk P w (upd H a o) h' a o) : HOk P w (upd H a o) h' := fun b u e => by
  have hn := x.fresh hp
  by_cases hb : b = a
  · subst hb; rw [upd_same] at e; cases e; exact new
  · rw [upd_ne hb] at e
    exact (x b u e).stay (fun c v _ q => k c v q) (fun c q => by rw [upd_ne (ne_of_none q hn)]; exact q) fun c xs q => by rw [upd_ne (ne_of_none q hn)]; exact q
end

/-- what may be read as u: it is u, or a known u -/
def Rd (H : Hp) (a : Addr) (u : HO) : Prop := H a = some u ∨ ∃ o, H a = some (.frz o u)
theorem Rd.of {H : Hp} {a : Addr} {u : HO} (h : H a = some u) : Rd H a u := .inl h
theorem Rd.ok {P : Program} {w : World} {H : Hp} {h : Heap} {a : Addr} {u : HO} (r : Rd H a u) (x : HOk P w H h) : ObjOk P w H h a u := by
  rcases r with r | ⟨o, r⟩
  · exact x a u r
  · obtain ⟨_, q⟩ := x a _ r
    exact q
/-- what may be written -/
def Mut : Option HO → Prop
  | some (.lst _) => True
  | some (.dK _) => True
  | some (.dT _) => True
  | some (.set _ _) => True
  | some (.ins _ _ _) => True
  | some (.ext _) => True
  | _ => False
section
variable {P : Program} {w : World} {H : Hp} {h h' : Heap} {x e : Addr} {o' : HO}
/-- the object at e is changed: x itself, or the dict of the instance x -/
theorem HOk.write (ok : HOk P w H h) (mu : Mut (H x)) (he : e = x ∨ H e = some (.own x)) (k : ∀ b u, b ≠ e → h.get? b = some u → h'.get? b = some u) (heo : ∃ u, h'.get? e = some u)
    (new : ObjOk P w (upd H x o') h' x o') : HOk P w (upd H x o') h' := fun b u q => by
  have nown : ∀ c y, H c = some (.own y) → c ≠ x := fun c y r z => by subst z; rw [r] at mu; exact mu
  have ntup : ∀ c xs, H c = some (.tup xs) → c ≠ x := fun c xs r z => by subst z; rw [r] at mu; exact mu
  by_cases hb : b = x
  · subst hb; rw [upd_same] at q; cases q; exact new
  · rw [upd_ne hb] at q
    by_cases hbe : b = e
    · have q' : H b = some (.own x) := by
        rcases he with z | z
        · exact absurd (hbe.trans z) hb
        · rw [hbe]; exact z
      rw [q] at q'; cases q'
      obtain ⟨v, hv⟩ := heo
      exact ⟨v, by rw [hbe]; exact hv⟩
    · refine (ok b u q).stay (fun c v hc r => k c v ?_ r) (fun c r => by rw [upd_ne (nown c b r)]; exact r) fun c xs r => by rw [upd_ne (ntup c xs r)]; exact r
      rcases hc with rfl | hc
      · exact hbe
      · rintro rfl
        rcases he with z | z
        · exact nown c b hc z
        · rw [hc] at z; cases z; exact hb rfl
end

/-! ### kept unless tracked; of the frames at fs (the callers') the slots may change (an exception that passes writes there); of the records at ex (iterators) nothing is said -/
structure Un (fs ex : List Addr) (H H' : Hp) (h h' : Heap) : Prop where
  keep : ∀ b o, h.get? b = some o → H b = none → b ∉ fs → b ∉ ex → h'.get? b = some o
  slot : ∀ b o, h.get? b = some o → H b = none → b ∈ fs → b ∉ ex → ∃ sl, h'.get? b = some { o with slots := sl }
  free : ∀ b o, h.get? b = some o → H b = none → b ∉ ex → H' b = none
  there : ∀ b o, h.get? b = some o → b ∉ ex → ∃ o', h'.get? b = some o'
  tups : ∀ b xs, H b = some (.tup xs) → H' b = some (.tup xs)
  frzs : ∀ b o u, H b = some (.frz o u) → H' b = some (.frz o u)
  tbls : ∀ b ps, H b = some (.tbl ps) → ∃ more, H' b = some (.tbl (ps ++ more))
section
variable {fs fs' ex ex' : List Addr} {H H1 H2 : Hp} {h h1 h2 h' : Heap} {a x e : Addr} {o : HO}
theorem Un.any (u : Un fs ex H H1 h h1) {b : Addr} {ob : Obj} (q : h.get? b = some ob) (n : H b = none) (hx : b ∉ ex) : ∃ sl, h1.get? b = some { ob with slots := sl } := by
  by_cases hb : b ∈ fs
  · exact u.slot b ob q n hb hx
  · exact ⟨ob.slots, u.keep b ob q n hb hx⟩
theorem Un.trans (a : Un fs ex H H1 h h1) (b : Un fs ex H1 H2 h1 h2) : Un fs ex H H2 h h2 where
  keep := fun c ob q n hc hx => b.keep c ob (a.keep c ob q n hc hx) (a.free c ob q n hx) hc hx
  slot := fun c ob q n hc hx => by
    obtain ⟨sl, e1⟩ := a.slot c ob q n hc hx
    obtain ⟨sl', e2⟩ := b.slot c _ e1 (a.free c ob q n hx) hc hx
    exact ⟨sl', e2⟩
  free := fun c ob q n hx => by
    obtain ⟨o', e1⟩ := a.there c ob q hx
    exact b.free c o' e1 (a.free c ob q n hx) hx
  there := fun c ob q hx => by
    obtain ⟨o', e1⟩ := a.there c ob q hx
    exact b.there c o' e1 hx
  tups := fun c xs q => b.tups c xs (a.tups c xs q)
  frzs := fun c ob xs q => b.frzs c ob xs (a.frzs c ob xs q)
  tbls := fun c ps q => by
    obtain ⟨m1, e1⟩ := a.tbls c ps q
    obtain ⟨m2, e2⟩ := b.tbls c _ e1
    exact ⟨m1 ++ m2, by rw [e2, Array.append_assoc]⟩
theorem Un.kept (k : ∀ b u, h.get? b = some u → h'.get? b = some u) : Un fs ex H H h h' :=
  ⟨fun b ob q _ _ _ => k b ob q, fun b ob q _ _ _ => ⟨ob.slots, k b ob q⟩, fun _ _ _ n _ => n, fun b ob q _ => ⟨ob, k b ob q⟩, fun _ _ q => q, fun _ _ _ q => q, fun _ ps q => ⟨#[], by rw [q]; simp⟩⟩
theorem Un.refl : Un fs ex H H h h := Un.kept fun _ _ q => q
theorem Un.laid (k : ∀ b u, h.get? b = some u → h'.get? b = some u) (hp : h.objs.size ≤ a) (hn : H a = none) : Un fs ex H (upd H a o) h h' where
  keep := fun b u q _ _ _ => k b u q
  slot := fun b u q _ _ _ => ⟨u.slots, k b u q⟩
  free := fun b u q n _ => by rw [upd_ne (Nat.ne_of_lt (Nat.lt_of_lt_of_le (Heap.lt_size q) hp))]; exact n
  there := fun b u q _ => ⟨u, k b u q⟩
  tups := fun b xs q => by rw [upd_ne (ne_of_none q hn)]; exact q
  frzs := fun b u xs q => by rw [upd_ne (ne_of_none q hn)]; exact q
  tbls := fun b ps q => ⟨#[], by rw [upd_ne (ne_of_none q hn), q]; simp⟩
theorem Un.write (mu : Mut (H x)) (he : e = x ∨ H e = some (.own x)) (k : ∀ b u, b ≠ e → h.get? b = some u → h'.get? b = some u) (heo : ∃ u, h'.get? e = some u) : Un fs ex H (upd H x o) h h' := by
  have hx : ∀ b, H b = none → b ≠ x := fun b n z => by subst z; rw [n] at mu; exact mu
  have hb : ∀ b, H b = none → b ≠ e := fun b n z => by
    subst z
    rcases he with r | r
    · exact hx b n r
    · rw [n] at r; cases r
  have hm : ∀ b u, H b = some u → ¬ Mut (some u) → b ≠ x := fun b u q nm z => by subst z; rw [q] at mu; exact nm mu
  refine ⟨fun b u q n _ _ => k b u (hb b n) q, fun b u q n _ _ => ⟨u.slots, k b u (hb b n) q⟩, fun b u q n _ => by rw [upd_ne (hx b n)]; exact n, fun b u q _ => ?_,
    fun b xs q => by rw [upd_ne (hm b _ q fun z => z)]; exact q, fun b u xs q => by rw [upd_ne (hm b _ q fun z => z)]; exact q, fun b ps q => ⟨#[], by rw [upd_ne (hm b _ q fun z => z), q]; simp⟩⟩
  by_cases hbe : b = e
  · subst hbe; exact heo
  · exact ⟨u, k b u hbe q⟩
theorem Un.mono (u : Un fs ex H H1 h h1) (hs : ∀ b ∈ fs, b ∈ fs') (hx : ∀ b ∈ ex, b ∈ ex') : Un fs' ex' H H1 h h1 :=
  ⟨fun b ob q n hb he => u.keep b ob q n (fun z => hb (hs b z)) fun z => he (hx b z), fun _ _ q n _ he => u.any q n fun z => he (hx _ z), fun b ob q n he => u.free b ob q n fun z => he (hx b z), fun b ob q he => u.there b ob q fun z => he (hx b z), u.tups, u.frzs, u.tbls⟩
end

/-! ### the heap without what is tracked -/
def trk (h : Heap) (H : Hp) : List Addr := (List.range h.objs.size).filter fun a => (H a).isSome
def hidT (h : Heap) (H : Hp) : Heap := PySem.W.hideAll h (trk h H)
theorem hidT_size (h : Heap) (H : Hp) : (hidT h H).objs.size = h.objs.size := PySem.W.hideAll_size _ _
theorem hidT_get {h : Heap} {H : Hp} {b : Addr} {o : Obj} (e : h.get? b = some o) (n : H b = none) : (hidT h H).get? b = some o :=
  PySem.W.hideAll_get _ e fun hm => by
    have q : (H b).isSome = true := (List.mem_filter.mp hm).2
    rw [n] at q; simp at q
theorem of_hidT {h : Heap} {H : Hp} {b : Addr} {o : Obj} (e : (hidT h H).get? b = some o) : h.get? b = some o ∧ H b = none := by
  have e' : h.get? b = some o := PySem.W.of_hideAll (trk h H) e
  refine ⟨e', ?_⟩
  cases q : H b with
  | none => rfl
  | some x =>
    have hm : b ∈ trk h H := List.mem_filter.mpr ⟨List.mem_range.mpr (Heap.lt_size e'), by simp [q]⟩
    have z : (hidT h H).get? b = none := PySem.W.hideAll_none (trk h H) hm
    rw [z] at e; cases e

/-! ### OpenK's ledger, filled with every new object but one -/
def allNews (g h : Heap) (L : Addr) : List (Addr × Obj) := (List.range h.objs.size).filterMap fun a => if a = L ∨ (g.get? a).isSome = true then none else (h.get? a).map fun o => (a, o)
def rest (g h : Heap) (L d : Addr) : List (Addr × Obj) := (allNews g h L).filter fun p => decide (p.1 ≠ d)
end L2

namespace L2
open PySem PySem.Spec PyProof.Rows

/-- the module's facts, over the base: the heap at the law's entry without what is tracked there -/
structure Mod (K : PySem.W.Frag) (mg : Str → Option Value) (base : Heap) : Prop where
  kin : K.In base
  glob : base.Ns mainGlobals mg
  blt : ∃ mb, base.Ns builtinsNs mb ∧ ∀ x : Str, x ≠ "__name__" → mb x = bootBuiltins x
  nolimit : base.NoLimit

/-- the context: a def's body (or a comprehension's block) running. base: fixed through the whole law; s₀, H₀: the entry; outer: the frames whose slots others may change (a def's callers); stack: all frames that run;
   ex: iterators that were made ahead of the entry and are walked here (a comprehension's); fn: the names whose cells were made at the entry (a def: all; a comprehension's block: its own); calm: not within an except suite; pn: pins that every state bears; xe: what is wanted of an exception that leaves the code -/
structure Cx where
  prog : Program
  w : World
  K : PySem.W.Frag
  mg : Str → Option Value
  base : Heap
  A : Around
  N : List Str
  s₀ : Shared
  H₀ : Hp
  env : Env
  outer : List Env
  stack : List Env
  ex : List Addr
  fn : Str → Bool
  calm : Bool
  pn : List (Addr × Obj)
  xe : Value → Shared → Prop
/-- the callers' frames -/
def frs (l : List Env) : List Addr := l.filterMap (·.frame)
abbrev Cx.fs (X : Cx) : List Addr := frs X.outer

def Vis (sc : Scope) (x : Str) : Prop := sc.names.lookup x = some .local ∨ sc.names.lookup x = some .cell ∨ sc.names.lookup x = some .free
def Loc (sc : Scope) (x : Str) : Prop := sc.names.lookup x = some .local ∨ sc.names.lookup x = some .cell
def Look (env : Env) (h : Heap) (m : Str → Option Value) (x : Str) (u : Value) : Prop :=
  (env.kindOf x = some .local ∧ m x = some u) ∨ ((env.kindOf x = some .cell ∨ env.kindOf x = some .free) ∧ ∃ c, env.cells.lookup x = some c ∧ h.IsCell c (some u))

structure Cx.Ok (X : Cx) : Prop where
  mod : Mod X.K X.mg X.base
  kind : X.env.scope.kind = .function
  glob : X.env.globals = mainGlobals
  blt : X.env.builtins = builtinsNs
  above : X.s₀.heap.objs.size ≤ X.env.locals
  inj : ∀ x y c, X.env.cells.lookup x = some c → X.env.cells.lookup y = some c → x = y
  has : ∀ x, (X.env.kindOf x = some .cell ∨ X.env.kindOf x = some .free) → ∃ c, X.env.cells.lookup x = some c
  cab : ∀ x c, X.fn x = true → X.env.cells.lookup x = some c → X.s₀.heap.objs.size ≤ c
  hd : X.calm = true → X.A.handled = none
  frames : X.A.frames = some X.stack
  stk : X.stack = X.outer ∨ (X.stack = X.env :: X.outer ∧ X.env.frame = some X.env.locals)
  exf : ∀ b ∈ X.ex, b ≠ X.env.locals ∧ ∀ x c, X.env.cells.lookup x = some c → c ≠ b
  bs : ∀ b o, X.base.get? b = some o → X.s₀.heap.get? b = some o ∧ X.H₀ b = none
  bsz : X.base.objs.size ≤ X.s₀.heap.objs.size
  noex : ∀ b o, X.base.get? b = some o → b ∉ X.ex
  exfs : ∀ b ∈ X.ex, b ∉ X.fs
  funs : X.s₀.heap.FunFrames X.base X.outer
  frf : ∀ b ∈ X.fs, X.H₀ b = none

structure Inv (X : Cx) (pins : List (Addr × Obj)) (σ : List (Option V)) (H : Hp) (s : Shared) : Prop where
  ok : X.Ok
  os : s.os = X.s₀.os
  bare : AllBare s.gens
  base : Un X.fs X.ex X.H₀ H X.s₀.heap s.heap
  loc : ∃ m, s.heap.Ns X.env.locals m ∧ ∀ (i : Nat) (x : Str) (v : V), X.N[i]? = some x → σ[i]? = some (some v) → Vis X.env.scope x → ∃ u, RelV v u ∧ Look X.env s.heap m x u
  cell : ∀ x c, X.env.cells.lookup x = some c → ∃ v, s.heap.IsCell c v
  free : H X.env.locals = none
  freeC : ∀ x c, X.env.cells.lookup x = some c → H c = none
  pin : ∀ p ∈ X.pn ++ pins, s.heap.get? p.1 = some p.2 ∧ H p.1 = none ∧ p.1 ≠ X.env.locals ∧ p.1 ∉ X.fs ∧ ∀ v, p.2.data ≠ .cell v
  hok : HOk X.prog X.w H s.heap
  len : σ.length = X.N.length

section
variable {X : Cx} {pins : List (Addr × Obj)} {σ : List (Option V)} {H H' : Hp} {s : Shared} {h' : Heap}

theorem Cx.Ok.nofr (ok : X.Ok) {b : Addr} {o : Obj} (e : X.base.get? b = some o) : b ∉ X.fs := fun hb => by
  have := (ok.funs.mem hb).1
  rw [e] at this; cases this
theorem Inv.bs (I : Inv X pins σ H s) : ∀ b o, X.base.get? b = some o → s.heap.get? b = some o ∧ H b = none := fun b o e =>
  ⟨I.base.keep b o (I.ok.bs b o e).1 (I.ok.bs b o e).2 (I.ok.nofr e) (I.ok.noex b o e), I.base.free b o (I.ok.bs b o e).1 (I.ok.bs b o e).2 (I.ok.noex b o e)⟩
theorem Inv.bk (I : Inv X pins σ H s) : ∀ b o, X.base.get? b = some o → s.heap.get? b = some o := fun b o e => (I.bs b o e).1
theorem Inv.mod (I : Inv X pins σ H s) : Mod X.K X.mg X.base := I.ok.mod
theorem Inv.kIn (I : Inv X pins σ H s) : X.K.In s.heap := I.ok.mod.kin.keeps I.bk
theorem Inv.nolimit (I : Inv X pins σ H s) : s.heap.NoLimit := I.ok.mod.nolimit.keeps I.bk
/-- the frame over the base: for OpenK's rules (K.In X.base is I.mod.kin) -/
theorem Inv.fr (I : Inv X pins σ H s) : ∃ m, Fr X.base X.env.locals s.heap m :=
  let ⟨m, hn, _⟩ := I.loc
  ⟨m, hn, I.bk, Nat.le_trans I.ok.bsz I.ok.above⟩
theorem Inv.lt (I : Inv X pins σ H s) : X.env.locals < s.heap.objs.size := let ⟨_, hn, _⟩ := I.loc; hn.lt
theorem Inv.sz (I : Inv X pins σ H s) : X.s₀.heap.objs.size ≤ s.heap.objs.size := Nat.le_trans I.ok.above (Nat.le_of_lt I.lt)
theorem Inv.nofs (I : Inv X pins σ H s) {a : Addr} (h : s.heap.objs.size ≤ a) : a ∉ X.fs := fun hb => by
  obtain ⟨_, o, ho, _⟩ := I.ok.funs.mem hb
  exact absurd (Nat.lt_of_lt_of_le (Heap.lt_size ho) (Nat.le_trans I.sz h)) (Nat.lt_irrefl _)
theorem Inv.cne (I : Inv X pins σ H s) : ∀ x c, X.env.cells.lookup x = some c → c ≠ X.env.locals := fun x c e z => by
  obtain ⟨v, o, ho, hd⟩ := I.cell x c e
  obtain ⟨m, ⟨o', es, ep, ho', hd', _⟩, _⟩ := I.loc
  rw [z, ho'] at ho; cases ho; rw [hd'] at hd; cases hd
theorem Inv.funs (I : Inv X pins σ H s) : s.heap.FunFrames X.base X.outer := by
  have all : ∀ (l : List Env), (∀ b ∈ frs l, b ∈ X.fs) → X.s₀.heap.FunFrames X.base l → s.heap.FunFrames X.base l := by
    intro l
    induction l with
    | nil => intro _ _; trivial
    | cons env r ih =>
      intro hs hl
      obtain ⟨hk, ⟨L, o, hf, hn, ho, hd⟩, hr⟩ := hl
      have hL : L ∈ X.fs := hs L (by unfold frs; rw [List.filterMap_cons, hf]; exact List.mem_cons_self)
      obtain ⟨sl, e⟩ := I.base.slot L o ho (I.ok.frf L hL) hL fun z => I.ok.exfs L z hL
      exact ⟨hk, ⟨L, _, hf, hn, e, hd⟩, ih (fun b hb => hs b (by unfold frs; rw [List.filterMap_cons, hf]; exact List.mem_cons_of_mem _ hb)) hr⟩
  exact all X.outer (fun _ hb => hb) I.ok.funs

/-- the frames that run, for a call -/
theorem Inv.stack (I : Inv X pins σ H s) : s.heap.FunFrames X.base X.stack := by
  rcases I.ok.stk with e | ⟨e, hf⟩
  · rw [e]; exact I.funs
  · rw [e]
    obtain ⟨m, hn, _⟩ := I.loc
    refine .cons (by rw [I.ok.kind]; decide) hf hn ?_ I.funs
    exact Heap.get?_none_of_le (Nat.le_trans I.ok.bsz I.ok.above)
theorem Inv.stkSub (I : Inv X pins σ H s) : ∀ b ∈ frs X.stack, b ∈ X.env.locals :: X.fs := fun b hb => by
  rcases I.ok.stk with e | ⟨e, hf⟩
  · rw [e] at hb; exact List.mem_cons_of_mem _ hb
  · rw [e] at hb
    unfold frs at hb
    rw [List.filterMap_cons, hf] at hb
    exact hb
theorem Inv.stkFree (I : Inv X pins σ H s) : ∀ b ∈ frs X.stack, H b = none := fun b hb => by
  rcases List.mem_cons.mp (I.stkSub b hb) with e | hb
  · rw [e]; exact I.free
  · obtain ⟨_, o, ho, _⟩ := I.ok.funs.mem hb
    exact I.base.free b o ho (I.ok.frf b hb) fun z => I.ok.exfs b z hb

/-- THE STEP: the untracked objects but the frame and the records at ch are kept (the callers' frames up to slots), the frame's map is kept, the new abstract heap is held -/
theorem Inv.step {g' : Array GenState} {t' : Nat} {d' : Drawn} {ch : List Addr} (I : Inv X pins σ H s)
    (hch : ∀ b ∈ ch, (b ∈ X.ex ∨ X.s₀.heap.objs.size ≤ b) ∧ b ≠ X.env.locals ∧ (∀ x c, X.env.cells.lookup x = some c → c ≠ b) ∧ ∀ p ∈ X.pn ++ pins, p.1 ≠ b)
    (keep : ∀ b o, b ≠ X.env.locals → b ∉ X.fs → b ∉ ch → s.heap.get? b = some o → H b = none → h'.get? b = some o)
    (slot : ∀ b o, b ≠ X.env.locals → b ∈ X.fs → b ∉ ch → s.heap.get? b = some o → H b = none → ∃ sl, h'.get? b = some { o with slots := sl }) (free : ∀ b o, b ∉ ch → s.heap.get? b = some o → H b = none → H' b = none)
    (there : ∀ b o, b ∉ ch → s.heap.get? b = some o → ∃ o', h'.get? b = some o')
    (tups : ∀ b xs, H b = some (.tup xs) → H' b = some (.tup xs)) (frzs : ∀ b o u, H b = some (.frz o u) → H' b = some (.frz o u)) (tbls : ∀ b ps, H b = some (.tbl ps) → ∃ more, H' b = some (.tbl (ps ++ more)))
    (ns : ∀ m, s.heap.Ns X.env.locals m → h'.Ns X.env.locals m) (hok : HOk X.prog X.w H' h') (hg : AllBare g') :
    Inv X pins σ H' { s with heap := h', gens := g', drawn := d', toks := t' } := by
  have neL : ∀ b o, X.s₀.heap.get? b = some o → b ≠ X.env.locals := fun b o e => Nat.ne_of_lt (Nat.lt_of_lt_of_le (Heap.lt_size e) I.ok.above)
  have neC : ∀ b o, X.s₀.heap.get? b = some o → b ∉ X.ex → b ∉ ch := fun b o e hx hb => by
    rcases (hch b hb).1 with z | z
    · exact hx z
    · exact absurd (Nat.lt_of_lt_of_le (Heap.lt_size e) z) (Nat.lt_irrefl _)
  have cellK : ∀ x c, X.env.cells.lookup x = some c → ∀ v, s.heap.IsCell c v → h'.IsCell c v := fun x c e v ⟨o, ho, hd⟩ => by
    have nch : c ∉ ch := fun z => (hch c z).2.2.1 x c e rfl
    by_cases hc : c ∈ X.fs
    · obtain ⟨sl, q⟩ := slot c o (I.cne x c e) hc nch ho (I.freeC x c e)
      exact ⟨_, q, hd⟩
    · exact ⟨o, keep c o (I.cne x c e) hc nch ho (I.freeC x c e), hd⟩
  refine ⟨I.ok, I.os, hg, ⟨fun b o e n hb hx => ?_, fun b o e n hb hx => ?_, fun b o e n hx => ?_, fun b o e hx => ?_, fun b xs e => tups b xs (I.base.tups b xs e), fun b o xs e => frzs b o xs (I.base.frzs b o xs e), fun b ps e => ?_⟩, ?_, fun x c e => ?_, ?_, fun x c e => ?_, fun p hp => ?_, hok, I.len⟩
  · exact keep b o (neL b o e) hb (neC b o e hx) (I.base.keep b o e n hb hx) (I.base.free b o e n hx)
  · obtain ⟨sl, e1⟩ := I.base.slot b o e n hb hx
    obtain ⟨sl', e2⟩ := slot b _ (neL b o e) hb (neC b o e hx) e1 (I.base.free b o e n hx)
    exact ⟨sl', e2⟩
  · obtain ⟨o', e1⟩ := I.base.there b o e hx
    exact free b o' (neC b o e hx) e1 (I.base.free b o e n hx)
  · obtain ⟨o', e1⟩ := I.base.there b o e hx
    exact there b o' (neC b o e hx) e1
  · obtain ⟨m1, e1⟩ := I.base.tbls b ps e
    obtain ⟨m2, e2⟩ := tbls b _ e1
    exact ⟨m1 ++ m2, by rw [e2, Array.append_assoc]⟩
  · obtain ⟨m, hn, hl⟩ := I.loc
    refine ⟨m, ns m hn, fun i x v e1 e2 e3 => ?_⟩
    obtain ⟨u, r, l⟩ := hl i x v e1 e2 e3
    refine ⟨u, r, ?_⟩
    rcases l with l | ⟨k, c, e, z⟩
    · exact .inl l
    · exact .inr ⟨k, c, e, cellK x c e _ z⟩
  · obtain ⟨v, z⟩ := I.cell x c e
    exact ⟨v, cellK x c e v z⟩
  · obtain ⟨m, ⟨o, _, _, ho, _⟩, _⟩ := I.loc
    exact free _ o (fun z => (hch _ z).2.1 rfl) ho I.free
  · obtain ⟨v, o, ho, hd⟩ := I.cell x c e
    exact free c o (fun z => (hch c z).2.2.1 x c e rfl) ho (I.freeC x c e)
  · obtain ⟨e, n, ne, nf, d⟩ := I.pin p hp
    have nch : p.1 ∉ ch := fun z => (hch p.1 z).2.2.2 p hp rfl
    exact ⟨keep p.1 p.2 ne nf nch e n, free p.1 p.2 nch e n, ne, nf, d⟩
/-- .. where the frame's own object is kept too -/
theorem Inv.un {t' : Nat} (I : Inv X pins σ H s) (u : Un X.fs [] H H' s.heap h') (hok : HOk X.prog X.w H' h') : Inv X pins σ H' { s with heap := h', toks := t' } := by
  obtain ⟨m, ⟨o, es, ep, ho, r⟩, _⟩ := id I.loc
  obtain ⟨sl, hL⟩ := u.any ho I.free (by simp)
  exact I.step (g' := s.gens) (d' := s.drawn) (ch := []) (fun _ z => nomatch z) (fun b o _ hb _ e n => u.keep b o e n hb (by simp)) (fun b o _ hb _ e n => u.slot b o e n hb (by simp)) (fun b o _ e n => u.free b o e n (by simp)) (fun b o _ e => u.there b o e (by simp)) u.tups u.frzs u.tbls (fun m' hm => by
    obtain ⟨o', es', ep', ho', r'⟩ := hm
    rw [ho] at ho'; cases ho'
    exact ⟨_, es', ep', hL, r'⟩) hok I.bare
/-- behind a call (or a comprehension's block): the slots of this frame may have changed too, the records at ch may have turned -/
theorem Inv.call {g' : Array GenState} {t' : Nat} {d' : Drawn} {ch : List Addr} (I : Inv X pins σ H s) (u : Un (frs X.stack) ch H H' s.heap h') (hok : HOk X.prog X.w H' h') (hg : AllBare g')
    (hch : ∀ b ∈ ch, (b ∈ X.ex ∨ X.s₀.heap.objs.size ≤ b) ∧ b ≠ X.env.locals ∧ (∀ x c, X.env.cells.lookup x = some c → c ≠ b) ∧ ∀ p ∈ X.pn ++ pins, p.1 ≠ b) :
    Inv X pins σ H' { s with heap := h', gens := g', drawn := d', toks := t' } := by
  obtain ⟨m, ⟨o, es, ep, ho, r⟩, _⟩ := id I.loc
  obtain ⟨sl, hL⟩ := u.any ho I.free fun z => (hch _ z).2.1 rfl
  exact I.step (ch := ch) hch (fun b o hL hb hc e n => u.keep b o e n (fun z => (List.mem_cons.mp (I.stkSub b z)).elim hL hb) hc) (fun b o _ _ hc e n => u.any e n hc) (fun b o hc e n => u.free b o e n hc) (fun b o hc e => u.there b o e hc) u.tups u.frzs u.tbls (fun m' hm => by
    obtain ⟨o', es', ep', ho', r'⟩ := hm
    rw [ho] at ho'; cases ho'
    exact ⟨_, es', ep', hL, r'⟩) hok hg
/-- an untracked record of ours (an iterator) has turned -/
theorem Inv.turned {t' : Nat} {it : Addr} (I : Inv X pins σ H s) (k : ∀ b o, b ≠ it → s.heap.get? b = some o → h'.get? b = some o) (hn : H it = none) (hL : it ≠ X.env.locals)
    (h1 : it ∈ X.ex ∨ X.s₀.heap.objs.size ≤ it) (h2 : ∀ x c, X.env.cells.lookup x = some c → c ≠ it) (h3 : ∀ p ∈ X.pn ++ pins, p.1 ≠ it) : Inv X pins σ H { s with heap := h', toks := t' } := by
  have nit : ∀ b u, H b = some u → b ≠ it := fun b u e z => by rw [z, hn] at e; cases e
  refine I.step (g' := s.gens) (d' := s.drawn) (ch := [it]) (fun b hb => ?_) (fun b o _ _ hc e _ => k b o (fun z => hc (by simp [z])) e) (fun b o _ _ hc e _ => ⟨o.slots, k b o (fun z => hc (by simp [z])) e⟩) (fun _ _ _ _ n => n)
    (fun b o hc e => ⟨o, k b o (fun z => hc (by simp [z])) e⟩) (fun _ _ e => e) (fun _ _ _ e => e) (fun b ps e => ⟨#[], by rw [e]; simp⟩) (fun m hm => ?_) (fun b u e => ?_) I.bare
  · have e : b = it := by simpa using hb
    subst e
    exact ⟨h1, hL, h2, h3⟩
  · obtain ⟨o, es, ep, ho, r⟩ := hm
    exact ⟨o, es, ep, k _ o (Ne.symm hL) ho, r⟩
  · refine (I.hok b u e).stay (fun c v hc q => k c v ?_ q) (fun _ q => q) fun _ _ q => q
    rcases hc with z | z
    · rw [z]; exact nit b u e
    · exact nit c _ z
theorem Inv.tok (I : Inv X pins σ H s) (t : Nat) : Inv X pins σ H { s with toks := t } := I.un (h' := s.heap) (t' := t) Un.refl I.hok
/-- all objects kept -/
theorem Inv.kept {t' : Nat} (I : Inv X pins σ H s) (k : ∀ b u, s.heap.get? b = some u → h'.get? b = some u) : Inv X pins σ H { s with heap := h', toks := t' } := I.un (Un.kept k) (I.hok.kept k)
/-- a new object laid and tracked -/
theorem Inv.laid {a : Addr} {o : HO} {t' : Nat} (I : Inv X pins σ H s) (k : ∀ b u, s.heap.get? b = some u → h'.get? b = some u) (hp : s.heap.objs.size ≤ a) (new : ObjOk X.prog X.w (upd H a o) h' a o) :
    Inv X pins σ (upd H a o) { s with heap := h', toks := t' } := I.un (Un.laid k hp (I.hok.fresh hp)) (I.hok.laid k hp new)
/-- an object written -/
theorem Inv.write {x e : Addr} {o : HO} {t' : Nat} (I : Inv X pins σ H s) (mu : Mut (H x)) (he : e = x ∨ H e = some (.own x)) (k : ∀ b u, b ≠ e → s.heap.get? b = some u → h'.get? b = some u) (heo : ∃ u, h'.get? e = some u)
    (new : ObjOk X.prog X.w (upd H x o) h' x o) : Inv X pins σ (upd H x o) { s with heap := h', toks := t' } := I.un (Un.write mu he k heo) (I.hok.write mu he k heo new)
/-- forgetting slots, pins -/
theorem Inv.weak {σ' : List (Option V)} (I : Inv X pins σ H s) (hl : σ'.length = σ.length) (w : ∀ (i : Nat) v, σ'[i]? = some (some v) → σ[i]? = some (some v)) : Inv X pins σ' H s :=
  ⟨I.ok, I.os, I.bare, I.base, let ⟨m, hn, hl'⟩ := I.loc; ⟨m, hn, fun i x v e1 e2 e3 => hl' i x v e1 (w i v e2) e3⟩, I.cell, I.free, I.freeC, I.pin, I.hok, hl.trans I.len⟩
theorem Inv.pins_of {pins' : List (Addr × Obj)} (I : Inv X pins σ H s) (h : ∀ p ∈ pins', s.heap.get? p.1 = some p.2 ∧ H p.1 = none ∧ p.1 ≠ X.env.locals ∧ p.1 ∉ X.fs ∧ ∀ v, p.2.data ≠ .cell v) : Inv X pins' σ H s :=
  ⟨I.ok, I.os, I.bare, I.base, I.loc, I.cell, I.free, I.freeC, fun p hp => (List.mem_append.mp hp).elim (fun z => I.pin p (List.mem_append_left _ z)) (h p), I.hok, I.len⟩

theorem nodup_ix {N : List Str} (hN : N.Nodup) {i j : Nat} {x : Str} (a : N[i]? = some x) (b : N[j]? = some x) : i = j := by
  obtain ⟨h1, e1⟩ := List.getElem?_eq_some_iff.mp a
  obtain ⟨h2, e2⟩ := List.getElem?_eq_some_iff.mp b
  exact (List.getElem_inj hN).mp (e1.trans e2.symm)

/-- a name is stored; what changed -/
theorem store_ok2 {M : Model} {A : Around} {E : Value → Shared → Prop} {i : Nat} {x : Str} {v : V} {u : Value} {Q : Unit → Shared → Prop} (I : Inv X pins σ H s) (hN : X.N.Nodup) (hi : X.N[i]? = some x) (hx : Loc X.env.scope x) (r : RelV v u)
    (h : ∀ s', Inv X pins (σ.set i (some v)) H s' → (∃ a, Heap.SameBut a s.heap s'.heap ∧ (a = X.env.locals ∨ X.env.cells.lookup x = some a)) → Q () s') (hf : X.fn x = true ∨ X.env.scope.names.lookup x = some .local := by first | exact .inl rfl | exact .inr rfl | assumption) : wpAny M A (storeName X.env x u) Q E s := by
  obtain ⟨m, hn, hl⟩ := id I.loc
  have hcls : (X.env.scope.kind == .class || (X.env.scope.kind == .module && X.env.locals != X.env.globals)) = false := by rw [I.ok.kind]; rfl
  have hiσ : i < σ.length := by rw [I.len]; exact (List.getElem?_eq_some_iff.mp hi).1
  have cne := I.cne
  have tracked : ∀ {a : Addr} {h' : Heap}, (∃ o, s.heap.get? a = some o ∧ H a = none) → Heap.SameBut a s.heap h' → HOk X.prog X.w H h' := fun {a h'} ha hs b ob e => by
    obtain ⟨_, _, hfree⟩ := ha
    refine (I.hok b ob e).stay (fun c w' hc q => (hs.2 c ?_).trans q) (fun _ q => q) fun _ _ q => q
    rintro rfl
    rcases hc with rfl | hc
    · rw [hfree] at e; cases e
    · rw [hfree] at hc; cases hc
  rcases hx with hk | hk
  · refine wpAny_storeName_local hk hn (fun h' hn' hs => ?_) hcls
    obtain ⟨oL, _, _, hoL, _⟩ := id hn
    refine h _ ⟨I.ok, I.os, I.bare, ⟨fun b o e n hb hx => ?_, fun b o e n hb hx => ?_, I.base.free, fun b o e hx => ?_, I.base.tups, I.base.frzs, I.base.tbls⟩, ⟨_, hn', fun j y v' e1 e2 e3 => ?_⟩, fun y c e => ?_, I.free, I.freeC, fun p hp => ?_, tracked ⟨oL, hoL, I.free⟩ hs, by simpa using I.len⟩ ⟨_, hs, .inl rfl⟩
    · exact (hs.2 b (Nat.ne_of_lt (Nat.lt_of_lt_of_le (Heap.lt_size e) I.ok.above))).trans (I.base.keep b o e n hb hx)
    · obtain ⟨sl, e1⟩ := I.base.slot b o e n hb hx
      exact ⟨sl, (hs.2 b (Nat.ne_of_lt (Nat.lt_of_lt_of_le (Heap.lt_size e) I.ok.above))).trans e1⟩
    · obtain ⟨o', e1⟩ := I.base.there b o e hx
      exact ⟨o', (hs.2 b (Nat.ne_of_lt (Nat.lt_of_lt_of_le (Heap.lt_size e) I.ok.above))).trans e1⟩
    · by_cases hj : j = i
      · subst hj
        rw [hi] at e1; cases e1
        rw [List.getElem?_set_self hiσ] at e2
        cases e2
        exact ⟨u, r, .inl ⟨hk, by simp⟩⟩
      · rw [List.getElem?_set_ne (Ne.symm hj)] at e2
        obtain ⟨u', r', q⟩ := hl j y v' e1 e2 e3
        refine ⟨u', r', ?_⟩
        rcases q with ⟨k, e⟩ | ⟨k, c, e, z⟩
        · refine .inl ⟨k, ?_⟩
          have : y ≠ x := fun e => hj (nodup_ix hN e1 (e ▸ hi))
          simp [this, e]
        · exact .inr ⟨k, c, e, z.sameBut hs (cne y c e)⟩
    · obtain ⟨w', z⟩ := I.cell y c e
      exact ⟨w', z.sameBut hs (cne y c e)⟩
    · obtain ⟨e, n, ne, nf, d⟩ := I.pin p hp
      exact ⟨(hs.2 p.1 ne).trans e, n, ne, nf, d⟩
  · have hfn : X.fn x = true := by
      rcases hf with z | z
      · exact z
      · rw [z] at hk; cases hk
    obtain ⟨c, hc⟩ := I.ok.has x (.inl hk)
    obtain ⟨w', z⟩ := I.cell x c hc
    refine wpAny_storeName_cell I.ok.kind hk hc z (fun h' hc' hs => ?_)
    obtain ⟨oc, hoc, hocd⟩ := id z
    refine h { s with heap := h' } ⟨I.ok, I.os, I.bare, ⟨fun b o e n hb hx => ?_, fun b o e n hb hx => ?_, I.base.free, fun b o e hx => ?_, I.base.tups, I.base.frzs, I.base.tbls⟩, ⟨m, hn.sameBut hs (Ne.symm (cne x c hc)), fun j y v' e1 e2 e3 => ?_⟩, fun y c' e => ?_, I.free, I.freeC, fun p hp => ?_, tracked ⟨oc, hoc, I.freeC x c hc⟩ hs, by simpa using I.len⟩ ⟨c, hs, .inr hc⟩
    · exact (hs.2 b (Nat.ne_of_lt (Nat.lt_of_lt_of_le (Heap.lt_size e) (I.ok.cab x c hfn hc)))).trans (I.base.keep b o e n hb hx)
    · obtain ⟨sl, e1⟩ := I.base.slot b o e n hb hx
      exact ⟨sl, (hs.2 b (Nat.ne_of_lt (Nat.lt_of_lt_of_le (Heap.lt_size e) (I.ok.cab x c hfn hc)))).trans e1⟩
    · obtain ⟨o', e1⟩ := I.base.there b o e hx
      exact ⟨o', (hs.2 b (Nat.ne_of_lt (Nat.lt_of_lt_of_le (Heap.lt_size e) (I.ok.cab x c hfn hc)))).trans e1⟩
    · by_cases hj : j = i
      · subst hj
        rw [hi] at e1; cases e1
        rw [List.getElem?_set_self hiσ] at e2
        cases e2
        exact ⟨u, r, .inr ⟨.inl hk, c, hc, hc'⟩⟩
      · rw [List.getElem?_set_ne (Ne.symm hj)] at e2
        obtain ⟨u', r', q⟩ := hl j y v' e1 e2 e3
        refine ⟨u', r', ?_⟩
        rcases q with q | ⟨k, c', e, z'⟩
        · exact .inl q
        · refine .inr ⟨k, c', e, z'.sameBut hs ?_⟩
          rintro rfl
          exact hj (nodup_ix hN e1 (I.ok.inj _ _ _ e hc ▸ hi))
    · by_cases hcc : c' = c
      · subst hcc; exact ⟨_, hc'⟩
      · obtain ⟨w2, z2⟩ := I.cell y c' e
        exact ⟨w2, z2.sameBut hs hcc⟩
    · obtain ⟨e, n, ne, nf, d⟩ := I.pin p hp
      refine ⟨(hs.2 p.1 ?_).trans e, n, ne, nf, d⟩
      intro q
      rw [q, hoc] at e
      have q' : oc = p.2 := Option.some.inj e
      exact d w' (by rw [← q']; exact hocd)
theorem store_ok {M : Model} {A : Around} {E : Value → Shared → Prop} {i : Nat} {x : Str} {v : V} {u : Value} {Q : Unit → Shared → Prop} (I : Inv X pins σ H s) (hN : X.N.Nodup) (hi : X.N[i]? = some x) (hx : Loc X.env.scope x) (r : RelV v u)
    (h : ∀ s', Inv X pins (σ.set i (some v)) H s' → Q () s') (hf : X.fn x = true ∨ X.env.scope.names.lookup x = some .local := by first | exact .inl rfl | exact .inr rfl | assumption) : wpAny M A (storeName X.env x u) Q E s :=
  store_ok2 I hN hi hx r (fun s' I' _ => h s' I') hf
/-- behind a call or a block, the state as it is -/
theorem Inv.call' {s' : Shared} {ch : List Addr} (I : Inv X pins σ H s) (ho : s'.os = s.os) (u : Un (frs X.stack) ch H H' s.heap s'.heap) (hok : HOk X.prog X.w H' s'.heap) (hg : AllBare s'.gens)
    (hch : ∀ b ∈ ch, (b ∈ X.ex ∨ X.s₀.heap.objs.size ≤ b) ∧ b ≠ X.env.locals ∧ (∀ x c, X.env.cells.lookup x = some c → c ≠ b) ∧ ∀ p ∈ X.pn ++ pins, p.1 ≠ b) : Inv X pins σ H' s' := by
  obtain ⟨h', g', d', t', o'⟩ := s'
  have e : o' = s.os := ho
  subst e
  exact I.call (g' := g') (t' := t') (d' := d') u hok hg hch
end

/-! ### the judgements -/
/-- an exception: its class, its own dict's address (where it has one), the abstract heap behind it -/
abbrev XK := Value → Option Addr → Hp → Prop
abbrev St := List (Option V)
abbrev VK := V → Hp → Prop
/-- an expression's reading; a test's; an argument list's -/
abbrev TE := St → Hp → VK → Prop
abbrev TT := St → Hp → (Bool → Hp → Prop) → Prop
abbrev TA := St → Hp → (List V → Hp → Prop) → Prop
/-- what is wanted behind a statement -/
structure Ends where
  nx : St → Hp → Prop
  rt : VK
  bk : St → Hp → Prop := fun _ _ => False
  ct : St → Hp → Prop := fun _ _ => False
abbrev TS := Ends → St → Hp → Prop

def EP (X : Cx) (pins : List (Addr × Obj)) (σ : St) (Q : VK) (u : Value) (s' : Shared) : Prop := ∃ v H', Inv X pins σ H' s' ∧ RelV v u ∧ Q v H'
def TP (X : Cx) (pins : List (Addr × Obj)) (σ : St) (Q : Bool → Hp → Prop) (b : Bool) (s' : Shared) : Prop := ∃ H', Inv X pins σ H' s' ∧ Q b H'
def AP (X : Cx) (pins : List (Addr × Obj)) (σ : St) (Q : List V → Hp → Prop) (us : List Value) (s' : Shared) : Prop := ∃ vs H', Inv X pins σ H' s' ∧ Vals vs us ∧ Q vs H'
def SP (X : Cx) (pins : List (Addr × Obj)) (D : Ends) (f : Flow) (s' : Shared) : Prop :=
  match f with
  | .next => ∃ σ' H', Inv X pins σ' H' s' ∧ D.nx σ' H'
  | .brk => ∃ σ' H', Inv X pins σ' H' s' ∧ D.bk σ' H'
  | .cont => ∃ σ' H', Inv X pins σ' H' s' ∧ D.ct σ' H'
  | .ret u => ∃ v σ' H', Inv X pins σ' H' s' ∧ RelV v u ∧ D.rt v H'

def PE (X : Cx) (e : Expr) (t : TE) : Prop :=
  ∀ (pins : List (Addr × Obj)) (s : Shared) (σ : St) (H : Hp) (Q : VK), Inv X pins σ H s → t σ H Q → wpAny (model X.prog X.w) X.A (eval e X.env) (EP X pins σ Q) X.xe s
def PT (X : Cx) (e : Expr) (t : TT) : Prop :=
  ∀ (pins : List (Addr × Obj)) (s : Shared) (σ : St) (H : Hp) (Q : Bool → Hp → Prop), Inv X pins σ H s → t σ H Q → wpAny (model X.prog X.w) X.A (isTrue e X.env (eval e X.env)) (TP X pins σ Q) X.xe s
/-- a test whatever its 'whole' is (and, or) -/
def PW (X : Cx) (e : Expr) (t : TT) : Prop :=
  ∀ (whole : Sem Value) (pins : List (Addr × Obj)) (s : Shared) (σ : St) (H : Hp) (Q : Bool → Hp → Prop), Inv X pins σ H s → t σ H Q → wpAny (model X.prog X.w) X.A (isTrue e X.env whole) (TP X pins σ Q) X.xe s
theorem PW.pt {X : Cx} {e : Expr} {t : TT} (h : PW X e t) : PT X e t := h _
/-- an argument list (no star), from the left -/
def PA (X : Cx) (es : List Expr) (t : TA) : Prop :=
  ∀ (pos : Pos) (pins : List (Addr × Obj)) (s : Shared) (σ : St) (H : Hp) (Q : List V → Hp → Prop), Inv X pins σ H s → t σ H Q → wpAny (model X.prog X.w) X.A (spliced (backTo pos (starEach es X.env))) (AP X pins σ Q) X.xe s
def PS (X : Cx) (st : Stmt) (t : TS) : Prop :=
  ∀ (pins : List (Addr × Obj)) (s : Shared) (σ : St) (H : Hp) (D : Ends), Inv X pins σ H s → t D σ H → wpAny (model X.prog X.w) X.A (exec st X.env) (SP X pins D) X.xe s
def PSs (X : Cx) (st : List Stmt) (t : TS) : Prop :=
  ∀ (pins : List (Addr × Obj)) (s : Shared) (σ : St) (H : Hp) (D : Ends), Inv X pins σ H s → t D σ H → wpAny (model X.prog X.w) X.A (execs st X.env) (SP X pins D) X.xe s
/-- weaken the end -/
theorem thn {α : Type} {t : Sem α} {Q Q' : α → Shared → Prop} {M : Model} {A : Around} {E : Value → Shared → Prop} {s : Shared} (h : wpAny M A t Q E s) (hQ : ∀ a s, Q a s → Q' a s) : wpAny M A t Q' E s := wpAny_mono h hQ fun _ _ x => x
end L2

namespace L2
open PySem PySem.Spec PyProof.Rows
section
variable {X : Cx}

/-! ### names and constants -/
def tVar (i : Nat) : TE := fun σ H Q => ∃ v, σ[i]? = some (some v) ∧ Q v H
def tC (v : V) : TE := fun _ H Q => Q v H
theorem pe_var {i : Nat} {x : Str} {pos : Pos} (hN : X.N[i]? = some x) (hv : Vis X.env.scope x) (hd : (x == ("__debug__" : Str)) = false := by decide) (hcd : (x == ("__classdict__" : Str)) = false := by decide) : PE X (.Name x pos) (tVar i) := by
  intro pins s σ H Q I h
  obtain ⟨v, e, h⟩ := h
  obtain ⟨m, hn, hl⟩ := I.loc
  obtain ⟨u, r, l⟩ := hl i x v hN e hv
  have fin : EP X pins σ Q u s := ⟨v, H, I, r, h⟩
  rcases l with ⟨hk, hm⟩ | ⟨hk, c, hc, hcell⟩
  · exact wpAny_Name (wpAny_loadName_local I.ok.kind hk hn hm fin) hd
  · rcases hk with hk | hk
    · exact wpAny_Name (wpAny_loadName_cell I.ok.kind hk hc hcell fin) hd
    · exact wpAny_Name (wpAny_loadName_free I.ok.kind hk hc hcell fin hcd) hd
theorem pe_int {i j pos} : PE X (.Constant (.int i) j pos) (tC (.int i)) := fun _ _ _ H _ I h => wpAny_Constant_int ⟨.int i, H, I.tok _, ⟨_, rfl⟩, h⟩
theorem pe_bl {b j pos} : PE X (.Constant (.bool b) j pos) (tC (.bl b)) := fun _ _ _ H _ I h => Constant_bool ⟨.bl b, H, I, rfl, h⟩
theorem pe_non {j pos} : PE X (.Constant .none j pos) (tC .non) := fun _ _ _ H _ I h => Constant_none ⟨.non, H, I, rfl, h⟩
theorem pe_str {x j pos} : PE X (.Constant (.str x) j pos) (tC (.str x)) := fun _ _ _ H _ I h => Calls.Constant_str ⟨.str x, H, I.tok _, ⟨_, rfl⟩, h⟩

/-- a global name of the def -/
def Gl (X : Cx) (x : Str) : Prop := X.env.kindOf x = some .globalImplicit
theorem ld_glob {E : Value → Shared → Prop} {pins : List (Addr × Obj)} {s : Shared} {σ : St} {H : Hp} {x : Str} {u : Value} {pos : Pos} {Q : Value → Shared → Prop} (I : Inv X pins σ H s) (hg : Gl X x) (hm : X.mg x = some u) (h : Q u s)
    (hd : (x == ("__debug__" : Str)) = false := by decide) : wpAny (model X.prog X.w) X.A (eval (.Name x pos) X.env) Q E s :=
  Calls.Name_function_global I.ok.kind hg (Calls.loadGlobal_global (by rw [I.ok.glob]; exact I.mod.glob.keeps I.bk) hm h) hd
theorem ld_blt {E : Value → Shared → Prop} {pins : List (Addr × Obj)} {s : Shared} {σ : St} {H : Hp} {x : Str} {u : Value} {pos : Pos} {Q : Value → Shared → Prop} (I : Inv X pins σ H s) (hg : Gl X x) (hm : X.mg x = none) (hv : bootBuiltins x = some u) (h : Q u s)
    (hn : x ≠ "__name__" := by decide) (hd : (x == ("__debug__" : Str)) = false := by decide) : wpAny (model X.prog X.w) X.A (eval (.Name x pos) X.env) Q E s := by
  obtain ⟨mb, h1, h2⟩ := I.mod.blt
  exact Calls.Name_function_global I.ok.kind hg (Calls.loadGlobal_builtin (by rw [I.ok.glob]; exact I.mod.glob.keeps I.bk) hm (by rw [I.ok.blt]; exact h1.keeps I.bk) ((h2 x hn).trans hv) h) hd
/-- a module's constant, a class, a function, as a value -/
theorem pe_glob {x : Str} {v : V} {u : Value} {pos : Pos} (hg : Gl X x) (hm : X.mg x = some u) (r : RelV v u) (hd : (x == ("__debug__" : Str)) = false := by decide) : PE X (.Name x pos) (tC v) :=
  fun _ _ _ H _ I h => ld_glob I hg hm ⟨v, H, I, r, h⟩ hd
theorem pe_bltn {x : Str} {v : V} {u : Value} {pos : Pos} (hg : Gl X x) (hm : X.mg x = none) (hv : bootBuiltins x = some u) (r : RelV v u) (hn : x ≠ "__name__" := by decide) (hd : (x == ("__debug__" : Str)) = false := by decide) : PE X (.Name x pos) (tC v) :=
  fun _ _ _ H _ I h => ld_blt I hg hm hv ⟨v, H, I, r, h⟩ hn hd

/-! ### arithmetic -/
variable {a b : Expr} {ta tb : TE} {pos : Pos}
/-! ### comparisons -/
/-- a comparison as a value, as a test -/
def tB (t : TE) : TT := fun σ H Q => t σ H fun x H1 => ∃ c, x = .bl c ∧ Q c H1
/-- an expression whose value is a bool, as a test -/
theorem pt_val {e : Expr} {t : TE} (h : PE X e t) (he : ∀ whole, isTrue e X.env whole = (do let v ← whole; standAt e.pos; holding [v] (truthy v)) := by intro _; rfl) : PT X e (tB t) := by
  intro pins s σ H Q I hw
  refine isTrue_plain (thn (h pins s σ H _ I hw) fun v s1 ⟨x, H1, I1, r1, q1⟩ => ?_) (he _)
  obtain ⟨d, rfl, q⟩ := q1
  cases r1
  exact wpAny_truthy_bool ⟨H1, I1, q⟩

/-! ### and, or, not -/
variable {tA tB' : TT} {rest : List Expr}
def tAnd (t u : TT) : TT := fun σ H Q => t σ H fun c H1 => if c = true then u σ H1 Q else Q false H1
def tOr (t u : TT) : TT := fun σ H Q => t σ H fun c H1 => if c = true then Q true H1 else u σ H1 Q
def tNot (t : TT) : TT := fun σ H Q => t σ H fun c H1 => Q (!c) H1
theorem pw_and1 (ha : PT X a tA) : PW X (.BoolOp .And [a] pos) tA := by
  intro wh pins s σ H Q I h
  refine isTrue_and (thn (ha pins s σ H Q I h) fun c s1 e => ?_)
  cases c with
  | true => exact isTrue_and_nil e
  | false => exact e
theorem pw_or1 (ha : PT X a tA) : PW X (.BoolOp .Or [a] pos) tA := by
  intro wh pins s σ H Q I h
  refine isTrue_or (thn (ha pins s σ H Q I h) fun c s1 e => ?_)
  cases c with
  | false => exact isTrue_or_nil e
  | true => exact e
theorem pw_and (ha : PT X a tA) (hb : PW X (.BoolOp .And (b :: rest) pos) tB') : PW X (.BoolOp .And (a :: b :: rest) pos) (tAnd tA tB') := by
  intro wh pins s σ H Q I h
  refine isTrue_and (thn (ha pins s σ H _ I h) fun c s1 ⟨H1, I1, q1⟩ => ?_)
  cases c with
  | true => exact hb wh pins s1 σ H1 Q I1 q1
  | false => exact ⟨H1, I1, q1⟩
theorem pw_or (ha : PT X a tA) (hb : PW X (.BoolOp .Or (b :: rest) pos) tB') : PW X (.BoolOp .Or (a :: b :: rest) pos) (tOr tA tB') := by
  intro wh pins s σ H Q I h
  refine isTrue_or (thn (ha pins s σ H _ I h) fun c s1 ⟨H1, I1, q1⟩ => ?_)
  cases c with
  | true => exact ⟨H1, I1, q1⟩
  | false => exact hb wh pins s1 σ H1 Q I1 q1
theorem pt_not (ha : PT X a tA) : PT X (.UnaryOp .Not a pos) (tNot tA) := by
  intro pins s σ H Q I h
  exact isTrue_not (ha pins s σ H (fun c H1 => Q (!c) H1) I h)
/-- .. as values (bools) -/
def tAndV (ta tb : TE) : TE := fun σ H Q => ta σ H fun x H1 => ∃ c, x = .bl c ∧ if c = true then tb σ H1 Q else Q (.bl false) H1
def tNotV (ta : TE) : TE := fun σ H Q => ta σ H fun x H1 => ∃ c, x = .bl c ∧ Q (.bl (!c)) H1
theorem pe_one {op} {t : TE} (h : PE X a t) : PE X (.BoolOp op [a] pos) t := fun pins s σ H Q I hw => BoolOp_one (h pins s σ H Q I hw)
theorem pe_and (ha : PE X a ta) (hb : PE X (.BoolOp .And (b :: rest) pos) tb) : PE X (.BoolOp .And (a :: b :: rest) pos) (tAndV ta tb) := by
  intro pins s σ H Q I h
  refine BoolOp_and (thn (ha pins s σ H _ I h) fun v s1 ⟨x, H1, I1, r1, q1⟩ => ?_)
  obtain ⟨c, rfl, q1⟩ := q1
  cases r1
  refine wpAny_truthy_bool ?_
  cases c with
  | true => exact hb pins s1 σ H1 Q I1 q1
  | false => exact ⟨.bl false, H1, I1, rfl, q1⟩
theorem pe_not (ha : PE X a ta) : PE X (.UnaryOp .Not a pos) (tNotV ta) := by
  intro pins s σ H Q I h
  refine UnaryOp_ (thn (ha pins s σ H _ I h) fun v s1 ⟨x, H1, I1, r1, q1⟩ => ?_)
  obtain ⟨c, rfl, q1⟩ := q1
  cases r1
  exact not_of (wpAny_truthy_bool ⟨.bl (!c), H1, I1, rfl, q1⟩)
/-- a if t else b -/
def tIf (t : TT) (ta tb : TE) : TE := fun σ H Q => t σ H fun c H1 => if c = true then ta σ H1 Q else tb σ H1 Q
theorem pe_ifExp {c : Expr} (hc : PT X c tA) (ha : PE X a ta) (hb : PE X b tb) : PE X (.IfExp c a b pos) (tIf tA ta tb) := by
  intro pins s σ H Q I h
  refine wpAny_IfExp (thn (hc pins s σ H _ I h) fun d s1 ⟨H1, I1, q1⟩ => ?_)
  cases d with
  | true => exact ha pins s1 σ H1 Q I1 q1
  | false => exact hb pins s1 σ H1 Q I1 q1
end
end L2

namespace L2
open PySem PySem.Spec PyProof.Rows

/-! ### a list, a tuple that is read: tracked, frozen, or an object of the module -/
def SqL (K : PySem.W.Frag) (H : Hp) (a : Addr) (xs : List V) : Prop :=
  Rd H a (.lst xs) ∨
    ∃ (o : Obj) (its : Array Value) (n : Nat), K.lookup a = some o ∧ o.cls = .type "list" ∧ o.dict = none ∧ o.data = .seq its n ∧ its.size ≤ sizeLine ∧ Vals xs its.toList
def SqT (K : PySem.W.Frag) (H : Hp) (a : Addr) (xs : List V) : Prop :=
  Rd H a (.tup xs) ∨
    ∃ (o : Obj) (its : Array Value) (n : Nat), K.lookup a = some o ∧ o.cls = .type "tuple" ∧ o.data = .seq its n ∧ its.size ≤ sizeLine ∧ Vals xs its.toList
def absV : Value → Option V
  | .none => some .non
  | .bool b => some (.bl b)
  | .int i _ => some (.int i)
  | .str x _ => some (.str x)
  | .bytes b _ => some (.byt b)
  | .float b _ => some (.flt b)
  | .ref a => some (.ref a)
  | .type n => some (.ty n)
  | _ => none
theorem RelV.abs {x : V} {u : Value} (r : RelV x u) : absV u = some x := by
  cases x with
  | non => cases r; rfl
  | bl _ => cases r; rfl
  | int _ => obtain ⟨t, rfl⟩ := r; rfl
  | str _ => obtain ⟨t, rfl⟩ := r; rfl
  | byt _ => obtain ⟨t, rfl⟩ := r; rfl
  | flt _ => obtain ⟨t, rfl⟩ := r; rfl
  | ref _ => cases r; rfl
  | ty _ => cases r; rfl
theorem RelV.inj {x y : V} {u : Value} (r : RelV x u) (q : RelV y u) : x = y := Option.some.inj (r.abs.symm.trans q.abs)
theorem Vals.inj : ∀ {xs ys : List V} {us : List Value}, Vals xs us → Vals ys us → xs = ys
  | _, _, _, .nil, .nil => rfl
  | _, _, _, .cons r t, .cons r' t' => by rw [r.inj r', Vals.inj t t']
section
variable {X : Cx} {pins : List (Addr × Obj)} {σ : St} {H : Hp} {s : Shared} {a : Addr} {xs ys : List V}
theorem SqL.of {K : PySem.W.Frag} (h : H a = some (.lst xs)) : SqL K H a xs := .inl (.inl h)
theorem SqT.of {K : PySem.W.Frag} (h : H a = some (.tup xs)) : SqT K H a xs := .inl (.inl h)
theorem Inv.list (I : Inv X pins σ H s) (h : SqL X.K H a xs) : ∃ its : List Value, Vals xs its ∧ PlainL s.heap a its.toArray ∧ xs.length ≤ sizeLine := by
  rcases h with h | ⟨o, its, n, hk, hc, hd, hs, hz, r⟩
  · obtain ⟨z, its, n, r, e⟩ := h.ok I.hok
    exact ⟨its, r, ⟨_, n, e, rfl, rfl, rfl⟩, z⟩
  · refine ⟨its.toList, r, ⟨o, n, I.kIn a o hk, hc, hd, by simpa using hs⟩, ?_⟩
    have e := r.length
    simp only [Array.length_toList] at e
    omega
theorem Inv.tuple (I : Inv X pins σ H s) (h : SqT X.K H a xs) : ∃ its : List Value, Vals xs its ∧ IsTup s.heap a its.toArray ∧ xs.length ≤ sizeLine := by
  rcases h with h | ⟨o, its, n, hk, hc, hs, hz, r⟩
  · obtain ⟨z, its, r, p⟩ := h.ok I.hok
    exact ⟨its, r, p, z⟩
  · refine ⟨its.toList, r, ⟨o, I.kIn a o hk, hc, n, by simpa using hs⟩, ?_⟩
    have e := r.length
    simp only [Array.length_toList] at e
    omega
theorem Inv.list_inj (I : Inv X pins σ H s) (h : SqL X.K H a xs) (h' : SqL X.K H a ys) : xs = ys := by
  obtain ⟨its, r, ⟨o, n, e, _, _, d⟩, _⟩ := I.list h
  obtain ⟨its', r', ⟨o', n', e', _, _, d'⟩, _⟩ := I.list h'
  rw [e] at e'; cases e'
  rw [d] at d'
  injection d' with d1 _
  have : its = its' := by simpa using congrArg Array.toList d1
  subst this
  exact r.inj r'
theorem Inv.tuple_inj (I : Inv X pins σ H s) (h : SqT X.K H a xs) (h' : SqT X.K H a ys) : xs = ys := by
  obtain ⟨its, r, ⟨o, e, _, n, d⟩, _⟩ := I.tuple h
  obtain ⟨its', r', ⟨o', e', _, n', d'⟩, _⟩ := I.tuple h'
  rw [e] at e'; cases e'
  rw [d] at d'
  injection d' with d1 _
  have : its = its' := by simpa using congrArg Array.toList d1
  subst this
  exact r.inj r'
end

/-! ### another wish about exceptions -/
abbrev Cx.wish (X : Cx) (E : Value → Shared → Prop) : Cx := { X with xe := E }
/-- no exception leaves -/
abbrev Cx.nox (X : Cx) : Cx := X.wish fun _ _ => False
theorem Cx.Ok.wish {X : Cx} (ok : X.Ok) (E : Value → Shared → Prop) : (X.wish E).Ok :=
  ⟨ok.mod, ok.kind, ok.glob, ok.blt, ok.above, ok.inj, ok.has, ok.cab, ok.hd, ok.frames, ok.stk, ok.exf, ok.bs, ok.bsz, ok.noex, ok.exfs, ok.funs, ok.frf⟩
theorem Cx.Ok.unwish {X : Cx} {E : Value → Shared → Prop} (ok : (X.wish E).Ok) : X.Ok :=
  ⟨ok.mod, ok.kind, ok.glob, ok.blt, ok.above, ok.inj, ok.has, ok.cab, ok.hd, ok.frames, ok.stk, ok.exf, ok.bs, ok.bsz, ok.noex, ok.exfs, ok.funs, ok.frf⟩
section
variable {X : Cx} {pins : List (Addr × Obj)} {σ : St} {H : Hp} {s : Shared} {E : Value → Shared → Prop}
theorem Inv.wish (I : Inv X pins σ H s) (E : Value → Shared → Prop) : Inv (X.wish E) pins σ H s := ⟨I.ok.wish E, I.os, I.bare, I.base, I.loc, I.cell, I.free, I.freeC, I.pin, I.hok, I.len⟩
theorem Inv.unwish (I : Inv (X.wish E) pins σ H s) : Inv X pins σ H s := ⟨I.ok.unwish, I.os, I.bare, I.base, I.loc, I.cell, I.free, I.freeC, I.pin, I.hok, I.len⟩
theorem SP.unwish {D : Ends} {f : Flow} {s' : Shared} (h : SP (X.wish E) pins D f s') : SP X pins D f s' := by
  cases f with
  | next => obtain ⟨σ', H', I, q⟩ := h; exact ⟨σ', H', I.unwish, q⟩
  | brk => obtain ⟨σ', H', I, q⟩ := h; exact ⟨σ', H', I.unwish, q⟩
  | cont => obtain ⟨σ', H', I, q⟩ := h; exact ⟨σ', H', I.unwish, q⟩
  | ret u => obtain ⟨v, σ', H', I, r, q⟩ := h; exact ⟨v, σ', H', I.unwish, r, q⟩
theorem PE.nox {e : Expr} {t : TE} (h : PE X.nox e t) : PE X e t := fun pins s σ H Q I hw =>
  wpAny_mono (h pins s σ H Q (I.wish _) hw) (fun _ _ ⟨v, H', I', r, q⟩ => ⟨v, H', I'.unwish, r, q⟩) fun _ _ z => False.elim z
theorem PT.nox {e : Expr} {t : TT} (h : PT X.nox e t) : PT X e t := fun pins s σ H Q I hw =>
  wpAny_mono (h pins s σ H Q (I.wish _) hw) (fun _ _ ⟨H', I', q⟩ => ⟨H', I'.unwish, q⟩) fun _ _ z => False.elim z
theorem PSs.nox {st : List Stmt} {t : TS} (h : PSs X.nox st t) : PSs X st t := fun pins s σ H D I hw =>
  wpAny_mono (h pins s σ H D (I.wish _) hw) (fun _ _ q => q.unwish) fun _ _ z => False.elim z
end

/-! ### blocks and small statements -/
section
variable {X : Cx} {st : Stmt} {rest : List Stmt} {t u : TS} {e : Expr} {te : TE} {pos : Pos}
def tNext : TS := fun D σ H => D.nx σ H
def tSeq (t u : TS) : TS := fun D σ H => t { D with nx := u D } σ H
theorem pss_nil : PSs X [] tNext := fun _ _ σ H _ I h => wpAny_execs_nil ⟨σ, H, I, h⟩
theorem pss_cons (h1 : PS X st t) (h2 : PSs X rest u) : PSs X (st :: rest) (tSeq t u) := by
  intro pins s σ H D I h
  refine wpAny_execs_cons (thn (h1 pins s σ H { D with nx := u D } I h) fun f s1 q => ?_)
  cases f with
  | next =>
    obtain ⟨σ', H', I', q⟩ := q
    exact h2 pins s1 σ' H' D I' q
  | ret v => exact q
  | brk => exact q
  | cont => exact q
theorem pss_one (h1 : PS X st t) : PSs X [st] t := by
  intro pins s σ H D I h
  refine wpAny_execs_cons (thn (h1 pins s σ H D I h) fun f s1 q => ?_)
  cases f with
  | next => exact wpAny_execs_nil q
  | ret v => exact q
  | brk => exact q
  | cont => exact q
/-- in a def's body nothing is shown -/
theorem Inv.quiet {pins : List (Addr × Obj)} {σ : St} {H : Hp} {s : Shared} (I : Inv X pins σ H s) : interactive X.env = false := by simp [interactive, I.ok.kind]
/-- an expression whose value is dropped -/
def tDrop (te : TE) : TS := fun D σ H => te σ H fun _ H1 => D.nx σ H1
theorem ps_expr (he : PE X e te) (hs : swapsWith e none pos.line X.env = pure false := by rfl) : PS X (.Expr e pos) (tDrop te) := by
  intro pins s σ H D I h
  exact wpAny_Expr_any (thn (he pins s σ H _ I h) fun v s1 ⟨x, H1, I1, r1, q1⟩ => ⟨σ, H1, I1, q1⟩) I.quiet hs
def tRet (te : TE) : TS := fun D σ H => te σ H D.rt
theorem ps_ret (he : PE X e te) : PS X (.Return (some e) pos) (tRet te) := by
  intro pins s σ H D I h
  exact wpAny_Return_some (thn (he pins s σ H _ I h) fun v s1 ⟨x, H1, I1, r1, q1⟩ => ⟨x, σ, H1, I1, r1, q1⟩)
def tIfS (c : TT) (t u : TS) : TS := fun D σ H => c σ H fun b H1 => if b = true then t D σ H1 else u D σ H1
theorem ps_if {c : Expr} {a b : List Stmt} {tc : TT} (hc : PT X c tc) (ha : PSs X a t) (hb : PSs X b u) : PS X (.If c a b pos) (tIfS tc t u) := by
  intro pins s σ H D I h
  refine wpAny_If (thn (hc pins s σ H _ I h) fun d s1 ⟨H1, I1, q1⟩ => ?_)
  cases d with
  | true => exact ha pins s1 σ H1 D I1 q1
  | false => exact hb pins s1 σ H1 D I1 q1
end

/-! ### targets -/
abbrev TG := V → St → Hp → (St → Hp → Prop) → Prop
abbrev TGs := List V → St → Hp → (St → Hp → Prop) → Prop
def PG (X : Cx) (target : Expr) (t : TG) : Prop :=
  ∀ (pins : List (Addr × Obj)) (s : Shared) (σ : St) (H : Hp) (v : V) (u : Value) (Q : St → Hp → Prop), Inv X pins σ H s → RelV v u → t v σ H Q →
    wpAny (model X.prog X.w) X.A (assign target X.env u) (fun _ s' => ∃ σ' H', Inv X pins σ' H' s' ∧ Q σ' H') X.xe s
/-- several targets, one after another -/
def PGs (X : Cx) (ts : List Expr) (t : TGs) : Prop :=
  ∀ (pins : List (Addr × Obj)) (s : Shared) (σ : St) (H : Hp) (vs : List V) (us : List Value) (Q : St → Hp → Prop), Inv X pins σ H s → Vals vs us → t vs σ H Q →
    wpAny (model X.prog X.w) X.A (assignInOrder ((assignEach ts X.env).map (·.2)) us) (fun _ s' => ∃ σ' H', Inv X pins σ' H' s' ∧ Q σ' H') X.xe s
/-- o[i] = v, by values -/
abbrev TSet := V → V → V → Hp → (Hp → Prop) → Prop
def PSet (X : Cx) (t : TSet) : Prop :=
  ∀ (pins : List (Addr × Obj)) (s : Shared) (σ : St) (H : Hp) (o i v : V) (ov iv u : Value) (Q : Hp → Prop), Inv X pins σ H s → RelV o ov → RelV i iv → RelV v u → t o i v H Q →
    wpAny (model X.prog X.w) X.A (setItem ov iv u) (fun _ s' => ∃ H', Inv X pins σ H' s' ∧ Q H') X.xe s
section
variable {X : Cx} {pos : Pos}
def gName (i : Nat) : TG := fun v σ H Q => Q (σ.set i (some v)) H
theorem pg_name {i : Nat} {x : Str} (hN : X.N.Nodup) (hi : X.N[i]? = some x) (hx : Loc X.env.scope x) (hf : X.fn x = true ∨ X.env.scope.names.lookup x = some .local := by first | exact .inl rfl | exact .inr rfl | assumption) : PG X (.Name x pos) (gName i) := by
  intro pins s σ H v u Q I r h
  exact wpAny_assign_Name (store_ok I hN hi hx r (fun s' I' => ⟨_, H, I', h⟩) hf)
def gNil : TGs := fun vs σ H Q => vs = [] ∧ Q σ H
def gCons (t : TG) (u : TGs) : TGs := fun vs σ H Q => ∃ v r, vs = v :: r ∧ t v σ H fun σ' H' => u r σ' H' Q
theorem pgs_nil : PGs X [] gNil := by
  intro pins s σ H vs us Q I r h
  obtain ⟨e, h⟩ := h
  subst e
  cases r
  exact assignInOrder_nil ⟨σ, H, I, h⟩
theorem pgs_cons {e : Expr} {es : List Expr} {t : TG} {u : TGs} (h1 : PG X e t) (h2 : PGs X es u)
    (hs : (assignEach (e :: es) X.env).map (·.2) = assign e X.env :: (assignEach es X.env).map (·.2) := by rfl) : PGs X (e :: es) (gCons t u) := by
  intro pins s σ H vs us Q I r h
  obtain ⟨v, vr, e1, h⟩ := h
  subst e1
  cases r with
  | cons r rr =>
    rw [hs]
    refine assignInOrder_cons (thn (h1 pins s σ H _ _ _ I r h) fun _ s1 ⟨σ1, H1, I1, q1⟩ => ?_)
    exact h2 pins s1 σ1 H1 _ _ Q I1 rr q1
/-- (a, b, ..) = a tuple of that length -/
def gTup (K : PySem.W.Frag) (n : Nat) (t : TGs) : TG := fun v σ H Q => ∃ a xs, v = .ref a ∧ SqT K H a xs ∧ xs.length = n ∧ t xs σ H Q
theorem pg_tup {es : List Expr} {k : Nat} {t : TGs} {n : Nat} (hc : X.calm = true) (h : PGs X es t)
    (hn : (assignEach es X.env).length = n := by rfl) (hst : (assignEach es X.env).findIdx? (·.1) = none := by rfl) : PG X (.Tuple es k pos) (gTup X.K n t) := by
  intro pins s σ H v u Q I r hw
  obtain ⟨a, xs, e1, hq, hl, hw⟩ := hw
  subst e1
  cases r
  obtain ⟨its, rv, ht, hz⟩ := I.tuple hq
  refine assign_Tuple_tuple (I.ok.hd hc) ht (by simp [hn, ← hl, rv.length]) hst fun h' hx => ?_
  have I1 : Inv X pins σ H { s with heap := h' } := I.kept (t' := s.toks) fun b o e => hx b o (Nat.ne_of_lt (Heap.lt_size e)) e
  exact h pins _ σ H xs _ Q I1 (by simpa using rv) hw
/-- o[i] = .. -/
def gSub (to ti : TE) (t : TSet) : TG := fun v σ H Q => to σ H fun o H1 => ti σ H1 fun i H2 => t o i v H2 fun H3 => Q σ H3
theorem pg_sub {o i : Expr} {to ti : TE} {t : TSet} (ho : PE X o to) (hi : PE X i ti) (hs : PSet X t)
    (ha : ∀ v, assign (.Subscript o i pos) X.env v = (do
      let ov ← holding [v] (eval o X.env)
      let iv ← holding [v, ov] (eval i X.env)
      standAt pos
      holding [v, ov, iv] (setItem ov iv v)
      release [v, ov, iv] []) := by intro _; rfl) : PG X (.Subscript o i pos) (gSub to ti t) := by
  intro pins s σ H v u Q I r h
  rw [ha]
  refine wpAny_bind (wpAny_holding (thn (ho pins s σ H _ I h) fun ov s1 ⟨x, H1, I1, r1, q1⟩ => ?_))
  refine wpAny_bind (wpAny_holding (thn (hi pins s1 σ H1 _ I1 q1) fun iv s2 ⟨y, H2, I2, r2, q2⟩ => ?_))
  refine wpAny_bind (wpAny_standAt (wpAny_bind (wpAny_holding (thn (hs pins s2 σ H2 x y v ov iv u _ I2 r1 r2 r q2) fun _ s3 ⟨H3, I3, q3⟩ => ?_))))
  exact wpAny_release ⟨σ, H3, I3, q3⟩
/-- target = value -/
def tAsg (te : TE) (g : TG) : TS := fun D σ H => te σ H fun x H1 => g x σ H1 D.nx
theorem ps_asg {tg e : Expr} {te : TE} {g : TG} (he : PE X e te) (hg : PG X tg g) (hs : swapsWithSole [tg] e pos.line X.env = pure false := by rfl) (hw : swappedStores [tg] e X.env = pure none := by rfl)
    (h1 : (assignEach [tg] X.env).map (·.2) = [assign tg X.env] := by rfl) : PS X (.Assign [tg] e pos) (tAsg te g) := by
  intro pins s σ H D I h
  refine wpAny_Assign_stores (thn (he pins s σ H _ I h) fun v s1 ⟨x, H1, I1, r1, q1⟩ => ?_) hs hw
  rw [h1]
  exact thn (hg pins s1 σ H1 x v _ I1 r1 q1) fun _ s2 q => q
/-- name = value -/
theorem ps_set {i : Nat} {x : Str} {e : Expr} {te : TE} {pos' : Pos} (hN : X.N.Nodup) (hi : X.N[i]? = some x) (hx : Loc X.env.scope x) (he : PE X e te) (hs : swapsWith e (some (.Name x pos')) pos.line X.env = pure false := by rfl) (hf : X.fn x = true ∨ X.env.scope.names.lookup x = some .local := by first | exact .inl rfl | exact .inr rfl | assumption) :
    PS X (.Assign [.Name x pos'] e pos) (tAsg te (gName i)) := by
  intro pins s σ H D I h
  refine wpAny_Assign_Name (thn (he pins s σ H _ I h) fun v s1 ⟨y, H1, I1, r1, q1⟩ => ?_) hs
  exact store_ok I1 hN hi hx r1 (fun s2 I2 => ⟨_, H1, I2, q1⟩) hf
/-- a, b = x, y with plain local names: stored from the right; the pair itself is not tracked (the opening rows as in PyProof/Rows/TupAssign.lean:23) -/
def tPar (i j : Nat) (ta : TA) : TS := fun D σ H => ta σ H fun vs H1 => ∃ v w, vs = [v, w] ∧ D.nx ((σ.set i (some v)).set j (some w)) H1
theorem ps_par {i j : Nat} {x y : Str} {a b : Expr} {ta : TA} {px py pt : Pos} {kt k2 pt2} (hc : X.calm = true) (hN : X.N.Nodup) (hi : X.N[i]? = some x) (hj : X.N[j]? = some y) (hij : i ≠ j)
    (hx : X.env.scope.names.lookup x = some .local) (hy : X.env.scope.names.lookup y = some .local) (ha : PA X [a, b] ta)
    (hw : swappedStores [.Tuple [.Name x px, .Name y py] kt pt] (.Tuple [a, b] k2 pt2) X.env = pure (some [x, y]))
    (hs : swapsWithSole [.Tuple [.Name x px, .Name y py] kt pt] (.Tuple [a, b] k2 pt2) pos.line X.env = pure false := by rfl) :
    PS X (.Assign [.Tuple [.Name x px, .Name y py] kt pt] (.Tuple [a, b] k2 pt2) pos) (tPar i j ta) := by
  intro pins s σ H D I h
  rw [exec_Assign_arm]
  refine wpAny_bind (wpAny_standAt ?_)
  rw [hs]
  refine wpAny_bind (wpAny_pure ?_)
  rw [if_neg (by decide)]
  refine wpAny_bind (Tuple_ (thn (ha _ pins s σ H _ I h) fun us s1 ⟨vs, H1, I1, r1, q1⟩ => ?_))
  obtain ⟨v, w, e1, q1⟩ := q1
  subst e1
  obtain ⟨u1, u2, rfl, rv, rw'⟩ : ∃ u1 u2, us = [u1, u2] ∧ RelV v u1 ∧ RelV w u2 := by
    cases r1 with
    | cons p q =>
      cases q with
      | cons p' q' =>
        cases q'
        exact ⟨_, _, rfl, p, p'⟩
  refine wpAny_newObj_type ?_ (by show 2 ≤ sizeLine; decide)
  have I2 : Inv X pins σ H1 { s1 with heap := s1.heap.push { cls := .type "tuple", data := .seq [u1, u2].toArray } } := I1.kept (t' := s1.toks) fun b o e => Heap.get?_push_of_some _ e
  rw [hw]
  refine wpAny_bind (wpAny_pure ?_)
  show wpAny (model X.prog X.w) X.A (do rule "assign.swapped-stores"; let items ← unpackItems (.ref s1.heap.objs.size) 2 none; assignInOrder [fun v => bindName X.env y v, fun v => bindName X.env x v] items.reverse; pure Flow.next) _ _ _
  refine wpAny_bind (wpAny_rule (wpAny_bind (unpackItems_tuple (items := #[u1, u2]) (I.ok.hd hc) (IsTup.new s1.heap _) fun h' hx' => ?_)))
  have I3 := I2.kept (h' := h') (t' := s1.toks) fun b o e => hx' b o (Nat.ne_of_lt (Heap.lt_size e)) e
  show wpAny _ _ (assignInOrder [fun v => bindName X.env y v, fun v => bindName X.env x v] [u2, u1] >>= fun _ => pure Flow.next) _ _ _
  refine wpAny_bind (assignInOrder_cons (wpAny_bindName (store_ok I3 hN hj (.inl hy) rw' (fun s2 I4 => ?_) (.inr hy))))
  refine assignInOrder_cons (wpAny_bindName (store_ok I4 hN hi (.inl hx) rv (fun s3 I5 => assignInOrder_nil (wpAny_pure ?_)) (.inr hx)))
  rw [List.set_comm _ _ (Ne.symm hij)] at I5
  exact ⟨_, H1, I5, q1⟩
end

/-! ### while -/
section
variable {X : Cx} {pos : Pos}
/-- the invariant W with its measure -/
def tWhile (c : TT) (tb : TS) : TS := fun D σ H => ∃ W : Nat → St → Hp → Prop, (∃ m, W m σ H) ∧ ∀ m σ H, W m σ H →
  c σ H fun b H1 => if b = true then ∃ N : St → Hp → Prop, (∀ σ' H', N σ' H' → ∃ m', m' < m ∧ W m' σ' H') ∧ tb { D with nx := N, ct := N, bk := D.nx } σ H1 else D.nx σ H1
theorem ps_while {c : Expr} {body : List Stmt} {tc : TT} {tb : TS} (hp : PassesOwn (model X.prog X.w) X.A X.env X.xe) (hc : PT X c tc) (hb : PSs X body tb) : PS X (.While c body [] pos) (tWhile tc tb) := by
  intro pins s σ H D I h
  obtain ⟨W, ⟨m0, w0⟩, turn⟩ := h
  refine wpAny_While (codeAny_whileLoop (fun n s' => ∃ σ' H', Inv X pins σ' H' s' ∧ W n σ' H') ?_ m0 ⟨σ, H, I, w0⟩)
  rintro n s1 ⟨σ1, H1, I1, w1⟩
  refine wpAny_passesOwn hp (thn (hc pins s1 σ1 H1 _ I1 (turn n σ1 H1 w1)) fun b s2 ⟨H2, I2, q2⟩ => ?_)
  cases b with
  | true =>
    obtain ⟨N, hN, q2⟩ := q2
    rw [if_pos rfl]
    refine wpAny_passesOwn hp (thn (hb pins s2 σ1 H2 _ I2 q2) fun f s3 q3 => ?_)
    cases f with
    | next =>
      obtain ⟨σ3, H3, I3, n3⟩ := q3
      obtain ⟨m', hm, w3⟩ := hN σ3 H3 n3
      exact ⟨m', hm, σ3, H3, I3, w3⟩
    | cont =>
      obtain ⟨σ3, H3, I3, n3⟩ := q3
      obtain ⟨m', hm, w3⟩ := hN σ3 H3 n3
      exact ⟨m', hm, σ3, H3, I3, w3⟩
    | brk => exact q3
    | ret v => exact q3
  | false =>
    rw [if_neg Bool.false_ne_true]
    exact wpAny_execs_nil ⟨σ1, H2, I2, q2⟩
end

/-! ### what a loop or a comprehension walks -/
/-- at turn i: it yields x (the heap may grow), or it stops -/
structure It where
  go : Nat → Hp → Prop
  yld : Nat → Hp → V → Hp → Prop
  stop : Nat → Hp → Prop
/-- the iterator's own objects may turn: they are not the frame's, not pinned, younger than the entry (or a comprehension's own) -/
def FpOk (X : Cx) (pins : List (Addr × Obj)) (H : Hp) (b : Addr) : Prop :=
  H b = none ∧ b ≠ X.env.locals ∧ b ∉ X.fs ∧ (b ∈ X.ex ∨ X.s₀.heap.objs.size ≤ b) ∧ (∀ x c, X.env.cells.lookup x = some c → c ≠ b) ∧ ∀ p ∈ X.pn ++ pins, p.1 ≠ b
theorem Inv.fpOk {X : Cx} {pins : List (Addr × Obj)} {σ : St} {H H' : Hp} {s : Shared} {b : Addr} (I : Inv X pins σ H s) (hb : s.heap.objs.size ≤ b) (hn : H' b = none) : FpOk X pins H' b := by
  refine ⟨hn, Nat.ne_of_gt (Nat.lt_of_lt_of_le I.lt hb), I.nofs hb, .inr (Nat.le_trans I.sz hb), fun x c e z => ?_, fun p hp z => ?_⟩
  · obtain ⟨v, q⟩ := I.cell x c e
    exact absurd (Nat.lt_of_lt_of_le q.lt (by rw [z]; exact hb)) (Nat.lt_irrefl _)
  · exact absurd (Nat.lt_of_lt_of_le (Heap.lt_size (I.pin p hp).1) (by rw [z]; exact hb)) (Nat.lt_irrefl _)
structure Turn (P : Program) (w : World) (K : PySem.W.Frag) (tg : Expr) (J : It) (fp : List Addr) (it : Addr) (tn : Nat → Heap → Prop) : Prop where
  mem : it ∈ fp
  obj : ∀ i h, tn i h → ∀ b ∈ fp, ∃ o, h.get? b = some o ∧ ∀ v, o.data ≠ .cell v
  keep : ∀ i h h', tn i h → (∀ b ∈ fp, ∀ o, h.get? b = some o → h'.get? b = some o) → tn i h'
  item : ∀ (X : Cx), X.prog = P → X.w = w → X.K = K → X.calm = true → ∀ (i : Nat) (pins : List (Addr × Obj)) (s : Shared) (σ : St) (H : Hp) (E : Value → Shared → Prop), Inv X pins σ H s → (∀ b ∈ fp, FpOk X pins H b) → tn i s.heap → J.go i H →
    wpAny (model P w) X.A (pyNext (.ref it)) (fun r s1 => ∃ u, r = some u ∧
      wpAny (model P w) X.A (letOwnedTupleGo tg (.ref it) u) (fun _ s2 => ∃ x H', Inv X pins σ H' s2 ∧ RelV x u ∧ J.yld i H x H' ∧ tn (i + 1) s2.heap ∧ ∀ b ∈ fp, H' b = none) E s1) E s
  done : ∀ (X : Cx), X.prog = P → X.w = w → X.K = K → X.calm = true → ∀ (i : Nat) (pins : List (Addr × Obj)) (s : Shared) (σ : St) (H : Hp) (E : Value → Shared → Prop), Inv X pins σ H s → (∀ b ∈ fp, FpOk X pins H b) → tn i s.heap → J.stop i H →
    wpAny (model P w) X.A (pyNext (.ref it)) (fun r s1 => r = none ∧ Inv X pins σ H s1) E s
  self : ∀ (A : Around) (i : Nat) (s : Shared) (Q : Value → Shared → Prop) (E : Value → Shared → Prop), tn i s.heap → Q (.ref it) s → wpAny (model P w) A (pyIter (.ref it)) Q E s
abbrev TI := St → Hp → (It → Hp → Prop) → Prop
/-- an iterator has come -/
def PIE (X : Cx) (pins : List (Addr × Obj)) (σ : St) (tg : Expr) (R : It → Hp → Prop) (itv : Value) (s2 : Shared) : Prop :=
  ∃ (it : Addr) (fp : List Addr) (tn : Nat → Heap → Prop) (J : It) (H' : Hp), itv = .ref it ∧ Inv X pins σ H' s2 ∧ Turn X.prog X.w X.K tg J fp it tn ∧ tn 0 s2.heap ∧ (∀ b ∈ fp, FpOk X pins H' b) ∧ R J H'
def PI (X : Cx) (tg iter : Expr) (wi : TI) : Prop :=
  ∀ (pins : List (Addr × Obj)) (s : Shared) (σ : St) (H : Hp) (R : It → Hp → Prop), Inv X pins σ H s → wi σ H R →
    wpAny (model X.prog X.w) X.A (eval iter X.env) (fun v s1 => wpAny (model X.prog X.w) X.A (pyIter v) (PIE X pins σ tg R) X.xe s1) X.xe s

/-- the step ahead of the store is nothing for an iterator that keeps no tuple -/
theorem go_of {M : Model} {A : Around} {E : Value → Shared → Prop} {s : Shared} {tg : Expr} {it : Addr} {u : Value} {o : Obj} {n : String} {vs : Array Value} {Q : Unit → Shared → Prop} (ho : s.heap.get? it = some o) (hc : o.cls = .type n) (hd : o.data = .fields vs)
    (hn : ["enumerate", "zip", "dict_itemiterator", "dict_reverseitemiterator", "odict_iterator", "itertools.zip_longest", "itertools.pairwise"].contains n = false) (hQ : Q () s) : wpAny M A (letOwnedTupleGo tg (.ref it) u) Q E s := by
  unfold letOwnedTupleGo
  cases tg <;> first
    | exact wpAny_pure hQ
    | (cases u <;> first
        | exact wpAny_pure hQ
        | (refine wpAny_bind (wpAny_load ho ?_)
           rw [hc, hd]
           show wpAny M A (if (["enumerate", "zip", "dict_itemiterator", "dict_reverseitemiterator", "odict_iterator", "itertools.zip_longest", "itertools.pairwise"].contains n && vs[0]? == some (rawInt _)) = true then _ else _) Q E s
           rw [if_neg (by intro h; rw [hn, Bool.false_and] at h; cases h)]
           exact wpAny_pure hQ))

/-- the list at a, as it stands at each turn (a loop may append to it) -/
def Itl (K : PySem.W.Frag) (a : Addr) : It :=
  ⟨fun i H => ∃ xs x, SqL K H a xs ∧ xs[i]? = some x, fun i H x H' => H' = H ∧ ∀ xs, SqL K H a xs → xs[i]? = some x, fun i H => ∃ xs, SqL K H a xs ∧ xs.length ≤ i⟩
def Itt (K : PySem.W.Frag) (a : Addr) : It :=
  ⟨fun i H => ∃ xs x, SqT K H a xs ∧ xs[i]? = some x, fun i H x H' => H' = H ∧ ∀ xs, SqT K H a xs → xs[i]? = some x, fun i H => ∃ xs, SqT K H a xs ∧ xs.length ≤ i⟩
/-- lo, lo + 1, .. (n of them) -/
def Itr (lo : Int) (n : Nat) : It := ⟨fun i _ => i < n, fun i H x H' => H' = H ∧ x = .int (lo + i), fun i _ => n ≤ i⟩
theorem turn_list {P : Program} {w : World} {K : PySem.W.Frag} {tg : Expr} (a it : Addr) : Turn P w K tg (Itl K a) [it] it (fun i h => h.IsListIter it a i) where
  mem := by simp
  obj := fun i h st b hb => by
    have e : b = it := by simpa using hb
    subst e
    obtain ⟨o, e, c, d⟩ := st
    exact ⟨o, e, fun v z => by rw [d] at z; cases z⟩
  keep := fun i h h' st k => st.at fun o e => k it (by simp) o e
  item := by
    intro X hP hw hK hc i pins s σ H E I hf st hg
    subst hP hw hK
    obtain ⟨xs, x, hq, hx⟩ := hg
    obtain ⟨its, rv, p, hz⟩ := I.list hq
    obtain ⟨u, hu, ru⟩ := rv.get hx
    obtain ⟨f0, f1, f2, f3, f4, f5⟩ := hf it (by simp)
    refine wpAny_pyNext_list_item st p.isList (x := u) (by simpa using hu) fun h' st' sb => ?_
    have I1 : Inv X pins σ H { s with heap := h' } := I.turned (t' := s.toks) (fun b o hb e => (sb.2 b hb).trans e) f0 f1 f3 f4 f5
    obtain ⟨o, e, c, d⟩ := id st'
    exact ⟨u, rfl, go_of (s := { s with heap := h' }) e c d (by decide) ⟨x, H, I1, ru, ⟨rfl, fun ys hy => by rw [I.list_inj hy hq]; exact hx⟩, st', fun b hb => (hf b hb).1⟩⟩
  done := by
    intro X hP hw hK hc i pins s σ H E I hf st hg
    subst hP hw hK
    obtain ⟨xs, hq, hx⟩ := hg
    obtain ⟨its, rv, p, hz⟩ := I.list hq
    obtain ⟨f0, f1, f2, f3, f4, f5⟩ := hf it (by simp)
    have hl := rv.length
    exact wpAny_pyNext_list_end (I.ok.hd hc) st p.isList (by simp; omega) fun h' eb => ⟨rfl, I.turned (t' := s.toks) (fun b o hb e => eb b o hb e) f0 f1 f3 f4 f5⟩
  self := fun _ _ _ _ _ st h => wpAny_pyIter_listiter st h
theorem turn_tuple {P : Program} {w : World} {K : PySem.W.Frag} {tg : Expr} (a it : Addr) : Turn P w K tg (Itt K a) [it] it (fun i h => h.IsTupleIter it a i) where
  mem := by simp
  obj := fun i h st b hb => by
    have e : b = it := by simpa using hb
    subst e
    obtain ⟨o, e, c, d⟩ := st
    exact ⟨o, e, fun v z => by rw [d] at z; cases z⟩
  keep := fun i h h' st k => st.at fun o e => k it (by simp) o e
  item := by
    intro X hP hw hK hc i pins s σ H E I hf st hg
    subst hP hw hK
    obtain ⟨xs, x, hq, hx⟩ := hg
    obtain ⟨its, rv, p, hz⟩ := I.tuple hq
    obtain ⟨u, hu, ru⟩ := rv.get hx
    obtain ⟨f0, f1, f2, f3, f4, f5⟩ := hf it (by simp)
    refine wpAny_pyNext_tuple_item st (show s.heap.IsTuple a its.toArray from p) (x := u) (by simpa using hu) fun h' st' sb => ?_
    have I1 : Inv X pins σ H { s with heap := h' } := I.turned (t' := s.toks) (fun b o hb e => (sb.2 b hb).trans e) f0 f1 f3 f4 f5
    obtain ⟨o, e, c, d⟩ := id st'
    exact ⟨u, rfl, go_of (s := { s with heap := h' }) e c d (by decide) ⟨x, H, I1, ru, ⟨rfl, fun ys hy => by rw [I.tuple_inj hy hq]; exact hx⟩, st', fun b hb => (hf b hb).1⟩⟩
  done := by
    intro X hP hw hK hc i pins s σ H E I hf st hg
    subst hP hw hK
    obtain ⟨xs, hq, hx⟩ := hg
    obtain ⟨its, rv, p, hz⟩ := I.tuple hq
    obtain ⟨f0, f1, f2, f3, f4, f5⟩ := hf it (by simp)
    have hl := rv.length
    exact wpAny_pyNext_tuple_end (I.ok.hd hc) st (show s.heap.IsTuple a its.toArray from p) (by simp; omega) fun h' eb => ⟨rfl, I.turned (t' := s.toks) (fun b o hb e => eb b o hb e) f0 f1 f3 f4 f5⟩
  self := fun _ _ _ _ _ st h => wpAny_pyIter_tupleiter st h
theorem turn_range {P : Program} {w : World} {K : PySem.W.Frag} {tg : Expr} (it : Addr) (lo : Int) (n : Nat) : Turn P w K tg (Itr lo n) [it] it (fun i h => IsRangeIter h it (lo + (i : Nat) * 1) ((n : Int) - (i : Nat)) 1) where
  mem := by simp
  obj := fun i h st b hb => by
    have e : b = it := by simpa using hb
    subst e
    exact ⟨_, st, fun v z => by
      have z' : Data.fields _ = Data.cell v := z
      cases z'⟩
  keep := fun i h h' st k => k it (by simp) _ st
  item := by
    intro X hP hw hK hc i pins s σ H E I hf st hg
    subst hP hw hK
    obtain ⟨f0, f1, f2, f3, f4, f5⟩ := hf it (by simp)
    have W := Walks.range (prog := X.prog) (w := X.w) (I.ok.hd hc) it lo 1 n
    refine W.item i s _ _ hg st fun v h' tk hv st' kk => ?_
    obtain ⟨t, rfl⟩ := hv
    have I1 : Inv X pins σ H { s with heap := h', toks := tk } := I.turned (fun b o hb e => kk b o (by simpa using hb) e) f0 f1 f3 f4 f5
    refine ⟨_, rfl, go_of (s := { s with heap := h', toks := tk }) (n := "range_iterator") st' rfl rfl (by decide) ⟨.int (lo + i), H, I1, ⟨t, ?_⟩, ⟨rfl, rfl⟩, st', fun b hb => (hf b hb).1⟩⟩
    rw [Int.mul_one]
  done := by
    intro X hP hw hK hc i pins s σ H E I hf st hg
    subst hP hw hK
    obtain ⟨f0, f1, f2, f3, f4, f5⟩ := hf it (by simp)
    exact wpAny_pyNext_range_end (I.ok.hd hc) st (by have : n ≤ i := hg; omega) fun h' eb => ⟨rfl, I.turned (t' := s.toks) (fun b o hb e => eb b o hb e) f0 f1 f3 f4 f5⟩
  self := fun _ _ _ _ _ st h => wpAny_pyIter_rangeiter st h
end L2

namespace L2
open PySem PySem.Spec PyProof.Rows
section
variable {X : Cx} {tg : Expr}
/-- a range object just made, walked -/
theorem range_it {pins : List (Addr × Obj)} {σ : St} {H : Hp} {s : Shared} {R : It → Hp → Prop} {E : Value → Shared → Prop} {lo hi : Int} {t u v : Tok} {tk : Nat} (I : Inv X pins σ H s) (h1 : -(2 ^ 62) ≤ lo) (h2 : lo < 2 ^ 62) (h3 : -(2 ^ 62) ≤ hi) (h4 : hi < 2 ^ 62)
    (q : R (Itr lo (hi - lo).toNat) H) : wpAny (model X.prog X.w) X.A (pyIter (.ref s.heap.objs.size)) (PIE X pins σ tg R) E { s with heap := s.heap.push { cls := .type "range", data := .fields #[.int lo t, .int hi u, .int 1 v] }, toks := tk } := by
  refine wpAny_pyIter_range (IsRange.new ..) (small_one h1 h2 h3 h4) ?_
  have I1 : Inv X pins σ H { s with heap := s.heap.push { cls := .type "range", data := .fields #[.int lo t, .int hi u, .int 1 v] }, toks := tk } := I.kept fun b o e => Heap.get?_push_of_some _ e
  refine ⟨(s.heap.push { cls := .type "range", data := .fields #[.int lo t, .int hi u, .int 1 v] }).objs.size, [(s.heap.push { cls := .type "range", data := .fields #[.int lo t, .int hi u, .int 1 v] }).objs.size], _, _, H, rfl,
    I1.kept (t' := tk) fun b o e => Heap.get?_push_of_some _ e, turn_range _ lo (hi - lo).toNat, ?_, fun b hb => ?_, q⟩
  · have e1 : lo + ((0 : Nat) : Int) * 1 = lo := by simp
    have e2 : (((hi - lo).toNat : Nat) : Int) - ((0 : Nat) : Int) = Builtin.Range.rangeSize lo hi 1 := by rw [rangeSize_one]; split <;> omega
    show IsRangeIter _ _ (lo + ((0 : Nat) : Int) * 1) ((((hi - lo).toNat : Nat) : Int) - ((0 : Nat) : Int)) 1
    rw [e1, e2]
    exact Heap.get?_push_size _ rfl
  · have e : b = (s.heap.push { cls := .type "range", data := .fields #[.int lo t, .int hi u, .int 1 v] }).objs.size := by simpa using hb
    subst e
    exact I1.fpOk (Nat.le_refl _) (I1.hok.fresh (Nat.le_refl _))
def iRng1 (ta : TA) : TI := fun σ H R => ta σ H fun vs H1 => ∃ j : Int, vs = [.int j] ∧ -(2 ^ 62) ≤ j ∧ j < 2 ^ 62 ∧ R (Itr 0 j.toNat) H1
theorem pi_range1 {a : Expr} {ta : TA} {p pos : Pos} (hg : Gl X "range") (hm : X.mg "range" = none) (ha : PA X [a] ta) (hs : starEach [a] X.env = [(false, eval a X.env)] := by rfl) : PI X tg (.Call (.Name "range" p) [a] [] pos) (iRng1 ta) := by
  intro pins s σ H R I h
  refine Call_ (ld_blt I hg hm boot_range (PyProof.Rows.callWith_type1 (thn (ha pos pins s σ H _ I h) fun us s1 ⟨vs, H1, I1, r1, q1⟩ => ?_) hs rfl))
  obtain ⟨j, e, q1, q2, q⟩ := q1
  subst e
  cases r1 with
  | cons r rr =>
    cases rr
    obtain ⟨t, rfl⟩ := r
    exact call_range_1 (range_it I1 (by omega) (by omega) q1 q2 (by simpa using q))
/-! ### for -/
/-- W: the invariant by the turn and a measure; N: what the body is to reach -/
def tFor (wi : TI) (g : TG) (tb : TS) : TS := fun D σ H => wi σ H fun J H1 => ∃ W : Nat → Nat → St → Hp → Prop, (∃ m, W 0 m σ H1) ∧ ∀ i m σ H, W i m σ H →
  (J.stop i H ∧ D.nx σ H) ∨ (J.go i H ∧ ∃ N : St → Hp → Prop, (∀ σ' H', N σ' H' → ∃ m', m' < m ∧ W (i + 1) m' σ' H') ∧ ∀ x H', J.yld i H x H' → g x σ H' fun σ2 H2 => tb { D with nx := N, ct := N, bk := D.nx } σ2 H2)
/-- the records at fp as they stand -/
def pinsAt (fp : List Addr) (h : Heap) : List (Addr × Obj) := fp.filterMap fun b => (h.get? b).map fun o => (b, o)
theorem mem_pinsAt {fp : List Addr} {h : Heap} {b : Addr} {o : Obj} (hb : b ∈ fp) (e : h.get? b = some o) : (b, o) ∈ pinsAt fp h := List.mem_filterMap.mpr ⟨b, hb, by rw [e]; rfl⟩
theorem of_pinsAt {fp : List Addr} {h : Heap} {p : Addr × Obj} (hp : p ∈ pinsAt fp h) : p.1 ∈ fp ∧ h.get? p.1 = some p.2 := by
  obtain ⟨b, hb, e⟩ := List.mem_filterMap.mp hp
  cases q : h.get? b with
  | none => rw [q] at e; cases e
  | some o =>
    rw [q] at e
    have e' : (b, o) = p := Option.some.inj e
    subst e'
    exact ⟨hb, q⟩
theorem Inv.pinned {pins : List (Addr × Obj)} {σ : St} {H : Hp} {s : Shared} {fp : List Addr} (I : Inv X pins σ H s) (hf : ∀ b ∈ fp, FpOk X pins H b) (ho : ∀ b ∈ fp, ∃ o, s.heap.get? b = some o ∧ ∀ v, o.data ≠ .cell v) : Inv X (pins ++ pinsAt fp s.heap) σ H s :=
  I.pins_of fun p hp => (List.mem_append.mp hp).elim (fun z => I.pin p (List.mem_append_right _ z)) fun z => by
    obtain ⟨hb, e⟩ := of_pinsAt z
    obtain ⟨f0, f1, f2, _⟩ := hf p.1 hb
    obtain ⟨o, e', d⟩ := ho p.1 hb
    rw [e] at e'; cases e'
    exact ⟨e, f0, f1, f2, d⟩
theorem Inv.unpinned {pins pl : List (Addr × Obj)} {σ : St} {H : Hp} {s : Shared} (I : Inv X (pins ++ pl) σ H s) : Inv X pins σ H s := I.pins_of fun p hp => I.pin p (List.mem_append_right _ (List.mem_append_left _ hp))
theorem ps_for {iter : Expr} {body : List Stmt} {wi : TI} {g : TG} {tb : TS} {pos : Pos} (hp : PassesOwn (model X.prog X.w) X.A X.env X.xe) (hc : X.calm = true) (hi : PI X tg iter wi) (hg : PG X tg g) (hb : PSs X body tb)
    (hs : ∀ x, foldedSetIterable iter X.env x = pure x := by intro _; rfl) : PS X (.For tg iter body [] pos) (tFor wi g tb) := by
  intro pins s σ H D I h
  refine wpAny_For (thn (hi pins s σ H _ I h) fun v s1 h1 => thn h1 fun itv s2 h2 => ?_) hs
  obtain ⟨it, fp, tn, J, H2, e, I2, T, st2, f2, W, ⟨m0, w0⟩, turn⟩ := h2
  subst e
  -- what stays true of the iterator's objects through the loop
  have stat : ∀ {H' : Hp}, (∀ b ∈ fp, H' b = none) → ∀ b ∈ fp, FpOk X pins H' b := fun hn b hb => ⟨hn b hb, (f2 b hb).2⟩
  refine codeAny_forLoop_any (fun n s' => ∃ i σ' H', Inv X pins σ' H' s' ∧ tn i s'.heap ∧ (∀ b ∈ fp, H' b = none) ∧ W i n σ' H') ?_ m0 ⟨0, σ, H2, I2, st2, fun b hb => (f2 b hb).1, w0⟩
  rintro n s3 ⟨i, σ3, H3, I3, st3, fr3, w3⟩
  rcases turn i n σ3 H3 w3 with ⟨stop, qn⟩ | ⟨go, N, hN, step⟩
  · refine wpAny_passesOwn hp (thn (T.done X rfl rfl rfl hc i pins s3 σ3 H3 X.xe I3 (stat fr3) st3 stop) fun r s4 ⟨hr, I4⟩ => ?_)
    subst hr
    exact wpAny_execs_nil ⟨σ3, H3, I4, qn⟩
  · refine wpAny_passesOwn hp (thn (T.item X rfl rfl rfl hc i pins s3 σ3 H3 X.xe I3 (stat fr3) st3 go) fun r s4 ⟨u, hr, h4⟩ => ?_)
    subst hr
    refine wpAny_passesOwn hp (thn h4 fun _ s5 ⟨x, H5, I5, r5, y5, st5, fr5⟩ => ?_)
    have I5' := I5.pinned (stat fr5) (T.obj _ _ st5)
    refine wpAny_passesOwn hp (thn (hg _ s5 σ3 H5 x u _ I5' r5 (step x H5 y5)) fun _ s6 ⟨σ6, H6, I6, q6⟩ => ?_)
    refine wpAny_passesOwn hp (thn (hb _ s6 σ6 H6 _ I6 q6) fun f s7 q7 => ?_)
    have again : ∀ {σ7 : St} {H7 : Hp}, Inv X (pins ++ pinsAt fp s5.heap) σ7 H7 s7 → N σ7 H7 → ∃ m, m < n ∧ ∃ i σ' H', Inv X pins σ' H' s7 ∧ tn i s7.heap ∧ (∀ b ∈ fp, H' b = none) ∧ W i m σ' H' := fun {σ7 H7} I7 n7 => by
      obtain ⟨m', hm, w7⟩ := hN σ7 H7 n7
      refine ⟨m', hm, i + 1, σ7, H7, I7.unpinned, T.keep _ _ _ st5 fun b hb o e => (I7.pin (b, o) (List.mem_append_right _ (List.mem_append_right _ (mem_pinsAt hb e)))).1, fun b hb => ?_, w7⟩
      obtain ⟨o, e, d⟩ := T.obj _ _ st5 b hb
      exact (I7.pin (b, o) (List.mem_append_right _ (List.mem_append_right _ (mem_pinsAt hb e)))).2.1
    cases f with
    | next => obtain ⟨σ7, H7, I7, n7⟩ := q7; exact again I7 n7
    | cont => obtain ⟨σ7, H7, I7, n7⟩ := q7; exact again I7 n7
    | brk => obtain ⟨σ7, H7, I7, q7⟩ := q7; exact ⟨σ7, H7, I7.unpinned, q7⟩
    | ret v => obtain ⟨x7, σ7, H7, I7, r7, q7⟩ := q7; exact ⟨x7, σ7, H7, I7.unpinned, r7, q7⟩
end

/-! ### the forms one uses -/
end L2

namespace L2
open PySem PySem.Spec PyProof.Rows

abbrev R2 := V → V → Hp → VK → Prop
/-- a two-place operation on values: f is binaryOp op, inplaceOp op or compareOp op -/
def OpR (X : Cx) (f : Value → Value → Sem Value) (r : R2) : Prop :=
  ∀ (pins : List (Addr × Obj)) (s : Shared) (σ : St) (H : Hp) (x y : V) (v u : Value) (Q : VK), Inv X pins σ H s → RelV x v → RelV y u → r x y H Q →
    wpAny (model X.prog X.w) X.A (f v u) (EP X pins σ Q) X.xe s
/-- a one-place operation -/
def UnR (X : Cx) (f : Value → Sem Value) (r : V → Hp → VK → Prop) : Prop :=
  ∀ (pins : List (Addr × Obj)) (s : Shared) (σ : St) (H : Hp) (x : V) (v : Value) (Q : VK), Inv X pins σ H s → RelV x v → r x H Q →
    wpAny (model X.prog X.w) X.A (f v) (EP X pins σ Q) X.xe s
/-- a call of a value that is known (a builtin, a type) with values -/
def CallR (X : Cx) (f : Value) (r : List V → Hp → VK → Prop) : Prop :=
  ∀ (pins : List (Addr × Obj)) (s : Shared) (σ : St) (H : Hp) (xs : List V) (us : List Value) (Q : VK), Inv X pins σ H s → Vals xs us → r xs H Q →
    wpAny (model X.prog X.w) X.A (call f us) (EP X pins σ Q) X.xe s
def tOp (r : R2) (ta tb : TE) : TE := fun σ H Q => ta σ H fun x H1 => tb σ H1 fun y H2 => r x y H2 Q
def tUn (r : V → Hp → VK → Prop) (ta : TE) : TE := fun σ H Q => ta σ H fun x H1 => r x H1 Q
/-- ints in, under C, and a value out -/
def rI (C : Int → Int → Prop) (g : Int → Int → V) : R2 := fun x y H Q => ∃ i j, x = .int i ∧ y = .int j ∧ C i j ∧ Q (g i j) H
def rI0 (g : Int → Int → V) : R2 := fun x y H Q => ∃ i j, x = .int i ∧ y = .int j ∧ Q (g i j) H
def rU (g : Int → V) : V → Hp → VK → Prop := fun x H Q => ∃ i, x = .int i ∧ Q (g i) H

section
variable {X : Cx} {a b c : Expr} {ta tb tc : TE} {pos : Pos}

theorem binT (ha : PE X a ta) (hb : PE X b tb) {pins : List (Addr × Obj)} {s : Shared} {σ : St} {H : Hp} {R : V → V → Hp → Prop} (I : Inv X pins σ H s)
    (h : ta σ H fun x H1 => tb σ H1 fun y H2 => R x y H2) {Q : Value → Shared → Prop} {f : Value → Value → Sem Value}
    (hf : ∀ v u s2 x y H2, Inv X pins σ H2 s2 → RelV x v → RelV y u → R x y H2 → wpAny (model X.prog X.w) X.A (f v u) Q X.xe s2) :
    wpAny (model X.prog X.w) X.A (eval a X.env) (fun v s₁ => wpAny (model X.prog X.w) X.A (eval b X.env) (fun u s₂ => wpAny (model X.prog X.w) X.A (f v u) Q X.xe s₂) X.xe s₁) X.xe s := by
  refine thn (ha pins s σ H _ I h) fun v s1 ⟨x, H1, I1, r1, q1⟩ => ?_
  refine thn (hb pins s1 σ H1 _ I1 q1) fun u s2 ⟨y, H2, I2, r2, q2⟩ => ?_
  exact hf v u s2 x y H2 I2 r1 r2 q2

theorem pe_op {op : Operator} {r : R2} (ho : OpR X (binaryOp op) r) (ha : PE X a ta) (hb : PE X b tb) : PE X (.BinOp a op b pos) (tOp r ta tb) := by
  intro pins s σ H Q I h
  exact wpAny_BinOp (binT ha hb I h fun v u s2 x y H2 I2 rx ry q => ho pins s2 σ H2 x y v u Q I2 rx ry q)
theorem pe_un {op : UnaryOp} {r : V → Hp → VK → Prop} (ho : UnR X (unaryOp op) r) (ha : PE X a ta) : PE X (.UnaryOp op a pos) (tUn r ta) := by
  intro pins s σ H Q I h
  exact UnaryOp_ (thn (ha pins s σ H _ I h) fun v s1 ⟨x, H1, I1, r1, q1⟩ => ho pins s1 σ H1 x v Q I1 r1 q1)
/-! ### ints -/
theorem opI {f : Value → Value → Sem Value} {C : Int → Int → Prop} {g : Int → Int → Int}
    (rule : ∀ (i j : Int) (t u : Tok) (s : Shared) (Q : Value → Shared → Prop) (E : Value → Shared → Prop), C i j → Q (.int (g i j) s.toks) { s with toks := s.toks + 1 } → wpAny (model X.prog X.w) X.A (f (.int i t) (.int j u)) Q E s) :
    OpR X f (rI C fun i j => .int (g i j)) := by
  intro pins s σ H x y v u Q I rx ry h
  obtain ⟨i, j, rfl, rfl, hc, q⟩ := h
  obtain ⟨t, rfl⟩ := rx
  obtain ⟨t', rfl⟩ := ry
  exact rule i j t t' s _ _ hc ⟨.int (g i j), H, I.tok _, ⟨_, rfl⟩, q⟩
theorem opI0 {f : Value → Value → Sem Value} {g : Int → Int → Int}
    (rule : ∀ (i j : Int) (t u : Tok) (s : Shared) (Q : Value → Shared → Prop) (E : Value → Shared → Prop), Q (.int (g i j) s.toks) { s with toks := s.toks + 1 } → wpAny (model X.prog X.w) X.A (f (.int i t) (.int j u)) Q E s) :
    OpR X f (rI0 fun i j => .int (g i j)) := by
  intro pins s σ H x y v u Q I rx ry h
  obtain ⟨i, j, rfl, rfl, q⟩ := h
  obtain ⟨t, rfl⟩ := rx
  obtain ⟨t', rfl⟩ := ry
  exact rule i j t t' s _ _ ⟨.int (g i j), H, I.tok _, ⟨_, rfl⟩, q⟩
theorem opB0 {f : Value → Value → Sem Value} {g : Int → Int → Bool}
    (rule : ∀ (i j : Int) (t u : Tok) (s : Shared) (Q : Value → Shared → Prop) (E : Value → Shared → Prop), Q (.bool (g i j)) s → wpAny (model X.prog X.w) X.A (f (.int i t) (.int j u)) Q E s) :
    OpR X f (rI0 fun i j => .bl (g i j)) := by
  intro pins s σ H x y v u Q I rx ry h
  obtain ⟨i, j, rfl, rfl, q⟩ := h
  obtain ⟨t, rfl⟩ := rx
  obtain ⟨t', rfl⟩ := ry
  exact rule i j t t' s _ _ ⟨.bl (g i j), H, I, rfl, q⟩

def CPow (i j : Int) : Prop := 0 ≤ j ∧ j ≤ 1000000 ∧ i.natAbs < 2 ^ 64
def CMul (i j : Int) : Prop := (-(2 ^ 64) < i ∧ i < 2 ^ 64) ∨ (-(2 ^ 64) < j ∧ j < 2 ^ 64)
theorem CMul.ok {i j : Int} (h : CMul i j) : IntMulOk i j := by
  rcases h with ⟨h1, h2⟩ | ⟨h1, h2⟩
  · exact .of_left (intBits_le_64 h1 h2)
  · exact .of_right (intBits_le_64 h1 h2)
theorem op_add : OpR X (binaryOp .Add) (rI0 fun i j => .int (i + j)) := opI0 fun _ _ _ _ _ _ _ q => add_int q
theorem op_sub : OpR X (binaryOp .Sub) (rI0 fun i j => .int (i - j)) := opI0 fun _ _ _ _ _ _ _ q => sub_int q
theorem op_mul : OpR X (binaryOp .Mult) (rI CMul fun i j => .int (i * j)) := opI fun _ _ _ _ _ _ _ hc q => mul_int q hc.ok
theorem op_modN : OpR X (binaryOp .Mod) (rI (fun _ j => j ≠ 0) fun i j => .int (i.fmod j)) := opI fun _ _ _ _ _ _ _ hc q => mod_int' hc q
theorem op_pow : OpR X (binaryOp .Pow) (rI CPow fun i j => .int (i ^ j.toNat)) := opI fun _ _ _ _ _ _ _ hc q => pow_int_small hc.1 hc.2.1 hc.2.2 q
theorem op_shl : OpR X (binaryOp .LShift) (rI CPow fun i j => .int (i * 2 ^ j.toNat)) := opI fun _ _ _ _ _ _ _ hc q => lshift_int_small hc.1 hc.2.1 hc.2.2 q
theorem unI {f : Value → Sem Value} {g : Int → Int}
    (rule : ∀ (i : Int) (t : Tok) (s : Shared) (Q : Value → Shared → Prop) (E : Value → Shared → Prop), Q (.int (g i) s.toks) { s with toks := s.toks + 1 } → wpAny (model X.prog X.w) X.A (f (.int i t)) Q E s) :
    UnR X f (rU fun i => .int (g i)) := by
  intro pins s σ H x v Q I rx h
  obtain ⟨i, rfl, q⟩ := h
  obtain ⟨t, rfl⟩ := rx
  exact rule i t s _ _ ⟨.int (g i), H, I.tok _, ⟨_, rfl⟩, q⟩
theorem un_neg : UnR X (unaryOp .USub) (rU fun i => .int (-i)) := unI fun _ _ _ _ _ q => neg_int q
/-! ### bools among ints: n += (a < b) -/
end

/-! ### comparisons -/
section
variable {X : Cx} {a b c : Expr} {ta tb tc : TE} {pos : Pos}
theorem fin_bl {pins : List (Addr × Obj)} {σ : St} {H : Hp} {s : Shared} {Q : VK} {k k' : Bool} (I : Inv X pins σ H s) (q : Q (.bl k) H) (e : k = k') : EP X pins σ Q (.bool k') s := by
  subst e
  exact ⟨.bl k, H, I, rfl, q⟩
theorem op_lt : OpR X (compareOp .Lt) (rI0 fun i j => .bl (decide (i < j))) := opB0 fun _ _ _ _ _ _ _ q => lt_int q
theorem op_gt : OpR X (compareOp .Gt) (rI0 fun i j => .bl (decide (j < i))) := opB0 fun _ _ _ _ _ _ _ q => gt_int q
theorem op_ge : OpR X (compareOp .GtE) (rI0 fun i j => .bl (decide (j ≤ i))) := opB0 fun _ _ _ _ _ _ _ q => ge_int q
/-- two rules for one operation: by cases -/
theorem OpR.or {f : Value → Value → Sem Value} {r r' : R2} (h : OpR X f r) (h' : OpR X f r') : OpR X f (fun x y H Q => r x y H Q ∨ r' x y H Q) := by
  intro pins s σ H x y v u Q I rx ry q
  rcases q with q | q
  · exact h pins s σ H x y v u Q I rx ry q
  · exact h' pins s σ H x y v u Q I rx ry q

theorem nomark (b : Expr) {op : CmpOp} (h : op ≠ .In := by decide) (h2 : op ≠ .NotIn := by decide) : behindInMarks op b = false := by
  have e1 : (op == CmpOp.In) = false := by cases op <;> first | rfl | exact absurd rfl h
  have e2 : (op == CmpOp.NotIn) = false := by cases op <;> first | rfl | exact absurd rfl h2
  cases b <;> simp [behindInMarks, e1, e2]
/-- a comparison as a value; hm: nomark b, or (for in, not in) by with_unfolding_all rfl -/
theorem pe_cmpR {op : CmpOp} {r : R2} (ho : OpR X (compareOp op) r) (ha : PE X a ta) (hb : PE X b tb) (hm : behindInMarks op b = false) : PE X (.Compare a [op] [b] pos) (tOp r ta tb) := by
  intro pins s σ H Q I h
  exact wpAny_Compare1 (binT ha hb I h fun v u s2 x y H2 I2 rx ry q => ho pins s2 σ H2 x y v u Q I2 rx ry q) hm
/-- a reading of a value as a test -/
def tTest (t : TE) : TT := fun σ H Q => t σ H fun x H' => ∃ k, x = .bl k ∧ Q k H'
theorem pt_cmpR {op : CmpOp} {r : R2} (ho : OpR X (compareOp op) r) (ha : PE X a ta) (hb : PE X b tb) (hm : behindInMarks op b = false) : PT X (.Compare a [op] [b] pos) (tTest (tOp r ta tb)) := by
  intro pins s σ H Q I h
  refine wpAny_isTrue_Compare1 (thn (ha pins s σ H _ I h) fun v s1 ⟨x, H1, I1, r1, q1⟩ => thn (hb pins s1 σ H1 _ I1 q1) fun u s2 ⟨y, H2, I2, r2, q2⟩ =>
    thn (ho pins s2 σ H2 x y v u _ I2 r1 r2 q2) fun c s3 ⟨z, H3, I3, r3, k, e, q3⟩ => ?_) hm
  subst e
  cases r3
  exact wpAny_truthy_bool ⟨H3, I3, q3⟩
/-! ### truth -/
theorem line63 : (sizeLine : Nat) < 2 ^ 63 := by rw [sizeLine_eq]; decide
/-! ### strs and bytes -/
/-! ### scalar builtins, by CallR -/
theorem vals1 {x : V} {us : List Value} (r : Vals [x] us) : ∃ u, us = [u] ∧ RelV x u := by
  cases r with
  | cons r1 r2 => cases r2; exact ⟨_, rfl, r1⟩
theorem vals2 {x y : V} {us : List Value} (r : Vals [x, y] us) : ∃ u w', us = [u, w'] ∧ RelV x u ∧ RelV y w' := by
  cases r with
  | cons r1 r2 =>
    cases r2 with
    | cons r3 r4 => cases r4; exact ⟨_, _, rfl, r1, r3⟩
theorem call_abs : CallR X (.builtin "abs") (fun xs H Q => ∃ i, xs = [.int i] ∧ Q (.int (if i < 0 then -i else i)) H) := by
  intro pins s σ H xs us Q I r h
  obtain ⟨i, rfl, q⟩ := h
  obtain ⟨u, rfl, t, rfl⟩ := vals1 r
  exact call_abs_int fun u tk => ⟨.int (if i < 0 then -i else i), H, I.tok _, ⟨_, rfl⟩, q⟩
theorem call_max2 (hc : X.calm = true) : CallR X (.builtin "max") (fun xs H Q => ∃ i j, xs = [.int i, .int j] ∧ Q (.int (if j > i then j else i)) H) := by
  intro pins s σ H xs us Q I r h
  obtain ⟨i, j, rfl, q⟩ := h
  obtain ⟨u, w', rfl, ⟨t, rfl⟩, ⟨t', rfl⟩⟩ := vals2 r
  refine max_two_ints (I.ok.hd hc) fun h' tk k => ⟨_, H, I.kept k, ?_, q⟩
  by_cases hj : j > i
  · rw [if_pos hj, if_pos hj]; exact ⟨_, rfl⟩
  · rw [if_neg hj, if_neg hj]; exact ⟨_, rfl⟩
theorem call_min2 (hc : X.calm = true) : CallR X (.builtin "min") (fun xs H Q => ∃ i j, xs = [.int i, .int j] ∧ Q (.int (if j < i then j else i)) H) := by
  intro pins s σ H xs us Q I r h
  obtain ⟨i, j, rfl, q⟩ := h
  obtain ⟨u, w', rfl, ⟨t, rfl⟩, ⟨t', rfl⟩⟩ := vals2 r
  refine min_two_ints (I.ok.hd hc) fun h' tk k => ⟨_, H, I.kept k, ?_, q⟩
  by_cases hj : j < i
  · rw [if_pos hj, if_pos hj]; exact ⟨_, rfl⟩
  · rw [if_neg hj, if_neg hj]; exact ⟨_, rfl⟩
theorem call_int1 : CallR X (.type "int") (fun xs H Q => (∃ i, xs = [.int i] ∧ Q (.int i) H) ∨ ∃ k, xs = [.bl k] ∧ Q (.int (if k then 1 else 0)) H) := by
  intro pins s σ H xs us Q I r h
  rcases h with ⟨i, rfl, q⟩ | ⟨k, rfl, q⟩
  · obtain ⟨u, rfl, t, rfl⟩ := vals1 r
    exact call_int_int ⟨.int i, H, I, ⟨_, rfl⟩, q⟩
  · obtain ⟨u, rfl, r1⟩ := vals1 r
    cases r1
    exact call_int_bool ⟨.int (if k then 1 else 0), H, I.tok _, ⟨_, rfl⟩, q⟩
end
end L2

namespace L2
open PySem PySem.Spec PyProof.Rows

/-! ### an instance, its attributes a map -/
structure ObjM (h : Heap) (x dx C : Addr) (mA : Str → Option Value) : Prop where
  obj : h.get? x = some (PySem.W.instObj C dx)
  ns : h.Ns1 dx mA
  ne : dx ≠ x

theorem lookIn_ns {h : Heap} {dx : Addr} {mA : Str → Option Value} (n : h.Ns1 dx mA) : ∃ od, h.get? dx = some od ∧ ∀ name, PySem.W.lookIn name od = some (mA name) := by
  obtain ⟨o, es, ep, ho, hd, hk, _, hm⟩ := n
  refine ⟨o, ho, fun name => ?_⟩
  have e := hm name
  unfold nsFind findBy at e
  rw [← Array.find?_toList] at e
  unfold PySem.W.lookIn
  rw [hd]
  dsimp only
  split
  · rename_i y q
    rw [q] at e
    exact congrArg some e
  · rename_i q
    rw [q] at e
    have a : es.toList.any (·.refKey) = false := by
      rw [List.any_eq_false]
      intro y hy
      obtain ⟨z, t, hkey⟩ := hk y (Array.mem_toList_iff.mp hy)
      simp [DictEntry.refKey, hkey]
    have a' : ¬ es.toList.any (·.refKey) = true := by rw [a]; exact Bool.false_ne_true
    rw [if_neg a']
    exact congrArg some e

theorem ObjM.look {h : Heap} {x dx C : Addr} {mA : Str → Option Value} (I : ObjM h x dx C mA) : ∃ od, PySem.W.InstAt h x (PySem.W.instObj C dx) C (some od) ∧ ∀ name, PySem.W.lookIn name od = some (mA name) :=
  let ⟨od, ho, hl⟩ := lookIn_ns I.ns
  ⟨od, ⟨I.obj, rfl, rfl, ho⟩, hl⟩

section
variable {prog : Program} {w : World} {A : Around} {E : Value → Shared → Prop} {s : Shared} {K : PySem.W.Frag} {x dx C f : Addr} {mA : Str → Option Value} {name : Str} {v : Value}

end

/-! ### the attributes as a list of pairs -/
theorem RelO.none_of {o : Option Value} (r : RelO none o) : o = none := by
  cases o with
  | none => rfl
  | some u => exact (show False from r).elim
section
variable {P : Program} {w : World} {H H' : Hp} {h h' : Heap} {a C dx : Addr} {fs fs' : List (Str × V)}
theorem ins_get (hok : HOk P w H h) (e : H a = some (.ins C dx fs)) : ∃ mA, ObjM h a dx C mA ∧ (∀ f, RelO (fs.lookup f) (mA f)) ∧ PySem.Within mA (fs.map (·.1)) ∧ fs.length ≤ 1000 ∧ H dx = some (.own a) := by
  obtain ⟨d, z, ne, ob, mA, n, r, q⟩ := (show ObjOk P w H h a (.ins C dx fs) from hok a _ e)
  exact ⟨mA, ⟨ob, n, ne⟩, r, q, z, d⟩
end

/-! ### what of the text a class must have -/
structure Cls (K : PySem.W.Frag) (C : Addr) : Prop where
  pg : PySem.W.plainGet K C Str.empty = true
  hd : PySem.W.hasDictIn K C = true
  po : PySem.W.plainOver K C = true
  sa : PySem.W.findIn K (.ref C) "__setattr__" = some (some (.builtin "object.__setattr__"))
theorem Cls.get {K : PySem.W.Frag} {C : Addr} (c : Cls K C) (f : Str) : PySem.W.plainGet K C f = true := c.pg
/-- a constant of the class -/
structure Con (K : PySem.W.Frag) (C : Addr) (f : Str) (v : V) (u : Value) : Prop where
  at_ : PySem.W.findIn K (.ref C) f = some (some u)
  rel : RelV v u
  get : PySem.W.specialIn K u "__get__" = some none
  cp : PySem.W.copiedNames.contains f = false
/-- a method: a plain def of the class or of one above it -/
structure Meth (K : PySem.W.Frag) (C : Addr) (m : Str) (f : Addr) : Prop where
  at_ : PySem.W.findIn K (.ref C) m = some (some (.ref f))
  fn : PySem.W.isFn K (.ref f) = true
  kp : PySem.W.keepIn K (.ref f) = true

section
variable {X : Cx} {pins : List (Addr × Obj)} {σ : St} {H : Hp} {s : Shared} {a C dx : Addr} {fs : List (Str × V)} {f : Str} {v : V} {A : Around} {E : Value → Shared → Prop}

/-- a new instance, tracked, without attributes -/
theorem Inv.made (I : Inv X pins σ H s) : Inv X pins σ (upd (upd H s.heap.objs.size (.own (s.heap.objs.size + 1))) (s.heap.objs.size + 1) (.ins C s.heap.objs.size []))
    { s with heap := (s.heap.push PySem.W.emptyDict).push (PySem.W.instObj C s.heap.objs.size) } := by
  have e1 : (s.heap.push PySem.W.emptyDict).get? s.heap.objs.size = some PySem.W.emptyDict := Heap.get?_push_size s.heap rfl
  have e2 : ((s.heap.push PySem.W.emptyDict).push (PySem.W.instObj C s.heap.objs.size)).get? (s.heap.objs.size + 1) = some (PySem.W.instObj C s.heap.objs.size) := by
    have := Heap.get?_push_size (s.heap.push PySem.W.emptyDict) (o := PySem.W.instObj C s.heap.objs.size) rfl
    rwa [Heap.size_push] at this
  have e3 : (s.heap.push PySem.W.emptyDict).Ns s.heap.objs.size (fun _ => none) := ⟨PySem.W.emptyDict, #[], _, e1, rfl, (fun e he => absurd he (by simp)), fun _ => rfl⟩
  have I1 := I.laid (a := s.heap.objs.size) (o := .own (s.heap.objs.size + 1)) (h' := s.heap.push PySem.W.emptyDict) (t' := s.toks) (fun b u q => Heap.get?_push_of_some _ q) (Nat.le_refl _) ⟨_, e1⟩
  refine I1.laid (a := s.heap.objs.size + 1) (o := .ins C s.heap.objs.size []) (t' := s.toks) (fun b u q => Heap.get?_push_of_some _ q) (Nat.le_of_eq (Heap.size_push _ _)) ?_
  have ne : s.heap.objs.size ≠ s.heap.objs.size + 1 := Nat.ne_of_lt (Nat.lt_succ_self _)
  refine ⟨by rw [upd_ne ne, upd_same], Nat.zero_le _, ne, e2, fun _ => none, (Heap.Ns1.of_empty e3).at fun o q => Heap.get?_push_of_some _ q, fun _ => True.intro, fun y hy => absurd rfl hy⟩

end

/-! ### readings and rules -/
section
variable {X : Cx} {o e value : Expr} {f : Str} {pos pos' tpos : Pos} {ta tv : TE}
end

/-! ### isinstance -/
section
variable {X : Cx} {pins : List (Addr × Obj)} {σ : St} {H : Hp} {s : Shared} {A : Around} {E : Value → Shared → Prop} {Q : Value → Shared → Prop} {c : Value} {b : Bool}
/-- the type of a value, as the fragment's deciders take it; for an instance its class -/
inductive TyOf (K : PySem.W.Frag) (H : Hp) : V → Value → Prop where
  | non : TyOf K H .non (.type "NoneType")
  | bl (x : Bool) : TyOf K H (.bl x) (.type "bool")
  | int (i : Int) : TyOf K H (.int i) (.type "int")
  | str (x : Str) : TyOf K H (.str x) (.type "str")
  | flt (x : UInt64) : TyOf K H (.flt x) (.type "float")
  | lst {a : Addr} {xs : List V} (e : H a = some (.lst xs)) : TyOf K H (.ref a) (.type "list")
  | frz {a : Addr} {o : Obj} {xs : List V} (e : H a = some (.frz o (.lst xs))) : TyOf K H (.ref a) (.type "list")
  | tup {a : Addr} {xs : List V} (e : H a = some (.tup xs)) : TyOf K H (.ref a) (.type "tuple")
  | dK {a : Addr} {kvs : List (Key × V)} (e : H a = some (.dK kvs)) : TyOf K H (.ref a) (.type "dict")
  | dT {a : Addr} {kvs : List (List Key × V)} (e : H a = some (.dT kvs)) : TyOf K H (.ref a) (.type "dict")
  | ins {a C dx : Addr} {fs : List (Str × V)} (e : H a = some (.ins C dx fs)) (cl : Cls K C) (ha : PySem.W.findIn K (.ref C) "__class__" = some (some (.builtin "object.__class__")))
      (hn : PySem.W.specialIn K (.builtin "object.__class__") "__get__" = some (some (.builtin "getset_descriptor.__get__"))) (htk : PySem.W.takesIn K (.builtin "object.__class__") = some true)
      (hm : PySem.W.mroIn K C (.type "object") = some true) : TyOf K H (.ref a) (.ref C)
end
end L2

namespace L2
open PySem PySem.Spec PyProof.Rows

/-! ### room -/
structure Room (k : Nat) (A : Around) : Prop where
  hd : A.handled = none
  dp : A.depth + 3 * k + 5 < recursionLimit
  un : A.units + 16 * k + 200 < cLine
theorem Room.mono {j k : Nat} {A : Around} (r : Room k A) (h : j ≤ k) : Room j A := ⟨r.hd, by have := r.dp; omega, by have := r.un; omega⟩
theorem Room.deeper {k : Nat} {A : Around} (r : Room (k + 1) A) (env : Env) : Room k (A.deeper env) :=
  ⟨r.hd, by have := r.dp; show A.depth + 1 + 3 * k + 5 < _; omega, by have := r.un; show A.units + 3 + 16 * k + 200 < _; omega⟩
theorem Room.in1 {k : Nat} {A : Around} (r : Room (k + 1) A) : Room k A.in1 :=
  ⟨r.hd, by have := r.dp; show A.depth + 3 * k + 5 < _; omega, by have := r.un; show A.units + 1 + 16 * k + 200 < _; omega⟩
theorem make_depth {A : Around} {C : Addr} {us : List Value} {kw : List (Str × Value)} : (A.under (.builtin "type.__call__" ⟨.ref C :: us, kw⟩)).depth = A.depth + 1 := by
  first | rfl | simp [Around.under, Code.weight, Code.isCreation, Code.isGuard, Code.isCaller, Code.frames, Code.isFrame, guardIds]
theorem make_units {A : Around} {C : Addr} {us : List Value} {kw : List (Str × Value)} : (A.under (.builtin "type.__call__" ⟨.ref C :: us, kw⟩)).units = A.units + 1 := by
  first | rfl | simp [Around.under, Code.cUnits, Code.frames, Code.isFrame]
theorem Room.make {k : Nat} {A : Around} (r : Room (k + 1) A) (C : Addr) (us : List Value) (kw : List (Str × Value)) : Room k (A.under (.builtin "type.__call__" ⟨.ref C :: us, kw⟩)) :=
  ⟨r.hd, by have := r.dp; rw [make_depth]; omega, by have := r.un; rw [make_units]; omega⟩
theorem Room.depth {k : Nat} {A : Around} (r : Room k A) : A.depth < recursionLimit := by have := r.dp; omega
theorem Room.units {k : Nat} {A : Around} (r : Room k A) : A.units + 64 < cLine := by have := r.un; omega
/-! ### argument lists and displays -/
def tNil : TA := fun _ H Q => Q [] H
def tCons (ta : TE) (tr : TA) : TA := fun σ H Q => ta σ H fun x H1 => tr σ H1 fun xs H2 => Q (x :: xs) H2
section
variable {X : Cx} {e : Expr} {es : List Expr} {te : TE} {t : TA} {pos : Pos}
theorem pa_nil : PA X [] tNil := fun _ _ _ _ H Q I h => Calls.spliced_nil ⟨[], H, I, .nil, h⟩
theorem pa_cons (ha : PE X e te) (hr : PA X es t) (hs : starEach (e :: es) X.env = (false, eval e X.env) :: starEach es X.env := by rfl) : PA X (e :: es) (tCons te t) := by
  intro pos pins s σ H Q I h
  rw [hs]
  show wpAny _ _ (spliced ((false, eval e X.env) :: backTo pos (starEach es X.env))) _ _ s
  refine Calls.spliced_cons (thn (ha pins s σ H _ I h) fun u s1 ⟨x, H1, I1, r1, q1⟩ => ?_)
  exact thn (hr pos pins s1 σ H1 _ I1 q1) fun us s2 ⟨xs, H2, I2, r2, q2⟩ => ⟨x :: xs, H2, I2, .cons r1 r2, q2⟩

/-- a tuple, a list of written items -/
def tTup (t : TA) : TE := fun σ H Q => t σ H fun xs H1 => xs.length ≤ sizeLine ∧ ∀ p, H1 p = none → Q (.ref p) (upd H1 p (.tup xs))
def tLst (t : TA) : TE := fun σ H Q => t σ H fun xs H1 => xs.length ≤ sizeLine ∧ ∀ p, H1 p = none → Q (.ref p) (upd H1 p (.lst xs))
theorem pe_tup {x1} (h : PA X es t) : PE X (.Tuple es x1 pos) (tTup t) := by
  intro pins s σ H Q I hq
  refine wpAny_Tuple_spliced (thn (h pos pins s σ H _ I hq) fun us s1 ⟨xs, H1, I1, r, z, q⟩ => ⟨by rw [← r.length]; exact z, ?_⟩)
  have hf : H1 s1.heap.objs.size = none := I1.hok.fresh (Nat.le_refl _)
  refine ⟨.ref s1.heap.objs.size, upd H1 s1.heap.objs.size (.tup xs), I1.laid (t' := s1.toks) (fun b u e => Heap.get?_push_of_some _ e) (Nat.le_refl _) ?_, rfl, q _ hf⟩
  exact ⟨z, us, r, ⟨_, Heap.get?_push_size _ rfl, rfl, _, rfl⟩⟩
theorem pe_lst (h : PA X es t) : PE X (.List es pos) (tLst t) := by
  intro pins s σ H Q I hq
  refine wpAny_List_spliced (thn (h pos pins s σ H _ I hq) fun us s1 ⟨xs, H1, I1, r, z, q⟩ => ⟨by rw [← r.length]; exact z, ?_⟩)
  have hf : H1 s1.heap.objs.size = none := I1.hok.fresh (Nat.le_refl _)
  refine ⟨.ref s1.heap.objs.size, upd H1 s1.heap.objs.size (.lst xs), I1.laid (t' := s1.toks) (fun b u e => Heap.get?_push_of_some _ e) (Nat.le_refl _) ?_, rfl, q _ hf⟩
  exact ⟨z, us, 0, r, Heap.get?_push_size _ rfl⟩
end

/-! ### what a def promises -/
/-- a def's promise: the bound arguments in the parameters' order, the heap, the wanted end, the wanted exception -/
abbrev Sp := List V → Hp → VK → XK → Prop
/-- how an exception lies behind a call (file 08 gives it): the callers' frames, abstract heap and state ahead of the call, the wish, the exception, the state -/
abbrev CXT := List Env → Hp → Shared → XK → Value → Shared → Prop

/-- the state at a call -/
structure Env0 (P : Program) (w : World) (K : PySem.W.Frag) (mg : Str → Option Value) (base : Heap) (A : Around) (outer : List Env) (s : Shared) (H : Hp) : Prop where
  frames : A.frames = some outer
  mod : Mod K mg base
  bs : ∀ b o, base.get? b = some o → s.heap.get? b = some o ∧ H b = none
  bsz : base.objs.size ≤ s.heap.objs.size
  funs : s.heap.FunFrames base outer
  frf : ∀ b ∈ frs outer, H b = none
  hok : HOk P w H s.heap
  bare : AllBare s.gens
/-- a call's end -/
def CE (outer : List Env) (P : Program) (w : World) (H : Hp) (s : Shared) (Q : VK) (u : Value) (s' : Shared) : Prop :=
  ∃ v H', s'.os = s.os ∧ AllBare s'.gens ∧ Un (frs outer) [] H H' s.heap s'.heap ∧ HOk P w H' s'.heap ∧ RelV v u ∧ Q v H'
def CR (CX : CXT) (outer : List Env) (P : Program) (w : World) (H : Hp) (s : Shared) (Q : VK) (E : XK) (r : Result) (s' : Shared) : Prop :=
  match r with
  | .ok (.ret u) => CE outer P w H s Q u s'
  | .ok _ => False
  | .error e => CX outer H s E e s'
structure FnOk (P : Program) (w : World) (K : PySem.W.Frag) (mg : Str → Option Value) (base : Heap) (CX : CXT) (k : Nat) (f : Addr) (fd : FuncData) (ps : List Str) (sp : Sp) : Prop where
  len : ∀ vs H Q E, sp vs H Q E → vs.length = ps.length
  run : ∀ (A : Around) (outer : List Env) (s : Shared) (H : Hp) (args : Args) (us : List Value) (vs : List V) (Q : VK) (E : XK), Room k A → Env0 P w K mg base A outer s H → BindsTo s fd args (ps.zip us) → Vals vs us → sp vs H Q E →
    codeAny (model P w) A (.call (.ref f) args) (CR CX outer P w H s Q E) s
theorem FnOk.mono {P : Program} {w : World} {K : PySem.W.Frag} {mg : Str → Option Value} {base : Heap} {CX : CXT} {j k : Nat} {f : Addr} {fd : FuncData} {ps : List Str} {sp : Sp} (F : FnOk P w K mg base CX j f fd ps sp) (h : j ≤ k) :
    FnOk P w K mg base CX k f fd ps sp := ⟨F.len, fun A outer s H args us vs Q E hr => F.run A outer s H args us vs Q E (hr.mono h)⟩
/-- a weaker promise -/
theorem FnOk.imp {P : Program} {w : World} {K : PySem.W.Frag} {mg : Str → Option Value} {base : Heap} {CX : CXT} {k : Nat} {f : Addr} {fd : FuncData} {ps : List Str} {sp sp' : Sp} (F : FnOk P w K mg base CX k f fd ps sp)
    (h : ∀ vs H Q E, sp' vs H Q E → sp vs H Q E) : FnOk P w K mg base CX k f fd ps sp' :=
  ⟨fun vs H Q E q => F.len vs H Q E (h _ _ _ _ q), fun A outer s H args us vs Q E hr he hb hv hs => F.run A outer s H args us vs Q E hr he hb hv (h _ _ _ _ hs)⟩

theorem Env0.make {P : Program} {w : World} {K : PySem.W.Frag} {mg : Str → Option Value} {base : Heap} {A : Around} {outer : List Env} {s : Shared} {H : Hp} (e : Env0 P w K mg base A outer s H) (C : Addr) (us : List Value) (kw : List (Str × Value)) :
    Env0 P w K mg base (A.under (.builtin "type.__call__" ⟨.ref C :: us, kw⟩)) outer s H := ⟨by first | exact e.frames | (simpa [Around.under, Code.envs, Code.isFrame, pushEnvs] using e.frames), e.mod, e.bs, e.bsz, e.funs, e.frf, e.hok, e.bare⟩
theorem Env0.in1 {P : Program} {w : World} {K : PySem.W.Frag} {mg : Str → Option Value} {base : Heap} {A : Around} {outer : List Env} {s : Shared} {H : Hp} (e : Env0 P w K mg base A outer s H) :
    Env0 P w K mg base A.in1 outer s H := ⟨e.frames, e.mod, e.bs, e.bsz, e.funs, e.frf, e.hok, e.bare⟩

section
variable {X : Cx} {pins : List (Addr × Obj)} {σ : St} {H : Hp} {s s' : Shared}
/-- from a body: what a callee wants -/
theorem Inv.env0 (I : Inv X pins σ H s) : Env0 X.prog X.w X.K X.mg X.base X.A X.stack s H :=
  ⟨I.ok.frames, I.ok.mod, I.bs, Nat.le_trans I.ok.bsz I.sz, I.stack, I.stkFree, I.hok, I.bare⟩
/-- behind a call -/
theorem Inv.after {Q : VK} {u : Value} (I : Inv X pins σ H s) (h : CE X.stack X.prog X.w H s Q u s') : EP X pins σ Q u s' := by
  obtain ⟨v, H', os, bare, un, hok, r, q⟩ := h
  obtain ⟨hh, g, d, t, os'⟩ := s'
  obtain rfl : os' = s.os := os
  exact ⟨v, H', I.call (h' := hh) (g' := g) (d' := d) (t' := t) (ch := []) un hok bare (fun b z => absurd z (by simp)), r, q⟩
end

/-! ### calls -/
/-- how the parameters are bound: us the positional arguments, kw the keywords' values by name, ds the defaults that fill up -/
def Binds (K : PySem.W.Frag) (fd : FuncData) (ps : List Str) (ds : List Value) : Prop :=
  ∀ (s : Shared) (us : List Value), K.In s.heap → (us ++ ds).length = ps.length → BindsTo s fd ⟨us, []⟩ (ps.zip (us ++ ds))
/-- every parameter is given -/
theorem Binds.all {K : PySem.W.Frag} {fd : FuncData} {ps : List Str} (h : ∀ us : List Value, us.length = ps.length → bindArgs fd ⟨us, []⟩ = pure (ps.zip us)) : Binds K fd ps [] := fun s us _ hl => by
  rw [List.append_nil] at hl ⊢
  exact .of_eq (h us hl)

/-- an exception of a callee reaches what this body wants of exceptions -/
def Passes (CX : CXT) (X : Cx) (E : XK) : Prop := ∀ (pins : List (Addr × Obj)) (σ : St) (H : Hp) (s : Shared) (e : Value) (s' : Shared), Inv X pins σ H s → CX X.stack H s E e s' → X.xe e s'

section
variable {X : Cx} {CX : CXT} {k : Nat} {f C : Addr} {fd : FuncData} {ps : List Str} {sp : Sp} {dvs : List V} {ds : List Value} {E : XK} {x m : Str} {p pos apos : Pos} {e o : Expr} {es : List Expr} {ta : TE} {t : TA}

/-- what a class must have to be made -/
structure Mk (K : PySem.W.Frag) (C f : Addr) : Prop where
  makes : PySem.W.makesIn K C = true
  init : PySem.W.findIn K (.ref C) "__init__" = some (some (.ref f))
  fn : PySem.W.isFn K (.ref f) = true
  kp : PySem.W.keepIn K (.ref C) = true

end

/-! ### keywords -/
section
variable {X : Cx} {CX : CXT} {k : Nat} {f C : Addr} {fd : FuncData} {ps ks : List Str} {sp : Sp} {E : XK} {x m : Str} {p pos apos kpos : Pos} {e o : Expr} {es : List Expr} {kws : List Keyword} {te ta : TE} {t tk : TA} {nm : Option Str}
/-- how a call with keywords binds: g puts the positional values us and the keywords' values ws (names ks) in the parameters' order, defaults among them -/
structure KBinds (K : PySem.W.Frag) (fd : FuncData) (ps ks : List Str) (g : List Value → List Value → List Value) (gV : List V → List V → List V) : Prop where
  to : ∀ (s : Shared) (us ws : List Value), K.In s.heap → (g us ws).length = ps.length → BindsTo s fd ⟨us, ks.zip ws⟩ (ps.zip (g us ws))
  rel : ∀ {vs : List V} {us : List Value} {zs : List V} {ws : List Value}, Vals vs us → Vals zs ws → Vals (gV vs zs) (g us ws)
variable {g : List Value → List Value → List Value} {gV : List V → List V → List V}
end

/-! ### a def's body keeps its promise -/
/-- names: the parameters first -/
structure FnScope (N P : List Str) (sc : Scope) : Prop where
  kind : sc.kind = .function
  co : sc.isCoroutine = false
  gen : sc.isGenerator = false
  nd : N.Nodup
  pre : N.take P.length = P
  par : ∀ x ∈ P, sc.names.lookup x = some .local ∨ sc.names.lookup x = some .cell
  nofree : ∀ y ∈ sc.names, y.2 ≠ .free

theorem bindL_out {kindOf : Str → Option NameKind} {x : Str} : ∀ {binds : List (Str × Value)} {m : Str → Option Value}, (∀ v, (x, v) ∉ binds) → bindL kindOf binds m x = m x
  | [], _, _ => rfl
  | (n, v) :: r, m, h => by
    unfold bindL
    rw [bindL_out fun w hw => h w (List.mem_cons_of_mem _ hw)]
    split
    · have : x ≠ n := by rintro rfl; exact h v List.mem_cons_self
      simp [this]
    · rfl
theorem bindC_out {kindOf : Str → Option NameKind} {x : Str} : ∀ {binds : List (Str × Value)} {m : Str → Option Value}, (∀ v, (x, v) ∉ binds) → bindC kindOf binds m x = m x
  | [], _, _ => rfl
  | (n, v) :: r, m, h => by
    unfold bindC
    rw [bindC_out fun w hw => h w (List.mem_cons_of_mem _ hw)]
    split
    · rfl
    · have : x ≠ n := by rintro rfl; exact h v List.mem_cons_self
      simp [this]
theorem bindL_get {kindOf : Str → Option NameKind} {x : Str} {v : Value} : ∀ {P : List Str} {vs : List Value} {i : Nat} {m : Str → Option Value}, P.Nodup → P[i]? = some x → vs[i]? = some v → kindOf x = some .local →
    bindL kindOf (P.zip vs) m x = some v
  | [], _, _, _, _, h, _, _ => by simp at h
  | _ :: _, [], _, _, _, _, h, _ => by simp at h
  | p :: P, w :: vs, 0, m, nd, h1, h2, hk => by
    simp at h1 h2; subst h1; subst h2
    show bindL kindOf ((p, w) :: P.zip vs) m p = _
    unfold bindL
    rw [bindL_out fun v hv => (List.nodup_cons.mp nd).1 (List.of_mem_zip hv).1, if_pos hk]
    simp
  | p :: P, w :: vs, i + 1, m, nd, h1, h2, hk => by
    show bindL kindOf ((p, w) :: P.zip vs) m x = _
    unfold bindL
    exact bindL_get (i := i) (List.nodup_cons.mp nd).2 (by simpa using h1) (by simpa using h2) hk
theorem bindC_get {kindOf : Str → Option NameKind} {x : Str} {v : Value} : ∀ {P : List Str} {vs : List Value} {i : Nat} {m : Str → Option Value}, P.Nodup → P[i]? = some x → vs[i]? = some v → kindOf x ≠ some .local →
    bindC kindOf (P.zip vs) m x = some v
  | [], _, _, _, _, h, _, _ => by simp at h
  | _ :: _, [], _, _, _, _, h, _ => by simp at h
  | p :: P, w :: vs, 0, m, nd, h1, h2, hk => by
    simp at h1 h2; subst h1; subst h2
    show bindC kindOf ((p, w) :: P.zip vs) m p = _
    unfold bindC
    rw [bindC_out fun v hv => (List.nodup_cons.mp nd).1 (List.of_mem_zip hv).1, if_neg hk]
    simp
  | p :: P, w :: vs, i + 1, m, nd, h1, h2, hk => by
    show bindC kindOf ((p, w) :: P.zip vs) m x = _
    unfold bindC
    exact bindC_get (i := i) (List.nodup_cons.mp nd).2 (by simpa using h1) (by simpa using h2) hk

/-- the names' values at the entry -/
def start (N : List Str) (vs : List V) : St := vs.map some ++ List.replicate (N.length - vs.length) none

/-- the context of a def's body, at its entry; an exception leaves the frame, then lies as CX says -/
def cxOf (CX : CXT) (P : Program) (w : World) (K : PySem.W.Frag) (mg : Str → Option Value) (base : Heap) (N : List Str) (qual : Str) (scope : Scope) (f : Addr) (cd : Value) (A : Around) (outer : List Env) (s : Shared) (H : Hp) (E : XK) : Cx where
  prog := P
  w := w
  K := K
  mg := mg
  base := base
  A := A.deeper (envOfC qual scope s.heap.objs.size f cd)
  N := N
  s₀ := s
  H₀ := H
  env := envOfC qual scope s.heap.objs.size f cd
  outer := outer
  stack := envOfC qual scope s.heap.objs.size f cd :: outer
  ex := []
  calm := true
  fn := fun _ => true
  pn := []
  xe := fun e s' => wpAny (model P w) (A.deeper (envOfC qual scope s.heap.objs.size f cd)) (leaving (envOfC qual scope s.heap.objs.size f cd) e) (fun _ s'' => CX outer H s E e s'') (fun e' s'' => CX outer H s E e' s'') s'

theorem cell_has {sc : Scope} {n : Nat} {x : Str} (h : sc.names.lookup x = some .cell) : ∃ c, (cellsFrom n sc.names []).lookup x = some c := by
  have q := PySem.W.cellsFrom_some sc.names n [] (.inl h)
  exact Option.isSome_iff_exists.mp q

theorem inv_start {CX : CXT} {P : Program} {w : World} {K : PySem.W.Frag} {mg : Str → Option Value} {base : Heap} {N ps : List Str} {qual : Str} {scope : Scope} {f : Addr} {cd : Value} {A : Around} {outer : List Env} {s s1 : Shared} {H : Hp} {E : XK} {us : List Value} {vs : List V}
    (S : FnScope N ps scope) (hd : A.handled = none) (e0 : Env0 P w K mg base A outer s H) (hl : vs.length = ps.length) (r : Vals vs us)
    (x : InCallC s s.heap.objs.size (bindL (envOfC qual scope s.heap.objs.size f cd).kindOf (ps.zip us) fun _ => none) (cellsFrom (s.heap.objs.size + 1) scope.names []) (bindC (envOfC qual scope s.heap.objs.size f cd).kindOf (ps.zip us) fun _ => none) s1) :
    Inv (cxOf CX P w K mg base N qual scope f cd A outer s H E) [] (start N vs) H s1 := by
  have hpl : ps.length ≤ N.length := by have := congrArg List.length S.pre; rw [List.length_take] at this; omega
  obtain ⟨h1, tk, rfl, hk⟩ := x.done
  have noA : ∀ b : Addr, b ∉ (cxOf CX P w K mg base N qual scope f cd A outer s H E).ex := fun b z => absurd (show b ∈ ([] : List Addr) from z) (by simp)
  refine ⟨⟨e0.mod, S.kind, rfl, rfl, Nat.le_refl _, fun y z c h1 h2 => ?_, fun y hy => ?_, fun y c _ h => ?_, fun _ => hd, Around.frames_deeper e0.frames, .inr ⟨rfl, rfl⟩, fun b z => absurd z (noA b), e0.bs, e0.bsz, fun b _ _ => noA b, fun b z => absurd z (noA b), e0.funs, e0.frf⟩,
    rfl, e0.bare, Un.kept hk, ⟨_, x.toInCall.ns, fun i y v h1 h2 h3 => ?_⟩, fun y c h => ⟨_, x.cell y c h⟩, e0.hok.fresh (Nat.le_refl _), fun y c h => ?_, fun p hp => absurd (show p ∈ ([] : List (Addr × Obj)) from hp) (by simp), e0.hok.kept hk, ?_⟩
  · exact name_of_addr x.apart (PySem.mem_of_lookup h1) (PySem.mem_of_lookup h2)
  · have hy : scope.names.lookup y = some .cell ∨ scope.names.lookup y = some .free := hy
    rcases hy with hy | hy
    · exact cell_has hy
    · exact absurd rfl (S.nofree _ (PySem.mem_of_lookup hy))
  · exact Nat.le_of_lt (x.above y c (PySem.mem_of_lookup h))
  · have hi : i < vs.length := by
      unfold start at h2
      by_cases hi : i < vs.length
      · exact hi
      · rw [List.getElem?_append_right (by simpa using hi)] at h2
        rw [List.getElem?_replicate] at h2
        split at h2 <;> cases h2
    have ha : vs[i]? = some v := by
      unfold start at h2
      rw [List.getElem?_append_left (by simpa using hi), List.getElem?_map] at h2
      cases e : vs[i]? with
      | none => rw [e] at h2; cases h2
      | some a => rw [e] at h2; cases h2; rfl
    obtain ⟨u, hu, rv⟩ := r.get ha
    have hp : ps[i]? = some y := by
      rw [← S.pre, List.getElem?_take_of_lt (by omega)]; exact h1
    have ndP : ps.Nodup := by rw [← S.pre]; exact S.nd.sublist (List.take_sublist _ _)
    refine ⟨u, rv, ?_⟩
    rcases S.par y (List.mem_of_getElem? hp) with k | k
    · exact .inl ⟨k, bindL_get ndP hp hu k⟩
    · obtain ⟨c, e⟩ := cell_has (n := s.heap.objs.size + 1) k
      refine .inr ⟨.inl k, c, e, ?_⟩
      have q := x.cell y c e
      rw [bindC_get ndP hp hu (by show scope.names.lookup y ≠ _; rw [k]; decide)] at q
      exact q
  · exact e0.hok.fresh (Nat.le_of_lt (x.above y c (PySem.mem_of_lookup h)))
  · unfold start
    show _ = N.length
    rw [List.length_append, List.length_map, List.length_replicate]
    omega

/-- THE RULE: a def (or a method) of the text, by its body. The body's reading t is chosen for each entry; it is run at the parameters' values -/
theorem fn_of {CX : CXT} {P : Program} {w : World} {K : PySem.W.Frag} {mg : Str → Option Value} {base : Heap} {k : Nat} {f : Addr} {name qual : Str} {params : Arguments} {body : List Stmt} {scope : Scope} {dV kV doc pm cdv ct oc : Value} {an od : Option Addr}
    {osl : Array (Option Value)} {N ps : List Str} {sp : Sp} (lk : K.lookup f = some ⟨oc, od, .func (PySem.W.fnOf name qual params body scope dV kV doc pm an cdv ct), osl⟩) (hcd : PySem.W.codeIn K cdv qual = true) (S : FnScope N ps scope)
    (len : ∀ vs H Q E, sp vs H Q E → vs.length = ps.length)
    (hbody : ∀ (A : Around) (outer : List Env) (s : Shared) (H : Hp) (vs : List V) (Q : VK) (E : XK), Room k (A.deeper (envOfC qual scope s.heap.objs.size f cdv)) → sp vs H Q E →
      ∃ t, PSs (cxOf CX P w K mg base N qual scope f cdv A outer s H E) body t ∧ t { nx := fun _ H' => Q .non H', rt := Q } (start N vs) H) :
    FnOk P w K mg base CX (k + 1) f (PySem.W.fnOf name qual params body scope dV kV doc pm an cdv ct) ps sp := by
  refine ⟨len, fun A outer s H args us vs Q E hr e0 hb r hsp => ?_⟩
  have hl := len _ _ _ _ hsp
  have KX : K.In s.heap := e0.mod.kin.keeps fun b o e => (e0.bs b o e).1
  have lim : s.heap.NoLimit := e0.mod.nolimit.keeps fun b o e => (e0.bs b o e).1
  have hkind : ∀ y ∈ ps.zip us, scope.names.lookup y.1 = some .local ∨ (scope.names.lookup y.1 = some .cell ∧ ((cellsFrom (s.heap.objs.size + 1) scope.names []).lookup y.1).isSome = true) := fun ⟨n, v⟩ hy => by
    rcases S.par n (List.of_mem_zip hy).1 with q | q
    · exact .inl q
    · exact .inr ⟨q, PySem.W.cellsFrom_some _ _ _ (.inl q)⟩
  refine codeAny_call_function hr.depth (KX _ _ lk) rfl S.co S.gen rfl (PySem.W.codeRec_of KX hcd) (hb _ _ _ _ ?_)
  refine wpAny_newFunctionEnv_cells S.kind hkind fun env he s1 x => ?_
  subst he
  refine ⟨lim.keeps x.toInCall.keep, codeAny_func ?_⟩
  obtain ⟨t, ht, hq⟩ := hbody A outer s H vs Q E (hr.deeper _) hsp
  have I : Inv (cxOf CX P w K mg base N qual scope f cdv A outer s H E) [] (start N vs) H s1 := inv_start S hr.hd e0 hl r x
  refine wpAny_mono (ht [] s1 (start N vs) H _ I hq) (fun fl s' hs => ?_) fun e s' hs => hs
  have fin : ∀ {σ' : St} {H' : Hp} {v : V} {u : Value}, Inv (cxOf CX P w K mg base N qual scope f cdv A outer s H E) [] σ' H' s' → RelV v u → Q v H' → CE outer P w H s Q u s' :=
    fun {σ' H' v u} J rv q => ⟨v, H', J.os, J.bare, J.base, J.hok, rv, q⟩
  cases fl with
  | ret u =>
    obtain ⟨v, σ', H', J, rv, q⟩ := hs
    exact fin J rv q
  | next =>
    obtain ⟨σ', H', J, q⟩ := hs
    exact fin (v := V.non) (u := Value.none) J rfl q
  | brk =>
    obtain ⟨_, _, _, q⟩ := hs
    exact False.elim q
  | cont =>
    obtain ⟨_, _, _, q⟩ := hs
    exact False.elim q
end L2

namespace L2
open PySem PySem.Spec PyProof.Rows
section
variable {X : Cx} {x : Str} {p pos : Pos} {e : Expr} {es : List Expr} {t : TA} {id T : String} {r : List V → Hp → VK → Prop}

def tCB (r : List V → Hp → VK → Prop) (t : TA) : TE := fun σ H Q => t σ H fun vs H1 => r vs H1 Q
/-- f(e, ..), f a built-in function -/
theorem pe_callB (hc : CallR X (.builtin id) r) (hg : Gl X x) (hm : X.mg x = none) (hv : bootBuiltins x = some (.builtin id)) (ha : PA X (e :: es) t) (hn : x ≠ "__name__" := by decide) (hdb : (x == ("__debug__" : Str)) = false := by decide)
    (he : starEach (e :: es) X.env = (false, eval e X.env) :: starEach es X.env := by rfl) (hpl : (backTo pos (starEach es X.env)).any (·.1) = false := by rfl) : PE X (.Call (.Name x p) (e :: es) [] pos) (tCB r t) := by
  intro pins s σ H Q I h
  refine wpAny_Call_Name_kw (ld_blt I hg hm hv ?_ hn hdb)
  exact PyProof.Rows.callWith_builtin1 (thn (ha pos pins s σ H _ I h) fun us s1 ⟨vs, H1, I1, r1, q1⟩ => hc pins s1 σ H1 vs us Q I1 r1 q1) he hpl
/-- T(e, ..), T a built-in type -/
theorem pe_callTy (hc : CallR X (.type T) r) (hg : Gl X x) (hm : X.mg x = none) (hv : bootBuiltins x = some (.type T)) (ha : PA X (e :: es) t) (hn : x ≠ "__name__" := by decide) (hdb : (x == ("__debug__" : Str)) = false := by decide)
    (he : starEach (e :: es) X.env = (false, eval e X.env) :: starEach es X.env := by rfl) (hpl : (backTo pos (starEach es X.env)).any (·.1) = false := by rfl) : PE X (.Call (.Name x p) (e :: es) [] pos) (tCB r t) := by
  intro pins s σ H Q I h
  refine wpAny_Call_Name_kw (ld_blt I hg hm hv ?_ hn hdb)
  exact PyProof.Rows.callWith_type1 (thn (ha pos pins s σ H _ I h) fun us s1 ⟨vs, H1, I1, r1, q1⟩ => hc pins s1 σ H1 vs us Q I1 r1 q1) he hpl
end
end L2

namespace HT
open PySem PyProof.Rows

section
open PySem.SeqAt
open PySem.AutoSeq1 (wpAny_loadPart')
open PySem.MeetsSeq PySem.MeetsSeq2 PySem.MeetsSeq3

end

section
variable {prog : Program} {w : World} {A : Around} {E : Value → Shared → Prop} {s : Shared}

/-- t + u, t not empty -/
theorem cat_tup {t b : Addr} {vs ws : List Value} {Q : Value → Shared → Prop} (ht : IsTup s.heap t vs.toArray) (hb : IsTup s.heap b ws.toArray) (hv : vs ≠ [])
    (h1 : ws = [] → Q (.ref t) s) (h2 : ws ≠ [] → Q (.ref s.heap.objs.size) { s with heap := s.heap.push { cls := .type "tuple", data := .seq (vs ++ ws).toArray } })
    (hsz : vs.length + ws.length ≤ sizeLine) : wpAny (model prog w) A (binaryOp .Add (.ref t) (.ref b)) Q E s := by
  obtain ⟨⟨cls, dd, data, sl⟩, ho, hc, n, hd⟩ := id ht
  obtain ⟨⟨cls2, dd2, data2, sl2⟩, ho2, hc2, n2, hd2⟩ := id hb
  simp only at hc hd hc2 hd2
  subst hc hd hc2 hd2
  have e : vs.toArray ++ ws.toArray = (vs ++ ws).toArray := by simp
  by_cases hw : ws = []
  · exact concat_meets ⟨_, ho, rfl⟩ ⟨_, ho2, rfl⟩ noFill_tuple_add seq_tuple_add PySem.F.slot_tuple_add PySem.F.entry_tuple_add (PySem.F.args_tuple_add_2 _ _)
      (tuple_addW1 t b vs.toArray ws.toArray n n2 dd dd2 sl sl2 (by simpa using hv) (by simp [hw])) ⟨ho, ho2, h1 hw⟩
  · refine concat_meets ⟨_, ho, rfl⟩ ⟨_, ho2, rfl⟩ noFill_tuple_add seq_tuple_add PySem.F.slot_tuple_add PySem.F.entry_tuple_add (PySem.F.args_tuple_add_2 _ _)
      (tuple_addW2 t b vs.toArray ws.toArray n n2 dd dd2 sl sl2 (by simpa using hv) (by simpa using hw) (by rw [List.size_toArray, List.size_toArray]; exact hsz)) ⟨ho, ho2, ?_⟩
    rw [e]
    exact h2 hw

/-! ### t[a:b], not the whole -/
/-- a slice's bound as a place among n (d where it is left out) -/
def sIx (n d : Nat) : Option Int → Nat
  | none => d
  | some v => if v < 0 then (v + (n : Int)).toNat else min v.toNat n
theorem sIx_le (n d : Nat) (hd : d ≤ n) (o : Option Int) : sIx n d o ≤ n := by
  cases o with
  | none => exact hd
  | some v =>
    show (if v < 0 then (v + (n : Int)).toNat else min v.toNat n) ≤ n
    by_cases hv : v < 0
    · rw [if_pos hv]; omega
    · rw [if_neg hv]; exact Nat.min_le_right _ _
theorem clip_eq (v : Int) (n d : Nat) : (if v < 0 then max (v + (n : Int)) 0 else min v (n : Int)) = ((sIx n d (some v) : Nat) : Int) := by
  show (if v < 0 then max (v + (n : Int)) 0 else min v (n : Int)) = (((if v < 0 then (v + (n : Int)).toNat else min v.toNat n) : Nat) : Int)
  by_cases hv : v < 0
  · simp only [if_pos hv]; omega
  · simp only [if_neg hv]; omega
theorem adjust_gen (lo hi : Option Int) (n : Nat) : Builtin.Slice.sliceAdjust lo hi 1 (n : Int) = (((sIx n 0 lo : Nat) : Int), ((sIx n n hi : Nat) : Int)) := by
  have h1 : ¬ ((1 : Int) < 0) := by omega
  unfold Builtin.Slice.sliceAdjust
  simp only [h1, if_false]
  refine Prod.ext ?_ ?_
  · cases lo with
    | none => rfl
    | some v => exact clip_eq v n 0
  · cases hi with
    | none => rfl
    | some v => exact clip_eq v n n
theorem places_gen (i j : Nat) : Builtin.Slice.slicePlaces (i : Int) (j : Int) 1 = j - i := by
  unfold Builtin.Slice.slicePlaces
  have h1 : (1 : Int) > 0 := by omega
  simp only [h1, if_true, Int.ediv_one]
  split <;> omega
theorem slicePart_ {v : Value} {o : Option Int} {Q : Option Int → Shared → Prop} (p : IsPart v o) (h : Q o s) : wpAny (model prog w) A (Builtin.Slice.slicePartIndex v) Q E s := by
  cases p with
  | none => exact slicePart_none h
  | int i t => exact slicePart_int h
theorem sliceApplied_gen {sl : Addr} {vl vu : Value} {lo hi : Option Int} {n : Nat} {Q : Int × Int × Nat → Shared → Prop} (hs : s.heap.IsSliceOf sl vl vu .none) (pl : IsPart vl lo) (pu : IsPart vu hi)
    (h : Q (((sIx n 0 lo : Nat) : Int), 1, sIx n n hi - sIx n 0 lo) s) : wpAny (model prog w) A (Builtin.Slice.sliceApplied (.ref sl) (pure (n : Int))) Q E s := by
  obtain ⟨os, hos, hcs, hds⟩ := id hs
  unfold Builtin.Slice.sliceApplied Builtin.Slice.sliceFields
  refine wpAny_bind (wpAny_bind (wpAny_field hos hds (x := vl) rfl (wpAny_bind (wpAny_field hos hds (x := vu) rfl (wpAny_bind (wpAny_field hos hds (x := .none) rfl (wpAny_pure ?_)))))))
  refine wpAny_bind (slicePart_none ?_)
  show wpAny _ _ (if ((1 : Int) == 0) = true then _ else _) _ _ s
  rw [if_neg (by decide)]
  refine wpAny_bind (slicePart_ pl (wpAny_bind (slicePart_ pu (wpAny_bind (wpAny_pure ?_)))))
  show wpAny _ _ (match Builtin.Slice.sliceAdjust lo hi 1 (n : Int) with | (lo, hi) => pure (lo, (1 : Int), Builtin.Slice.slicePlaces lo hi 1)) _ _ s
  rw [adjust_gen lo hi n]
  show wpAny _ _ (pure (((sIx n 0 lo : Nat) : Int), (1 : Int), Builtin.Slice.slicePlaces ((sIx n 0 lo : Nat) : Int) ((sIx n n hi : Nat) : Int) 1)) _ _ s
  rw [places_gen]
  exact wpAny_pure h
theorem pick_gen (xs : Array Value) (i k : Nat) : ((List.range k).filterMap fun (m : Nat) => xs[((i : Int) + (m : Int) * 1).toNat]?).toArray = ((xs.toList.drop i).take k).toArray := by
  have e : (fun (m : Nat) => xs[((i : Int) + (m : Int) * 1).toNat]?) = fun m => xs[i + m]? := by
    funext m
    have : ((i : Int) + (m : Int) * 1).toNat = i + m := by omega
    rw [this]
  rw [e]
  have := pick_run xs i k
  rw [List.filterMap_map] at this
  have e2 : ((fun x => xs[x]?) ∘ fun x => i + x) = fun m => xs[i + m]? := rfl
  rw [e2] at this
  rw [this]

theorem getItem_tuple_cut {t sl : Addr} {items : Array Value} {vl vu : Value} {lo hi : Option Int} {Q : Value → Shared → Prop} (ht : IsTup s.heap t items) (hs : s.heap.IsSliceOf sl vl vu .none) (pl : IsPart vl lo) (pu : IsPart vu hi)
    (hw : ¬ (sIx items.size 0 lo = 0 ∧ sIx items.size items.size hi = items.size))
    (h : Q (.ref s.heap.objs.size) { s with heap := s.heap.push { cls := .type "tuple", data := .seq ((items.toList.drop (sIx items.size 0 lo)).take (sIx items.size items.size hi - sIx items.size 0 lo)).toArray } })
    (hsz : items.size ≤ sizeLine) : wpAny (model prog w) A (getItem (.ref t) (.ref sl)) Q E s := by
  have htake : sizeOk (.seq ((items.toList.drop (sIx items.size 0 lo)).take (sIx items.size items.size hi - sIx items.size 0 lo)).toArray) := by
    show ((items.toList.drop (sIx items.size 0 lo)).take (sIx items.size items.size hi - sIx items.size 0 lo)).toArray.size ≤ sizeLine
    rw [List.size_toArray, List.length_take, List.length_drop, Array.length_toList]
    omega
  have hj : sIx items.size items.size hi ≤ items.size := sIx_le _ _ (Nat.le_refl _) hi
  obtain ⟨os, hos, hcs, hds⟩ := id hs
  have hTs : s.TypeIs (.ref sl) "slice" := ⟨os, hos, hcs⟩
  unfold getItem
  try with_reducible refine wpAny_holding ?_
  first | refine wpAny_bind (wpAny_pure ?_) | skip
  refine wpAny_bind (wpAny_sequenceKey ht.typeIs (by decide) ?_)
  refine wpAny_bind (wpAny_callSpecial?_slot (name := Str.ofString "__getitem__") ht.typeIs PyProof.Rows.slot_tuple_getitem
    (wpAny_call_entry PyProof.Rows.slot_tuple_getitem ht.typeIs entry_tuple_getitem ?_ (args_tuple_getitem _ _)))
  show wpAny _ _ (Builtin.Tuple.tupleItemsOf (.ref t) >>= _) _ _ s
  refine wpAny_bind (tupleItemsOf_ ht ?_)
  refine wpAny_bind (wpAny_typeOf hTs ?_)
  rw [if_pos (by decide)]
  refine wpAny_bind (sliceApplied_gen hs pl pu ?_)
  have hno : ¬ ((((sIx items.size 0 lo : Nat) : Int) == 0 && (1 : Int) == 1 && (sIx items.size items.size hi - sIx items.size 0 lo) == items.size) = true) := by
    intro q
    rw [Bool.and_eq_true, Bool.and_eq_true] at q
    have q1 : ((sIx items.size 0 lo : Nat) : Int) = 0 := eq_of_beq q.1.1
    have q2 : sIx items.size items.size hi - sIx items.size 0 lo = items.size := eq_of_beq q.2
    exact hw ⟨by omega, by omega⟩
  show wpAny _ _ (if (((sIx items.size 0 lo : Nat) : Int) == 0 && (1 : Int) == 1 && (sIx items.size items.size hi - sIx items.size 0 lo) == items.size) = true then _ else _) _ _ s
  rw [if_neg hno, pick_gen]
  first
    | exact wpAny_bind (m := Builtin.Tuple.tupleExact _) (wpAny_newObj_type (wpAny_pure ⟨_, rfl, wpAny_pure h⟩) htake)
    | exact wpAny_bind (m := Builtin.Tuple.tupleExact _) (wpAny_newObj_type (wpAny_bind (wpAny_pure (wpAny_pure ⟨_, rfl, wpAny_pure h⟩))) htake)
    | exact wpAny_bind (wpAny_bind (m := Builtin.Tuple.tupleExact _) (wpAny_newObj_type (wpAny_pure (wpAny_pure ⟨_, rfl, wpAny_pure h⟩)) htake))
    | exact wpAny_bind (wpAny_bind (m := Builtin.Tuple.tupleExact _) (wpAny_newObj_type (wpAny_pure ⟨_, rfl, wpAny_pure h⟩) htake))
end
end HT

namespace L2
open PySem PySem.Spec PyProof.Rows

/-! ### the parts of a slice -/
abbrev TO := St → Hp → (Option Int → Hp → Prop) → Prop
/-- a slice's part (left out, or an int) -/
def PO (X : Cx) (e : Option Expr) (t : TO) : Prop :=
  ∀ (pins : List (Addr × Obj)) (s : Shared) (σ : St) (H : Hp) (Q : Option Int → Hp → Prop), Inv X pins σ H s → t σ H Q →
    wpAny (model X.prog X.w) X.A (evalPart e X.env) (fun u s' => ∃ o H', Inv X pins σ H' s' ∧ IsPart u o ∧ Q o H') X.xe s
def tNoPart : TO := fun _ H Q => Q none H
def tPart (t : TE) : TO := fun σ H Q => t σ H fun x H1 => ∃ i, x = .int i ∧ Q (some i) H1

section
variable {X : Cx} {e : Expr} {te : TE} {lo hi : Option Expr} {tl th : TO} {pos p2 : Pos}

theorem po_none : PO X none tNoPart := by
  intro pins s σ H Q I h
  rw [evalPart_none]
  exact wpAny_pure ⟨none, H, I, .none, h⟩
theorem po_some (h : PE X e te) : PO X (some e) (tPart te) := by
  intro pins s σ H Q I hw
  rw [evalPart_some]
  refine thn (h pins s σ H _ I hw) fun u s1 ⟨x, H1, I1, r1, q1⟩ => ?_
  obtain ⟨i, rfl, q⟩ := q1
  obtain ⟨t, rfl⟩ := r1
  exact ⟨some i, H1, I1, .int i t, q⟩

/-- what a slice of a value is, by values: the slice object stands at sl -/
def SlR (X : Cx) (r : V → Option Int → Option Int → Hp → VK → Prop) : Prop :=
  ∀ (pins : List (Addr × Obj)) (s : Shared) (σ : St) (H : Hp) (x : V) (v vl vu : Value) (lo hi : Option Int) (sl : Addr) (Q : VK), Inv X pins σ H s → RelV x v → s.heap.IsSliceOf sl vl vu .none → IsPart vl lo → IsPart vu hi → r x lo hi H Q →
    ∃ T id, typeLookup (.type T) "__getitem__" = pure (some (.builtin id)) ∧ s.TypeIs v T ∧ wpAny (model X.prog X.w) X.A (getItem v (.ref sl)) (EP X pins σ Q) X.xe s
theorem SlR.or {r r' : V → Option Int → Option Int → Hp → VK → Prop} (h : SlR X r) (h' : SlR X r') : SlR X (fun x lo hi H Q => r x lo hi H Q ∨ r' x lo hi H Q) := by
  intro pins s σ H x v vl vu lo hi sl Q I rx hs pl pu q
  rcases q with q | q
  · exact h pins s σ H x v vl vu lo hi sl Q I rx hs pl pu q
  · exact h' pins s σ H x v vl vu lo hi sl Q I rx hs pl pu q
def tSl (r : V → Option Int → Option Int → Hp → VK → Prop) (te : TE) (tl th : TO) : TE := fun σ H Q => te σ H fun x H1 => tl σ H1 fun l H2 => th σ H2 fun u H3 => r x l u H3 Q
/-- a[lo:hi], any a -/
theorem pe_slice {r : V → Option Int → Option Int → Hp → VK → Prop} (hr : SlR X r) (he : PE X e te) (hl : PO X lo tl) (hu : PO X hi th) : PE X (.Subscript e (.Slice lo hi none p2) pos) (tSl r te tl th) := by
  intro pins s σ H Q I h
  refine Subscript_ (thn (he pins s σ H _ I h) fun v s1 ⟨x, H1, I1, r1, q1⟩ => ?_)
  refine wpAny_Slice (thn (hl pins s1 σ H1 _ I1 q1) fun vl s2 ⟨l, H2, I2, pl, q2⟩ => thn (hu pins s2 σ H2 _ I2 q2) fun vu s3 ⟨u, H3, I3, pu, q3⟩ => ?_)
  rw [evalPart_none]
  refine wpAny_pure ?_
  have I4 : Inv X pins σ H3 { s3 with heap := s3.heap.push { cls := .type "slice", data := .fields #[vl, vu, .none] } } := I3.kept (t' := s3.toks) fun b ob q => Heap.get?_push_of_some _ q
  obtain ⟨T, id, hT, ht, hg⟩ := hr pins { s3 with heap := s3.heap.push { cls := .type "slice", data := .fields #[vl, vu, .none] } } σ H3 x v vl vu l u s3.heap.objs.size Q I4 r1 (Heap.IsSliceOf.new ..) pl pu q3
  show wpAny (model X.prog X.w) X.A (subscriptTail e (.Slice lo hi none p2) v (.ref s3.heap.objs.size)) (EP X pins σ Q) X.xe { s3 with heap := s3.heap.push { cls := .type "slice", data := .fields #[vl, vu, .none] } }
  exact tail_any (ops := [.ref s3.heap.objs.size, v]) ht hT hg (by with_unfolding_all rfl)

/-- the items of xs[lo:hi] -/
def cutV (xs : List V) (lo hi : Option Int) : List V := (xs.drop (HT.sIx xs.length 0 lo)).take (HT.sIx xs.length xs.length hi - HT.sIx xs.length 0 lo)
theorem cutV_length (xs : List V) (lo hi : Option Int) : (cutV xs lo hi).length ≤ xs.length := by
  unfold cutV
  rw [List.length_take, List.length_drop]
  omega
/-- t[lo:hi], not the whole of it (the whole would be t itself) -/
def rSlT (K : PySem.W.Frag) : V → Option Int → Option Int → Hp → VK → Prop := fun x lo hi H Q => ∃ a xs, x = .ref a ∧ SqT K H a xs ∧
  ¬ (HT.sIx xs.length 0 lo = 0 ∧ HT.sIx xs.length xs.length hi = xs.length) ∧ ∀ p, H p = none → Q (.ref p) (upd H p (.tup (cutV xs lo hi)))
theorem sl_tup : SlR X (rSlT X.K) := by
  intro pins s σ H x v vl vu lo hi sl Q I rx hs pl pu h
  obtain ⟨a, xs, rfl, hx, hw, q⟩ := h
  cases rx
  obtain ⟨its, r, ht, hz⟩ := I.tuple hx
  have hlen : its.toArray.size = xs.length := by rw [List.size_toArray]; exact r.length.symm
  refine ⟨"tuple", _, PyProof.Rows.slot_tuple_getitem.lookup, ht.typeIs, ?_⟩
  refine HT.getItem_tuple_cut ht hs pl pu (by rw [hlen]; exact hw) ?_ (by rw [hlen]; exact hz)
  rw [hlen]
  refine ⟨.ref s.heap.objs.size, _, I.laid (t' := s.toks) (o := .tup (cutV xs lo hi)) (fun b ob q => Heap.get?_push_of_some _ q) (Nat.le_refl _) ?_, rfl, q _ (I.hok.fresh (Nat.le_refl _))⟩
  exact ⟨Nat.le_trans (cutV_length xs lo hi) hz, _, (r.drop (HT.sIx xs.length 0 lo)).take (HT.sIx xs.length xs.length hi - HT.sIx xs.length 0 lo), IsTup.new _ _⟩

/-! ### t < u, t + u -/
/-- t + u, t not empty: u empty gives t itself -/
def rCatT (K : PySem.W.Frag) : R2 := fun x y H Q => ∃ a b xs ys, x = .ref a ∧ y = .ref b ∧ SqT K H a xs ∧ SqT K H b ys ∧ xs ≠ [] ∧ xs.length + ys.length ≤ sizeLine ∧
  (ys = [] → Q (.ref a) H) ∧ (ys ≠ [] → ∀ p, H p = none → Q (.ref p) (upd H p (.tup (xs ++ ys))))
theorem Vals.nil_iff {xs : List V} {us : List Value} (r : Vals xs us) : us = [] ↔ xs = [] := by
  cases r with
  | nil => simp
  | cons _ _ => simp
theorem op_catT : OpR X (binaryOp .Add) (rCatT X.K) := by
  intro pins s σ H x y v u Q I rx ry h
  obtain ⟨a, b, xs, ys, rfl, rfl, ha, hb, hx, hz, q1, q2⟩ := h
  cases rx
  cases ry
  obtain ⟨its, r1, p1, _⟩ := I.tuple ha
  obtain ⟨its2, r2, p2, _⟩ := I.tuple hb
  refine HT.cat_tup p1 p2 (fun z => hx (r1.nil_iff.mp z)) (fun z => ⟨.ref a, H, I, rfl, q1 (r2.nil_iff.mp z)⟩) (fun z => ?_) (by rw [← r1.length, ← r2.length]; exact hz)
  refine ⟨.ref s.heap.objs.size, _, I.laid (t' := s.toks) (o := .tup (xs ++ ys)) (fun b ob q => Heap.get?_push_of_some _ q) (Nat.le_refl _) ?_, rfl, q2 (fun w => z (r2.nil_iff.mpr w)) _ (I.hok.fresh (Nat.le_refl _))⟩
  exact ⟨by rw [List.length_append]; exact hz, _, r1.append r2, IsTup.new _ _⟩
end
end L2

namespace L2
open PySem PySem.Spec PyProof.Rows

/-! ### places -/
/-- the place that an index of any sign means -/
def ixN (n : Nat) (i : Int) : Option Nat := if 0 ≤ i then (if i < n then some i.toNat else none) else if -(n : Int) ≤ i then some (i + n).toNat else none
def atI {α : Type} (xs : List α) (i : Int) : Option α := (ixN xs.length i).bind fun j => xs[j]?
theorem ixN_seq {n : Nat} {i : Int} {j : Nat} (h : ixN n i = some j) : seqIndex? i n = some j ∧ j < n ∧ -(n : Int) ≤ i ∧ i < n := by
  unfold ixN at h
  by_cases h0 : 0 ≤ i
  · rw [if_pos h0] at h
    by_cases h1 : i < n
    · rw [if_pos h1] at h
      have e : i.toNat = j := Option.some.inj h
      exact ⟨by rw [seqIndex_of h0 h1, e], by omega, by omega, h1⟩
    · rw [if_neg h1] at h; cases h
  · rw [if_neg h0] at h
    by_cases h1 : -(n : Int) ≤ i
    · rw [if_pos h1] at h
      have e : (i + n).toNat = j := Option.some.inj h
      exact ⟨by rw [seqIndex_neg (by omega) h1, e], by omega, h1, by omega⟩
    · rw [if_neg h1] at h; cases h
theorem atI_get {α : Type} {xs : List α} {i : Int} {v : α} (h : atI xs i = some v) : ∃ j, seqIndex? i xs.length = some j ∧ xs[j]? = some v ∧ j < xs.length ∧ -(xs.length : Int) ≤ i ∧ i < xs.length := by
  unfold atI at h
  cases e : ixN xs.length i with
  | none => rw [e] at h; cases h
  | some j =>
    rw [e] at h
    obtain ⟨h1, h2, h3, h4⟩ := ixN_seq e
    exact ⟨j, h1, h, h2, h3, h4⟩
theorem atI_nat {α : Type} {xs : List α} {j : Nat} {v : α} (h : xs[j]? = some v) : atI xs (j : Int) = some v := by
  have hj : j < xs.length := (List.getElem?_eq_some_iff.mp h).1
  have e : ixN xs.length (j : Int) = some j := by
    unfold ixN
    rw [if_pos (by omega), if_pos (by omega)]; simp
  unfold atI; rw [e]; exact h
/-! ### what may be subscripted -/
/-- what stands as an index of a plain subscript -/
def PlainIx (b : Expr) : Prop := ∀ o i, subscripted b false o i = operate [o, i] (getItem o i)
/-- a subscript by values -/
def IxR (X : Cx) (r : R2) : Prop :=
  ∀ (value slice : Expr) (pins : List (Addr × Obj)) (s : Shared) (σ : St) (H : Hp) (x y : V) (v u : Value) (Q : VK), Inv X pins σ H s → RelV x v → RelV y u → r x y H Q →
    subscripted slice false v u = operate [v, u] (getItem v u) → wpAny (model X.prog X.w) X.A (subscriptTail value slice v u) (EP X pins σ Q) X.xe s
/-- a call of a builtin's method by values: the receiver, the arguments -/
def MtR (X : Cx) (id : String) (r : V → List V → Hp → VK → Prop) : Prop :=
  ∀ (pins : List (Addr × Obj)) (s : Shared) (σ : St) (H : Hp) (x : V) (xs : List V) (v : Value) (us : List Value) (Q : VK), Inv X pins σ H s → RelV x v → Vals xs us → r x xs H Q →
    wpAny (model X.prog X.w) X.A (call (.builtin id) (v :: us)) (EP X pins σ Q) X.xe s
section
variable {X : Cx} {a b : Expr} {ta tb : TE} {pos : Pos}
theorem IxR.or {r r' : R2} (h : IxR X r) (h' : IxR X r') : IxR X (fun x y H Q => r x y H Q ∨ r' x y H Q) := by
  intro value slice pins s σ H x y v u Q I rx ry q hs
  rcases q with q | q
  · exact h value slice pins s σ H x y v u Q I rx ry q hs
  · exact h' value slice pins s σ H x y v u Q I rx ry q hs
theorem MtR.or {id : String} {r r' : V → List V → Hp → VK → Prop} (h : MtR X id r) (h' : MtR X id r') : MtR X id (fun x xs H Q => r x xs H Q ∨ r' x xs H Q) := by
  intro pins s σ H x xs v us Q I rx rs q
  rcases q with q | q
  · exact h pins s σ H x xs v us Q I rx rs q
  · exact h' pins s σ H x xs v us Q I rx rs q
/-- a[b] -/
theorem pe_ix {r : R2} (hr : IxR X r) (ha : PE X a ta) (hb : PE X b tb) (hs : PlainIx b) : PE X (.Subscript a b pos) (tOp r ta tb) := by
  intro pins s σ H Q I h
  exact Subscript_ (binT ha hb I h fun v u s2 x y H2 I2 rx ry q => hr a b pins s2 σ H2 x y v u Q I2 rx ry q (hs _ _))

def rIxL (K : PySem.W.Frag) : R2 := fun x y H Q => ∃ p xs i v, x = .ref p ∧ y = .int i ∧ SqL K H p xs ∧ atI xs i = some v ∧ Q v H
def rIxT (K : PySem.W.Frag) : R2 := fun x y H Q => ∃ p xs i v, x = .ref p ∧ y = .int i ∧ SqT K H p xs ∧ atI xs i = some v ∧ Q v H
theorem ix_list : IxR X (rIxL X.K) := by
  intro value slice pins s σ H x y v u Q I rx ry h hs
  obtain ⟨p, xs, i, z, rfl, rfl, hq, he, q⟩ := h
  cases rx
  obtain ⟨t, rfl⟩ := ry
  obtain ⟨its, r, pl, hz⟩ := I.list hq
  obtain ⟨j, h1, h2, h3, h4, h5⟩ := atI_get he
  obtain ⟨w, ew, rw'⟩ := r.get h2
  have hl := r.length
  have hn := line63
  have fin : EP X pins σ Q w s := ⟨z, H, I, rw', q⟩
  by_cases h0 : 0 ≤ i
  · have hj : i.toNat = j := by
      rw [seqIndex_of h0 h5] at h1
      exact Option.some.inj h1
    exact item_listR pl.isList h0 (by omega) (by rw [hj]; simpa using ew) fin hs
  · have hj : (i + (its.toArray.size : Int)).toNat = j := by
      rw [seqIndex_neg (by omega) h4] at h1
      rw [List.size_toArray, ← hl]
      exact Option.some.inj h1
    exact subscriptTail_builtinR (x := w) pl.isList.typeIs slot_list_getitem.lookup
      (wpAny_getItem_list_neg (Q := fun r s' => r = w ∧ EP X pins σ Q r s') pl.isList (by omega) (by rw [List.size_toArray] <;> omega) (by omega) (by rw [hj]; simpa using ew) ⟨rfl, fin⟩) hs
theorem ix_tup : IxR X (rIxT X.K) := by
  intro value slice pins s σ H x y v u Q I rx ry h hs
  obtain ⟨p, xs, i, z, rfl, rfl, hq, he, q⟩ := h
  cases rx
  obtain ⟨t, rfl⟩ := ry
  obtain ⟨its, r, pl, hz⟩ := I.tuple hq
  obtain ⟨j, h1, h2, h3, h4, h5⟩ := atI_get he
  obtain ⟨w, ew, rw'⟩ := r.get h2
  have hl := r.length
  have hn := line63
  have fin : EP X pins σ Q w s := ⟨z, H, I, rw', q⟩
  exact subscriptTail_builtinR (x := w) pl.typeIs slot_tuple_getitem.lookup
    (getItem_tuple (j := j) (Q := fun r s' => r = w ∧ EP X pins σ Q r s') pl (by omega) (by omega) (by rw [List.size_toArray, ← hl]; exact h1) (by simpa using ew) ⟨rfl, fin⟩) hs
/-! ### xs[i] = v, any sign -/
/-- the list's object behind a store -/
theorem mapSeq_set (its : List Value) (n j : Nat) (u : Value) : Obj.mapSeq (·.setIfInBounds j u) { cls := .type "list", data := .seq its.toArray n } = { cls := .type "list", data := .seq (its.set j u).toArray n } := by
  simp [Obj.mapSeq]
theorem Inv.lst {pins : List (Addr × Obj)} {σ : St} {H : Hp} {s : Shared} {p : Addr} {xs : List V} (I : Inv X pins σ H s) (h : H p = some (.lst xs)) :
    ∃ (its : List Value) (n : Nat), Vals xs its ∧ s.heap.get? p = some { cls := .type "list", data := .seq its.toArray n } ∧ xs.length ≤ sizeLine := by
  obtain ⟨z, its, n, r, e⟩ := I.hok p _ h
  exact ⟨its, n, r, e, z⟩
/-- the list at p is written by an update of its object -/
theorem Inv.lstUpd {pins : List (Addr × Obj)} {σ : St} {H : Hp} {s : Shared} {p : Addr} {xs ys : List V} {its its' : List Value} {n n' : Nat} {f : Obj → Obj} (I : Inv X pins σ H s) (h : H p = some (.lst xs))
    (ho : s.heap.get? p = some { cls := .type "list", data := .seq its.toArray n }) (hf : f { cls := .type "list", data := .seq its.toArray n } = { cls := .type "list", data := .seq its'.toArray n' }) (r : Vals ys its') (hz : ys.length ≤ sizeLine) (t : Nat) :
    Inv X pins σ (upd H p (.lst ys)) { s with heap := s.heap.update p f, toks := t } := by
  have e : (s.heap.update p f).get? p = some { cls := .type "list", data := .seq its'.toArray n' } := by
    rw [Heap.get?_update_self f ho (by rw [hf] <;> rfl), hf]
  refine I.write (x := p) (e := p) (by rw [h]; trivial) (.inl rfl) (fun b u hb q => (Heap.get?_update_other _ _ (Ne.symm hb)).trans q) ⟨_, e⟩ ?_
  exact ⟨hz, its', n', r, e⟩
def rSetL : V → V → V → Hp → (Hp → Prop) → Prop := fun o i v H Q => ∃ p xs k j, o = .ref p ∧ i = .int k ∧ H p = some (.lst xs) ∧ ixN xs.length k = some j ∧ Q (upd H p (.lst (xs.set j v)))
theorem set_list : PSet X rSetL := by
  intro pins s σ H o i v ov iv u Q I ro ri rv h
  obtain ⟨p, xs, k, j, rfl, rfl, hp, hj, q⟩ := h
  cases ro
  obtain ⟨t, rfl⟩ := ri
  obtain ⟨its, n, r, ho, hz⟩ := I.lst hp
  obtain ⟨h1, h2, h3, h4⟩ := ixN_seq hj
  have hl := r.length
  have hn := line63
  have I' : Inv X pins σ (upd H p (.lst (xs.set j v))) { s with heap := s.heap.update p (Obj.mapSeq (·.setIfInBounds j u)) } :=
    I.lstUpd hp ho (mapSeq_set its n j u) (r.set rv j) (by rw [List.length_set]; exact hz) s.toks
  by_cases h0 : 0 ≤ k
  · have hk : k.toNat = j := by
      rw [seqIndex_of h0 h4] at h1
      exact Option.some.inj h1
    exact PySem.W.ki_setAt ho h0 (by omega) (by rw [List.size_toArray, ← hl]; exact h4) (by rw [hk]; exact ⟨_, I', q⟩)
  · have hk : (k + (its.toArray.size : Int)).toNat = j := by
      rw [seqIndex_neg (by omega) h3] at h1
      rw [List.size_toArray, ← hl]
      exact Option.some.inj h1
    exact PySem.W.ki_setBack ho (by omega) (by rw [List.size_toArray, ← hl]; exact h3) (by omega) (by rw [hk]; exact ⟨_, I', q⟩)

/-! ### slices -/
theorem slice_bounds (lo hi : Option Int) (n : Nat) : (sliceBounds lo hi none n).1 = ((HT.sIx n 0 lo : Nat) : Int) ∧ (sliceBounds lo hi none n).2.1 = ((HT.sIx n n hi : Nat) : Int) ∧ (sliceBounds lo hi none n).2.2 = 1 := by
  refine ⟨?_, ?_, rfl⟩
  · cases lo with
    | none => simp [sliceBounds, HT.sIx]
    | some i =>
      simp only [sliceBounds, HT.sIx, Option.getD_none, show (1 : Int) > 0 by decide, if_true]
      by_cases h : i < 0
      · simp only [h, if_true] <;> omega
      · simp only [h, if_false] <;> omega
  · cases hi with
    | none => simp [sliceBounds, HT.sIx]
    | some i =>
      simp only [sliceBounds, HT.sIx, Option.getD_none, show (1 : Int) > 0 by decide, if_true]
      by_cases h : i < 0
      · simp only [h, if_true] <;> omega
      · simp only [h, if_false] <;> omega
theorem slicePick_cut (its : List Value) (lo hi : Option Int) : slicePick its.toArray lo hi none = ((its.drop (HT.sIx its.length 0 lo)).take (HT.sIx its.length its.length hi - HT.sIx its.length 0 lo)).toArray := by
  obtain ⟨h1, h2, h3⟩ := slice_bounds lo hi its.toArray.size
  unfold slicePick
  rw [h1, h2, h3]
  simp only [sliceRange_one, pick_run, List.size_toArray] <;> rfl
/-- xs[lo:hi] of a list: a new list -/
def rSlL (K : PySem.W.Frag) : V → Option Int → Option Int → Hp → VK → Prop := fun x lo hi H Q => ∃ a xs, x = .ref a ∧ SqL K H a xs ∧ ∀ p, H p = none → Q (.ref p) (upd H p (.lst (cutV xs lo hi)))
theorem sl_list : SlR X (rSlL X.K) := by
  intro pins s σ H x v vl vu lo hi sl Q I rx hs pl pu h
  obtain ⟨a, xs, rfl, hx, q⟩ := h
  cases rx
  obtain ⟨its, r, ht, hz⟩ := I.list hx
  have hlen := r.length
  refine ⟨"list", _, slot_list_getitem.lookup, ht.isList.typeIs, ?_⟩
  refine wpAny_getItem_list_slice ht.isList hs pl pu .none (by simp) ?_ (by rw [List.size_toArray] <;> omega)
  rw [slicePick_cut, ← hlen]
  refine ⟨.ref s.heap.objs.size, _, I.laid (t' := s.toks) (o := .lst (cutV xs lo hi)) (fun b ob q => Heap.get?_push_of_some _ q) (Nat.le_refl _) ?_, rfl, q _ (I.hok.fresh (Nat.le_refl _))⟩
  exact ⟨Nat.le_trans (cutV_length xs lo hi) hz, _, 0, (r.drop (HT.sIx xs.length 0 lo)).take (HT.sIx xs.length xs.length hi - HT.sIx xs.length 0 lo), Heap.get?_push_size _ rfl⟩

/-! ### in, not in: flat items -/
/-! ### len, list(x), tuple(x) of any list or tuple that is read -/
theorem call_len_seq : CallR X (.builtin "len") (fun xs H Q => ∃ p ys, xs = [.ref p] ∧ (SqL X.K H p ys ∨ SqT X.K H p ys) ∧ Q (.int ys.length) H) := by
  intro pins s σ H xs us Q I r h
  obtain ⟨p, ys, rfl, hq, q⟩ := h
  obtain ⟨u, rfl, rx⟩ := vals1 r
  cases rx
  have hn := line63
  rcases hq with hq | hq
  · obtain ⟨its, r', pl, hz⟩ := I.list hq
    have hlen := r'.length
    exact Calls.call_len_list pl.isList (by simp only [List.size_toArray] <;> omega) ⟨.int ys.length, H, I.tok _, ⟨s.toks + 1, by rw [List.size_toArray, hlen]⟩, q⟩
  · obtain ⟨its, r', pl, hz⟩ := I.tuple hq
    have hlen := r'.length
    exact len_tuple pl (by simp only [List.size_toArray] <;> omega) ⟨.int ys.length, H, I.tok _, ⟨s.toks + 1, by rw [List.size_toArray, hlen]⟩, q⟩
theorem call_len_str : CallR X (.builtin "len") (fun xs H Q => ∃ z, xs = [.str z] ∧ z.length ≤ sizeLine ∧ Q (.int z.length) H) := by
  intro pins s σ H xs us Q I r h
  obtain ⟨z, rfl, hz, q⟩ := h
  obtain ⟨u, rfl, t, rfl⟩ := vals1 r
  have hn := line63
  exact len_str (by omega) ⟨.int z.length, H, I.tok _, ⟨_, rfl⟩, q⟩
theorem CallR.or {f : Value} {r r' : List V → Hp → VK → Prop} (h : CallR X f r) (h' : CallR X f r') : CallR X f (fun xs H Q => r xs H Q ∨ r' xs H Q) := by
  intro pins s σ H xs us Q I rs q
  rcases q with q | q
  · exact h pins s σ H xs us Q I rs q
  · exact h' pins s σ H xs us Q I rs q
theorem call_list_of : CallR X (.type "list") (fun xs H Q => ∃ p ys, xs = [.ref p] ∧ (SqL X.K H p ys ∨ SqT X.K H p ys) ∧ ∀ l, H l = none → Q (.ref l) (upd H l (.lst ys))) := by
  intro pins s σ H xs us Q I r h
  obtain ⟨p, ys, rfl, hq, q⟩ := h
  obtain ⟨u, rfl, rx⟩ := vals1 r
  cases rx
  have fin : ∀ (its : List Value), Vals ys its → ys.length ≤ sizeLine → ∀ (h' : Heap) (c' : Nat), (∀ b o', s.heap.get? b = some o' → h'.get? b = some o') →
      h'.get? s.heap.objs.size = some { cls := .type "list", dict := none, data := .seq its.toArray c', slots := #[] } → EP X pins σ Q (.ref s.heap.objs.size) { s with heap := h' } := fun its r' hz h' c' kp e =>
    ⟨.ref s.heap.objs.size, _, I.laid (t' := s.toks) kp (Nat.le_refl _) (show ObjOk X.prog X.w _ h' _ (.lst ys) from ⟨hz, its, c', r', e⟩), rfl, q _ (I.hok.fresh (Nat.le_refl _))⟩
  rcases hq with hq | hq
  · obtain ⟨its, r', pl, hz⟩ := I.list hq
    have hlen := r'.length
    obtain ⟨o, ho, hc, n, hd⟩ := pl.isList
    exact call_list_seq p (.inl rfl) ho hc hd (fun h' c' kp e => fin its r' hz h' c' kp e) (by simp only [List.size_toArray] <;> omega)
  · obtain ⟨its, r', pl, hz⟩ := I.tuple hq
    have hlen := r'.length
    obtain ⟨o, ho, hc, n, hd⟩ := pl
    exact call_list_seq p (.inr rfl) ho hc hd (fun h' c' kp e => fin its r' hz h' c' kp e) (by simp only [List.size_toArray] <;> omega)
/-! ### the call of a builtin's method: o.m(..) -/
/-- the value is of that builtin type -/
def tyV (K : PySem.W.Frag) (T : String) (x : V) (H : Hp) : Prop := match x with
  | .str _ => T = "str"
  | .int _ => T = "int"
  | .ref p => (T = "list" ∧ ∃ xs, SqL K H p xs) ∨ (T = "tuple" ∧ ∃ o, K.lookup p = some o ∧ o.cls = .type "tuple" ∧ o.dict = none) ∨
      (T = "dict" ∧ ((∃ kvs, H p = some (.dK kvs)) ∨ ∃ kvs, H p = some (.dT kvs))) ∨ (T = "set" ∧ ∃ S n, H p = some (.set S n))
  | _ => False
theorem tyV_is {pins : List (Addr × Obj)} {σ : St} {H : Hp} {s : Shared} {T : String} {x : V} {v : Value} (I : Inv X pins σ H s) (r : RelV x v) (ty : tyV X.K T x H) :
    s.TypeIs v T ∧ ∀ a, v = .ref a → ∃ ob, s.heap.get? a = some ob ∧ ob.dict = none := by
  cases x with
  | str z =>
    obtain ⟨t, rfl⟩ := r
    cases (show T = "str" from ty)
    exact ⟨typeIs_str s z t, fun _ e => nomatch e⟩
  | int i =>
    obtain ⟨t, rfl⟩ := r
    cases (show T = "int" from ty)
    exact ⟨typeIs_int s i t, fun _ e => nomatch e⟩
  | ref p =>
    cases r
    rcases ty with ⟨rfl, xs, hq⟩ | ⟨rfl, o, hk, hc, hd⟩ | ⟨rfl, hk⟩ | ⟨rfl, S, n, hk⟩
    · obtain ⟨its, _, pl, _⟩ := I.list hq
      refine ⟨pl.isList.typeIs, fun a e => ?_⟩
      cases e
      obtain ⟨o, n, e, c, hd, _⟩ := pl
      exact ⟨o, e, hd⟩
    · refine ⟨⟨o, I.kIn p o hk, hc⟩, fun a e => ?_⟩
      cases e
      exact ⟨o, I.kIn _ o hk, hd⟩
    · have z : ∃ o, s.heap.get? p = some o ∧ o.ExactDict := by
        rcases hk with ⟨kvs, hk⟩ | ⟨kvs, hk⟩
        · obtain ⟨_, _, _, _, o, _, _, e, ex, _⟩ := I.hok p _ hk
          exact ⟨o, e, ex⟩
        · obtain ⟨_, _, _, _, o, _, _, e, ex, _⟩ := I.hok p _ hk
          exact ⟨o, e, ex⟩
      obtain ⟨o, e, ex⟩ := z
      refine ⟨⟨o, e, ex.1⟩, fun a e2 => ?_⟩
      cases e2
      exact ⟨o, e, ex.2.1⟩
    · obtain ⟨o, _, _, _, e, ex, _⟩ := I.hok p _ hk
      refine ⟨⟨o, e, ex.1⟩, fun a e2 => ?_⟩
      cases e2
      exact ⟨o, e, ex.2.1⟩
  | _ => exact False.elim ty
def tBM (K : PySem.W.Frag) (T : String) (r : V → List V → Hp → VK → Prop) (to : TE) (t : TA) : TE := fun σ H Q => to σ H fun x H1 => tyV K T x H1 ∧ t σ H1 fun xs H2 => r x xs H2 Q
variable {o e : Expr} {es : List Expr} {to : TE} {t : TA} {name : Str} {apos cpos : Pos} {T id : String} {r : V → List V → Hp → VK → Prop}
theorem pe_bm (pa : PlainAttrs T) (slot : Slot T name id) (hty : typeOf (.builtin id) = pure (.type "method_descriptor")) (hm : MtR X id r) (ho : PE X o to) (ha : PA X (e :: es) t)
    (hbase : attributeBase o name X.env (eval o X.env) = eval o X.env := by rfl)
    (hfew : ((backTo cpos (starEach (e :: es) X.env)).all (fun x => !x.1) && (backToKw cpos (keywordEach [] X.env)).all (fun x => x.1.isSome)
      && decide ((e :: es).length + ([] : List Keyword).length + (if ([] : List Keyword).isEmpty then 0 else 1) < 30)) = true := by rfl)
    (hline : (apos.endLine == cpos.line) = true := by rfl) (hs : starEach (e :: es) X.env = (false, eval e X.env) :: starEach es X.env := by rfl) (hplain : (backTo cpos (starEach es X.env)).any (·.1) = false := by rfl) :
    PE X (.Call (.Attribute o name apos) (e :: es) [] cpos) (tBM X.K T r to t) := by
  intro pins s σ H Q I h
  refine wpAny_Call_method_late hbase hfew hline rfl (thn (ho pins s σ H _ I h) fun v s1 ⟨x, H1, I1, r1, ty, q1⟩ => ?_)
  obtain ⟨h1, h2⟩ := tyV_is I1 r1 ty
  refine ⟨T, id, pa, slot, hty, h1, h2, ?_⟩
  have hA := ha cpos pins s1 σ H1 _ I1 q1
  rw [hs] at hA ⊢
  refine Calls.callWith_builtin (by show (false || (backTo cpos (starEach es X.env)).any (·.1)) = false; rw [hplain] <;> rfl) (Calls.evalArgs_plain ?_)
  exact thn hA fun us s2 ⟨vs, H2, I2, r2, q2⟩ => hm pins s2 σ H2 x vs v us Q I2 r1 r2 q2
/- xs.append(e), list.index on a module's tuple .. are MtR facts of 06m -/
end
end L2

namespace L2
open PySem PySem.Spec PyProof.Rows

def MtM (X : Cx) (id : String) (r : V → List V → Hp → VK → Prop) : Prop :=
  ∀ (pins : List (Addr × Obj)) (s : Shared) (σ : St) (H : Hp) (x : V) (xs : List V) (v : Value) (us : List Value) (Q : VK), Inv X pins σ H s → RelV x v → Vals xs us → r x xs H Q →
    wpAny (model X.prog X.w) X.A (call (.builtin id) (v :: us)) (EP X pins σ Q) X.xe s

/-! ### lists of values -/
theorem Vals.one : ∀ {x : V} {us : List Value}, Vals [x] us → ∃ u, us = [u] ∧ RelV x u
  | _, _, .cons r .nil => ⟨_, rfl, r⟩
theorem Vals.two : ∀ {x y : V} {us : List Value}, Vals [x, y] us → ∃ u v, us = [u, v] ∧ RelV x u ∧ RelV y v
  | _, _, _, .cons r (.cons q .nil) => ⟨_, _, rfl, r, q⟩
theorem Vals.zero : ∀ {us : List Value}, Vals [] us → us = []
  | _, .nil => rfl
theorem Vals.reverse {xs : List V} {us : List Value} (h : Vals xs us) : Vals xs.reverse us.reverse := by
  induction h with
  | nil => exact .nil
  | cons r t ih => rw [List.reverse_cons, List.reverse_cons]; exact Vals.append ih (.cons r .nil)
theorem Vals.rep {xs : List V} {us : List Value} (h : Vals xs us) : ∀ k : Nat, Vals (List.replicate k xs).flatten (List.replicate k us).flatten
  | 0 => .nil
  | k + 1 => by
    rw [List.replicate_succ, List.replicate_succ, List.flatten_cons, List.flatten_cons]
    exact Vals.append h (Vals.rep h k)
theorem foldl_rep (its : List Value) : ∀ (k : Nat) (acc : List Value),
    List.foldl (fun x1 x2 => x1 ++ x2) acc.toArray (List.replicate k its.toArray) = (acc ++ (List.replicate k its).flatten).toArray
  | 0, acc => by simp
  | k + 1, acc => by
    have e : acc.toArray ++ its.toArray = (acc ++ its).toArray := by simp
    have e2 : (acc ++ its) ++ (List.replicate k its).flatten = acc ++ (List.replicate (k + 1) its).flatten := by
      rw [List.replicate_succ, List.flatten_cons, List.append_assoc]
    rw [← e2, ← foldl_rep its k (acc ++ its), ← e, List.replicate_succ, List.foldl_cons]

section
variable {X : Cx} {pins : List (Addr × Obj)} {σ : St} {H : Hp} {s : Shared} {l b : Addr} {xs ys zs : List V}

/-! ### the two steps: a tracked list is rewritten, a new list is laid -/
theorem Inv.lset {its its' : List Value} {n : Nat} {f : Array Value → Array Value} {t' : Nat} (I : Inv X pins σ H s) (hH : H l = some (.lst xs))
    (e : s.heap.get? l = some { cls := .type "list", data := .seq its.toArray n }) (hf : f its.toArray = its'.toArray) (hv : Vals ys its') (hz : ys.length ≤ sizeLine) :
    Inv X pins σ (upd H l (.lst ys)) { s with heap := s.heap.update l (Obj.mapSeq f), toks := t' } := by
  have q := PySem.IsL.update e f
  rw [hf] at q
  refine I.write (x := l) (e := l) (by rw [hH]; exact trivial) (.inl rfl) (fun b' u hb hu => (Heap.get?_update_other s.heap (Obj.mapSeq f) (Ne.symm hb)).trans hu) ⟨_, q⟩ ?_
  exact ⟨hz, its', _, hv, q⟩
theorem Inv.lnew {its : List Value} {t' : Nat} (I : Inv X pins σ H s) (hv : Vals ys its) (hz : ys.length ≤ sizeLine) :
    Inv X pins σ (upd H s.heap.objs.size (.lst ys)) { s with heap := s.heap.push { cls := .type "list", data := .seq its.toArray }, toks := t' } :=
  I.laid (fun _ _ q => Heap.get?_push_of_some _ q) (Nat.le_refl _) ⟨hz, its, 0, hv, Heap.get?_push_size _ rfl⟩
theorem Inv.fresh (I : Inv X pins σ H s) : H s.heap.objs.size = none := I.hok.fresh (Nat.le_refl _)
theorem Inv.lstM (I : Inv X pins σ H s) (hH : H l = some (.lst xs)) : xs.length ≤ sizeLine ∧ ∃ (its : List Value) (n : Nat), Vals xs its ∧ xs.length = its.length ∧ s.heap.get? l = some { cls := .type "list", data := .seq its.toArray n } := by
  obtain ⟨z, its, n, r, e⟩ := I.hok l _ hH
  exact ⟨z, its, n, r, r.length, e⟩

theorem notLongL {n : Nat} (h : n ≤ sizeLine) : Builtin.List.listTooLong n = false := by
  unfold Builtin.List.listTooLong
  exact decide_eq_false (by omega)
end

section
variable {X : Cx}

/-! ### methods -/
def rAppend : V → List V → Hp → VK → Prop := fun x vs H Q => ∃ l xs y, x = .ref l ∧ vs = [y] ∧ H l = some (.lst xs) ∧ xs.length < sizeLine ∧ Q .non (upd H l (.lst (xs ++ [y])))
theorem mt_append : MtM X "list.append" rAppend := by
  intro pins s σ H x vs v us Q I rx rv h
  obtain ⟨l, xs, y, rfl, rfl, hH, hz, q⟩ := h
  cases rx
  obtain ⟨u, rfl, ru⟩ := rv.one
  obtain ⟨z, its, n, r, hl, e⟩ := I.lstM hH
  refine call_meets F.slot_list_append ⟨_, e, rfl⟩ F.entry_list_append (F.args_list_append_2 _ _) (PySem.list_append l its.toArray n u (by rw [List.size_toArray]; omega)) ⟨e, ?_⟩
  refine ⟨.non, _, I.lset (its' := its ++ [u]) hH e (by simp) (r.append (.cons ru .nil)) ?_, rfl, q⟩
  rw [List.length_append, List.length_singleton]
  omega

/-! ### list + list, list += list, list * int -/
def rCat : R2 := fun x y H Q => ∃ l b xs zs, x = .ref l ∧ y = .ref b ∧ H l = some (.lst xs) ∧ H b = some (.lst zs) ∧ xs.length + zs.length ≤ sizeLine ∧ ∀ p, H p = none → Q (.ref p) (upd H p (.lst (xs ++ zs)))
theorem op_cat : OpR X (binaryOp .Add) rCat := by
  intro pins s σ H x y v u Q I rx ry h
  obtain ⟨l, b, xs, zs, rfl, rfl, hH, hB, hz, q⟩ := h
  cases rx
  cases ry
  obtain ⟨z, its, n, r, hl, e⟩ := I.lstM hH
  obtain ⟨z2, its2, n2, r2, hl2, e2⟩ := I.lstM hB
  refine PySem.P.add_list e e2 ?_ (by rw [List.size_toArray, List.size_toArray]; omega)
  have ea : its.toArray ++ its2.toArray = (its ++ its2).toArray := by simp
  rw [ea]
  exact ⟨.ref _, _, I.lnew (t' := s.toks) (r.append r2) (by rw [List.length_append]; omega), rfl, q _ I.fresh⟩
/-- a list times an int (a negative one is nothing) -/
def rRep : R2 := fun x y H Q => ∃ l k xs, x = .ref l ∧ y = .int k ∧ H l = some (.lst xs) ∧ -(2 ^ 63) ≤ k ∧ k < 2 ^ 63 ∧ xs.length * k.toNat ≤ sizeLine ∧
  ∀ p, H p = none → Q (.ref p) (upd H p (.lst (List.replicate k.toNat xs).flatten))
theorem len_rep {α : Type} (xs : List α) (k : Nat) : (List.replicate k xs).flatten.length = k * xs.length := by
  induction k with
  | zero => simp
  | succ k ih => rw [List.replicate_succ, List.flatten_cons, List.length_append, ih, Nat.succ_mul, Nat.add_comm]
theorem op_rep : OpR X (binaryOp .Mult) rRep := by
  intro pins s σ H x y v u Q I rx ry h
  obtain ⟨l, k, xs, rfl, rfl, hH, h1, h2, hz, q⟩ := h
  cases rx
  obtain ⟨t, rfl⟩ := ry
  obtain ⟨z, its, n, r, hl, e⟩ := I.lstM hH
  have hlen : its.toArray.size * k.toNat ≤ sizeLine := by rw [List.size_toArray, ← hl]; exact hz
  have hcap : ¬ its.toArray.size * k.toNat > (2 ^ 63 - 1) / 8 := by
    have : (sizeLine : Nat) ≤ (2 ^ 63 - 1) / 8 := by decide
    omega
  have hfit : ¬ (!Builtin.List.listFitsIndex k) = true := by
    rw [fitsIndex_both h1 h2]
    exact Bool.false_ne_true
  have hlong : ¬ Builtin.List.listTooLong (its.toArray.size * k.toNat) = true := by
    rw [notLongL hlen]
    exact Bool.false_ne_true
  have hnew : List.foldl (fun x1 x2 => x1 ++ x2) #[] (List.replicate (if its.toArray.isEmpty = true then 0 else k.toNat) its.toArray) = (List.replicate k.toNat its).flatten.toArray := by
    have f0 : ∀ m : Nat, List.foldl (fun x1 x2 => x1 ++ x2) #[] (List.replicate m its.toArray) = (List.replicate m its).flatten.toArray := fun m => by
      have := foldl_rep its m []
      rw [List.nil_append] at this
      exact this
    rw [f0]
    cases its with
    | nil => simp
    | cons a r' => rw [if_neg (by simp)]
  refine wpAny_binaryOp_repeat_ref (T := "list") (U := "int") (by decide) ⟨_, e, rfl⟩ (fun s' => typeIs_int s' k t) noFill_list_mul F.fills_int_mul F.slot_int_rmul repeat_list F.slot_int_index.lookup
    (call_meets F.slot_int_rmul (typeIs_int s k t) F.entry_int_rmul (F.args_int_rmul_2 _ _) (int___rmul___int_list k t l its.toArray n)
      ⟨e, rfl, ⟨_, e, rfl⟩, call_meets F.slot_list_mul ⟨_, e, rfl⟩ F.entry_list_mul (F.args_list_mul_2 _ _) (AutoListH.list___mul___list_int_3 l its.toArray n k t hfit hcap hlong) ⟨e, ?_⟩⟩)
  rw [hnew]
  exact ⟨.ref _, _, I.lnew (t' := s.toks) (r.rep k.toNat) (by rw [len_rep, Nat.mul_comm]; exact hz), rfl, q _ I.fresh⟩

/-! ### del xs[i] -/
end

/-! ### xs[a:b] = ys -/
section
variable {prog : Program} {w : World} {A : Around} {E : Value → Shared → Prop} {s : Shared}
set_option maxRecDepth 100000 in
end

section
variable {X : Cx}
end
end L2

namespace Att
open PySem PySem.W PySem.Calls PyProof.Rows

/-! ### the script -/
theorem ints_of_wellAll {P : Params} {h : Heap} : ∀ (ns : List Int) (vs : List Value), WellAll P h vs (ns.map WData.int) → IntsAre vs ns := by
  intro ns
  induction ns with
  | nil =>
    intro vs w
    rw [List.map_nil] at w
    cases w
    exact .nil
  | cons n ns ih =>
    intro vs w
    rw [List.map_cons] at w
    cases w with
    | cons a b =>
      cases a
      exact .cons _ _ (ih _ b)

theorem script_of {l : OpenLaw} {n : Nat} (hn : l.most = some n) {P : Params} {h : Heap} {args : List WData} {vals : List Value}
    (hpre : l.row.toRowW.claim.pre args = true) (hwl : WellAll P h vals args) :
    ∃ a vs ns, vals = [Value.ref a] ∧ args = [WData.list (ns.map WData.int)] ∧ h.get? a = some { cls := .type "list", data := .seq vs.toArray } ∧ IntsAre vs ns ∧ ns.length ≤ n := by
  have hsh : WShape.hasAll [] args [.list .int] = true := (pre_splitW hpre).1
  have hc : l.pre.holds [] { args := args } = true := (pre_splitW hpre).2
  obtain ⟨d, r, rfl, h1, h2⟩ := hasAllW_cons hsh
  obtain rfl := hasAllW_nil h2
  obtain ⟨xs, rfl, h3⟩ := hasW_list h1
  obtain ⟨ns, rfl⟩ := items_int h3
  have hlen : ns.length ≤ n := by
    unfold OpenLaw.pre at hc
    have h4 : (WTm.not (.lt (.lit (.int (n : Int))) (.len (.arg 0)))).holds [] { args := [.list (ns.map .int)] } = true := by
      have h4 := (holds_andW hc).1
      rw [hn] at h4
      exact h4
    have h5 := condW_of h4 (w_not (w_lt w_lit (w_len_list (w_arg rfl))))
    rw [List.length_map] at h5
    refine Nat.le_of_not_lt fun q => ?_
    have q' : (n : Int) < ((ns.length : Nat) : Int) := by omega
    first
      | (rw [decide_eq_true q'] at h5; exact absurd h5 (by decide))
      | (simp at h5; omega)
  cases hwl with
  | cons w1 w2 =>
    cases w2
    cases w1 with
    | list ho hall => exact ⟨_, _, ns, rfl, rfl, ho, ints_of_wellAll ns _ hall, hlen⟩

theorem post_true (l : OpenLaw) (args : List WData) : l.row.toRowW.claim.post args (.bool true) args = true :=
  postW_of (r := l.row.toRowW) (X := (true == true))
    (show WShape.has [] (.bool true) .bool = true by first | rfl | decide | simp [WShape.has, WShape.arms, WShape.armsAll])
    (show (WTm.eq .res (.lit (.bool true))).value [] { args := args, res := some (.bool true), after := args } = some (.bool (true == true)) from w_eq_bool (w_res rfl) w_lit) rfl

/-! ### the attachment: holds_open's last premise (the goal 'hc' behind k_head) from a wpAny of the law's body -/
/-- the same from a codeAny of the CALL (for a layer whose function contracts speak of calls) -/
theorem attach_call {l : OpenLaw} {n : Nat} {q : Program} {loose : List Str} {XP : (Str → Option Value) → Heap → Prop} {YP : World → Heap → Prop} {d : DefRec}
    (hn : l.most = some n) (hdf : d.params.defaults = [])
    (call : ∀ (w : World) (s₀ s₁ : Shared) (mg mb : Str → Option Value) (fa : Addr) (o : Obj) (pm cd doc : Value) (a : Addr) (vs : List Value) (ns : List Int),
      Ground q loose [] XP w s₀ mg mb s₁.heap → YP w s₁.heap →
      s₁.heap.get? fa = some o → o.data = .func (docDef d.name d.params d.body d.scope pm cd doc) → s₁.heap.CodeRec cd d.name → mg d.name = some (.ref fa) →
      s₁.heap.get? a = some { cls := .type "list", data := .seq vs.toArray } → IntsAre vs ns → ns.length ≤ n → s₁.gens = #[] →
      codeAny (model l.prog w) callerA (.call (.ref fa) ⟨[.ref a], []⟩) (fun r s' => r = .ok (.ret (.bool true)) ∧ OldK s₁.heap s'.heap ∧ s'.os = s₁.os ∧ AllBare s'.gens) s₁) :
    WalkO q loose XP YP l.row.toRowW d [] (fun f vs => PySem.call f vs) := by
  intro w s₀ s₁ mg mb G Y fa o pm cd doc dV kV ho hd hcd hD hmg hg args vals as hpre hlay hrd hwl hlo
  obtain rfl : dV = .none := Dflts.none hD hdf
  obtain rfl : kV = .none := Dflts.noKw hD
  obtain ⟨a, vs, ns, rfl, rfl, hobj, hints, hlen⟩ := script_of hn hpre hwl
  refine enter_call (codeAny_mono (call w s₀ s₁ mg mb fa o pm cd doc a vs ns G Y ho (fd_plain hd) hcd hmg hobj hints hlen hg) fun r s' hq => ?_)
  obtain ⟨rfl, h2, h3, h4⟩ := hq
  exact ⟨.inl ⟨.bool true, .bool true, [], rfl, fun _ => rfl, .bool true, post_true l _, fun _ => ⟨List.Pairwise.nil, fun _ hm => (nomatch hm)⟩⟩, h2, h3, h4⟩

/-! ### rules over ANY heap (no ledger) from facts about the written part K: the library's own take a ledger (News) for what they write -/
section
variable {prog : Program} {w : World} {A : Around} {E : Value → Shared → Prop} {s : Shared} {K : Frag}

/-! the whole heap as the ledger: makes every rule that writes through a ledger a rule over any heap -/
def ledger (h : Heap) (L d : Addr) : List (Addr × Obj) := (List.range h.objs.size).filterMap fun a => if a = L ∨ a = d then none else (h.get? a).map fun o => (a, o)
end
end Att

namespace L2
open PySem PySem.Spec PyProof.Rows

theorem vals_ints : ∀ {vs : List Value} {ns : List Int}, IntsAre vs ns → Vals (ns.map V.int) vs
  | _, _, .nil => .nil
  | _, _, .cons n t h => .cons ⟨t, rfl⟩ (vals_ints h)

/-- nothing is tracked but the script, known to the object (or it is an object of the module) -/
def Only (H : Hp) : Prop := ∀ b, H b = none ∨ ∃ o xs, H b = some (.frz o (.lst xs))

/-- THE HEAD: the law's promise, at the heap behind the top. F, the promise of the law's def, may use that base is part of the heap (so K.In base, base.Ns mainGlobals mg stand in Mod) -/
theorem law_call {P : Program} {w : World} {K : PySem.W.Frag} {mg mb : Str → Option Value} {CX : CXT} {k : Nat} {fa a : Addr} {fd : FuncData} {x : Str} {sp : Sp} {s₁ : Shared} {vs : List Value} {ns : List Int}
    (KX : K.In s₁.heap) (hns : s₁.heap.Ns mainGlobals mg) (hb : s₁.heap.Ns builtinsNs mb) (hbb : ∀ x : Str, x ≠ "__name__" → mb x = bootBuiltins x) (hlim : s₁.heap.NoLimit) (hg : s₁.gens = #[])
    (ha : s₁.heap.get? a = some { cls := .type "list", data := .seq vs.toArray }) (hi : IntsAre vs ns) (hl : ns.length ≤ sizeLine) (hr : Room k callerA)
    (F : ∀ base : Heap, K.In base → base.Ns mainGlobals mg → FnOk P w K mg base CX k fa fd [x] sp) (hbind : ∀ (s : Shared) (u : Value), BindsTo s fd ⟨[u], []⟩ [(x, u)])
    (hsp : ∀ H : Hp, Only H → SqL K H a (ns.map V.int) → sp [.ref a] H (fun v _ => v = .bl true) fun _ _ _ => False)
    (hCX : ∀ H e s', CX [] H s₁ (fun _ _ _ => False) e s' → False) :
    codeAny (model P w) callerA (.call (.ref fa) ⟨[.ref a], []⟩) (fun r s' => r = .ok (.ret (.bool true)) ∧ OldK s₁.heap s'.heap ∧ s'.os = s₁.os ∧ AllBare s'.gens) s₁ := by
  have rv := vals_ints hi
  have lenV := hi.length
  -- from an abstract heap in which nothing but the script may be tracked
  have core : ∀ H : Hp, Only H → SqL K H a (ns.map V.int) → HOk P w H s₁.heap → (∀ b, H b ≠ none → b = a) → (H a ≠ none → K.lookup a = none) →
      codeAny (model P w) callerA (.call (.ref fa) ⟨[.ref a], []⟩) (fun r s' => r = .ok (.ret (.bool true)) ∧ OldK s₁.heap s'.heap ∧ s'.os = s₁.os ∧ AllBare s'.gens) s₁ := by
    intro H hO hS hok hA hK
    have base_of : ∀ {b : Addr} {o : Obj}, s₁.heap.get? b = some o → H b = none → (hidT s₁.heap H).get? b = some o := fun e n => hidT_get e n
    have noA : ∀ {b : Addr} {o : Obj} {es : Array DictEntry} {ep : Nat}, s₁.heap.get? b = some o → o.data = .dict es ep → H b = none := fun {b o es ep} e d => by
      cases q : H b with
      | none => rfl
      | some u =>
        have e' : b = a := hA b (by rw [q]; simp)
        subst e'
        rw [ha] at e; cases e
        have d' : Data.seq vs.toArray _ = Data.dict es ep := d
        cases d'
    have nsK : ∀ {b : Addr} {m : Str → Option Value}, s₁.heap.Ns b m → (hidT s₁.heap H).Ns b m := fun {b m} ⟨o, es, ep, e, d, r⟩ => ⟨o, es, ep, base_of e (noA e d), d, r⟩
    have hKb : K.In (hidT s₁.heap H) := fun b o e => base_of (KX b o e) (by
      cases q : H b with
      | none => rfl
      | some u =>
        have e' : b = a := hA b (by rw [q]; simp)
        subst e'
        rw [hK (by rw [q]; simp)] at e; cases e)
    have hM : Mod K mg (hidT s₁.heap H) := ⟨hKb, nsK hns, ⟨mb, nsK hb, hbb⟩, let ⟨mc, h1, h2⟩ := hlim; ⟨mc, nsK h1, h2⟩⟩
    have e0 : Env0 P w K mg (hidT s₁.heap H) callerA [] s₁ H := ⟨rfl, hM, fun b o e => of_hidT e, Nat.le_of_eq (hidT_size _ _), trivial, fun b hb => absurd (show b ∈ ([] : List Addr) from hb) (by simp), hok, .of_eq hg⟩
    refine codeAny_mono ((F _ hKb (nsK hns)).run callerA [] s₁ H ⟨[.ref a], []⟩ [.ref a] [.ref a] _ _ hr e0 (hbind s₁ (.ref a)) (.cons rfl .nil) (hsp H hO hS)) fun r s' h => ?_
    cases r with
    | error e => exact (hCX H e s' h).elim
    | ok fl =>
      cases fl with
      | next => exact False.elim h
      | brk => exact False.elim h
      | cont => exact False.elim h
      | ret u =>
        obtain ⟨v, H', os, bare, un, hok', r', q⟩ := h
        have q' : v = .bl true := q
        subst q'
        obtain rfl : u = Value.bool true := r'
        refine ⟨rfl, OldK.of_keep fun b o e => ?_, os, bare⟩
        cases q : H b with
        | none => exact un.keep b o e q (by intro z; exact absurd (show b ∈ ([] : List Addr) from z) (by simp)) (by simp)
        | some u =>
          rcases hO b with z | ⟨ob, xs, z⟩
          · rw [q] at z; cases z
          · have z2 := un.frzs b ob _ z
            obtain ⟨e1, _⟩ := hok b _ z
            obtain ⟨e2, _⟩ := hok' b _ z2
            rw [e] at e1; cases e1
            exact e2
  cases hk : K.lookup a with
  | some o =>
    -- the script is one of the module's own objects
    have e := KX a o hk
    rw [ha] at e
    cases e
    refine core (fun _ => none) (fun _ => .inl rfl) (.inr ⟨_, vs.toArray, _, hk, rfl, rfl, rfl, by rw [List.size_toArray, lenV]; exact hl, by simpa using rv⟩) (fun b u z => by have z' : (none : Option HO) = some u := z; cases z') (fun b z => absurd rfl z) fun z => absurd rfl z
  | none =>
    refine core (fun b => if b = a then some (.frz { cls := .type "list", data := .seq vs.toArray } (.lst (ns.map V.int))) else none) (fun b => ?_) (.inl (.inr ⟨{ cls := .type "list", data := .seq vs.toArray }, if_pos rfl⟩)) (fun b u z => ?_) (fun b z => ?_) fun _ => hk
    · by_cases hb : b = a
      · exact .inr ⟨_, _, if_pos hb⟩
      · exact .inl (if_neg hb)
    · by_cases hb : b = a
      · have z' := (if_pos hb).symm.trans z
        cases z'
        subst hb
        exact ⟨ha, by rw [List.length_map]; exact hl, vs, _, rv, ha⟩
      · have z' := (if_neg hb).symm.trans z
        cases z'
    · by_cases hb : b = a
      · exact hb
      · exact absurd (if_neg hb) z
end L2

namespace L2
open PySem PySem.Spec PyProof.Rows

abbrev KOf {K : PySem.W.Frag} {h : Heap} (_ : K.In h) : PySem.W.Frag := K

/-- the goal that k_head leaves (case hc), from the law's promise. F gives the function object fd (K's own) once, then the promise over every base -/
theorem walk_of {l : PySem.W.OpenLaw} {n k : Nat} {q : Program} {loose : List Str} {XP : (Str → Option Value) → Heap → Prop} {YP : World → Heap → Prop} {d : DefRec} {K : Params → PySem.W.Frag} {CX : World → CXT} {sp : World → Sp} {x : Str}
    (hn : l.most = some n) (hn2 : n ≤ sizeLine) (hdf : d.params.defaults = []) (hr : Room k callerA)
    (hY : ∀ (w : World) (h : Heap), YP w h → (K w.params).In h)
    (F : ∀ (w : World) (mg : Str → Option Value) (fa : Addr) (h : Heap), (K w.params).In h → h.Ns mainGlobals mg → mg d.name = some (.ref fa) →
      ∃ fd : FuncData, (∀ (s : Shared) (u : Value), BindsTo s fd ⟨[u], []⟩ [(x, u)]) ∧
        ∀ base : Heap, (K w.params).In base → base.Ns mainGlobals mg → FnOk l.prog w (K w.params) mg base (CX w) k fa fd [x] (sp w))
    (hsp : ∀ (w : World) (H : Hp) (a : Addr) (ns : List Int), ns.length ≤ n → Only H → SqL (K w.params) H a (ns.map V.int) → sp w [.ref a] H (fun v _ => v = .bl true) fun _ _ _ => False)
    (hCX : ∀ (w : World) (H : Hp) (s : Shared) (e : Value) (s' : Shared), CX w [] H s (fun _ _ _ => False) e s' → False) :
    PySem.W.WalkO q loose XP YP l.row.toRowW d [] (fun f vs => PySem.call f vs) := by
  refine Att.attach_call hn hdf fun w s₀ s₁ mg mb fa o pm cd doc a vs ns G Y ho hd hcd hmg hobj hints hlen hg => ?_
  have KX := hY w _ Y
  obtain ⟨fd, hb, hF⟩ := F w mg fa _ KX G.T.g hmg
  exact law_call KX G.T.g G.T.b G.T.builtins G.T.nolimit hg hobj hints (Nat.le_trans hlen hn2) hr hF hb (fun H hO hS => hsp w H a ns hlen hO hS) fun H e s' => hCX w H s₁ e s'
end L2

/- THE LAST THEOREM (shape; LID, My.* are yours):
   My.Adr: a structure of the addresses that your layer names (classes, functions); My.Txt K t: a structure (Prop) of the equations over K;
   My.txt_mk : {K} {implicit addresses ..} (e1 : nsIn K mainGlobals "law" = some (some (.ref f))) (e2 : K.lookup f = some ⟨oc, od, .func (fnOf "law" "law" params body scope dV kV doc pm an cdv ct), sl⟩) (e3 : codeIn K cdv "law" = true) .. : ∃ t, My.Txt K t

set_option maxRecDepth 100000 in
set_option maxHeartbeats 0 in
theorem PySem.Challenge.cw_LID_holds : PySem.Challenge.rw_LID.Holds := by
  w_on; o_law; k_head; (case hw => w_witness2)
  k_fill
  refine L2.walk_of (l := PySem.Challenge.rw_LID) (n := 63) (k := 40) (x := "script") (CX := fun w => ..) (sp := fun _ => My.sp_law) rfl (by decide) rfl ⟨rfl, by decide, by decide⟩ (fun w h Y => PySem.W.kIn_of Y) ?F ?S ?C
  case F =>
    intro w mg fa h KX G hmg
    have T : ∃ t, My.Txt (L2.KOf KX) t := by
      dsimp only [L2.KOf]                          -- K must stand as «<heap const> w.params» for k_is
      refine' My.txt_mk ?e1 ?e2 ?e3 ..
      (case e1 => PySem.W.k_is)                    -- in the order: a name -> its address -> its object -> its parts
      (case e2 => PySem.W.k_is)
      ..
    obtain ⟨t, T⟩ := T
    have e0 := hmg.symm.trans (PySem.W.mg_of KX G T.law)
    cases e0                                       -- fa is the law's own address
    exact ⟨_, fun s u => .of_eq rfl, fun base kb nb => My.law_fn T kb nb⟩     -- if «.of_eq rfl» comes too early: refine' ⟨_, ?b, fun base kb nb => My.law_fn T kb nb⟩; exact fun s u => .of_eq rfl
  case S => exact fun w H a ns hl hO hS => ..
  case C => exact ..
(the tactic k_is has no namespace: write k_is) -/

/-! SHORT WORDS over the layer: a def of the text, its body, what a loop and a test want. -/
namespace L2
open PySem PySem.Spec PyProof.Rows

/-! ### the text by places -/
def defArgs (s : Stmt) : Arguments := match s with
  | .FunctionDef _ a _ _ _ _ _ _ _ _ => a
  | _ => { posonlyargs := [], args := [], vararg := none, kwonlyargs := [], kw_defaults := [], kwarg := none, defaults := [] }
def defBody (s : Stmt) : List Stmt := match s with
  | .FunctionDef _ _ b _ _ _ _ _ _ _ => b
  | _ => []
def defScope (s : Stmt) : Scope := match s with
  | .FunctionDef _ _ _ _ _ _ sc _ _ _ => sc
  | _ => { kind := .function, names := [], isGenerator := false, isCoroutine := false }

/-! ### no exception leaves a def -/
abbrev CX0 : CXT := fun _ _ _ _ _ _ => False
abbrev E0 : XK := fun _ _ _ => False
/-! ### a def (or method) of the text as it stands behind the top -/
structure Fun (K : PySem.W.Frag) (x qual : Str) (st : Stmt) (f : Addr) (fd : FuncData) : Prop where
  ex : ∃ (oc : Value) (od : Option Addr) (kV doc pm : Value) (an : Option Addr) (cdv ct : Value) (osl : Array (Option Value)),
    fd = PySem.W.fnOf x qual (defArgs st) (defBody st) (defScope st) .none kV doc pm an cdv ct ∧ K.lookup f = some ⟨oc, od, .func fd, osl⟩ ∧ PySem.W.codeIn K cdv qual = true
  kp : PySem.W.keepIn K (.ref f) = true
section
variable {P : Program} {w : World} {K : PySem.W.Frag} {mg : Str → Option Value} {base : Heap}
/-- THE RULE for a def: its body as a term of rules, and the reading of that term -/
theorem Fun.ok {x qual : Str} {st : Stmt} {f : Addr} {fd : FuncData} {N ps : List Str} {k : Nat} {sp : Sp} (F : Fun K x qual st f fd) (S : FnScope N ps (defScope st)) (len : ∀ vs H Q E, sp vs H Q E → vs.length = ps.length)
    (hbody : ∀ (cdv : Value) (A : Around) (outer : List Env) (s : Shared) (H : Hp) (vs : List V) (Q : VK) (E : XK), Room k (A.deeper (envOfC qual (defScope st) s.heap.objs.size f cdv)) → sp vs H Q E →
      ∃ t, PSs (cxOf CX0 P w K mg base N qual (defScope st) f cdv A outer s H E).nox (defBody st) t ∧ t { nx := fun _ H' => Q .non H', rt := Q } (start N vs) H) : FnOk P w K mg base CX0 (k + 1) f fd ps sp := by
  obtain ⟨oc, od, kV, doc, pm, an, cdv, ct, osl, rfl, lk, hcd⟩ := F.ex
  refine fn_of lk hcd S len fun A outer s H vs Q E hr hsp => ?_
  obtain ⟨t, h, q⟩ := hbody cdv A outer s H vs Q E hr hsp
  exact ⟨t, h.nox, q⟩
/-- how its arguments bind (no defaults): h is «fun _ _ _ _ _ _ us hl => match us, hl with | [_, _], _ => rfl», one _ a parameter -/
theorem Fun.binds {x qual : Str} {st : Stmt} {f : Addr} {fd : FuncData} {ps : List Str} (F : Fun K x qual st f fd)
    (h : ∀ (kV doc pm : Value) (an : Option Addr) (cdv ct : Value) (us : List Value), us.length = ps.length → bindArgs (PySem.W.fnOf x qual (defArgs st) (defBody st) (defScope st) .none kV doc pm an cdv ct) ⟨us, []⟩ = pure (ps.zip us)) : Binds K fd ps [] := by
  obtain ⟨oc, od, kV, doc, pm, an, cdv, ct, osl, rfl, lk, hcd⟩ := F.ex
  exact .all (h kV doc pm an cdv ct)
theorem fun_mk {x qual : Str} {st : Stmt} {f : Addr} {oc : Value} {od an : Option Addr} {osl : Array (Option Value)} {kV doc pm cdv ct : Value} (l : K.lookup f = some ⟨oc, od, .func (PySem.W.fnOf x qual (defArgs st) (defBody st) (defScope st) .none kV doc pm an cdv ct), osl⟩)
    (c : PySem.W.codeIn K cdv qual = true) (k : PySem.W.keepIn K (.ref f) = true) : Fun K x qual st f (PySem.W.fnOf x qual (defArgs st) (defBody st) (defScope st) .none kV doc pm an cdv ct) := ⟨⟨oc, od, kV, doc, pm, an, cdv, ct, osl, rfl, l, c⟩, k⟩
end
/-! ### expressions in short: the name that stands in the i-th slot -/
section
variable {X : Cx}
end

/-! ### tests -/
/-! ### heaps -/
/-- all that was tracked is as it was -/
def Same (H H' : Hp) : Prop := ∀ b o, H b = some o → H' b = some o
theorem Same.refl (H : Hp) : Same H H := fun _ _ h => h
theorem Same.trans {H H1 H2 : Hp} (a : Same H H1) (b : Same H1 H2) : Same H H2 := fun c o h => b c o (a c o h)
theorem Same.free {H H' : Hp} (e : Same H H') {l : Addr} (h : H' l = Option.none) : H l = Option.none := by
  cases q : H l with
  | none => rfl
  | some o =>
    rw [e l o q] at h
    cases h
theorem Same.seq {K : PySem.W.Frag} {H H' : Hp} {a : Addr} {xs : List V} (e : Same H H') (h : SqL K H a xs) : SqL K H' a xs := by
  rcases h with (h | ⟨o, h⟩) | h
  · exact .inl (.inl (e _ _ h))
  · exact .inl (.inr ⟨o, e _ _ h⟩)
  · exact .inr h

end L2

set_option Elab.async false
set_option linter.all false
set_option maxRecDepth 100000
namespace L2
open PySem PySem.Spec PyProof.Rows

/-! ### an object that was made here and not told of is tracked from now on -/
section
variable {X : Cx} {pins : List (Addr × Obj)} {σ : St} {H : Hp} {s : Shared}
theorem Inv.track {a : Addr} {o : HO} (I : Inv X pins σ H s) (hn : H a = none) (h0 : X.s₀.heap.get? a = none) (hL : a ≠ X.env.locals) (hc : ∀ x c, X.env.cells.lookup x = some c → c ≠ a)
    (hp : ∀ p ∈ X.pn ++ pins, p.1 ≠ a) (new : ObjOk X.prog X.w (upd H a o) s.heap a o) : Inv X pins σ (upd H a o) s := by
  have ne : ∀ b u, H b = some u → b ≠ a := fun b u e z => by rw [z, hn] at e; cases e
  have ne0 : ∀ b u, X.s₀.heap.get? b = some u → b ≠ a := fun b u e z => by rw [z, h0] at e; cases e
  refine ⟨I.ok, I.os, I.bare, ⟨I.base.keep, I.base.slot, fun b u e n hx => ?_, I.base.there, fun b xs e => ?_, fun b u xs e => ?_, fun b ps e => ?_⟩, I.loc, I.cell, ?_, fun x c e => ?_, fun p hp' => ?_, fun b u e => ?_, I.len⟩
  · rw [upd_ne (ne0 b u e)]; exact I.base.free b u e n hx
  · have q := I.base.tups b xs e
    rw [upd_ne (ne _ _ q)]; exact q
  · have q := I.base.frzs b u xs e
    rw [upd_ne (ne _ _ q)]; exact q
  · obtain ⟨m, q⟩ := I.base.tbls b ps e
    exact ⟨m, by rw [upd_ne (ne _ _ q)]; exact q⟩
  · rw [upd_ne (Ne.symm hL)]; exact I.free
  · rw [upd_ne (hc x c e)]; exact I.freeC x c e
  · obtain ⟨e, n, r⟩ := I.pin p hp'
    exact ⟨e, by rw [upd_ne (hp p hp')]; exact n, r⟩
  · by_cases hb : b = a
    · subst hb; rw [upd_same] at e; cases e; exact new
    · rw [upd_ne hb] at e
      exact (I.hok b u e).stay (fun c v _ q => q) (fun c q => by rw [upd_ne (ne _ _ q)]; exact q) fun c xs q => by rw [upd_ne (ne _ _ q)]; exact q
end

/-! ### comprehensions -/
/-- the cells that a comprehension's block takes over -/
theorem closure_ok {env : Env} : ∀ {names : List (Str × NameKind)} (cs : List (Str × Addr)), (∀ x ∈ names, x.2 = .free → ∃ c, env.cells.lookup x.1 = some c) → (∀ x c, cs.lookup x = some c → env.cells.lookup x = some c) →
    ∃ cl, (forIn names cs fun (x : Str × NameKind) (r : List (Str × Addr)) => if (x.2 == NameKind.free) = true then do let a ← cellOf env x.1; pure (ForInStep.yield ((x.1, a) :: r)) else pure (ForInStep.yield r) : Sem (List (Str × Addr))) = pure cl ∧
      (∀ x c, cl.lookup x = some c → env.cells.lookup x = some c) ∧ (∀ x c, cs.lookup x = some c → ∃ c', cl.lookup x = some c') ∧ ∀ x ∈ names, x.2 = .free → ∃ c, cl.lookup x.1 = some c
  | [], cs, _, h => ⟨cs, by simp, h, fun x c e => ⟨c, e⟩, fun _ hx => nomatch hx⟩
  | (n, k) :: r, cs, hf, h => by
    rw [List.forIn_cons]
    by_cases hk : k = .free
    · subst hk
      obtain ⟨c, hc⟩ := hf (n, .free) List.mem_cons_self rfl
      have hcell : cellOf env n = pure c := by unfold cellOf; rw [hc]
      have h' : ∀ x d, ((n, c) :: cs).lookup x = some d → env.cells.lookup x = some d := fun x d e => by
        rw [List.lookup_cons] at e
        cases q : x == n with
        | true => rw [q] at e; cases e; rw [beq_iff_eq.mp q]; exact hc
        | false => rw [q] at e; exact h x d e
      obtain ⟨cl, e1, e2, e3, e4⟩ := closure_ok (env := env) (names := r) ((n, c) :: cs) (fun x hx => hf x (List.mem_cons_of_mem _ hx)) h'
      have top : ∃ c', cl.lookup n = some c' := e3 n c (by rw [List.lookup_cons]; simp)
      refine ⟨cl, ?_, e2, fun x d e => ?_, fun x hx hfr => ?_⟩
      · simp only [beq_self_eq_true, if_true, hcell]
        exact e1
      · by_cases q : x = n
        · rw [q]; exact top
        · exact e3 x d (by rw [List.lookup_cons, (beq_eq_false_iff_ne.mpr q : (x == n) = false)]; exact e)
      · rcases List.mem_cons.mp hx with rfl | hx
        · exact top
        · exact e4 x hx hfr
    · have hb : (k == NameKind.free) = false := by simpa using hk
      obtain ⟨cl, e1, e2, e3, e4⟩ := closure_ok (env := env) (names := r) cs (fun x hx => hf x (List.mem_cons_of_mem _ hx)) h
      refine ⟨cl, ?_, e2, e3, fun x hx hfr => ?_⟩
      · simp only [hb, Bool.false_eq_true, if_false]
        exact e1
      · rcases List.mem_cons.mp hx with rfl | hx
        · exact absurd hfr hk
        · exact e4 x hx hfr
theorem closureFor_ok {env : Env} {scope : Scope} (hf : ∀ x ∈ scope.names, x.2 = .free → ∃ c, env.cells.lookup x.1 = some c) :
    ∃ cl, closureFor scope env = pure cl ∧ (∀ x c, cl.lookup x = some c → env.cells.lookup x = some c) ∧ ∀ x ∈ scope.names, x.2 = .free → ∃ c, cl.lookup x.1 = some c := by
  obtain ⟨cl, e1, e2, _, e4⟩ := closure_ok (env := env) (names := scope.names) [] hf (fun x c e => by simp at e)
  refine ⟨cl, ?_, e2, e4⟩
  unfold closureFor
  simp only [e1]
  rfl

/-- the context of a comprehension's block -/
def cxComp (X : Cx) (N : List Str) (scope : Scope) (cl : List (Str × Addr)) (C : Addr) (s₂ : Shared) (H : Hp) (fp : List Addr) : Cx :=
  { X with N := N, s₀ := s₂, H₀ := H, env := compEnvC scope cl C X.env, outer := X.stack, stack := X.stack, ex := fp, fn := fun _ => false, pn := [], xe := fun _ _ => False }

/-- the block's names at its start: from the names around, or none yet -/
def subSt (sub : List (Option Nat)) (σ : St) : St := sub.map fun o => o.bind fun i => (σ[i]?).bind id

/-- W: the turn, a measure, the list so far; Nx: what the turn is to reach -/
def LcW (J : It) (sub : List (Option Nat)) (g : TG) (tc : TT) (te : TE) (σ : St) (H1 : Hp) (Q : VK) : Prop := ∃ W : Nat → Nat → List V → St → Hp → Prop, (∃ m, W 0 m [] (subSt sub σ) H1) ∧ ∀ i m ys σ H, W i m ys σ H →
  (J.stop i H ∧ ys.length ≤ sizeLine ∧ ∀ D, H D = none → Q (.ref D) (upd H D (.lst ys))) ∨
  (J.go i H ∧ ys.length < sizeLine ∧ ∃ Nx : List V → St → Hp → Prop, (∀ ys' σ' H', Nx ys' σ' H' → ∃ m', m' < m ∧ W (i + 1) m' ys' σ' H') ∧
    ∀ x H', J.yld i H x H' → g x σ H' fun σ2 H2 => tc σ2 H2 fun b H3 => if b = true then te σ2 H3 fun y H4 => Nx (ys ++ [y]) σ2 H4 else Nx ys σ2 H3)
/-- [elt for tg in iter if c] -/
def tLCif (wi : TI) (sub : List (Option Nat)) (g : TG) (tc : TT) (te : TE) : TE := fun σ H Q => wi σ H fun J H1 => LcW J sub g tc te σ H1 Q
/-- no test -/
abbrev tYes : TT := fun _ H Q => Q true H

section
variable {prog : Program} {w : World} {A : Around} {R : Result → Shared → Prop} {s : Shared}
theorem compLoop_gen {elt target iter : Expr} {ifs : List Expr} {scope : Scope} {pos : Pos} {it acc : Value} {env : Env} (I : Nat → Shared → Prop)
    (turn : ∀ n s, I n s → wpAny (model prog w) A (pyNext it) (fun r s₁ => match r with
      | none => R (.ok .next) s₁
      | some v => wpAny (model prog w) A (letOwnedTupleGo target it v) (fun _ s₁' => wpAny (model prog w) A (assign target env v) (fun _ s₂ =>
          wpAny (model prog w) A (forIn ifs true fun c r => if r = true then do let ok ← isTrue c env (eval c env); pure (ForInStep.yield ok) else pure (ForInStep.yield r))
            (fun ok s₃ => if ok = true then wpAny (model prog w) A (eval elt env) (fun x s₄ => wpAny (model prog w) A (call (.builtin "list.append") [acc, x]) (fun _ s₅ => ∃ m, m < n ∧ I m s₅) (fun _ _ => False) s₄) (fun _ _ => False) s₃
              else ∃ m, m < n ∧ I m s₃) (fun _ _ => False) s₂) (fun _ _ => False) s₁') (fun _ _ => False) s₁) (fun _ _ => False) s)
    (n : Nat) (h : I n s) :
    codeAny (model prog w) A (.compLoop (.ListComp elt [⟨target, iter, ifs, 0⟩] scope pos) 0 it acc env) R s := by
  refine codeAny_loop rfl I (fun n s hI => ?_) n h
  show wpAny _ _ ((compTurn (.ListComp elt [⟨target, iter, ifs, 0⟩] scope pos) 0 it acc env).onRaise (fun x => do noteFrame x env; theTreesLotGoes x)) _ _ s
  refine wpAny_noted ?_
  rw [compTurn_list]
  refine wpAny_mono (E := fun _ _ => False) ?_ (fun _ _ q => q) fun _ _ q => q.elim
  refine wpAny_bind (wpAny_standAt (wpAny_bind (wpAny_mono (turn n s hI) (fun r s₁ h₁ => ?_) fun _ _ h' => h')))
  cases r with
  | none => exact wpAny_pure h₁
  | some v =>
    refine wpAny_bind (wpAny_mono h₁ (fun _ s₁' h₁' => ?_) fun _ _ h' => h')
    refine wpAny_bind (wpAny_mono h₁' (fun _ s₂ h₂ => ?_) fun _ _ h' => h')
    refine wpAny_bind (wpAny_mono h₂ (fun ok s₃ h₃ => ?_) fun _ _ h' => h')
    cases ok with
    | true =>
      simp only [if_true] at h₃ ⊢
      refine wpAny_bind (wpAny_bind (wpAny_mono h₃ (fun x s₄ h₄ => ?_) fun _ _ h' => h'))
      refine wpAny_bind (wpAny_mono h₄ (fun _ s₅ h₅ => ?_) fun _ _ h' => h')
      exact wpAny_pure (wpAny_pure ⟨rfl, h₅⟩)
    | false =>
      simp only [Bool.false_eq_true, if_false] at h₃ ⊢
      first
        | exact wpAny_bind (wpAny_pure (wpAny_pure ⟨rfl, h₃⟩))
        | exact wpAny_pure ⟨rfl, h₃⟩
end

section
variable {X : Cx}
/-- the tests of a comprehension, one after another -/
def PTs (X : Cx) (ifs : List Expr) (t : TT) : Prop :=
  ∀ (pins : List (Addr × Obj)) (s : Shared) (σ : St) (H : Hp) (Q : Bool → Hp → Prop), Inv X pins σ H s → t σ H Q →
    wpAny (model X.prog X.w) X.A (forIn ifs true fun c r => if r = true then do let ok ← isTrue c X.env (eval c X.env); pure (ForInStep.yield ok) else pure (ForInStep.yield r)) (TP X pins σ Q) X.xe s
theorem pts_nil : PTs X [] (fun _ H Q => Q true H) := fun pins s σ H Q I h => by
  rw [List.forIn_nil]
  exact wpAny_pure ⟨H, I, h⟩
theorem pe_lcG {elt iter tg : Expr} {ifs : List Expr} {scope : Scope} {pos : Pos} {wi : TI} {g : TG} {tc : TT} {te : TE} {N : List Str} {sub : List (Option Nat)}
    (hc : X.calm = true) (hi : PI X tg iter wi)
    (hk : scope.kind = .function) (hnc : ∀ x ∈ scope.names, x.2 ≠ .cell) (hnames : ∀ x ∈ scope.names, x.2 = .local → scope.names.lookup x.1 = some .local)
    (hfr : ∀ x ∈ scope.names, x.2 = .free → X.env.kindOf x.1 = some .cell ∨ X.env.kindOf x.1 = some .free)
    (hsl : sub.length = N.length) (hsub : ∀ (j i : Nat) (x : Str), sub[j]? = some (some i) → N[j]? = some x → X.N[i]? = some x ∧ scope.names.lookup x = some .free)
    (hg : ∀ cl C s₂ H fp, PG (cxComp X N scope cl C s₂ H fp) tg g) (ht : ∀ cl C s₂ H fp, PTs (cxComp X N scope cl C s₂ H fp) ifs tc) (he : ∀ cl C s₂ H fp, PE (cxComp X N scope cl C s₂ H fp) elt te)
    (hs : ∀ x, foldedSetIterable iter X.env x = pure x := by intro _; rfl) :
    PE X (.ListComp elt [⟨tg, iter, ifs, 0⟩] scope pos) (tLCif wi sub g tc te) := by
  intro pins s σ H Q I h
  obtain ⟨cl, hclos, hcl, hclf⟩ := closureFor_ok (env := X.env) (scope := scope) fun x hx hf => I.ok.has x.1 (hfr x hx hf)
  rw [eval_ListComp]
  refine wpAny_comprehension_free (use := none) rfl hs hclos hk hnames ?_
  show wpAny _ _ (eval iter X.env) _ _ _
  refine thn (hi pins s σ H _ I h) fun v s1 h1 => thn h1 fun itv s2 h2 => ?_
  obtain ⟨it, fp, tn, J, H2, e, I2, T, st2, f2, W, ⟨m0, w0⟩, turn⟩ := h2
  subst e
  refine wpAny_newObj_type (wpAny_newFunctionEnv hnc (by intro y hy; simp at hy) (fun h₁ hns₁ hsb₁ => ?_) hk)
  dsimp only at hns₁ hsb₁ ⊢
  generalize hH2 : s2.heap.push { cls := .type "list", dict := none, data := .seq ([] : List Value).toArray } = G2 at hns₁ hsb₁ ⊢
  -- D: the list; C: the block's names
  have hC : G2.objs.size = s2.heap.objs.size + 1 := by rw [← hH2, Heap.size_push]
  have hDC : s2.heap.objs.size ≠ G2.objs.size := by omega
  have below : ∀ b, b < s2.heap.objs.size → b ≠ G2.objs.size ∧ b ≠ s2.heap.objs.size := fun b hb => ⟨by omega, by omega⟩
  have old : ∀ b o, s2.heap.get? b = some o → h₁.get? b = some o := fun b o e => hsb₁.extBut b o (below b (Heap.lt_size e)).1 (Heap.get?_push_of_some _ (hH2 ▸ Heap.get?_push_of_some _ e))
  have hD₁ : h₁.get? s2.heap.objs.size = some { cls := .type "list", dict := none, data := .seq ([] : List Value).toArray } := hsb₁.extBut _ _ hDC (Heap.get?_push_of_some _ (hH2 ▸ Heap.get?_push_size _ rfl))
  have fresh : ∀ a, s2.heap.objs.size ≤ a → s2.heap.get? a = none := fun a ha => Heap.get?_none_of_le ha
  have cellOld : ∀ x c, cl.lookup x = some c → c < s2.heap.objs.size := fun x c e => by
    obtain ⟨v, z⟩ := I2.cell x c (hcl x c e)
    exact z.lt
  have fpOld : ∀ b ∈ fp, b < s2.heap.objs.size := fun b hb => by
    obtain ⟨o, e, _⟩ := T.obj _ _ st2 b hb
    exact Heap.lt_size e
  let Y : Cx := cxComp X N scope cl G2.objs.size s2 H2 fp
  have okY : Y.Ok := by
    refine ⟨I2.ok.mod, ?_, I2.ok.glob, I2.ok.blt, ?_, fun x y c e1 e2 => I2.ok.inj x y c (hcl x c e1) (hcl y c e2), fun x hx => ?_, fun x c hfn _ => absurd hfn Bool.false_ne_true, I2.ok.hd, I2.ok.frames, .inl rfl,
      fun b hb => ⟨?_, fun x c e z => ?_⟩, I2.bs, Nat.le_trans I2.ok.bsz I2.sz, fun b o e hb => ?_, fun b hb hf => ?_, I2.stack, I2.stkFree⟩
    · show (relabel scope X.env).kind = .function
      exact hk
    · show s2.heap.objs.size ≤ G2.objs.size
      omega
    · have hx' : (relabel scope X.env).names.lookup x = some .cell ∨ (relabel scope X.env).names.lookup x = some .free := hx
      -- it was free in the block's own scope
      have : ∃ k, (x, k) ∈ scope.names ∧ k = .free := by
        have gen : ∀ (names : List (Str × NameKind)), (∀ y ∈ names, y.2 ≠ .cell) → ∀ kk, (kk = NameKind.cell ∨ kk = NameKind.free) → (names.map fun (n, k) => if (k == NameKind.free && X.env.scope.kind == .function && X.env.kindOf n == some .cell) then (n, NameKind.cell) else (n, k)).lookup x = some kk → ∃ k, (x, k) ∈ names ∧ k = .free := by
          intro names
          induction names with
          | nil => intro _ kk _ e; simp at e
          | cons y r ih =>
            intro hn kk hkk e
            obtain ⟨n, k⟩ := y
            rw [List.map_cons, List.lookup_cons] at e
            by_cases hkf : k = .free
            · subst hkf
              by_cases hxn : x = n
              · exact ⟨.free, by rw [hxn]; exact List.mem_cons_self, rfl⟩
              · have hb : (x == (if (NameKind.free == NameKind.free && X.env.scope.kind == .function && X.env.kindOf n == some .cell) = true then (n, NameKind.cell) else (n, NameKind.free)).1) = false := by
                  split <;> exact beq_eq_false_iff_ne.mpr hxn
                rw [hb] at e
                obtain ⟨k', m, q⟩ := ih (fun z hz => hn z (List.mem_cons_of_mem _ hz)) kk hkk e
                exact ⟨k', List.mem_cons_of_mem _ m, q⟩
            · have hb0 : (k == NameKind.free && X.env.scope.kind == .function && X.env.kindOf n == some .cell) = false := by
                have : (k == NameKind.free) = false := by simpa using hkf
                rw [this]; rfl
              rw [hb0] at e
              simp only [Bool.false_eq_true, if_false] at e
              cases q : x == n with
              | true =>
                rw [q] at e
                have e' : k = kk := Option.some.inj e
                subst e'
                rcases hkk with z | z
                · exact absurd z (hn (n, k) List.mem_cons_self)
                · exact absurd z hkf
              | false =>
                rw [q] at e
                obtain ⟨k', m, q⟩ := ih (fun z hz => hn z (List.mem_cons_of_mem _ hz)) kk hkk e
                exact ⟨k', List.mem_cons_of_mem _ m, q⟩
        rcases hx' with z | z
        · exact gen scope.names hnc _ (.inl rfl) z
        · exact gen scope.names hnc _ (.inr rfl) z
      obtain ⟨k, m, q⟩ := this
      exact hclf (x, k) m q
    · show b ≠ G2.objs.size
      exact (below b (fpOld b hb)).1
    · exact (f2 b hb).2.2.2.2.1 x c (hcl x c e) z
    · rcases (f2 b hb).2.2.2.1 with z | z
      · exact I2.ok.noex b o e z
      · exact absurd (Nat.lt_of_lt_of_le (Heap.lt_size e) (Nat.le_trans I2.ok.bsz z)) (Nat.lt_irrefl _)
    · have hf' : b ∈ frs X.stack := hf
      rcases List.mem_cons.mp (I2.stkSub b hf') with z | z
      · exact (f2 b hb).2.1 z
      · exact (f2 b hb).2.2.1 z
  have startLoc : ∃ m, h₁.Ns G2.objs.size m ∧ ∀ (i : Nat) (x : Str) (v : V), N[i]? = some x → (subSt sub σ)[i]? = some (some v) → Vis (relabel scope X.env) x → ∃ u, RelV v u ∧ Look Y.env h₁ m x u := by
    refine ⟨_, hns₁, fun j x v e1 e2 e3 => ?_⟩
    unfold subSt at e2
    rw [List.getElem?_map] at e2
    cases q : sub[j]? with
    | none => rw [q] at e2; cases e2
    | some o =>
      rw [q] at e2
      cases o with
      | none => cases e2
      | some i =>
        obtain ⟨hNi, hfree⟩ := hsub j i x q e1
        have e2' : (σ[i]?).bind id = some v := Option.some.inj e2
        have e2'' : σ[i]? = some (some v) := by
          cases z : σ[i]? with
          | none => rw [z] at e2'; cases e2'
          | some y => rw [z] at e2'; rw [show y = some v from e2']
        obtain ⟨m2, hn2, hl2⟩ := I2.loc
        have hkx := hfr (x, .free) (PySem.mem_of_lookup hfree) rfl
        obtain ⟨u, r, l⟩ := hl2 i x v hNi e2'' (by rcases hkx with z | z; exact .inr (.inl z); exact .inr (.inr z))
        refine ⟨u, r, .inr ⟨?_, ?_⟩⟩
        · rcases e3 with z | z | z
          · exfalso
            have gen : ∀ (names : List (Str × NameKind)), names.lookup x = some .free → (names.map fun (n, k) => if (k == NameKind.free && X.env.scope.kind == .function && X.env.kindOf n == some .cell) then (n, NameKind.cell) else (n, k)).lookup x = some .local → False := by
              intro names
              induction names with
              | nil => intro e _; simp at e
              | cons y r ih =>
                intro e1 e2
                obtain ⟨n, k⟩ := y
                rw [List.lookup_cons] at e1
                rw [List.map_cons, List.lookup_cons] at e2
                by_cases hxn : x = n
                · have hb1 : (x == n) = true := beq_iff_eq.mpr hxn
                  rw [hb1] at e1
                  have : k = .free := Option.some.inj e1
                  subst this
                  split at e2
                  · rename_i hq
                    split at e2 <;> cases e2
                  · rename_i hq
                    split at hq <;> (rw [hb1] at hq; cases hq)
                · have hb1 : (x == n) = false := beq_eq_false_iff_ne.mpr hxn
                  rw [hb1] at e1
                  refine ih e1 ?_
                  split at e2
                  · rename_i hq
                    split at hq <;> (rw [hb1] at hq; cases hq)
                  · exact e2
            exact gen scope.names hfree z
          · exact .inl z
          · exact .inr z
        · obtain ⟨c, hc'⟩ := hclf (x, .free) (PySem.mem_of_lookup hfree) rfl
          refine ⟨c, hc', ?_⟩
          rcases l with ⟨k, _⟩ | ⟨_, c2, ec2, z⟩
          · rcases hkx with z | z <;> (rw [k] at z; cases z)
          · have := hcl x c hc'
            rw [ec2] at this
            cases this
            obtain ⟨oc, hoc, hd⟩ := z
            exact ⟨oc, old _ _ hoc, hd⟩
  -- the loop
  have pinD : ∀ {σ' : St} {H' : Hp} {s' : Shared} {pl : List (Addr × Obj)} {o : Obj}, Inv Y pl σ' H' s' → s'.heap.get? s2.heap.objs.size = some o → (∀ v, o.data ≠ .cell v) → H' s2.heap.objs.size = none → Inv Y [(s2.heap.objs.size, o)] σ' H' s' := fun {σ' H' s' pl o} IY e d n =>
    IY.pins_of fun p hp => by
      have e' : p = (s2.heap.objs.size, o) := by simpa using hp
      subst e'
      refine ⟨e, n, ?_, ?_, d⟩
      · show s2.heap.objs.size ≠ G2.objs.size
        omega
      · intro hf
        have hf' : s2.heap.objs.size ∈ frs X.stack := hf
        obtain ⟨_, o', ho', _⟩ := I2.stack.mem hf'
        exact absurd (Heap.lt_size ho') (Nat.lt_irrefl _)
  have fpY : ∀ {H' : Hp} {pl : List (Addr × Obj)}, (∀ b ∈ fp, H' b = none) → (∀ p ∈ pl, p.1 ∉ fp) → ∀ b ∈ fp, FpOk Y pl H' b := fun {H' pl} hn hp b hb => by
    refine ⟨hn b hb, ?_, ?_, .inl hb, fun x c e => ?_, fun p hp' => ?_⟩
    · exact (okY.exf b hb).1
    · exact okY.exfs b hb
    · exact (okY.exf b hb).2 x c e
    · intro z
      have hp'' : p ∈ pl := by simpa [Y, cxComp] using hp'
      exact hp p hp'' (by rw [z]; exact hb)
  have hDfp : s2.heap.objs.size ∉ fp := fun z => Nat.lt_irrefl _ (fpOld _ z)
  have loop : ∀ s₃ : Shared, s₃ = { s2 with heap := h₁, toks := s2.toks + ([] : List (Str × Value)).length } →
      codeAny (model X.prog X.w) X.A (.compLoop (.ListComp elt [⟨tg, iter, ifs, 0⟩] scope pos) 0 (.ref it) (.ref s2.heap.objs.size) (compEnvC scope cl G2.objs.size X.env))
        (compPost (model X.prog X.w) X.A X.xe none (EP X pins σ Q) (.ref s2.heap.objs.size) G2.objs.size) s₃ := by
    rintro s₃ rfl
    have IY0 : Inv Y [(s2.heap.objs.size, { cls := .type "list", dict := none, data := .seq ([] : List Value).toArray })] (subSt sub σ) H2 { s2 with heap := h₁, toks := s2.toks + ([] : List (Str × Value)).length } := by
      have J0 : Inv Y [] (subSt sub σ) H2 { s2 with heap := h₁, toks := s2.toks + ([] : List (Str × Value)).length } := by
        refine ⟨okY, rfl, I2.bare, Un.kept old, startLoc, fun x c e => ?_, I2.hok.fresh (by show s2.heap.objs.size ≤ G2.objs.size; omega), fun x c e => I2.freeC x c (hcl x c e), fun p hp => absurd (show p ∈ ([] : List (Addr × Obj)) from hp) (by simp), I2.hok.kept old, ?_⟩
        · obtain ⟨v, oc, hoc, hd⟩ := I2.cell x c (hcl x c e)
          exact ⟨v, oc, old _ _ hoc, hd⟩
        · show (subSt sub σ).length = N.length
          unfold subSt
          rw [List.length_map]; exact hsl
      exact pinD J0 hD₁ (fun v z => by cases z) I2.fresh
    refine compLoop_gen (fun n s' => ∃ (i : Nat) (ys : List V) (its : List Value) (k : Nat) (σ' : St) (H' : Hp), Inv Y [(s2.heap.objs.size, { cls := .type "list", dict := none, data := .seq its.toArray k })] σ' H' s' ∧ Vals ys its ∧ tn i s'.heap ∧ (∀ b ∈ fp, H' b = none) ∧ W i n ys σ' H') ?_ m0
      ⟨0, [], [], 0, subSt sub σ, H2, IY0, .nil, T.keep _ _ _ st2 (fun b hb o e => old b o e), fun b hb => (f2 b hb).1, w0⟩
    rintro n s3 ⟨i, ys, its, k, σ3, H3, I3, rv, st3, fr3, w3⟩
    have npl : ∀ (o : Obj), ∀ p ∈ [(s2.heap.objs.size, o)], p.1 ∉ fp := fun o p hp => by
      have e' : p = (s2.heap.objs.size, o) := by simpa using hp
      subst e'
      exact hDfp
    rcases turn i n ys σ3 H3 w3 with ⟨stop, hz, qn⟩ | ⟨go, hz, Nx, hNx, step⟩
    · refine wpAny_mono (T.done Y rfl rfl rfl hc i _ s3 σ3 H3 (fun _ _ => False) I3 (fpY fr3 (npl _)) st3 stop) (fun r s4 ⟨hr, I4⟩ => ?_) fun _ _ z => z
      subst hr
      -- the end
      obtain ⟨m4, hn4, _⟩ := I4.loc
      refine ⟨m4, hn4, fun h' hs' => ?_⟩
      have hCfree : H3 G2.objs.size = none := I4.free
      have hD4 := I4.pin (s2.heap.objs.size, { cls := .type "list", dict := none, data := .seq its.toArray k }) (List.mem_append_right _ List.mem_cons_self)
      have un4 : Un (frs X.stack) fp H2 H3 s2.heap s4.heap := I4.base
      have up : ∀ b o, b ≠ G2.objs.size → s4.heap.get? b = some o → h'.get? b = some o := fun b o hb e => hs'.extBut b o hb e
      have ne2 : ∀ b o, s2.heap.get? b = some o → b ≠ G2.objs.size := fun b o e => (below b (Heap.lt_size e)).1
      have un5 : Un (frs X.stack) fp H2 H3 s2.heap h' := by
        refine ⟨fun b o e n hb hx => up b o (ne2 b o e) (un4.keep b o e n hb hx), fun b o e n hb hx => ?_, un4.free, fun b o e hx => ?_, un4.tups, un4.frzs, un4.tbls⟩
        · obtain ⟨sl, q⟩ := un4.slot b o e n hb hx
          exact ⟨sl, up b _ (ne2 b o e) q⟩
        · obtain ⟨o', q⟩ := un4.there b o e hx
          exact ⟨o', up b _ (ne2 b o e) q⟩
      have hok5 : HOk X.prog X.w H3 h' := fun b u e => (I4.hok b u e).stay (fun c v hcc q => up c v (fun z => by
        rcases hcc with zz | zz
        · rw [zz] at z; rw [z, hCfree] at e; cases e
        · rw [z, hCfree] at zz; cases zz) q) (fun _ q => q) fun _ _ q => q
      have I5 : Inv X pins σ H3 { s4 with heap := h' } := I2.call' (s' := { s4 with heap := h' }) (ch := fp) I4.os un5 hok5 I4.bare fun b hb => by
        obtain ⟨_, g1, _, g3, g4, g5⟩ := f2 b hb
        exact ⟨g3, g1, g4, g5⟩
      have hDfree : H3 s2.heap.objs.size = none := hD4.2.1
      have sz0 : X.s₀.heap.objs.size ≤ s2.heap.objs.size := I2.sz
      refine ⟨.ref s2.heap.objs.size, _, I5.track (o := .lst ys) hDfree (Heap.get?_none_of_le sz0) (Nat.ne_of_gt I2.lt) (fun x c e z => ?_) (fun p hp z => ?_) ?_, rfl, qn _ hDfree⟩
      · obtain ⟨v, q⟩ := I2.cell x c e
        exact absurd q.lt (by rw [z]; exact Nat.lt_irrefl _)
      · exact absurd (Heap.lt_size (I2.pin p hp).1) (by rw [z]; exact Nat.lt_irrefl _)
      · exact ⟨hz, its, k, rv, up _ _ hDC hD4.1⟩
    · refine wpAny_mono (T.item Y rfl rfl rfl hc i _ s3 σ3 H3 (fun _ _ => False) I3 (fpY fr3 (npl _)) st3 go) (fun r s4 ⟨u, hr, h4⟩ => ?_) fun _ _ z => z
      subst hr
      refine wpAny_mono h4 (fun _ s5 ⟨x, H5, I5, r5, y5, st5, fr5⟩ => ?_) fun _ _ z => z
      have I5' := I5.pinned (fpY fr5 (npl _)) (T.obj _ _ st5)
      refine wpAny_mono (hg cl G2.objs.size s2 H2 fp _ s5 σ3 H5 x u _ I5' r5 (step x H5 y5)) (fun _ s6 ⟨σ6, H6, I6, q6⟩ => ?_) fun _ _ z => z
      refine wpAny_mono (ht cl G2.objs.size s2 H2 fp _ s6 σ6 H6 _ I6 q6) (fun ok s7 ⟨H7, I7, q7⟩ => ?_) fun _ _ z => z
      have back : ∀ {σ' : St} {H' : Hp} {s' : Shared}, Inv Y ([(s2.heap.objs.size, { cls := .type "list", dict := none, data := .seq its.toArray k })] ++ pinsAt fp s5.heap) σ' H' s' → tn (i + 1) s'.heap ∧ ∀ b ∈ fp, H' b = none := fun {σ' H' s'} IB => by
        refine ⟨T.keep _ _ _ st5 fun b hb o e => (IB.pin (b, o) (List.mem_append_right _ (List.mem_append_right _ (mem_pinsAt hb e)))).1, fun b hb => ?_⟩
        obtain ⟨o, e, d⟩ := T.obj _ _ st5 b hb
        exact (IB.pin (b, o) (List.mem_append_right _ (List.mem_append_right _ (mem_pinsAt hb e)))).2.1
      cases ok with
      | false =>
        rw [if_neg Bool.false_ne_true] at q7
        obtain ⟨m', hm, w7⟩ := hNx _ _ _ q7
        rw [if_neg Bool.false_ne_true]
        obtain ⟨t7, f7⟩ := back I7
        exact ⟨m', hm, i + 1, ys, its, k, σ6, H7, I7.unpinned, rv, t7, f7, w7⟩
      | true =>
        rw [if_pos rfl] at q7
        rw [if_pos rfl]
        refine wpAny_mono (he cl G2.objs.size s2 H2 fp _ s7 σ6 H7 _ I7 q7) (fun y s8 ⟨yv, H8, I8, r8, q8⟩ => ?_) fun _ _ z => z
        obtain ⟨m', hm, w8⟩ := hNx _ _ _ q8
        obtain ⟨t8, f8⟩ := back I8
        have I9 := I8.unpinned
        have hD9 := I9.pin (s2.heap.objs.size, { cls := .type "list", dict := none, data := .seq its.toArray k }) (List.mem_append_right _ List.mem_cons_self)
        have e9 : s8.heap.get? s2.heap.objs.size = some { cls := .type "list", dict := none, data := .seq its.toArray k } := hD9.1
        have hlen := rv.length
        refine call_meets F.slot_list_append ⟨_, e9, rfl⟩ F.entry_list_append (F.args_list_append_2 _ _) (PySem.list_append _ its.toArray k y (by rw [List.size_toArray]; omega)) ⟨e9, ?_⟩
        have q9 := PySem.IsL.update e9 (fun xs => xs.push y)
        have ea : its.toArray.push y = (its ++ [y]).toArray := by simp
        rw [ea] at q9
        have k9 : ∀ b o, b ≠ s2.heap.objs.size → s8.heap.get? b = some o → (s8.heap.update s2.heap.objs.size (Obj.mapSeq fun xs => xs.push y)).get? b = some o := fun b o hb e => (Heap.get?_update_other _ _ (Ne.symm hb)).trans e
        have I10 : Inv Y [] σ6 H8 { s8 with heap := s8.heap.update s2.heap.objs.size (Obj.mapSeq fun xs => xs.push y) } :=
          (I9.pins_of (pins' := []) (fun p hp => nomatch hp)).turned (t' := s8.toks) k9 hD9.2.1 hD9.2.2.1 (.inr (Nat.le_refl _)) (fun x c e z => absurd (cellOld x c e) (by rw [z]; exact Nat.lt_irrefl _))
            (fun p hp => absurd (show p ∈ ([] : List (Addr × Obj)) from hp) (by simp))
        refine ⟨m', hm, i + 1, ys ++ [yv], its ++ [y], _, σ6, H8, pinD I10 q9 (fun v z => by cases z) hD9.2.1, rv.append (.cons r8 .nil), ?_, f8, w8⟩
        exact T.keep _ _ _ t8 fun b hb o e => k9 b o (fun z => hDfp (by rw [← z]; exact hb)) e
  exact codeAny_compStart_list (loop _ rfl) (T.self _ 0 _ _ _ (T.keep _ _ _ st2 fun b hb o e => old b o e) (loop _ rfl))

/-- the block's names that stand for names around: where they stand there -/
def subOk (M : List Str) (names : List (Str × NameKind)) (sub : List (Option Nat)) (N : List Str) : Bool := (sub.zip N).all fun p => match p.1 with
  | none => true
  | some i => M[i]? == some p.2 && names.lookup p.2 == some .free
theorem subOk_of {M : List Str} {names : List (Str × NameKind)} {sub : List (Option Nat)} {N : List Str} (h : subOk M names sub N = true) (j i : Nat) (x : Str) (h1 : sub[j]? = some (some i)) (h2 : N[j]? = some x) :
    M[i]? = some x ∧ names.lookup x = some .free := by
  unfold subOk at h
  rw [List.all_eq_true] at h
  have hm : (some i, x) ∈ sub.zip N := by
    refine List.mem_of_getElem? (i := j) ?_
    rw [List.getElem?_zip_eq_some]
    exact ⟨h1, h2⟩
  have q := h _ hm
  simp only [Bool.and_eq_true, beq_iff_eq] at q
  exact q
/-- its free names are cells around -/
def frOk (kn names : List (Str × NameKind)) : Bool := names.all fun x => x.2 != .free || kn.lookup x.1 == some .cell || kn.lookup x.1 == some .free
theorem frOk_of {kn names : List (Str × NameKind)} (h : frOk kn names = true) : ∀ x ∈ names, x.2 = .free → kn.lookup x.1 = some .cell ∨ kn.lookup x.1 = some .free := fun x hx hf => by
  unfold frOk at h
  rw [List.all_eq_true] at h
  have q := h x hx
  rw [hf] at q
  simpa using q
theorem pe_lc {elt iter tg : Expr} {scope : Scope} {pos : Pos} {wi : TI} {g : TG} {te : TE} (M : List Str) (kn : List (Str × NameKind)) (N : List Str) (sub : List (Option Nat))
    (hc : X.calm = true) (hi : PI X tg iter wi)
    (hg : ∀ cl C s₂ H fp, PG (cxComp X N scope cl C s₂ H fp) tg g) (he : ∀ cl C s₂ H fp, PE (cxComp X N scope cl C s₂ H fp) elt te)
    (hM : X.N = M := by rfl) (hkn : X.env.scope.names = kn := by rfl) (hsub : subOk M scope.names sub N = true := by decide +kernel)
    (hk : scope.kind = .function := by rfl) (hnc : ∀ x ∈ scope.names, x.2 ≠ .cell := by decide +kernel) (hnames : ∀ x ∈ scope.names, x.2 = .local → scope.names.lookup x.1 = some .local := by decide +kernel)
    (hfr : frOk kn scope.names = true := by decide +kernel)
    (hsl : sub.length = N.length := by rfl) (hs : ∀ x, foldedSetIterable iter X.env x = pure x := by intro _; rfl) :
    PE X (.ListComp elt [⟨tg, iter, [], 0⟩] scope pos) (tLCif wi sub g tYes te) :=
  pe_lcG hc hi hk hnc hnames (by subst hkn; exact frOk_of hfr) hsl (by subst hM; exact subOk_of hsub) hg (fun cl C s₂ H fp => pts_nil) he hs
end

/-! ### the forms one uses -/
end L2

set_option Elab.async false
set_option linter.all false
set_option maxRecDepth 100000
namespace L2
open PySem PySem.Spec PyProof.Rows PySem.W PySem.Builtin PySem.Builtin.ObjectAttr PySem.Builtin.Getset_descriptor

/-! ### isinstance of an exception of the text's own classes -/
/-- what is asked of an exception class of the text -/
structure XCls (K : PySem.W.Frag) (C : Addr) : Prop where
  cls : (clsIn K C).isSome = true
  ga : findIn K (.ref C) "__getattribute__" = some (some (.builtin "BaseException.__getattribute__"))
  gt : findIn K (.ref C) "__getattr__" = some none
  at_ : findIn K (.ref C) "__class__" = some (some (.builtin "object.__class__"))
  gs : specialIn K (.builtin "object.__class__") "__get__" = some (some (.builtin "getset_descriptor.__get__"))
  tk : takesIn K (.builtin "object.__class__") = some true
  mo : mroIn K C (.type "object") = some true
  mb : mroIn K C (.type "BaseException") = some true

section
variable {prog : Program} {w : World} {A : Around} {E : Value → Shared → Prop} {K : PySem.W.Frag} {x C : Addr} {o : Obj}
theorem exc_type {M : Model} {h : Heap} (hx : h.get? x = some o) (hc : o.cls = .ref C) : Looks M h (typeOf (.ref x)) (.ref C) := hc ▸ (Looks.ld hx).andThen .now
theorem exc_find {M : Model} {h : Heap} (X : K.In h) (T : XCls K C) : Looks M h (find (.ref x) (.ref C) "__class__") (.bind (.builtin "getset_descriptor.__get__") (.builtin "object.__class__")) := by
  have L1 := looks_findIn (M := M) X T.at_
  have L2 : Looks M h (getOf (some (.builtin "object.__class__"))) (some (.builtin "getset_descriptor.__get__")) := looks_specialIn X T.gs
  have L3 := looks_takesIn (M := M) X T.tk
  refine L1.andThen (L2.andThen ?_)
  exact (show Looks M h (dataDescriptor? (some (.builtin "object.__class__")) (some (.builtin "getset_descriptor.__get__"))) (some (.builtin "getset_descriptor.__get__", .builtin "object.__class__")) from L3.andThen .now).andThen (Looks.tag .now)
theorem exc_class_get {s : Shared} {tp : Value} {R : Result → Shared → Prop} (X : K.In s.heap) (hx : s.heap.get? x = some o) (hc : o.cls = .ref C) (T : XCls K C)
    (h : R (.ok (.ret (.ref C))) s) : codeAny (model prog w) A (.call (.builtin "getset_descriptor.__get__") ⟨[.builtin "object.__class__", .ref x, tp], []⟩) R s := by
  obtain ⟨hh, g, dr, t, os⟩ := s
  have L0 := exc_type (M := model prog w) hx hc
  have L1 := looks_mroIn (M := model prog w) X T.mo
  refine codeAny_call_builtin KF.slot_gs.plain KF.entry_gs (KF.slot_gs.check _ _ _ _ _ _ _ _ KF.type_class (KF.args_gs _ _ _) ?_)
  unfold Builtin.«getset_descriptor.__get__» descrGet
  rw [dga_obj]
  refine wpAny_bind (wpAny_pure ?_)
  unfold descrGetter descrCheckInstance descrNameAndClass isInstance
  simp only [KF.owner_class]
  repeat lk
  refine ⟨Code.quiet_builtin _ (by decide +kernel), codeAny_builtin KF.entry_class ?_⟩
  unfold Builtin.«object.__class__» shownTypeOf
  repeat lk
  exact h
theorem exc_check {M : Model} {nameV : Value} {s : Shared} {Q : Unit → Shared → Prop} (X : K.In s.heap) (hx : s.heap.get? x = some o) (hc : o.cls = .ref C) (T : XCls K C) (hq : Q () s) :
    wpAny M A (checkBuiltinCall "BaseException.__getattribute__" ⟨[.ref x, nameV], []⟩) Q E s := by
  obtain ⟨h, g, dr, t, os⟩ := s
  have hk : builtinKind "BaseException.__getattribute__" = some .slot := by decide +kernel
  have hsplit : splitId "BaseException.__getattribute__" = some ("BaseException", "__getattribute__") := by decide +kernel
  have ha := PySem.F.args_bexc_ga (.ref x) nameV
  have L0 := exc_type (M := M) hx hc
  have LM := looks_mroIn (M := M) X T.mb
  have LI : Looks M h (isInstance (.ref x) (.type "BaseException")) true := L0.andThen LM
  simp only [checkBuiltinCall, hk, hsplit]
  refine wpAny_bind ?_
  refine LI.at ?_
  repeat (first | wp_step)
  all_goals exact hq
theorem exc_ca {s : Shared} {Q : Option Value → Shared → Prop} (X : K.In s.heap) (hx : s.heap.get? x = some o) (hc : o.cls = .ref C) (T : XCls K C) (h : Q (some (.ref C)) { s with toks := s.toks + 1 }) :
    wpAny (model prog w) A (getAttr? (.ref x) "__class__") Q E s := by
  obtain ⟨hh, g, d, t, os⟩ := s
  have L0 := exc_type (M := model prog w) hx hc
  have L1 := looks_findIn (M := model prog w) X T.ga
  have L2 := looks_findIn (M := model prog w) X T.gt
  have LF := exc_find (M := model prog w) (x := x) X T
  have f3 := PySem.F.excAttr_ValueError.ga.bind (.ref x)
  have hx2 : (Value.builtin "BaseException.__getattribute__" == Value.builtin "object.__getattribute__") = false := by decide +kernel
  unfold getAttr? getAttrBy? getAttrBy
  refine wpAny_bind (wpAny_mkText (wpAny_bind (wpAny_attempt (wpAny_holding (wpAny_bind (L0.at (wpAny_bind (L1.at ?_))))))))
  dsimp only
  rw [if_neg (by rw [hx2]; simp)]
  unfold getAttrByItsOwn hookBefore
  rw [if_pos (show onTheHeap (Value.ref C) = true from rfl)]
  refine wpAny_bind (L2.at ?_)
  unfold callGetattribute
  refine wpAny_bind (wpAny_attempt (wpAny_holding ?_))
  rw [if_neg (by simp)]
  unfold boundAndCalled
  refine wpAny_bind (wpAny_of_eq f3 ?_)
  refine wpAny_call (codeAny_call_builtin PySem.F.excAttr_ValueError.ga.plain PySem.F.entry_bexc_ga (exc_check X hx hc T ?_))
  unfold Builtin.«object.__getattribute__»
  repeat (first | (refine wpAny_bind (L0.at ?_)) | (refine wpAny_bind (LF.at ?_)) | wp_step)
  refine exc_class_get (s := ⟨hh, g, d, t + 1, os⟩) X hx hc T ?_
  repeat (first | exact h | wp_step)
/-- an exception of the class at C, at x -/
def excO (x : Addr) (C : Addr) (h : Heap) : Prop := ∃ o vs, h.get? x = some o ∧ o.cls = .ref C ∧ o.data = .fields vs
theorem kitx_exc (T : XCls K C) : KitX K (.ref x) (.ref C) (excO x C) where
  ty := fun M h _ ⟨o, _, hx, hc, _⟩ => exc_type hx hc
  it := fun M h X _ => by
    obtain ⟨cd, hcd⟩ := Option.isSome_iff_exists.mp T.cls
    unfold clsIn at hcd
    split at hcd
    · rename_i c' d' cd' sl' ho
      intro A' Q' E' s' k q
      unfold isType loadHead
      exact wpAny_bind (wpAny_loadPart (k _ _ (X _ _ ho)) (wpAny_pure q))
    · cases hcd
  ne := fun h tp dd its n sl X htp => by
    obtain ⟨cd, hcd⟩ := Option.isSome_iff_exists.mp T.cls
    refine Bool.eq_false_iff.mpr fun q => ?_
    have e : C = tp := Value.ref.inj (beq_iff_eq.mp q)
    subst e
    unfold clsIn at hcd
    split at hcd
    · rename_i c' d' cd' sl' ho
      have z := (X _ _ ho).symm.trans htp
      cases z
    · cases hcd
  ca := fun X ⟨o, _, hx, hc, _⟩ k => exc_ca X hx hc T k
end

/-- the type of a value: of an exception its class -/
inductive TyX (K : PySem.W.Frag) (H : Hp) : V → Value → Prop where
  | of {x : V} {t : Value} (h : TyOf K H x t) : TyX K H x t
  | exc {a C : Addr} (e : H a = some (.ext (excO a C))) (T : XCls K C) : TyX K H (.ref a) (.ref C)
  | sqT {a : Addr} {xs : List V} (h : SqT K H a xs) : TyX K H (.ref a) (.type "tuple")
  | sqL {a : Addr} {xs : List V} (h : SqL K H a xs) : TyX K H (.ref a) (.type "list")
section
variable {X : Cx} {pins : List (Addr × Obj)} {σ : St} {H : Hp} {s : Shared} {A : Around} {E : Value → Shared → Prop} {Q : Value → Shared → Prop} {c : Value} {b : Bool}
/-- a value as the deciders take it: what isinstance asks of it -/
theorem tyx_kit {x : V} {u t : Value} (I : Inv X pins σ H s) (rx : RelV x u) (ty : TyX X.K H x t) : ∃ Hh : Heap → Prop, KitX X.K u t Hh ∧ Hh s.heap ∧ u ≠ .builtin "__main__.__loader__#opaque" := by
  cases ty with
  | exc ea T =>
    cases (show u = Value.ref _ from rx)
    exact ⟨_, kitx_exc T, (I.hok _ _ ea).1, fun z => nomatch z⟩
  | sqT h =>
    cases (show u = Value.ref _ from rx)
    obtain ⟨its, rv, ⟨o, e, c, _⟩, _⟩ := I.tuple h
    exact ⟨_, kitx_tuple, ⟨o, e, c⟩, fun z => nomatch z⟩
  | sqL h =>
    cases (show u = Value.ref _ from rx)
    obtain ⟨its, rv, ⟨o, n, e, c, _⟩, _⟩ := I.list h
    exact ⟨_, kitx_list, ⟨o, e, c⟩, fun z => nomatch z⟩
  | of ty =>
    cases ty with
    | non => cases (show u = Value.none from rx); exact ⟨_, kitx_none, True.intro, fun z => nomatch z⟩
    | bl y => cases (show u = Value.bool y from rx); exact ⟨_, kitx_bool, True.intro, fun z => nomatch z⟩
    | int i => obtain ⟨t, q⟩ := (show ∃ t, u = Value.int i t from rx); cases q; exact ⟨_, kitx_int, True.intro, fun z => nomatch z⟩
    | str y => obtain ⟨t, q⟩ := (show ∃ t, u = Value.str y t from rx); cases q; exact ⟨_, kitx_str, True.intro, fun z => nomatch z⟩
    | flt y => obtain ⟨t, q⟩ := (show ∃ t, u = Value.float y t from rx); cases q; exact ⟨_, kitx_float, True.intro, fun z => nomatch z⟩
    | @lst a xs ea =>
      cases (show u = Value.ref a from rx)
      obtain ⟨_, _, n, _, h1⟩ := (show ObjOk X.prog X.w H s.heap a (.lst xs) from I.hok a _ ea)
      exact ⟨_, kitx_list, ⟨_, h1, rfl⟩, fun z => nomatch z⟩
    | @frz a ob xs ea =>
      cases (show u = Value.ref a from rx)
      obtain ⟨_, _, _, n, _, h1⟩ := (show ObjOk X.prog X.w H s.heap a (.frz ob (.lst xs)) from I.hok a _ ea)
      exact ⟨_, kitx_list, ⟨_, h1, rfl⟩, fun z => nomatch z⟩
    | @tup a xs ea =>
      cases (show u = Value.ref a from rx)
      obtain ⟨_, _, _, p⟩ := (show ObjOk X.prog X.w H s.heap a (.tup xs) from I.hok a _ ea)
      obtain ⟨o, h1, h2, _⟩ := p
      exact ⟨_, kitx_tuple, ⟨o, h1, h2⟩, fun z => nomatch z⟩
    | @dK a kvs ea =>
      cases (show u = Value.ref a from rx)
      obtain ⟨_, _, vs, _, p⟩ := (show ObjOk X.prog X.w H s.heap a (.dK kvs) from I.hok a _ ea)
      obtain ⟨o, es, ep, h1, h2, _⟩ := p
      exact ⟨_, kitx_dict, ⟨o, h1, h2.1⟩, fun z => nomatch z⟩
    | @dT a kvs ea =>
      cases (show u = Value.ref a from rx)
      obtain ⟨_, _, xs, _, o, es, ep, h1, h2, _⟩ := (show ObjOk X.prog X.w H s.heap a (.dT kvs) from I.hok a _ ea)
      exact ⟨_, kitx_dict, ⟨o, h1, h2.1⟩, fun z => nomatch z⟩
    | @ins a C dx fs ea cl ha hn htk hm =>
      cases (show u = Value.ref a from rx)
      obtain ⟨mA, O, _⟩ := ins_get I.hok ea
      obtain ⟨od, J, _⟩ := O.look
      exact ⟨_, kitx_own (cl.get _) cl.hd ha hn htk hm, J, fun z => nomatch z⟩
end
section
variable {X : Cx}
/-- a class among values -/
def clsV : V → Option Value
  | .ref C => some (.ref C)
  | .ty T => some (.type T)
  | _ => none
theorem clsV_rel {c : V} {u v : Value} (h : clsV c = some v) (r : RelV c u) : u = v := by
  cases c with
  | ref C => cases r; exact Option.some.inj h
  | ty T => cases r; exact Option.some.inj h
  | _ => cases h
theorem clsVs_rel : ∀ {cs : List V} {us vs : List Value}, cs.mapM clsV = some vs → Vals cs us → us = vs
  | [], _, vs, h, .nil => by
    have h' : some ([] : List Value) = some vs := h
    exact Option.some.inj h'
  | c :: cs, _, vs, h, .cons r rr => by
    rw [List.mapM_cons] at h
    cases q : clsV c with
    | none => rw [q] at h; cases h
    | some v =>
      rw [q] at h
      cases q2 : cs.mapM clsV with
      | none => rw [q2] at h; cases h
      | some vs' =>
        rw [q2] at h
        have h' : some (v :: vs') = some vs := h
        cases h'
        rw [clsV_rel q r, clsVs_rel q2 rr]
/-- isinstance(x, c): c one class -/
theorem call_isi : CallR X (.builtin "isinstance") (fun xs H Q => ∃ x c t v b, xs = [x, c] ∧ TyX X.K H x t ∧ clsV c = some v ∧ kitOne X.K t v = some b ∧ Q (.bl b) H) := by
  intro pins s σ H xs us Q I r h
  obtain ⟨x, c, t, v, b, rfl, ty, hc, hk, q⟩ := h
  obtain ⟨u, w', rfl, rx, rc⟩ := vals2 r
  obtain rfl := clsV_rel hc rc
  obtain ⟨Hh, Z, p, hne⟩ := tyx_kit I rx ty
  exact kia_one Z I.kIn p hk hne fun tk => ⟨.bl b, H, I.tok _, rfl, q⟩
end
end L2

set_option Elab.async false
set_option linter.all false
set_option maxRecDepth 100000
namespace L2
open PySem PySem.Spec PyProof.Rows

theorem ObjOk.there {P : Program} {w : World} {H : Hp} {h : Heap} {a : Addr} {o : HO} (x : ObjOk P w H h a o) : ∃ u, h.get? a = some u := by
  cases o with
  | lst xs => obtain ⟨_, _, _, _, e⟩ := x; exact ⟨_, e⟩
  | tup xs => obtain ⟨_, _, _, ob, e, _⟩ := x; exact ⟨_, e⟩
  | dK kvs => obtain ⟨_, _, _, _, o, _, _, e, _⟩ := x; exact ⟨_, e⟩
  | dT kvs => obtain ⟨_, _, _, _, o, _, _, e, _⟩ := x; exact ⟨_, e⟩
  | set S n => obtain ⟨o, _, _, _, e, _⟩ := x; exact ⟨_, e⟩
  | ins C dx fs => obtain ⟨_, _, _, e, _⟩ := x; exact ⟨_, e⟩
  | own y => exact x
  | xd fs => obtain ⟨_, ⟨_, _, _, e, _⟩, _⟩ := x; exact ⟨_, e⟩
  | rng lo hi => obtain ⟨_, _, _, e⟩ := x; exact ⟨_, e⟩
  | frz ob u => obtain ⟨e, _⟩ := x; exact ⟨_, e⟩
  | tbl ps => exact ⟨_, show h.get? a = some _ from x⟩
  | met f y => exact ⟨_, show h.get? a = some _ from x⟩
  | ext φ => obtain ⟨_, e, _⟩ := x; exact e

/-! ### an exception on its way -/
/-- B: what stands apart from the frames and the exception's own objects; all that stood ahead and all that is tracked lies in it -/
structure Fly (P : Program) (w : World) (outer : List Env) (H : Hp) (h₀ : Heap) (H' : Hp) (ea : Addr) (cls : Value) (h : Heap) (B : Heap) (t : Addr) : Prop where
  un : Un (frs outer) [] H H' h₀ h
  hok : HOk P w H' h
  fl : Heap.FlyingW B outer ea cls (.ref t) h
  old : ∀ b o, h₀.get? b = some o → b ∉ frs outer → ∃ o', B.get? b = some o'
  trk : ∀ b o, H' b = some o → ∃ o', B.get? b = some o'
def CX1 (P : Program) (w : World) : CXT := fun outer H s E e s' => ∃ (ea t : Addr) (cls : Value) (H' : Hp) (B : Heap), e = .ref ea ∧ s'.os = s.os ∧ AllBare s'.gens ∧ Fly P w outer H s.heap H' ea cls s'.heap B t ∧ E cls none H'

theorem frs_cons {env : Env} {outer : List Env} {L : Addr} (h : env.frame = some L) : frs (env :: outer) = L :: frs outer := by
  unfold frs
  rw [List.filterMap_cons, h]

section
variable {P : Program} {w : World} {outer : List Env} {H H' : Hp} {h₀ h h' B : Heap} {ea t L : Addr} {cls : Value}
/-- one more step of the flight that keeps B and the frames up to slots -/
theorem Fly.step {outer' : List Env} (F : Fly P w outer H h₀ H' ea cls h B t) (fl' : Heap.FlyingW B outer' ea cls (.ref t) h') (up : h.UpToSlots h') :
    Un (frs outer) [] H H' h₀ h' ∧ HOk P w H' h' := by
  have st := F.fl.1
  have same : ∀ b o, (∃ o', B.get? b = some o') → h.get? b = some o → h'.get? b = some o := fun b o ⟨o', e⟩ q => by
    have z := st b o' e
    rw [q] at z; cases z
    exact fl'.1 b _ e
  have frame : ∀ b o, b ∈ frs outer → h.get? b = some o → ∃ sl, h'.get? b = some { o with slots := sl } := fun b o hb q => by
    obtain ⟨_, o', ho', hd⟩ := F.fl.2.2.1.mem hb
    rw [q] at ho'; cases ho'
    exact up b o q hd
  refine ⟨⟨fun b o e n hb hx => same b o (F.old b o e hb) (F.un.keep b o e n hb hx), fun b o e n hb hx => ?_, F.un.free, fun b o e hx => ?_, F.un.tups, F.un.frzs, F.un.tbls⟩, fun a o e => ?_⟩
  · obtain ⟨sl, q⟩ := F.un.slot b o e n hb hx
    obtain ⟨sl', q'⟩ := frame b _ hb q
    exact ⟨sl', q'⟩
  · obtain ⟨o', q⟩ := F.un.there b o e hx
    by_cases hb : b ∈ frs outer
    · obtain ⟨sl, q'⟩ := frame b _ hb q
      exact ⟨_, q'⟩
    · exact ⟨o', same b o' (F.old b o e hb) q⟩
  · refine (F.hok a o e).stay (fun b u hb q => same b u ?_ q) (fun _ q => q) fun _ _ q => q
    rcases hb with z | z
    · rw [z]; exact F.trk a o e
    · exact F.trk b _ z
end

/-- a def's own body, not a comprehension's -/
structure Cx.Top (X : Cx) : Prop where
  ex : X.ex = []
  stk : X.stack = X.env :: X.outer
  fr : X.env.frame = some X.env.locals

section
variable {X : Cx} {pins : List (Addr × Obj)} {σ : St} {H : Hp} {s s' : Shared} {E : XK} {e : Value}
/-- out of the frame of this body -/
theorem fly_leave {A : Around} {E' : Value → Shared → Prop} (T : X.Top) (hA : A.frames = some X.stack) (I : Inv X pins σ H s) (h : CX1 X.prog X.w X.stack H s E e s') :
    wpAny (model X.prog X.w) A (leaving X.env e) (fun _ s'' => CX1 X.prog X.w X.outer X.H₀ X.s₀ E e s'') E' s' := by
  obtain ⟨ea, t, cls, H', B, rfl, os, bare, F, q⟩ := h
  have F0 := F
  rw [T.stk] at F
  have hf := frs_cons (outer := X.outer) T.fr
  refine wpAny_leaves_onW (by rw [hA, T.stk]) T.fr F.fl fun h'' fl'' up => ?_
  obtain ⟨un2, hok2⟩ := F.step fl'' up
  have exn : ∀ b, b ∉ X.ex := fun b z => by rw [T.ex] at z; cases z
  have neL : ∀ b o, X.s₀.heap.get? b = some o → b ≠ X.env.locals := fun b o e => Nat.ne_of_lt (Nat.lt_of_lt_of_le (Heap.lt_size e) I.ok.above)
  have notin : ∀ b o, X.s₀.heap.get? b = some o → b ∉ frs X.outer → b ∉ frs (X.env :: X.outer) := fun b o e hb z => by
    rw [hf] at z
    rcases List.mem_cons.mp z with z | z
    · exact neL b o e z
    · exact hb z
  refine ⟨ea, t, cls, H', B, rfl, os.trans I.os, bare, ⟨⟨fun b o e n hb hx => ?_, fun b o e n hb hx => ?_, fun b o e n hx => ?_, fun b o e hx => ?_, fun b xs e => un2.tups b xs (I.base.tups b xs e), fun b o xs e => un2.frzs b o xs (I.base.frzs b o xs e), fun b ps e => ?_⟩, hok2, fl'', fun b o e hb => ?_, F.trk⟩, q⟩
  · exact un2.keep b o (I.base.keep b o e n hb (exn b)) (I.base.free b o e n (exn b)) (notin b o e hb) (by simp)
  · obtain ⟨sl, e1⟩ := I.base.slot b o e n hb (exn b)
    obtain ⟨sl', e2⟩ := un2.slot b _ e1 (I.base.free b o e n (exn b)) (by rw [hf]; exact List.mem_cons_of_mem _ hb) (by simp)
    exact ⟨sl', e2⟩
  · obtain ⟨o', e1⟩ := I.base.there b o e (exn b)
    exact un2.free b o' e1 (I.base.free b o e n (exn b)) (by simp)
  · obtain ⟨o', e1⟩ := I.base.there b o e (exn b)
    exact un2.there b o' e1 (by simp)
  · obtain ⟨m1, e1⟩ := I.base.tbls b ps e
    obtain ⟨m2, e2⟩ := un2.tbls b _ e1
    exact ⟨m1 ++ m2, by rw [e2, Array.append_assoc]⟩
  · obtain ⟨o', e1⟩ := I.base.there b o e (exn b)
    exact F.old b o' e1 (notin b o e hb)

/-- it was just made in this body -/
theorem fly_made {A : Around} {E' : Value → Shared → Prop} {h' : Heap} {ea : Addr} {cls : Value} {args : List Value} (T : X.Top) (hA : A.frames = some X.stack) (I : Inv X pins σ H s) (hx : Heap.MadeExcOf s.heap h' ea cls args) (q : E cls none H) :
    wpAny (model X.prog X.w) A (leaving X.env (.ref ea)) (fun _ s'' => CX1 X.prog X.w X.outer X.H₀ X.s₀ E (.ref ea) s'') E' { s with heap := h' } := by
  have hf := frs_cons (outer := X.outer) T.fr
  have stk := I.stack
  rw [T.stk] at stk
  have hin : ∀ env ∈ (X.env :: X.outer), ∀ b, env.frame = some b → b ∈ frs (X.env :: X.outer) := fun env he b hb => List.mem_filterMap.mpr ⟨env, he, hb⟩
  refine wpAny_leaves_madeW (base := PySem.W.hideAll s.heap (frs (X.env :: X.outer))) (h := s.heap) (by rw [hA, T.stk]) T.fr (fun b o q => PySem.W.of_hideAll _ q) (PySem.W.funFrames_hide stk hin) hx fun h'' t fl tup tn up => ?_
  have inB : ∀ b o, s.heap.get? b = some o → b ∉ frs (X.env :: X.outer) → (PySem.W.hideAll s.heap (frs (X.env :: X.outer))).get? b = some o := fun b o e hb => PySem.W.hideAll_get _ e hb
  have free : ∀ b ∈ frs (X.env :: X.outer), H b = none := fun b hb => I.stkFree b (by rw [T.stk]; exact hb)
  have up2 : s.heap.UpToSlots h'' := (Heap.UpToSlots.of_keeps hx.keeps).trans up
  have exn : ∀ b, b ∉ X.ex := fun b z => by rw [T.ex] at z; cases z
  have neL : ∀ b o, X.s₀.heap.get? b = some o → b ≠ X.env.locals := fun b o e => Nat.ne_of_lt (Nat.lt_of_lt_of_le (Heap.lt_size e) I.ok.above)
  have notin : ∀ b o, X.s₀.heap.get? b = some o → b ∉ frs X.outer → b ∉ frs (X.env :: X.outer) := fun b o e hb z => by
    rw [hf] at z
    rcases List.mem_cons.mp z with z | z
    · exact neL b o e z
    · exact hb z
  have trk : ∀ b o, H b = some o → ∃ o', (PySem.W.hideAll s.heap (frs (X.env :: X.outer))).get? b = some o' := fun b o e => by
    obtain ⟨u, hu⟩ := (I.hok b o e).there
    exact ⟨u, inB b u hu fun z => by rw [free b z] at e; cases e⟩
  refine ⟨ea, t, cls, H, _, rfl, I.os, I.bare, ⟨⟨fun b o e n hb hx => ?_, fun b o e n hb hx => ?_, fun b o e n hx => ?_, fun b o e hx => ?_, I.base.tups, I.base.frzs, I.base.tbls⟩, fun a o e => ?_, fl, fun b o e hb => ?_, trk⟩, q⟩
  · exact fl.1 b o (inB b o (I.base.keep b o e n hb (exn b)) (notin b o e hb))
  · obtain ⟨sl, e1⟩ := I.base.slot b o e n hb (exn b)
    obtain ⟨_, o', ho', hd⟩ := I.ok.funs.mem hb
    rw [e] at ho'; cases ho'
    obtain ⟨sl', e2⟩ := up2 b _ e1 hd
    exact ⟨sl', e2⟩
  · exact I.base.free b o e n (exn b)
  · obtain ⟨o', e1⟩ := I.base.there b o e (exn b)
    by_cases hb : b ∈ frs X.outer
    · obtain ⟨_, o2, ho2, hd⟩ := I.funs.mem hb
      rw [e1] at ho2; cases ho2
      obtain ⟨sl', e2⟩ := up2 b _ e1 hd
      exact ⟨_, e2⟩
    · exact ⟨o', fl.1 b o' (inB b o' e1 (notin b o e hb))⟩
  · refine (I.hok a o e).stay (fun b u hb q => ?_) (fun _ q => q) fun _ _ q => q
    refine fl.1 b u (inB b u q fun z => ?_)
    rcases hb with y | y
    · rw [y] at z; rw [free a z] at e; cases e
    · rw [free b z] at y; cases y
  · obtain ⟨o', e1⟩ := I.base.there b o e (exn b)
    exact ⟨o', inB b o' e1 (notin b o e hb)⟩

/-- it has landed here: the exception is tracked -/
theorem fly_land {h6 : Heap} {ea t : Addr} {C : Addr} {H' : Hp} {B : Heap} {g' : Shared} (T : X.Top) (I : Inv X pins σ H s) (F : Fly X.prog X.w X.stack H s.heap H' ea (.ref C) s'.heap B t) (os : s'.os = s.os) (bare : AllBare s'.gens)
    (fl6 : Heap.FlyingW B X.stack ea (.ref C) (.ref t) h6) (up : s'.heap.UpToSlots h6) :
    H' ea = none ∧ Inv X pins σ (upd H' ea (.ext (excO ea C))) { s' with heap := h6 } := by
  obtain ⟨un2, hok2⟩ := F.step fl6 up
  obtain ⟨oe, vs, he, hc, hd, _⟩ := fl6.first
  have hB : B.get? ea = none := fl6.2.1
  have hn : H' ea = none := by
    cases q : H' ea with
    | none => rfl
    | some o =>
      obtain ⟨o', z⟩ := F.trk ea o q
      rw [hB] at z; cases z
  have hnf : ea ∉ frs X.stack := fun z => by
    obtain ⟨_, o, ho, hdd⟩ := fl6.2.2.1.mem z
    rw [he] at ho; cases ho
    exact hdd vs hd
  have hs : s.heap.get? ea = none := by
    cases q : s.heap.get? ea with
    | none => rfl
    | some o =>
      obtain ⟨o', z⟩ := F.old ea o q hnf
      rw [hB] at z; cases z
  have I5 : Inv X pins σ H' { s' with heap := h6 } := I.call' (s' := { s' with heap := h6 }) (ch := []) os un2 hok2 bare fun b hb => nomatch hb
  refine ⟨hn, I5.track hn ?_ ?_ (fun x c e z => ?_) (fun p hp z => ?_) ⟨⟨oe, vs, he, hc, hd⟩, ⟨oe, he⟩, fun h1 h2 ⟨o1, v1, e1, r⟩ k => ⟨o1, v1, k o1 e1, r⟩⟩⟩
  · cases q : X.s₀.heap.get? ea with
    | none => rfl
    | some o =>
      obtain ⟨o', z⟩ := I.base.there ea o q (by rw [T.ex]; simp)
      rw [hs] at z; cases z
  · intro z
    obtain ⟨m, ⟨o, es, ep, ho, hdd, _⟩, _⟩ := I.loc
    rw [← z, hs] at ho; cases ho
  · obtain ⟨v, o, ho, _⟩ := I.cell x c e
    rw [z, hs] at ho; cases ho
  · have := (I.pin p hp).1
    rw [z, hs] at this; cases this
end
end L2

set_option Elab.async false
set_option linter.all false
set_option maxRecDepth 100000
namespace L2
open PySem PySem.Spec PyProof.Rows

/-! ### defs that may raise -/
section
variable {P : Program} {w : World} {K : PySem.W.Frag} {mg : Str → Option Value} {base : Heap} {N : List Str} {qual : Str} {scope : Scope} {f : Addr} {cd : Value} {A : Around} {outer : List Env} {s : Shared} {H : Hp} {E : XK}
theorem cxTop : (cxOf (CX1 P w) P w K mg base N qual scope f cd A outer s H E).Top := ⟨rfl, rfl, rfl⟩
theorem CX1.imp {outer : List Env} {H : Hp} {s s' : Shared} {E E' : XK} {e : Value} (h : CX1 P w outer H s E e s') (hE : ∀ c d H', E c d H' → E' c d H') : CX1 P w outer H s E' e s' := by
  obtain ⟨ea, t, cls, H', B, h1, h2, h3, h4, q⟩ := h
  exact ⟨ea, t, cls, H', B, h1, h2, h3, h4, hE _ _ _ q⟩
/-- what a callee raises passes this def's frame -/
theorem pass1 : Passes (CX1 P w) (cxOf (CX1 P w) P w K mg base N qual scope f cd A outer s H E) E := fun pins σ H s e s' I h => fly_leave cxTop I.ok.frames I h
theorem passN {X : Cx} : Passes (CX1 P w) X E0 := fun pins σ H s e s' I ⟨_, _, _, _, _, _, _, _, _, q⟩ => q.elim
theorem own1 : PassesOwn (model P w) (cxOf (CX1 P w) P w K mg base N qual scope f cd A outer s H E).A (cxOf (CX1 P w) P w K mg base N qual scope f cd A outer s H E).env (cxOf (CX1 P w) P w K mg base N qual scope f cd A outer s H E).xe := PassesOwn.leaving
/-- what this body raises -/
def Rz (X : Cx) (E : XK) : Prop := ∀ (pins : List (Addr × Obj)) (σ : St) (H : Hp) (s : Shared) (h' : Heap) (ea : Addr) (cls : Value) (args : List Value), Inv X pins σ H s → Heap.MadeExcOf s.heap h' ea cls args → E cls none H → X.xe (.ref ea) { s with heap := h' }
theorem rz1 : Rz (cxOf (CX1 P w) P w K mg base N qual scope f cd A outer s H E) E := fun pins σ H s h' ea cls args I hx q => fly_made cxTop I.ok.frames I hx q

/-- THE RULE for a def that may raise -/
theorem Fun.okR {x qual : Str} {st : Stmt} {f : Addr} {fd : FuncData} {N ps : List Str} {k : Nat} {sp : Sp} (F : Fun K x qual st f fd) (S : FnScope N ps (defScope st)) (len : ∀ vs H Q E, sp vs H Q E → vs.length = ps.length)
    (hbody : ∀ (cdv : Value) (A : Around) (outer : List Env) (s : Shared) (H : Hp) (vs : List V) (Q : VK) (E : XK), Room k (A.deeper (envOfC qual (defScope st) s.heap.objs.size f cdv)) → sp vs H Q E →
      ∃ t, PSs (cxOf (CX1 P w) P w K mg base N qual (defScope st) f cdv A outer s H E) (defBody st) t ∧ t { nx := fun _ H' => Q .non H', rt := Q } (start N vs) H) : FnOk P w K mg base (CX1 P w) (k + 1) f fd ps sp := by
  obtain ⟨oc, od, kV, doc, pm, an, cdv, ct, osl, rfl, lk, hcd⟩ := F.ex
  exact fn_of lk hcd S len fun A outer s H vs Q E hr hsp => hbody cdv A outer s H vs Q E hr hsp
/-- .. for one that never does -/
theorem Fun.okN {x qual : Str} {st : Stmt} {f : Addr} {fd : FuncData} {N ps : List Str} {k : Nat} {sp : Sp} (F : Fun K x qual st f fd) (S : FnScope N ps (defScope st)) (len : ∀ vs H Q E, sp vs H Q E → vs.length = ps.length)
    (hbody : ∀ (cdv : Value) (A : Around) (outer : List Env) (s : Shared) (H : Hp) (vs : List V) (Q : VK) (E : XK), Room k (A.deeper (envOfC qual (defScope st) s.heap.objs.size f cdv)) → sp vs H Q E →
      ∃ t, PSs (cxOf (CX1 P w) P w K mg base N qual (defScope st) f cdv A outer s H E).nox (defBody st) t ∧ t { nx := fun _ H' => Q .non H', rt := Q } (start N vs) H) : FnOk P w K mg base (CX1 P w) (k + 1) f fd ps sp :=
  F.okR S len fun cdv A outer s H vs Q E hr hsp => let ⟨t, h, q⟩ := hbody cdv A outer s H vs Q E hr hsp; ⟨t, h.nox, q⟩
end

/-! ### raise -/
abbrev bmVE : List Value := [.type "ValueError", .type "Exception", .type "BaseException", .type "object"]
theorem exc_of_in {K : PySem.W.Frag} {h : Heap} {C : Addr} (X : K.In h) (q : PySem.W.excIn K C bmVE "ValueError.__new__" = true) :
    ∃ bm N nm q' bs hdct sn sub ab col dd k0 k1 k2 k3 k5 mN, h.get? C = some (excClassObj nm q' C N bs bm hdct sn sub ab col dd k0 k1 k2 k3 k5 "ValueError.__new__") ∧ h.Ns N mN ∧ mN "__init__" = none ∧ OwnTail h bmVE bm := by
  unfold PySem.W.excIn at q
  split at q
  · rename_i dd cd sl ho
    split at q
    · rename_i C' bm k0 k1 k2 k3 n k5 hm hs
      simp only [Bool.and_eq_true, beq_iff_eq, Bool.not_eq_true'] at q
      obtain ⟨⟨⟨⟨⟨rfl, rfl⟩, hdel⟩, ht⟩, hok⟩, hni⟩ := q
      obtain ⟨nm, bs, mro, ns, qn, hd, sn, sub, ab, col, del⟩ := cd
      dsimp only at hm hdel hok hni
      subst hm hdel
      have hsl : sl = #[k0, k1, k2, k3, some (.builtin "ValueError.__new__"), k5] := by
        obtain ⟨l⟩ := sl
        simp only at hs
        rw [hs]
      subst hsl
      exact ⟨bm, ns, nm, qn, bs, hd, sn, sub, ab, col, dd, k0, k1, k2, k3, k5, _, X _ _ ho, .of_isNs (PySem.W.isNs_of_in X hok), PySem.W.nsMap_none_of_in X hok hni, PySem.W.tail_of_in X ht⟩
    · cases q
  · cases q
section
variable {X : Cx} {x : Str} {C : Addr} {E : XK} {np cpos pos : Pos} {e₀ : Expr} {es : List Expr} {ta : TA}
def tRaise (C : Addr) (E : XK) (ta : TA) : TS := fun _ σ H => ta σ H fun vs H1 => vs.length ≤ sizeLine ∧ E (.ref C) none H1
theorem ps_raise (hc : X.calm = true) (hR : Rz X E) (hg : Gl X x) (hm : X.mg x = some (.ref C)) (hq : PySem.W.excIn X.K C bmVE "ValueError.__new__" = true) (ha : PA X (e₀ :: es) ta)
    (he : starEach (e₀ :: es) X.env = (false, eval e₀ X.env) :: starEach es X.env := by rfl) (hplain : (backTo cpos (starEach es X.env)).any (·.1) = false := by rfl) (hd : (x == ("__debug__" : Str)) = false := by decide) :
    PS X (.Raise (some (.Call (.Name x np) (e₀ :: es) [] cpos)) none pos) (tRaise C E ta) := by
  intro pins s σ H D I h
  obtain ⟨bm, N, nm, q', bs, hdct, sn, sub, ab, col, dd, k0, k1, k2, k3, k5, mN, hC, hN, hni, T⟩ := exc_of_in I.ok.mod.kin hq
  refine wpAny_Raise_call_subT (C := C) (nm := nm) (q := q') (N := N) (bs := bs) (bm := bm) (hdct := hdct) (sn := sn) (sub := sub) (ab := ab) (col := col) (dd := dd) (k0 := k0) (k1 := k1) (k2 := k2) (k3 := k3) (k5 := k5)
    PySem.F.excBase_ValueError (mN := mN) (T.hasType PySem.F.excBase_ValueError.hasBase) (I.ok.hd hc) (by rw [he]; show (false || (backTo cpos (starEach es X.env)).any (·.1)) = false; rw [hplain]; rfl) hni (ld_glob I hg hm ⟨rfl, ?_⟩ hd)
  have hA := ha cpos pins s σ H _ I h
  rw [he] at hA ⊢
  refine Calls.evalArgs_plain (thn hA fun us s2 ⟨vs, H2, I2, r2, hz, q2⟩ => ⟨rfl, by rw [← r2.length]; exact hz, I2.bk _ _ hC, hN.keeps I2.bk, T.keeps I2.bk, fun h' e hm' => ?_⟩)
  exact hR pins σ H2 s2 h' e _ _ I2 hm' q2
end

/-! ### bodies of a try: what may be raised is told with the names' values -/
abbrev XS := St → XK
abbrev TEx := St → Hp → VK → XK → Prop
abbrev TSx := Ends → XS → St → Hp → Prop
def XP (X : Cx) (pins : List (Addr × Obj)) (E : XS) (e : Value) (s' : Shared) : Prop := ∃ σ1 H1 s1, Inv X pins σ1 H1 s1 ∧ CX1 X.prog X.w X.stack H1 s1 (E σ1) e s'
def PEx (X : Cx) (e : Expr) (t : TEx) : Prop :=
  ∀ (pins : List (Addr × Obj)) (s : Shared) (σ : St) (H : Hp) (Q : VK) (E : XS), Inv X pins σ H s → t σ H Q (E σ) → wpAny (model X.prog X.w) X.A (eval e X.env) (EP X pins σ Q) (XP X pins E) s
def PSx (X : Cx) (st : Stmt) (t : TSx) : Prop :=
  ∀ (pins : List (Addr × Obj)) (s : Shared) (σ : St) (H : Hp) (D : Ends) (E : XS), Inv X pins σ H s → t D E σ H → wpAny (model X.prog X.w) X.A (exec st X.env) (SP X pins D) (XP X pins E) s
def PSsx (X : Cx) (st : List Stmt) (t : TSx) : Prop :=
  ∀ (pins : List (Addr × Obj)) (s : Shared) (σ : St) (H : Hp) (D : Ends) (E : XS), Inv X pins σ H s → t D E σ H → wpAny (model X.prog X.w) X.A (execs st X.env) (SP X pins D) (XP X pins E) s
section
variable {X : Cx} {st : Stmt} {rest : List Stmt} {t u : TSx} {e : Expr} {es : List Expr} {te : TEx} {pos p : Pos} {x : Str} {f : Addr} {fd : FuncData} {ps : List Str} {sp : Sp} {k : Nat} {ta : TA} {dvs : List V} {ds : List Value}
theorem PE.toX {te : TE} (h : PE X.nox e te) : PEx X e (fun σ H Q _ => te σ H Q) := fun pins s σ H Q E I hw =>
  wpAny_mono (h pins s σ H Q (I.wish _) hw) (fun _ _ ⟨v, H', I', r, q⟩ => ⟨v, H', I'.unwish, r, q⟩) fun _ _ z => False.elim z
theorem PS.toX {t : TS} (h : PS X.nox st t) : PSx X st (fun D _ => t D) := fun pins s σ H D E I hw =>
  wpAny_mono (h pins s σ H D (I.wish _) hw) (fun _ _ q => q.unwish) fun _ _ z => False.elim z
theorem PSs.toX {sts : List Stmt} {t : TS} (h : PSs X.nox sts t) : PSsx X sts (fun D _ => t D) := fun pins s σ H D E I hw =>
  wpAny_mono (h pins s σ H D (I.wish _) hw) (fun _ _ q => q.unwish) fun _ _ z => False.elim z
end

/-! ### try .. except -/
/-- the context of an except suite -/
def cxSuite (X : Cx) (ea : Addr) : Cx := { X with A := X.A.mark (some (.ref ea)), calm := false, xe := fun _ _ => False }
section
variable {X : Cx} {pins : List (Addr × Obj)} {σ : St} {H : Hp} {s : Shared} {ea : Addr}
theorem Inv.suite (I : Inv X pins σ H s) : Inv (cxSuite X ea) pins σ H s :=
  ⟨⟨I.ok.mod, I.ok.kind, I.ok.glob, I.ok.blt, I.ok.above, I.ok.inj, I.ok.has, I.ok.cab, fun z => absurd z Bool.false_ne_true, I.ok.frames, I.ok.stk, I.ok.exf, I.ok.bs, I.ok.bsz, I.ok.noex, I.ok.exfs, I.ok.funs, I.ok.frf⟩, I.os, I.bare, I.base, I.loc, I.cell, I.free, I.freeC, I.pin, I.hok, I.len⟩
theorem Inv.unsuite (ok : X.Ok) (I : Inv (cxSuite X ea) pins σ H s) : Inv X pins σ H s :=
  ⟨ok, I.os, I.bare, I.base, I.loc, I.cell, I.free, I.freeC, I.pin, I.hok, I.len⟩
/-- does the exception match: its class is C or under it -/
theorem exc_match {M : Model} {A : Around} {E : Value → Shared → Prop} {K : PySem.W.Frag} {C Ce : Addr} {o : Obj} {Q : Bool → Shared → Prop} (KX : K.In s.heap) (he : s.heap.get? ea = some o) (hc : o.cls = .ref Ce)
    (hty : PySem.W.typeIn K (.ref C) = some (.type "type")) (hcl : (PySem.W.clsIn K C).isSome = true) (hb : PySem.W.mroIn K C (.type "BaseException") = some true) (hm : PySem.W.mroIn K Ce (.ref C) = some true) (q : Q true s) :
    wpAny M A (excMatches (.ref ea) (.ref C)) Q E s := by
  obtain ⟨h, g, d, tk, os⟩ := s
  have L0 := exc_type (M := M) he hc
  have L1 := PySem.W.looks_typeIn (M := M) KX hty
  have L2 := PySem.W.looks_mroIn (M := M) KX hb
  have L3 := PySem.W.looks_mroIn (M := M) KX hm
  have L4 : PySem.W.Looks M h (isType (.ref C)) true := by
    obtain ⟨cd, hcd⟩ := Option.isSome_iff_exists.mp hcl
    unfold PySem.W.clsIn at hcd
    split at hcd
    · rename_i c' d' cd' sl' ho
      intro A' Q' E' s' k q
      unfold isType loadHead
      exact wpAny_bind (wpAny_loadPart (k _ _ (KX _ _ ho)) (wpAny_pure q))
    · cases hcd
  have LT : PySem.W.Looks M h (isInstance (.ref C) (.type "tuple")) false := L1.andThen (PySem.W.Looks.of_pure tc_notTuple)
  have LE : PySem.W.Looks M h (isExcClass (.ref C)) true := by
    unfold isExcClass
    exact L4.andThen L2
  unfold excMatches
  refine wpAny_bind (LT.at ?_)
  rw [if_neg Bool.false_ne_true]
  refine wpAny_bind (wpAny_pure ?_)
  dsimp only
  refine wpAny_bind ?_
  rw [List.forIn_cons]
  refine wpAny_bind (wpAny_bind (LE.at ?_))
  simp only [Bool.not_true, Bool.false_eq_true, if_false]
  refine wpAny_pure ?_
  dsimp only
  rw [List.forIn_nil]
  refine wpAny_pure ?_
  refine wpAny_bind (L0.at (wpAny_bind ?_))
  rw [List.forIn_cons]
  refine wpAny_bind (wpAny_bind (L3.at ?_))
  simp only [if_true]
  exact wpAny_pure (wpAny_pure (wpAny_pure q))
/-- a name goes -/
theorem Inv.unbind {i : Nat} {n : Str} {h' : Heap} {tk : Nat} {m : Str → Option Value} {v : Option Value} (I : Inv X pins σ H s) (hN : X.N.Nodup) (hi : X.N[i]? = some n) (hl : X.env.kindOf n = some .local)
    (hm : ∀ (i : Nat) (x : Str) (v : V), X.N[i]? = some x → σ[i]? = some (some v) → Vis X.env.scope x → ∃ u, RelV v u ∧ Look X.env s.heap m x u) (hn : s.heap.Ns X.env.locals m)
    (hn' : h'.Ns X.env.locals (fun x => if x = n then v else m x)) (hs : Heap.SameBut X.env.locals s.heap h') : Inv X pins (σ.set i none) H { s with heap := h', toks := tk } := by
  have cne := I.cne
  have neL : ∀ b o, X.s₀.heap.get? b = some o → b ≠ X.env.locals := fun b o e => Nat.ne_of_lt (Nat.lt_of_lt_of_le (Heap.lt_size e) I.ok.above)
  refine ⟨I.ok, I.os, I.bare, ⟨fun b o e n hb hx => ?_, fun b o e n hb hx => ?_, I.base.free, fun b o e hx => ?_, I.base.tups, I.base.frzs, I.base.tbls⟩, ⟨_, hn', fun j y v' e1 e2 e3 => ?_⟩, fun y c e => ?_, I.free, I.freeC, fun p hp => ?_, fun b ob e => ?_, by simpa using I.len⟩
  · exact (hs.2 b (neL b o e)).trans (I.base.keep b o e n hb hx)
  · obtain ⟨sl, e1⟩ := I.base.slot b o e n hb hx
    exact ⟨sl, (hs.2 b (neL b o e)).trans e1⟩
  · obtain ⟨o', e1⟩ := I.base.there b o e hx
    exact ⟨o', (hs.2 b (neL b o e)).trans e1⟩
  · by_cases hj : j = i
    · subst hj
      have hiσ : j < σ.length := by rw [I.len]; exact (List.getElem?_eq_some_iff.mp hi).1
      rw [List.getElem?_set_self hiσ] at e2
      cases e2
    · rw [List.getElem?_set_ne (Ne.symm hj)] at e2
      obtain ⟨u', r', q⟩ := hm j y v' e1 e2 e3
      refine ⟨u', r', ?_⟩
      rcases q with ⟨k, e⟩ | ⟨k, c, e, z⟩
      · refine .inl ⟨k, ?_⟩
        have : y ≠ n := fun e => hj (nodup_ix hN e1 (e ▸ hi))
        simp [this, e]
      · exact .inr ⟨k, c, e, z.sameBut hs (cne y c e)⟩
  · obtain ⟨w', z⟩ := I.cell y c e
    exact ⟨w', z.sameBut hs (cne y c e)⟩
  · obtain ⟨e, n, ne, nf, d⟩ := I.pin p hp
    exact ⟨(hs.2 p.1 ne).trans e, n, ne, nf, d⟩
  · refine (I.hok b ob e).stay (fun c w' hc q => (hs.2 c ?_).trans q) (fun _ q => q) fun _ _ q => q
    rintro rfl
    rcases hc with z | hc
    · rw [← z, I.free] at e; cases e
    · rw [I.free] at hc; cases hc
theorem ld_globA {A : Around} {E : Value → Shared → Prop} {x : Str} {u : Value} {pos : Pos} {Q : Value → Shared → Prop} (I : Inv X pins σ H s) (hg : Gl X x) (hm : X.mg x = some u) (h : Q u s)
    (hd : (x == ("__debug__" : Str)) = false := by decide) : wpAny (model X.prog X.w) A (eval (.Name x pos) X.env) Q E s :=
  Calls.Name_function_global I.ok.kind hg (Calls.loadGlobal_global (by rw [I.ok.glob]; exact I.mod.glob.keeps I.bk) hm h) hd
end

/-- an exception class that an except clause names -/
structure XHand (K : PySem.W.Frag) (C : Addr) : Prop where
  ty : PySem.W.typeIn K (.ref C) = some (.type "type")
  cls : (PySem.W.clsIn K C).isSome = true
  mb : PySem.W.mroIn K C (.type "BaseException") = some true
def endsU (i : Nat) (D : Ends) : Ends := { nx := fun σ H => D.nx (σ.set i none) H, rt := D.rt, bk := fun σ H => D.bk (σ.set i none) H, ct := fun σ H => D.ct (σ.set i none) H }
def tTry (K : PySem.W.Frag) (C : Addr) (i : Nat) (tb : TSx) (ts : TS) : TS := fun D σ H =>
  tb D (fun σ1 cls _ H1 => ∃ Ce, cls = .ref Ce ∧ PySem.W.mroIn K Ce (.ref C) = some true ∧ ∀ ea, H1 ea = none → ts (endsU i D) (σ1.set i (some (.ref ea))) (upd H1 ea (.ext (excO ea Ce)))) σ H
section
variable {X : Cx} {x n : Str} {C : Addr} {i : Nat} {body suite : List Stmt} {b₀ : Stmt} {tb : TSx} {ts : TS} {np hpos pos : Pos}
theorem ps_try (T : X.Top) (hN : X.N.Nodup) (hi : X.N[i]? = some n) (hl : X.env.kindOf n = some .local) (hg : Gl X x) (hm : X.mg x = some (.ref C)) (hh : XHand X.K C) (hb : PSsx X body tb) (hs : ∀ ea, PSs (cxSuite X ea) (b₀ :: suite) ts)
    (hd : (x == ("__debug__" : Str)) = false := by decide) : PS X (.Try body [.ExceptHandler (some (.Name x np)) (some n) (b₀ :: suite) hpos] [] [] pos) (tTry X.K C i tb ts) := by
  intro pins s σ H D I h
  refine wpAny_Try_except (wpAny_mono (hb pins s σ H D _ I h) (fun f s1 q => ?_) fun e s1 hx => ?_)
  · cases f with
    | next => exact wpAny_execs_nil q
    | ret v => exact q
    | brk => exact q
    | cont => exact q
  · obtain ⟨σ1, H1, s0, I1, ea, t, cls, H', B, rfl, os, bare, F, Ce, rfl, hme, q⟩ := hx
    have F1 := F.fl
    rw [T.stk] at F1
    have hfr : X.A.frames = some (X.env :: X.outer) := by rw [I1.ok.frames, T.stk]
    refine wpAny_looks_onW hfr T.fr F1 fun h4 held4 up4 => ?_
    refine wpAny_landsW held4 fun h5 fl5 up5 => ?_
    have fl5' := fl5
    rw [← T.stk] at fl5'
    obtain ⟨hn5, I5⟩ := fly_land (g' := s1) T I1 F os bare fl5' (up4.trans up5)
    obtain ⟨o5, he5, hc5⟩ := fl5.there
    refine wpAny_handleBy_cons (codeAny_handlers_test (ld_globA I5 hg hm ?_ hd)) (by intro q; cases q)
    refine exc_match I5.kIn he5 hc5 hh.ty hh.cls hh.mb hme ?_
    refine codeAny_handlers_suite_as ?_
    refine lands_againW fl5 fun h6 fl6 up6 => ?_
    have fl6' := fl6
    rw [← T.stk] at fl6'
    obtain ⟨hn6, I6⟩ := fly_land (g' := s1) T I1 F os bare fl6' ((up4.trans up5).trans up6)
    refine store_ok (v := .ref ea) I6 hN hi (.inl hl) rfl (fun s7 I7 => ?_) (.inr hl)
    refine wpAny_mono (hs ea pins s7 _ _ (endsU i D) I7.suite (q ea hn6)) (fun f s8 h8 => ?_) fun _ _ z => False.elim z
    have go : ∀ {σ8 : St} {H8 : Hp}, Inv (cxSuite X ea) pins σ8 H8 s8 → (∀ s9, Inv X pins (σ8.set i none) H8 s9 → SP X pins D f s9) →
        wpAny (model X.prog X.w) X.A (do bindName X.env n .none; unbindBehindTheSuite X.env n hpos) (fun _ s9 => SP X pins D f s9) X.xe s8 := fun {σ8 H8} I8' k => by
      have I8 := I8'.unsuite I.ok
      obtain ⟨m, hn, hm⟩ := I8.loc
      exact wpAny_nameGoes_keeps hl hn (by rw [I8.ok.kind]; rfl) fun h' v hn' hs' => k _ (I8.unbind hN hi hl hm hn hn' hs')
    cases f with
    | next => obtain ⟨σ8, H8, I8, q8⟩ := h8; exact go I8 fun s9 I9 => ⟨_, _, I9, q8⟩
    | brk => obtain ⟨σ8, H8, I8, q8⟩ := h8; exact go I8 fun s9 I9 => ⟨_, _, I9, q8⟩
    | cont => obtain ⟨σ8, H8, I8, q8⟩ := h8; exact go I8 fun s9 I9 => ⟨_, _, I9, q8⟩
    | ret u => obtain ⟨v, σ8, H8, I8, r8, q8⟩ := h8; exact go I8 fun s9 I9 => ⟨v, _, _, I9, r8, q8⟩
end
end L2

set_option Elab.async false
set_option linter.all false
set_option maxRecDepth 100000
namespace L2
open PySem PySem.Spec PyProof.Rows

/-! ### values read as data -/
mutual
inductive Rep (K : PySem.W.Frag) (H : Hp) : V → PyData → Prop where
  | non : Rep K H .non .none
  | bl (b : Bool) : Rep K H (.bl b) (.bool b)
  | int (i : Int) : Rep K H (.int i) (.int i)
  | str (x : Str) : Rep K H (.str x) (.str x)
  | tup {a : Addr} {xs : List V} {ds : List PyData} (h : SqT K H a xs) (r : Reps K H xs ds) : Rep K H (.ref a) (.tuple ds)
  | lst {a : Addr} {xs : List V} {ds : List PyData} (h : SqL K H a xs) (r : Reps K H xs ds) : Rep K H (.ref a) (.list ds)
inductive Reps (K : PySem.W.Frag) (H : Hp) : List V → List PyData → Prop where
  | nil : Reps K H [] []
  | cons {x : V} {d : PyData} {xs : List V} {ds : List PyData} (r : Rep K H x d) (rr : Reps K H xs ds) : Reps K H (x :: xs) (d :: ds)
end
section
variable {X : Cx} {pins : List (Addr × Obj)} {σ : St} {H H' : Hp} {s : Shared} {K : PySem.W.Frag}
mutual
theorem Rep.reads (I : Inv X pins σ H s) : ∀ {v : V} {d : PyData} {u : Value}, Rep X.K H v d → RelV v u → ∃ as, Reads s.heap u d as
  | _, _, _, .non, r => by cases r; exact ⟨_, .none⟩
  | _, _, _, .bl b, r => by cases r; exact ⟨_, .bool b⟩
  | _, _, _, .int i, r => by obtain ⟨t, rfl⟩ := r; exact ⟨_, .int i t⟩
  | _, _, _, .str x, r => by obtain ⟨t, rfl⟩ := r; exact ⟨_, .str x t⟩
  | _, _, _, .tup h rs, r => by
    cases r
    obtain ⟨its, rv, ⟨o, e, c, n, d⟩, _⟩ := I.tuple h
    obtain ⟨as, q⟩ := Reps.reads I rs rv
    exact ⟨as, .tuple e c d (by simpa using q)⟩
  | _, _, _, .lst h rs, r => by
    cases r
    obtain ⟨its, rv, ⟨o, n, e, c, _, d⟩, _⟩ := I.list h
    obtain ⟨as, q⟩ := Reps.reads I rs rv
    exact ⟨_, .list e c d (by simpa using q)⟩
theorem Reps.reads (I : Inv X pins σ H s) : ∀ {vs : List V} {ds : List PyData} {us : List Value}, Reps X.K H vs ds → Vals vs us → ∃ as, ReadsAll s.heap us ds as
  | _, _, _, .nil, r => by cases r; exact ⟨_, .nil⟩
  | _, _, _, .cons r rs, q => by
    cases q with
    | cons q1 q2 =>
      obtain ⟨as, h1⟩ := Rep.reads I r q1
      obtain ⟨bs, h2⟩ := Reps.reads I rs q2
      exact ⟨_, .cons h1 h2⟩
end
theorem Same.seqT {a : Addr} {xs : List V} (e : Same H H') (h : SqT K H a xs) : SqT K H' a xs := by
  rcases h with (h | ⟨o, h⟩) | h
  · exact .inl (.inl (e _ _ h))
  · exact .inl (.inr ⟨o, e _ _ h⟩)
  · exact .inr h
mutual
theorem Rep.same (e : Same H H') : ∀ {v : V} {d : PyData}, Rep K H v d → Rep K H' v d
  | _, _, .non => .non
  | _, _, .bl b => .bl b
  | _, _, .int i => .int i
  | _, _, .str x => .str x
  | _, _, .tup h rs => .tup (e.seqT h) (Reps.same e rs)
  | _, _, .lst h rs => .lst (e.seq h) (Reps.same e rs)
theorem Reps.same (e : Same H H') : ∀ {vs : List V} {ds : List PyData}, Reps K H vs ds → Reps K H' vs ds
  | _, _, .nil => .nil
  | _, _, .cons r rs => .cons (Rep.same e r) (Reps.same e rs)
end
theorem Reps.len : ∀ {vs : List V} {ds : List PyData}, Reps K H vs ds → vs.length = ds.length
  | _, _, .nil => rfl
  | _, _, .cons _ rs => by rw [List.length_cons, List.length_cons, rs.len]
theorem Reps.get : ∀ {vs : List V} {ds : List PyData} {i : Nat} {v : V}, Reps K H vs ds → vs[i]? = some v → ∃ d, ds[i]? = some d ∧ Rep K H v d
  | _, _, _, _, .nil, e => by simp at e
  | _, _, 0, _, .cons r _, e => by simp at e; subst e; exact ⟨_, rfl, r⟩
  | _, _, i + 1, v, .cons _ rs, e => by
    obtain ⟨d, h1, h2⟩ := rs.get (i := i) (v := v) (by simpa using e)
    exact ⟨d, by simpa using h1, h2⟩
theorem Reps.getD : ∀ {vs : List V} {ds : List PyData} {i : Nat} {d : PyData}, Reps K H vs ds → ds[i]? = some d → ∃ v, vs[i]? = some v ∧ Rep K H v d
  | _, _, _, _, .nil, e => by simp at e
  | _, _, 0, _, .cons r _, e => by simp at e; subst e; exact ⟨_, rfl, r⟩
  | _, _, i + 1, d, .cons _ rs, e => by
    obtain ⟨v, h1, h2⟩ := rs.getD (i := i) (d := d) (by simpa using e)
    exact ⟨v, by simpa using h1, h2⟩
theorem Reps.append : ∀ {vs ws : List V} {ds es : List PyData}, Reps K H vs ds → Reps K H ws es → Reps K H (vs ++ ws) (ds ++ es)
  | _, _, _, _, .nil, s => s
  | _, _, _, _, .cons r t, s => .cons r (t.append s)
end
section
variable {X : Cx}
/-- == and != by data -/
def rEqD (K : PySem.W.Frag) : R2 := fun x y H Q => ∃ dx dy, Rep K H x dx ∧ Rep K H y dy ∧ SeqAt.shaped dx = true ∧ SeqAt.shaped dy = true ∧ Q (.bl (PyData.eqv dx dy)) H
def rNeD (K : PySem.W.Frag) : R2 := fun x y H Q => ∃ dx dy, Rep K H x dx ∧ Rep K H y dy ∧ SeqAt.shaped dx = true ∧ SeqAt.shaped dy = true ∧ Q (.bl (!PyData.eqv dx dy)) H
theorem op_eqD (hu : X.A.units + 64 < cLine) : OpR X (compareOp .Eq) (rEqD X.K) := by
  intro pins s σ H x y v u Q I rx ry h
  obtain ⟨dx, dy, r1, r2, h1, h2, q⟩ := h
  obtain ⟨as, q1⟩ := r1.reads I rx
  obtain ⟨bs, q2⟩ := r2.reads I ry
  exact SeqAt.compareEq_shaped q1 q2 h1 h2 hu (fin_bl I q rfl)
theorem op_neD (hu : X.A.units + 64 < cLine) : OpR X (compareOp .NotEq) (rNeD X.K) := by
  intro pins s σ H x y v u Q I rx ry h
  obtain ⟨dx, dy, r1, r2, h1, h2, q⟩ := h
  obtain ⟨as, q1⟩ := r1.reads I rx
  obtain ⟨bs, q2⟩ := r2.reads I ry
  exact SeqAt.compareNe_shaped q1 q2 h1 h2 hu (fin_bl I q rfl)

/-! ### greater numbers -/
open PySem.Builtin.Int (intBits)
def CDivB (i j : Int) : Prop := j ≠ 0 ∧ intBits j ≤ 8000
def CMulB (i j : Int) : Prop := intBits i ≤ 100000 ∧ intBits j ≤ 100000
theorem op_fdivB : OpR X (binaryOp .FloorDiv) (rI CDivB fun i j => .int (i.fdiv j)) := opI fun i j _ _ _ _ _ hc q => floordiv_int hc.1 q (.inl (PyProof.noPylong_of_log2 (by
  have h := hc.2
  have h0 := hc.1
  unfold intBits at h
  have hb : (j == 0) = false := by simpa using h0
  rw [hb] at h
  simp only [Bool.false_eq_true, if_false] at h
  omega)))
theorem op_mulB : OpR X (binaryOp .Mult) (rI CMulB fun i j => .int (i * j)) := opI fun i j _ _ _ _ _ hc q => mul_int q (PySem.IntMulOk.of_le hc.1 hc.2 (by decide))

/-! ### all(..) of a list of truths -/
theorem range_all (bs : List Bool) : ((List.range bs.length).all fun i => bs.getD i false) = bs.all id := by
  rw [Bool.eq_iff_iff, List.all_eq_true, List.all_eq_true]
  constructor
  · intro h x hx
    obtain ⟨i, hi, rfl⟩ := List.mem_iff_getElem.mp hx
    have := h i (List.mem_range.mpr hi)
    simpa [List.getD_eq_getElem?_getD, hi] using this
  · intro h i hi
    have hi' := List.mem_range.mp hi
    have := h bs[i] (List.getElem_mem hi')
    simpa [List.getD_eq_getElem?_getD, hi'] using this
theorem call_all (hc : X.calm = true) : CallR X (.builtin "all") (fun xs H Q => ∃ (a : Addr) (bs : List Bool), xs = [.ref a] ∧ SqL X.K H a (bs.map V.bl) ∧ Q (.bl (bs.all id)) H) := by
  intro pins s σ H xs us Q I r h
  obtain ⟨a, bs, rfl, hq, q⟩ := h
  obtain ⟨u, rfl, ru⟩ := vals1 r
  cases ru
  obtain ⟨its, rv, p, hz⟩ := I.list hq
  have hl := rv.length
  rw [List.length_map] at hl
  have hlt : a < s.heap.objs.size := by obtain ⟨o, n, e, _⟩ := p; exact Heap.lt_size e
  refine call_all_walk (wpAny_pyIter_list p.isList ?_)
  refine ⟨s.heap.objs.size, _, _, _, _, _, fun i => bs.getD i false, rfl, Walks.list (A := X.A.in1) (I.ok.hd hc) s.heap.objs.size a (Nat.ne_of_lt hlt) its.toArray, ⟨⟨_, Heap.get?_push_size _ rfl, rfl, rfl⟩, (p.keeps fun b o e => Heap.get?_push_of_some _ e).isList⟩, fun i v s' Q' E' hP hQ => ?_, fun h' tk hk => ?_⟩
  · have hP' : its[i]? = some v := by simpa using hP
    have hi : i < bs.length := by rw [hl]; exact (List.getElem?_eq_some_iff.mp hP').1
    have hb : (bs.map V.bl)[i]? = some (V.bl bs[i]) := by simp [hi]
    obtain ⟨u, hu, ru⟩ := rv.get hb
    rw [hP'] at hu
    cases hu
    cases ru
    refine wpAny_truthy_bool ?_
    have e : bs.getD i false = bs[i] := by simp [List.getD_eq_getElem?_getD, hi]
    show Q' bs[i] s'
    rw [← e]
    exact hQ
  · have e1 : its.toArray.size = bs.length := by rw [List.size_toArray, hl]
    rw [e1, range_all]
    have hn : H s.heap.objs.size = none := I.fresh
    have I1 : Inv X pins σ H { s with heap := s.heap.push { cls := .type "list_iterator", dict := none, data := .fields #[.ref a, rawInt 0] } } := I.kept (t' := s.toks) fun b o e => Heap.get?_push_of_some _ e
    refine ⟨.bl _, H, ?_, rfl, q⟩
    refine I.kept (t' := tk) fun b o e => ?_
    have hne : b ≠ s.heap.objs.size := Nat.ne_of_lt (Heap.lt_size e)
    exact hk b o (by simpa using hne) (Heap.get?_push_of_some _ e)
end
end L2

set_option Elab.async false
set_option linter.all false
set_option maxRecDepth 100000
namespace L2
open PySem PySem.Spec PyProof.Rows

/-! ### the text's defs, as the top has left them -/
structure Def (K : PySem.W.Frag) (mg : Str → Option Value) (x : Str) (st : Stmt) : Prop where
  ex : ∃ f fd, Fun K x x st f fd ∧ mg x = some (.ref f)
theorem def_mk {K : PySem.W.Frag} {h : Heap} {mg : Str → Option Value} {x : Str} {st : Stmt} {f : Addr} {oc : Value} {od an : Option Addr} {osl : Array (Option Value)} {kV doc pm cdv ct : Value} (X : K.In h) (G : h.Ns mainGlobals mg)
    (a : PySem.W.nsIn K mainGlobals x = some (some (.ref f))) (l : K.lookup f = some ⟨oc, od, .func (PySem.W.fnOf x x (defArgs st) (defBody st) (defScope st) .none kV doc pm an cdv ct), osl⟩)
    (c : PySem.W.codeIn K cdv x = true) (k : PySem.W.keepIn K (.ref f) = true) : Def K mg x st := ⟨f, _, fun_mk l c k, PySem.W.mg_of X G a⟩
theorem Fun.look {K : PySem.W.Frag} {x qual : Str} {st : Stmt} {f : Addr} {fd : FuncData} (F : Fun K x qual st f fd) : ∃ oc od osl, K.lookup f = some ⟨oc, od, .func fd, osl⟩ := by
  obtain ⟨oc, od, kV, doc, pm, an, cdv, ct, osl, rfl, lk, hcd⟩ := F.ex
  exact ⟨oc, od, osl, lk⟩
/-- a def that keeps its promise -/
structure Callee (P : Program) (w : World) (K : PySem.W.Frag) (mg : Str → Option Value) (base : Heap) (x : Str) (k : Nat) (ps : List Str) (sp : Sp) : Prop where
  ex : ∃ f fd, FnOk P w K mg base (CX1 P w) k f fd ps sp ∧ mg x = some (.ref f) ∧ PySem.W.keepIn K (.ref f) = true ∧ Binds K fd ps [] ∧ ∃ oc od osl, K.lookup f = some ⟨oc, od, .func fd, osl⟩
section
variable {P : Program} {w : World} {K : PySem.W.Frag} {mg : Str → Option Value} {base : Heap} {x : Str} {st : Stmt} {k : Nat} {ps N : List Str} {sp : Sp}
theorem Callee.mono {j : Nat} (C : Callee P w K mg base x j ps sp) (h : j ≤ k) : Callee P w K mg base x k ps sp := by
  obtain ⟨f, fd, F, r⟩ := C.ex
  exact ⟨f, fd, F.mono h, r⟩
theorem Callee.imp {sp' : Sp} (C : Callee P w K mg base x k ps sp) (h : ∀ vs H Q E, sp' vs H Q E → sp vs H Q E) : Callee P w K mg base x k ps sp' := by
  obtain ⟨f, fd, F, r⟩ := C.ex
  exact ⟨f, fd, F.imp h, r⟩
/-- THE RULE for a def that may raise -/
theorem Def.okR (D : Def K mg x st) (S : FnScope N ps (defScope st))
    (hb : ∀ (kV doc pm : Value) (an : Option Addr) (cdv ct : Value) (us : List Value), us.length = ps.length → bindArgs (PySem.W.fnOf x x (defArgs st) (defBody st) (defScope st) .none kV doc pm an cdv ct) ⟨us, []⟩ = pure (ps.zip us))
    (len : ∀ vs H Q E, sp vs H Q E → vs.length = ps.length)
    (hbody : ∀ (f : Addr) (cdv : Value) (A : Around) (outer : List Env) (s : Shared) (H : Hp) (vs : List V) (Q : VK) (E : XK), Room k (A.deeper (envOfC x (defScope st) s.heap.objs.size f cdv)) → sp vs H Q E →
      ∃ t, PSs (cxOf (CX1 P w) P w K mg base N x (defScope st) f cdv A outer s H E) (defBody st) t ∧ t { nx := fun _ H' => Q .non H', rt := Q } (start N vs) H) : Callee P w K mg base x (k + 1) ps sp := by
  obtain ⟨f, fd, F, m⟩ := D.ex
  exact ⟨f, fd, F.okR S len (hbody f), m, F.kp, F.binds hb, F.look⟩
theorem Def.okN (D : Def K mg x st) (S : FnScope N ps (defScope st))
    (hb : ∀ (kV doc pm : Value) (an : Option Addr) (cdv ct : Value) (us : List Value), us.length = ps.length → bindArgs (PySem.W.fnOf x x (defArgs st) (defBody st) (defScope st) .none kV doc pm an cdv ct) ⟨us, []⟩ = pure (ps.zip us))
    (len : ∀ vs H Q E, sp vs H Q E → vs.length = ps.length)
    (hbody : ∀ (f : Addr) (cdv : Value) (A : Around) (outer : List Env) (s : Shared) (H : Hp) (vs : List V) (Q : VK) (E : XK), Room k (A.deeper (envOfC x (defScope st) s.heap.objs.size f cdv)) → sp vs H Q E →
      ∃ t, PSs (cxOf (CX1 P w) P w K mg base N x (defScope st) f cdv A outer s H E).nox (defBody st) t ∧ t { nx := fun _ H' => Q .non H', rt := Q } (start N vs) H) : Callee P w K mg base x (k + 1) ps sp := by
  obtain ⟨f, fd, F, m⟩ := D.ex
  exact ⟨f, fd, F.okN S len (hbody f), m, F.kp, F.binds hb, F.look⟩
end
section
variable {X : Cx} {x : Str} {p pos : Pos} {e : Expr} {es : List Expr} {ta : TA} {k : Nat} {ps : List Str} {sp : Sp} {E : XK}
end

/-! ### the rules with the written part by its own name (so that a comprehension's reading leans on nothing of its block) -/
section
variable {X : Cx} {K : PySem.W.Frag} {tg l : Expr} {tl : TE}
theorem allK (h : X.K = K) (hc : X.calm = true) : CallR X (.builtin "all") (fun xs H Q => ∃ (a : Addr) (bs : List Bool), xs = [.ref a] ∧ SqL K H a (bs.map V.bl) ∧ Q (.bl (bs.all id)) H) := by subst h; exact call_all hc
theorem eqDK (h : X.K = K) (hu : X.A.units + 64 < cLine) : OpR X (compareOp .Eq) (rEqD K) := by subst h; exact op_eqD hu
theorem neDK (h : X.K = K) (hu : X.A.units + 64 < cLine) : OpR X (compareOp .NotEq) (rNeD K) := by subst h; exact op_neD hu
end

/-- all but what stands at p is as it was -/
def Keep (p : Addr) (H H' : Hp) : Prop := ∀ b o, b ≠ p → H b = some o → H' b = some o
theorem Keep.refl {p : Addr} {H : Hp} : Keep p H H := fun _ _ _ h => h
theorem Keep.trans {p : Addr} {H H1 H2 : Hp} (a : Keep p H H1) (b : Keep p H1 H2) : Keep p H H2 := fun c o n h => b c o n (a c o n h)
theorem Keep.upd {p : Addr} {H : Hp} {o : HO} : Keep p H (upd H p o) := fun b u n h => by rw [upd_ne n]; exact h
theorem Same.keep {p : Addr} {H H' : Hp} (a : Same H H') : Keep p H H' := fun b o _ h => a b o h
theorem Keep.same {p : Addr} {H H1 H' : Hp} (a : Same H H1) (hp : H p = none) (k : Keep p H1 H') : Same H H' := fun b o h => k b o (ne_of_none h hp) (a b o h)

/-! ### the head: from the law's promise to the row's claim -/
end L2

set_option Elab.async false
set_option linter.all false
set_option maxRecDepth 100000
namespace L2
open PySem PySem.Spec PyProof.Rows
section
variable {X : Cx}
end
end L2

set_option Elab.async false
set_option linter.all false
set_option maxRecDepth 100000
namespace L2
open PySem PySem.Spec PyProof.Rows
/-! ### sum(..) of a list of whole numbers of any size -/
theorem ints_of : ∀ {ns : List Int} {its : List Value}, Vals (ns.map V.int) its → IntsAre its ns
  | [], _, h => by cases h; exact .nil
  | i :: r, _, h => by
    cases h with
    | cons h1 h2 =>
      obtain ⟨t, rfl⟩ := h1
      exact .cons i t (ints_of h2)
theorem call_sumL {X : Cx} {K : PySem.W.Frag} (hK : X.K = K) (hc : X.calm = true) : CallR X (.builtin "sum") (fun xs H Q => ∃ (a : Addr) (ns : List Int), xs = [.ref a] ∧ SqL K H a (ns.map V.int) ∧ Q (.int ns.sum) H) := by
  subst hK
  intro pins s σ H xs us Q I r h
  obtain ⟨a, ns, rfl, hq, q⟩ := h
  obtain ⟨u, rfl, ru⟩ := vals1 r
  cases ru
  obtain ⟨its, rv, p, hz⟩ := I.list hq
  have hi := ints_of rv
  obtain ⟨ys, hy⟩ := hi.allInts.items
  have hn : numsOf its.toArray.toList = ns := by rw [show its.toArray.toList = its from rfl, hi.numsOf]
  have pl := p.isList
  rw [hy] at pl hn
  rw [nums_intItems] at hn
  refine sum_intListG (I.ok.hd hc) pl fun h' tk t' hk => ?_
  rw [preSum_eq, List.take_of_length_le (by simp), hn]
  exact ⟨.int ns.sum, H, I.kept (t' := tk) hk, ⟨_, rfl⟩, q⟩
end L2

namespace Fr
/-- the divisor by which both are divided -/
def dv (a b : Int) : Int := if b < 0 then -((Int.gcd a b : Nat) : Int) else ((Int.gcd a b : Nat) : Int)
def T (a b : Int) : Int := a.fdiv (dv a b)
def B (a b : Int) : Int := b.fdiv (dv a b)
theorem gcd_ne {a b : Int} (hb : b ≠ 0) : 0 < Int.gcd a b := Int.gcd_pos_of_ne_zero_right a hb
theorem dv_ne {a b : Int} (hb : b ≠ 0) : dv a b ≠ 0 := by
  have := gcd_ne (a := a) hb
  unfold dv
  split <;> omega
theorem dv_dvd_l (a b : Int) : dv a b ∣ a := by
  have h : ((Int.gcd a b : Nat) : Int) ∣ a := Int.gcd_dvd_left a b
  unfold dv
  split
  · exact Int.neg_dvd.mpr h
  · exact h
theorem dv_dvd_r (a b : Int) : dv a b ∣ b := by
  have h : ((Int.gcd a b : Nat) : Int) ∣ b := Int.gcd_dvd_right a b
  unfold dv
  split
  · exact Int.neg_dvd.mpr h
  · exact h
theorem fdiv_of {a d q : Int} (hd : d ≠ 0) (h : a = d * q) : a.fdiv d = q := by
  rw [h, Int.mul_comm]
  exact Int.mul_fdiv_cancel q hd
theorem T_mul {a b : Int} (hb : b ≠ 0) : T a b * dv a b = a := by
  obtain ⟨q, h⟩ := dv_dvd_l a b
  have : T a b = q := fdiv_of (dv_ne hb) h
  rw [this, Int.mul_comm]; exact h.symm
theorem B_mul {a b : Int} (hb : b ≠ 0) : B a b * dv a b = b := by
  obtain ⟨q, h⟩ := dv_dvd_r a b
  have : B a b = q := fdiv_of (dv_ne hb) h
  rw [this, Int.mul_comm]; exact h.symm
theorem B_pos {a b : Int} (hb : b ≠ 0) : 0 < B a b := by
  have h := B_mul (a := a) hb
  have hg := gcd_ne (a := a) hb
  generalize hx : B a b = x at h ⊢
  unfold dv at h
  split at h
  · rename_i hneg
    have h2 : x * ((Int.gcd a b : Nat) : Int) = -b := by rw [Int.mul_neg] at h; omega
    rcases Int.lt_or_le 0 x with z | z
    · exact z
    · have : x * ((Int.gcd a b : Nat) : Int) ≤ 0 := Int.mul_nonpos_of_nonpos_of_nonneg z (by omega)
      omega
  · rename_i hpos
    rcases Int.lt_or_le 0 x with z | z
    · exact z
    · have : x * ((Int.gcd a b : Nat) : Int) ≤ 0 := Int.mul_nonpos_of_nonpos_of_nonneg z (by omega)
      omega
theorem cross {a b : Int} (hb : b ≠ 0) : T a b * b = a * B a b := by
  have h1 := T_mul (a := a) hb
  have h2 := B_mul (a := a) hb
  generalize T a b = x at *
  generalize B a b = y at *
  generalize dv a b = d at *
  rw [← h2, ← h1]
  rw [← Int.mul_assoc, Int.mul_right_comm]
theorem dv_abs (a b : Int) : (dv a b).natAbs = Int.gcd a b := by
  unfold dv
  split <;> simp
theorem low {a b : Int} (hb : b ≠ 0) : Int.gcd (T a b) (B a b) = 1 := by
  have h1 := T_mul (a := a) hb
  have h2 := B_mul (a := a) hb
  have hg := gcd_ne (a := a) hb
  have e1 : a.natAbs = (T a b).natAbs * Int.gcd a b := by rw [← dv_abs a b, ← Int.natAbs_mul, h1]
  have e2 : b.natAbs = (B a b).natAbs * Int.gcd a b := by rw [← dv_abs a b, ← Int.natAbs_mul, h2]
  have e3 : Int.gcd a b = Nat.gcd ((T a b).natAbs * Int.gcd a b) ((B a b).natAbs * Int.gcd a b) := by rw [← e1, ← e2]; rfl
  rw [Nat.gcd_mul_right] at e3
  show Nat.gcd (T a b).natAbs (B a b).natAbs = 1
  generalize Nat.gcd (T a b).natAbs (B a b).natAbs = k at *
  generalize Int.gcd a b = g at *
  have : (1 : Nat) * g = k * g := by omega
  exact (Nat.eq_of_mul_eq_mul_right hg this).symm
/-- lowest terms are one -/
theorem uniq {x y x' y' : Int} (hy : 0 < y) (hy' : 0 < y') (h : Int.gcd x y = 1) (h' : Int.gcd x' y' = 1) (e : x * y' = x' * y) : x = x' ∧ y = y' := by
  have c1 : Nat.Coprime y.natAbs x.natAbs := by rw [Nat.coprime_comm]; exact h
  have c2 : Nat.Coprime y'.natAbs x'.natAbs := by rw [Nat.coprime_comm]; exact h'
  have e1 : x.natAbs * y'.natAbs = x'.natAbs * y.natAbs := by rw [← Int.natAbs_mul, ← Int.natAbs_mul, e]
  have d1 : y.natAbs ∣ y'.natAbs := c1.dvd_of_dvd_mul_left (by rw [e1]; exact Nat.dvd_mul_left _ _)
  have d2 : y'.natAbs ∣ y.natAbs := c2.dvd_of_dvd_mul_left (by rw [← e1]; exact Nat.dvd_mul_left _ _)
  have ey : y.natAbs = y'.natAbs := Nat.dvd_antisymm d1 d2
  have ey' : y = y' := by omega
  subst ey'
  exact ⟨Int.eq_of_mul_eq_mul_right (by omega) e, rfl⟩
/-- the fraction of two numbers that are to one another as these -/
theorem same {a b c d : Int} (hb : b ≠ 0) (hd : d ≠ 0) (e : a * d = c * b) : T a b = T c d ∧ B a b = B c d := by
  refine uniq (B_pos hb) (B_pos hd) (low hb) (low hd) ?_
  have h1 := cross (a := a) hb
  have h2 := cross (a := c) hd
  -- T a b * b = a * B a b ; T c d * d = c * B c d
  have hbd : b * d ≠ 0 := Int.mul_ne_zero hb hd
  refine Int.eq_of_mul_eq_mul_right hbd ?_
  calc T a b * B c d * (b * d) = (T a b * b) * (B c d * d) := by rw [Int.mul_assoc, Int.mul_left_comm (B c d) b d, ← Int.mul_assoc]
    _ = (a * B a b) * (B c d * d) := by rw [h1]
    _ = (a * d) * (B c d * B a b) := by rw [Int.mul_assoc a, Int.mul_assoc a, Int.mul_left_comm (B a b), Int.mul_left_comm d, Int.mul_comm (B a b) d]
    _ = (c * b) * (B c d * B a b) := by rw [e]
    _ = (c * B c d) * (B a b * b) := by rw [Int.mul_assoc c, Int.mul_assoc c, Int.mul_left_comm b, Int.mul_comm b (B a b)]
    _ = (T c d * d) * (B a b * b) := by rw [← h2]
    _ = T c d * B a b * (b * d) := by rw [Int.mul_assoc, Int.mul_assoc, Int.mul_left_comm d, Int.mul_comm d b]
/-- one that is in lowest terms is its own -/
theorem self {a b : Int} (hb : 0 < b) (h : Int.gcd a b = 1) : T a b = a ∧ B a b = b :=
  uniq (B_pos (by omega)) hb (low (by omega)) h (cross (by omega))
theorem euc (m n : Nat) : Nat.gcd n (m % n) = Nat.gcd m n := by
  rw [Nat.gcd_comm, ← Nat.gcd_rec, Nat.gcd_comm]
end Fr

set_option Elab.async false
set_option linter.all false
set_option maxRecDepth 100000
namespace L2
open PySem PySem.Spec PyProof.Rows

/-! ### data: tuples by their items, lists and the like by their place in a short heap -/
inductive D where
  | non | bl (b : Bool) | int (i : Int) | str (x : Str) | ty (n : String) | glb (x : Str) | exc (x : Str) | tup (xs : List D) | ref (n : Nat) | kl (xs : List D)
  deriving Inhabited
inductive Ob where
  | lst (xs : List D) | fz (xs : List D) | set (xs : List Int) | dct (kvs : List (Key × D)) | any
  deriving Inhabited
abbrev AH := List Ob
abbrev AE := List (Option D)
inductive R (α : Type) where
  | ok (a : α) (h : AH) | exc (c : Str) (h : AH) | stuck
inductive SR where
  | nx (ae : AE) (h : AH) | rt (d : D) (h : AH) | bk (ae : AE) (h : AH) | ct (ae : AE) (h : AH) | exc (c : Str) (ae : AE) (h : AH) | stuck
abbrev ME := AE → AH → R D
abbrev MT := AE → AH → R Bool
abbrev MA := AE → AH → R (List D)
abbrev MS := AE → AH → SR
abbrev Fn := List D → AH → R D
def R.bind {α β : Type} (r : R α) (f : α → AH → R β) : R β := match r with
  | .ok a h => f a h
  | .exc c h => .exc c h
  | .stuck => .stuck

section
variable (K : PySem.W.Frag) (mg : Str → Option Value)
mutual
inductive RelD (ρ : List Addr) (H : Hp) : D → V → Prop where
  | non : RelD ρ H .non .non
  | bl (b : Bool) : RelD ρ H (.bl b) (.bl b)
  | int (i : Int) : RelD ρ H (.int i) (.int i)
  | str (x : Str) : RelD ρ H (.str x) (.str x)
  | ty (n : String) : RelD ρ H (.ty n) (.ty n)
  | glb {x : Str} {a : Addr} (m : mg x = some (.ref a)) : RelD ρ H (.glb x) (.ref a)
  | exc {x : Str} {a C : Addr} (m : mg x = some (.ref C)) (e : H a = some (.ext (excO a C))) : RelD ρ H (.exc x) (.ref a)
  | tup {p : Addr} {vs : List V} {ds : List D} (h : SqT K H p vs) (r : RelDs ρ H ds vs) : RelD ρ H (.tup ds) (.ref p)
  | ref {n : Nat} {a : Addr} (e : ρ[n]? = some a) : RelD ρ H (.ref n) (.ref a)
  | kl {a : Addr} {vs : List V} {ds : List D} (h : ∃ (o : Obj) (its : Array Value) (n : Nat), K.lookup a = some o ∧ o.cls = .type "list" ∧ o.dict = none ∧ o.data = .seq its n ∧ its.size ≤ sizeLine ∧ Vals vs its.toList) (r : RelDs ρ H ds vs) : RelD ρ H (.kl ds) (.ref a)
inductive RelDs (ρ : List Addr) (H : Hp) : List D → List V → Prop where
  | nil : RelDs ρ H [] []
  | cons {d : D} {v : V} {ds : List D} {vs : List V} (r : RelD ρ H d v) (rr : RelDs ρ H ds vs) : RelDs ρ H (d :: ds) (v :: vs)
end
structure Le (ρ : List Addr) (H : Hp) (ρ' : List Addr) (H' : Hp) : Prop where
  pre : ∀ (n : Nat) (a : Addr), ρ[n]? = some a → ρ'[n]? = some a
  tup : ∀ b xs, H b = some (.tup xs) → H' b = some (.tup xs)
  frz : ∀ b o u, H b = some (.frz o u) → H' b = some (.frz o u)
  ext : ∀ b φ, H b = some (.ext φ) → H' b = some (.ext φ)
def ObR (ρ : List Addr) (H : Hp) (a : Addr) : Ob → Prop
  | .lst ds => ∃ vs, H a = some (.lst vs) ∧ RelDs K mg ρ H ds vs
  | .fz ds => ∃ o vs, H a = some (.frz o (.lst vs)) ∧ RelDs K mg ρ H ds vs
  | .set xs => xs.Nodup ∧ H a = some (.set (fun i => decide (i ∈ xs)) xs.length)
  | .dct kvs => ∃ ws, H a = some (.dK ws) ∧ ws.map (·.1) = kvs.map (·.1) ∧ RelDs K mg ρ H (kvs.map (·.2)) (ws.map (·.2))
  | .any => ∃ o, H a = some o
structure Wd (ρ : List Addr) (h : AH) (H : Hp) : Prop where
  len : ρ.length = h.length
  nd : ρ.Nodup
  ob : ∀ (n : Nat) (a : Addr) (o : Ob), ρ[n]? = some a → h[n]? = some o → ObR K mg ρ H a o
structure RelE (ρ : List Addr) (H : Hp) (ae : AE) (σ : St) : Prop where
  len : ae.length = σ.length
  at_ : ∀ (i : Nat) (d : D), ae[i]? = some (some d) → ∃ v, σ[i]? = some (some v) ∧ RelD K mg ρ H d v
def PostG {α : Type} (ρ : List Addr) (H : Hp) (E : XK) (k : α → AH → List Addr → Hp → Prop) : R α → Prop
  | .ok a h => ∀ ρ' H', Le ρ H ρ' H' → Wd K mg ρ' h H' → k a h ρ' H'
  | .exc c h => ∀ ρ' H' C, Le ρ H ρ' H' → Wd K mg ρ' h H' → mg c = some (.ref C) → E (.ref C) none H'
  | .stuck => False
abbrev PostE (ρ : List Addr) (H : Hp) (Q : VK) (E : XK) (r : R D) : Prop := PostG K mg ρ H E (fun d _ ρ' H' => ∀ v, RelD K mg ρ' H' d v → Q v H') r
abbrev PostT (ρ : List Addr) (H : Hp) (Q : Bool → Hp → Prop) (E : XK) (r : R Bool) : Prop := PostG K mg ρ H E (fun b _ ρ' H' => Q b H') r
abbrev PostA (ρ : List Addr) (H : Hp) (Q : List V → Hp → Prop) (E : XK) (r : R (List D)) : Prop := PostG K mg ρ H E (fun d _ ρ' H' => ∀ vs, RelDs K mg ρ' H' d vs → Q vs H') r
def PostS (ρ : List Addr) (H : Hp) (D : Ends) (ES : St → XK) : SR → Prop
  | .nx ae h => ∀ ρ' H' σ', Le ρ H ρ' H' → Wd K mg ρ' h H' → RelE K mg ρ' H' ae σ' → D.nx σ' H'
  | .bk ae h => ∀ ρ' H' σ', Le ρ H ρ' H' → Wd K mg ρ' h H' → RelE K mg ρ' H' ae σ' → D.bk σ' H'
  | .ct ae h => ∀ ρ' H' σ', Le ρ H ρ' H' → Wd K mg ρ' h H' → RelE K mg ρ' H' ae σ' → D.ct σ' H'
  | .rt d h => ∀ ρ' H' v, Le ρ H ρ' H' → Wd K mg ρ' h H' → RelD K mg ρ' H' d v → D.rt v H'
  | .exc c ae h => ∀ ρ' H' σ' C, Le ρ H ρ' H' → Wd K mg ρ' h H' → RelE K mg ρ' H' ae σ' → mg c = some (.ref C) → ES σ' (.ref C) none H'
  | .stuck => False
def rdE (ES : St → XK) (F : ME) : TE := fun σ H Q => ∃ ρ h ae, Wd K mg ρ h H ∧ RelE K mg ρ H ae σ ∧ PostE K mg ρ H Q (ES σ) (F ae h)
def rdT (ES : St → XK) (F : MT) : TT := fun σ H Q => ∃ ρ h ae, Wd K mg ρ h H ∧ RelE K mg ρ H ae σ ∧ PostT K mg ρ H Q (ES σ) (F ae h)
def rdA (ES : St → XK) (F : MA) : TA := fun σ H Q => ∃ ρ h ae, Wd K mg ρ h H ∧ RelE K mg ρ H ae σ ∧ PostA K mg ρ H Q (ES σ) (F ae h)
def rdS (ES : St → XK) (F : MS) : TS := fun D σ H => ∃ ρ h ae, Wd K mg ρ h H ∧ RelE K mg ρ H ae σ ∧ PostS K mg ρ H D ES (F ae h)
def spD (n : Nat) (S : Fn) : Sp := fun vs H Q E => ∃ ρ h ds, Wd K mg ρ h H ∧ RelDs K mg ρ H ds vs ∧ ds.length = n ∧ PostE K mg ρ H Q E (S ds h)
end

section
variable {K : PySem.W.Frag} {mg : Str → Option Value} {ρ ρ' ρ1 : List Addr} {H H' H1 : Hp} {h h' : AH} {ae : AE} {σ : St}
theorem Le.refl : Le ρ H ρ H := ⟨fun _ _ e => e, fun _ _ e => e, fun _ _ _ e => e, fun _ _ e => e⟩
theorem Le.trans (a : Le ρ H ρ1 H1) (b : Le ρ1 H1 ρ' H') : Le ρ H ρ' H' :=
  ⟨fun n x e => b.pre n x (a.pre n x e), fun x y e => b.tup x y (a.tup x y e), fun x y z e => b.frz x y z (a.frz x y z e), fun x y e => b.ext x y (a.ext x y e)⟩
theorem Le.sqT {a : Addr} {xs : List V} (l : Le ρ H ρ' H') (q : SqT K H a xs) : SqT K H' a xs := by
  rcases q with (q | ⟨o, q⟩) | q
  · exact .inl (.inl (l.tup _ _ q))
  · exact .inl (.inr ⟨o, l.frz _ _ _ q⟩)
  · exact .inr q
mutual
theorem RelD.mono (l : Le ρ H ρ' H') : ∀ {d : D} {v : V}, RelD K mg ρ H d v → RelD K mg ρ' H' d v
  | _, _, .non => .non
  | _, _, .bl b => .bl b
  | _, _, .int i => .int i
  | _, _, .str x => .str x
  | _, _, .ty n => .ty n
  | _, _, .glb m => .glb m
  | _, _, .exc m e => .exc m (l.ext _ _ e)
  | _, _, .tup h r => .tup (l.sqT h) (RelDs.mono l r)
  | _, _, .ref e => .ref (l.pre _ _ e)
  | _, _, .kl h r => .kl h (RelDs.mono l r)
theorem RelDs.mono (l : Le ρ H ρ' H') : ∀ {ds : List D} {vs : List V}, RelDs K mg ρ H ds vs → RelDs K mg ρ' H' ds vs
  | _, _, .nil => .nil
  | _, _, .cons r rr => .cons (RelD.mono l r) (RelDs.mono l rr)
end
theorem RelDs.len : ∀ {ds : List D} {vs : List V}, RelDs K mg ρ H ds vs → ds.length = vs.length
  | _, _, .nil => rfl
  | _, _, .cons _ rr => congrArg (· + 1) (RelDs.len rr)
theorem RelDs.get : ∀ {ds : List D} {vs : List V} {i : Nat} {v : V}, RelDs K mg ρ H ds vs → vs[i]? = some v → ∃ d, ds[i]? = some d ∧ RelD K mg ρ H d v
  | _, _, _, _, .nil, e => by simp at e
  | _, _, 0, _, .cons r _, e => by simp at e; subst e; exact ⟨_, rfl, r⟩
  | _, _, i + 1, v, .cons _ rr, e => by
    obtain ⟨d, h1, h2⟩ := RelDs.get (i := i) (v := v) rr (by simpa using e)
    exact ⟨d, by simpa using h1, h2⟩
theorem RelDs.getD : ∀ {ds : List D} {vs : List V} {i : Nat} {d : D}, RelDs K mg ρ H ds vs → ds[i]? = some d → ∃ v, vs[i]? = some v ∧ RelD K mg ρ H d v
  | _, _, _, _, .nil, e => by simp at e
  | _, _, 0, _, .cons r _, e => by simp at e; subst e; exact ⟨_, rfl, r⟩
  | _, _, i + 1, d, .cons _ rr, e => by
    obtain ⟨v, h1, h2⟩ := RelDs.getD (i := i) (d := d) rr (by simpa using e)
    exact ⟨v, by simpa using h1, h2⟩
theorem RelDs.append : ∀ {ds es : List D} {vs ws : List V}, RelDs K mg ρ H ds vs → RelDs K mg ρ H es ws → RelDs K mg ρ H (ds ++ es) (vs ++ ws)
  | _, _, _, _, .nil, q => q
  | _, _, _, _, .cons r rr, q => .cons r (RelDs.append rr q)
theorem RelDs.take : ∀ {ds : List D} {vs : List V} (n : Nat), RelDs K mg ρ H ds vs → RelDs K mg ρ H (ds.take n) (vs.take n)
  | _, _, 0, _ => .nil
  | _, _, _ + 1, .nil => .nil
  | _, _, n + 1, .cons r rr => .cons r (RelDs.take n rr)
theorem RelDs.drop : ∀ {ds : List D} {vs : List V} (n : Nat), RelDs K mg ρ H ds vs → RelDs K mg ρ H (ds.drop n) (vs.drop n)
  | _, _, 0, r => r
  | _, _, _ + 1, .nil => .nil
  | _, _, n + 1, .cons _ rr => RelDs.drop n rr
theorem RelDs.set {d : D} {v : V} (r : RelD K mg ρ H d v) : ∀ {ds : List D} {vs : List V} (i : Nat), RelDs K mg ρ H ds vs → RelDs K mg ρ H (ds.set i d) (vs.set i v)
  | _, _, _, .nil => .nil
  | _, _, 0, .cons _ rr => .cons r rr
  | _, _, i + 1, .cons q rr => .cons q (RelDs.set r i rr)
theorem RelDs.reverse {ds : List D} {vs : List V} (r : RelDs K mg ρ H ds vs) : RelDs K mg ρ H ds.reverse vs.reverse := by
  induction ds generalizing vs with
  | nil => cases r; exact .nil
  | cons d ds ih =>
    cases r with
    | cons q rr => rw [List.reverse_cons, List.reverse_cons]; exact (ih rr).append (.cons q .nil)
theorem RelDs.ints : ∀ {ns : List Int} {vs : List V}, RelDs K mg ρ H (ns.map D.int) vs → vs = ns.map V.int
  | [], _, .nil => rfl
  | _ :: _, _, .cons (.int _) rr => by rw [List.map_cons, RelDs.ints rr]
theorem RelDs.bls : ∀ {ns : List Bool} {vs : List V}, RelDs K mg ρ H (ns.map D.bl) vs → vs = ns.map V.bl
  | [], _, .nil => rfl
  | _ :: _, _, .cons (.bl _) rr => by rw [List.map_cons, RelDs.bls rr]
theorem RelE.mono (l : Le ρ H ρ' H') (r : RelE K mg ρ H ae σ) : RelE K mg ρ' H' ae σ := ⟨r.len, fun i d e => by
  obtain ⟨v, h1, h2⟩ := r.at_ i d e
  exact ⟨v, h1, h2.mono l⟩⟩
theorem RelE.set {d : D} {v : V} (i : Nat) (r : RelE K mg ρ H ae σ) (q : RelD K mg ρ H d v) : RelE K mg ρ H (ae.set i (some d)) (σ.set i (some v)) := ⟨by rw [List.length_set, List.length_set]; exact r.len, fun j d' e => by
  rw [List.getElem?_set] at e ⊢
  by_cases hij : i = j
  · rw [if_pos hij] at e ⊢
    by_cases hi : i < ae.length
    · rw [if_pos hi] at e
      cases e
      rw [if_pos (by rw [← r.len]; exact hi)]
      exact ⟨v, rfl, q⟩
    · rw [if_neg hi] at e; cases e
  · rw [if_neg hij] at e ⊢
    exact r.at_ j d' e⟩
theorem RelE.unset {v : Option V} (i : Nat) (r : RelE K mg ρ H ae σ) : RelE K mg ρ H (ae.set i none) (σ.set i v) := ⟨by rw [List.length_set, List.length_set]; exact r.len, fun j d' e => by
  rw [List.getElem?_set] at e ⊢
  by_cases hij : i = j
  · rw [if_pos hij] at e
    by_cases hi : i < ae.length
    · rw [if_pos hi] at e; cases e
    · rw [if_neg hi] at e; cases e
  · rw [if_neg hij] at e ⊢
    exact r.at_ j d' e⟩
theorem ObR.mono {a : Addr} {o : Ob} (l : Le ρ H ρ' H') (e : H' a = H a) (q : ObR K mg ρ H a o) : ObR K mg ρ' H' a o := by
  cases o with
  | lst ds => obtain ⟨vs, h1, h2⟩ := q; exact ⟨vs, e.trans h1, h2.mono l⟩
  | fz ds => obtain ⟨o, vs, h1, h2⟩ := q; exact ⟨o, vs, e.trans h1, h2.mono l⟩
  | set xs => exact ⟨q.1, e.trans q.2⟩
  | dct kvs => obtain ⟨ws, h1, h2, h3⟩ := q; exact ⟨ws, e.trans h1, h2, h3.mono l⟩
  | any => obtain ⟨o, h1⟩ := q; exact ⟨o, e.trans h1⟩
theorem ObR.there {a : Addr} {o : Ob} (q : ObR K mg ρ H a o) : ∃ u, H a = some u := by
  cases o with
  | lst ds => obtain ⟨vs, h1, _⟩ := q; exact ⟨_, h1⟩
  | fz ds => obtain ⟨o, vs, h1, _⟩ := q; exact ⟨_, h1⟩
  | set xs => exact ⟨_, q.2⟩
  | dct kvs => obtain ⟨ws, h1, _⟩ := q; exact ⟨_, h1⟩
  | any => exact q
theorem Wd.at_ (w : Wd K mg ρ h H) {n : Nat} {o : Ob} (e : h[n]? = some o) : ∃ a, ρ[n]? = some a ∧ ObR K mg ρ H a o := by
  have hl : n < ρ.length := by rw [w.len]; exact (List.getElem?_eq_some_iff.mp e).1
  exact ⟨ρ[n], List.getElem?_eq_getElem hl, w.ob n _ o (List.getElem?_eq_getElem hl) e⟩
theorem Wd.fresh (w : Wd K mg ρ h H) {p : Addr} (hp : H p = none) : p ∉ ρ := fun hm => by
  obtain ⟨n, hn⟩ := List.getElem?_of_mem hm
  have hl : n < h.length := by rw [← w.len]; exact (List.getElem?_eq_some_iff.mp hn).1
  obtain ⟨u, hu⟩ := (w.ob n p h[n] hn (List.getElem?_eq_getElem hl)).there
  rw [hp] at hu; cases hu
theorem le_upd {p : Addr} {o : HO} (hp : H p = none) : Le ρ H ρ (upd H p o) :=
  ⟨fun _ _ e => e, fun b xs e => by rw [upd_ne (ne_of_none e hp)]; exact e, fun b xs u e => by rw [upd_ne (ne_of_none e hp)]; exact e, fun b xs e => by rw [upd_ne (ne_of_none e hp)]; exact e⟩
theorem le_more {m : List Addr} : Le ρ H (ρ ++ m) H :=
  ⟨fun n a e => by rw [List.getElem?_append_left (List.getElem?_eq_some_iff.mp e).1]; exact e, fun _ _ e => e, fun _ _ _ e => e, fun _ _ e => e⟩
/-- a thing that is made stands behind all others -/
theorem Wd.alloc {p : Addr} {u : HO} {o : Ob} (w : Wd K mg ρ h H) (hp : H p = none) (hn : ObR K mg (ρ ++ [p]) (upd H p u) p o) : Wd K mg (ρ ++ [p]) (h ++ [o]) (upd H p u) := by
  refine ⟨by rw [List.length_append, List.length_append, w.len]; rfl, ?_, fun n a ob e1 e2 => ?_⟩
  · rw [List.nodup_append]
    exact ⟨w.nd, by simp, fun a ha b hb => by rw [List.mem_singleton] at hb; subst hb; intro z; subst z; exact w.fresh hp ha⟩
  · by_cases hl : n < ρ.length
    · rw [List.getElem?_append_left hl] at e1
      rw [List.getElem?_append_left (by rw [← w.len]; exact hl)] at e2
      have q := w.ob n a ob e1 e2
      obtain ⟨v, hv⟩ := q.there
      exact q.mono ((le_upd hp).trans le_more) (upd_ne (ne_of_none hv hp))
    · have h1 : n = ρ.length := by
        have := (List.getElem?_eq_some_iff.mp e1).1
        rw [List.length_append] at this
        simp at this
        omega
      subst h1
      rw [List.getElem?_append_right (Nat.le_refl _), Nat.sub_self] at e1
      rw [w.len, List.getElem?_append_right (Nat.le_refl _), Nat.sub_self] at e2
      simp at e1 e2
      subst e1 e2
      exact hn
/-- a thing that is not told of by a short place (a tuple) is made -/
theorem Wd.tuple {p : Addr} {u : HO} (w : Wd K mg ρ h H) (hp : H p = none) : Wd K mg ρ h (upd H p u) :=
  ⟨w.len, w.nd, fun n a ob e1 e2 => by
    have q := w.ob n a ob e1 e2
    obtain ⟨v, hv⟩ := q.there
    exact q.mono (le_upd hp) (upd_ne (ne_of_none hv hp))⟩
theorem le_wr {a : Addr} {o u : HO} (e : H a = some u) (hu : (∀ xs, u ≠ .tup xs) ∧ (∀ x y, u ≠ .frz x y) ∧ ∀ φ, u ≠ .ext φ) : Le ρ H ρ (upd H a o) := by
  refine ⟨fun _ _ e => e, fun b xs q => ?_, fun b x y q => ?_, fun b φ q => ?_⟩ <;> rw [upd_ne] <;> (try exact q) <;> (intro z; subst z; rw [e] at q; have := Option.some.inj q; first | exact hu.1 _ this | exact hu.2.1 _ _ this | exact hu.2.2 _ this)
/-- a thing is changed -/
theorem Wd.write {n : Nat} {a : Addr} {o u : HO} {ob : Ob} (w : Wd K mg ρ h H) (ea : ρ[n]? = some a) (e : H a = some u) (hu : (∀ xs, u ≠ .tup xs) ∧ (∀ x y, u ≠ .frz x y) ∧ ∀ φ, u ≠ .ext φ)
    (hn : ObR K mg ρ (upd H a o) a ob) : Wd K mg ρ (h.set n ob) (upd H a o) := by
  refine ⟨by rw [List.length_set]; exact w.len, w.nd, fun m b ob' e1 e2 => ?_⟩
  rw [List.getElem?_set] at e2
  by_cases hm : n = m
  · subst hm
    rw [ea] at e1; cases e1
    rw [if_pos rfl] at e2
    split at e2
    · cases e2; exact hn
    · cases e2
  · rw [if_neg hm] at e2
    have q := w.ob m b ob' e1 e2
    refine q.mono (le_wr e hu) (upd_ne fun z => hm ?_)
    subst z
    have h1 := (List.getElem?_eq_some_iff.mp e1)
    have h2 := (List.getElem?_eq_some_iff.mp ea)
    exact (List.getElem_inj (h₀ := h2.1) (h₁ := h1.1) w.nd).mp (h2.2.trans h1.2.symm)
theorem lstNo {vs : List V} : (∀ xs, HO.lst vs ≠ .tup xs) ∧ (∀ x y, HO.lst vs ≠ .frz x y) ∧ ∀ φ, HO.lst vs ≠ .ext φ := ⟨fun _ z => (nomatch z), fun _ _ z => (nomatch z), fun _ z => (nomatch z)⟩
theorem PostG.mono {α : Type} {E : XK} {k : α → AH → List Addr → Hp → Prop} {r : R α} (l : Le ρ H ρ' H') (p : PostG K mg ρ H E k r) : PostG K mg ρ' H' E k r := by
  cases r with
  | ok d h => exact fun ρ2 H2 l2 => p ρ2 H2 (l.trans l2)
  | exc c h => exact fun ρ2 H2 C l2 => p ρ2 H2 C (l.trans l2)
  | stuck => exact p
theorem PostG.imp {α : Type} {E : XK} {k k' : α → AH → List Addr → Hp → Prop} {r : R α} (p : PostG K mg ρ H E k r) (i : ∀ a h1 ρ' H', Le ρ H ρ' H' → Wd K mg ρ' h1 H' → k a h1 ρ' H' → k' a h1 ρ' H') : PostG K mg ρ H E k' r := by
  cases r with
  | ok d h => exact fun ρ2 H2 l2 w2 => i _ _ _ _ l2 w2 (p ρ2 H2 l2 w2)
  | exc c h => exact p
  | stuck => exact p
theorem PostG.bind {α β : Type} {E : XK} {k : β → AH → List Addr → Hp → Prop} {r : R α} {f : α → AH → R β} (p : PostG K mg ρ H E k (r.bind f)) : PostG K mg ρ H E (fun a h1 ρ' H' => PostG K mg ρ' H' E k (f a h1)) r := by
  cases r with
  | ok d h => exact fun ρ2 H2 l2 w2 => PostG.mono l2 p
  | exc c h => exact p
  | stuck => exact p
theorem PostG.ok {α : Type} {E : XK} {k : α → AH → List Addr → Hp → Prop} {a : α} (p : PostG K mg ρ H E k (.ok a h)) (l : Le ρ H ρ' H') (w : Wd K mg ρ' h H') : k a h ρ' H' := p ρ' H' l w
theorem PostS.mono {De : Ends} {ES : St → XK} {r : SR} (l : Le ρ H ρ' H') (p : PostS K mg ρ H De ES r) : PostS K mg ρ' H' De ES r := by
  cases r with
  | nx ae h => exact fun ρ2 H2 σ l2 => p ρ2 H2 σ (l.trans l2)
  | bk ae h => exact fun ρ2 H2 σ l2 => p ρ2 H2 σ (l.trans l2)
  | ct ae h => exact fun ρ2 H2 σ l2 => p ρ2 H2 σ (l.trans l2)
  | rt d h => exact fun ρ2 H2 v l2 => p ρ2 H2 v (l.trans l2)
  | exc c ae h => exact fun ρ2 H2 σ C l2 => p ρ2 H2 σ C (l.trans l2)
  | stuck => exact p
end
end L2

set_option Elab.async false
set_option linter.all false
set_option maxRecDepth 100000
namespace L2
open PySem PySem.Spec PyProof.Rows

section
variable {X : Cx} {e : Expr} {es : List Expr} {st : Stmt} {sts : List Stmt}
theorem PE.imp {t t' : TE} (h : PE X e t) (k : ∀ σ H Q, t' σ H Q → t σ H Q) : PE X e t' := fun pins s σ H Q I w => h pins s σ H Q I (k σ H Q w)
theorem PT.imp {t t' : TT} (h : PT X e t) (k : ∀ σ H Q, t' σ H Q → t σ H Q) : PT X e t' := fun pins s σ H Q I w => h pins s σ H Q I (k σ H Q w)
theorem PW.imp {t t' : TT} (h : PW X e t) (k : ∀ σ H Q, t' σ H Q → t σ H Q) : PW X e t' := fun wh pins s σ H Q I w => h wh pins s σ H Q I (k σ H Q w)
theorem PA.imp {t t' : TA} (h : PA X es t) (k : ∀ σ H Q, t' σ H Q → t σ H Q) : PA X es t' := fun pos pins s σ H Q I w => h pos pins s σ H Q I (k σ H Q w)
theorem PS.imp {t t' : TS} (h : PS X st t) (k : ∀ D σ H, t' D σ H → t D σ H) : PS X st t' := fun pins s σ H D I w => h pins s σ H D I (k D σ H w)
theorem PSs.imp {t t' : TS} (h : PSs X sts t) (k : ∀ D σ H, t' D σ H → t D σ H) : PSs X sts t' := fun pins s σ H D I w => h pins s σ H D I (k D σ H w)
theorem PG.imp {t t' : TG} (h : PG X e t) (k : ∀ v σ H Q, t' v σ H Q → t v σ H Q) : PG X e t' := fun pins s σ H v u Q I r w => h pins s σ H v u Q I r (k v σ H Q w)
theorem PGs.imp {t t' : TGs} (h : PGs X es t) (k : ∀ v σ H Q, t' v σ H Q → t v σ H Q) : PGs X es t' := fun pins s σ H v u Q I r w => h pins s σ H v u Q I r (k v σ H Q w)
theorem PO.imp {o : Option Expr} {t t' : TO} (h : PO X o t) (k : ∀ σ H Q, t' σ H Q → t σ H Q) : PO X o t' := fun pins s σ H Q I w => h pins s σ H Q I (k σ H Q w)
end

section
variable (K : PySem.W.Frag) (mg : Str → Option Value) (X : Cx) (ES : St → XK)
def DE (e : Expr) (F : ME) : Prop := PE X e (rdE K mg ES F)
def DT (e : Expr) (F : MT) : Prop := PT X e (rdT K mg ES F)
def DW (e : Expr) (F : MT) : Prop := PW X e (rdT K mg ES F)
def DA (es : List Expr) (F : MA) : Prop := PA X es (rdA K mg ES F)
def DS (st : Stmt) (F : MS) : Prop := PS X st (rdS K mg ES F)
def DSs (st : List Stmt) (F : MS) : Prop := PSs X st (rdS K mg ES F)
end

/-! ### the operations, by data -/
def OpD (K : PySem.W.Frag) (mg : Str → Option Value) (r : R2) (g : D → D → AH → R D) : Prop := ∀ ρ h H dx dy x y Q E, Wd K mg ρ h H → RelD K mg ρ H dx x → RelD K mg ρ H dy y → PostE K mg ρ H Q E (g dx dy h) → r x y H Q
def UnD (K : PySem.W.Frag) (mg : Str → Option Value) (r : V → Hp → VK → Prop) (g : D → AH → R D) : Prop := ∀ ρ h H dx x Q E, Wd K mg ρ h H → RelD K mg ρ H dx x → PostE K mg ρ H Q E (g dx h) → r x H Q
def CallD (K : PySem.W.Frag) (mg : Str → Option Value) (r : List V → Hp → VK → Prop) (g : Fn) : Prop := ∀ ρ h H ds vs Q E, Wd K mg ρ h H → RelDs K mg ρ H ds vs → PostE K mg ρ H Q E (g ds h) → r vs H Q
def eVar (i : Nat) : ME := fun ae h => match ae[i]? with
  | some (some d) => .ok d h
  | _ => .stuck
def eC (d : D) : ME := fun _ h => .ok d h
def eOp (g : D → D → AH → R D) (F G : ME) : ME := fun ae h => (F ae h).bind fun x h1 => (G ae h1).bind fun y h2 => g x y h2
def eUn (g : D → AH → R D) (F : ME) : ME := fun ae h => (F ae h).bind g
def aNil : MA := fun _ h => .ok [] h
def aCons (F : ME) (G : MA) : MA := fun ae h => (F ae h).bind fun x h1 => (G ae h1).bind fun xs h2 => .ok (x :: xs) h2
def eFn (g : Fn) (A : MA) : ME := fun ae h => (A ae h).bind g
def mkTup (ds : List D) (h : AH) : R D := if ds.length ≤ 16777216 then .ok (.tup ds) h else .stuck
def mkLst (ds : List D) (h : AH) : R D := if ds.length ≤ 16777216 then .ok (.ref h.length) (h ++ [.lst ds]) else .stuck
def asB (d : D) (h : AH) : R Bool := match d with
  | .bl b => .ok b h
  | _ => .stuck
def eAnd (F G : ME) : ME := fun ae h => (F ae h).bind fun x h1 => (asB x h1).bind fun b h2 => if b = true then G ae h2 else .ok (.bl false) h2
def eOr (F G : ME) : ME := fun ae h => (F ae h).bind fun x h1 => (asB x h1).bind fun b h2 => if b = true then .ok (.bl true) h2 else G ae h2
def eNot (F : ME) : ME := fun ae h => (F ae h).bind fun x h1 => (asB x h1).bind fun b h2 => .ok (.bl (!b)) h2
def eIf (c : MT) (F G : ME) : ME := fun ae h => (c ae h).bind fun b h1 => if b = true then F ae h1 else G ae h1
def tOf (F : ME) : MT := fun ae h => (F ae h).bind asB
def tAn (c d : MT) : MT := fun ae h => (c ae h).bind fun b h1 => if b = true then d ae h1 else .ok false h1
def tO (c d : MT) : MT := fun ae h => (c ae h).bind fun b h1 => if b = true then .ok true h1 else d ae h1
def tNo (c : MT) : MT := fun ae h => (c ae h).bind fun b h1 => .ok (!b) h1

section
variable {K : PySem.W.Frag} {mg : Str → Option Value} {ρ : List Addr} {H : Hp} {h : AH}
theorem post_lst {Q : VK} {E : XK} {ds : List D} {vs : List V} {p : Addr} (w : Wd K mg ρ h H) (rs : RelDs K mg ρ H ds vs) (hp : H p = none) (q : PostE K mg ρ H Q E (.ok (.ref h.length) (h ++ [.lst ds]))) : Q (.ref p) (upd H p (.lst vs)) := by
  have l : Le ρ H (ρ ++ [p]) (upd H p (.lst vs)) := (le_upd hp).trans le_more
  refine q (ρ ++ [p]) _ l (w.alloc hp ⟨vs, upd_same, rs.mono l⟩) _ (.ref ?_)
  rw [← w.len, List.getElem?_append_right (Nat.le_refl _), Nat.sub_self]
  rfl
theorem post_tup {Q : VK} {E : XK} {ds : List D} {vs : List V} {p : Addr} (w : Wd K mg ρ h H) (rs : RelDs K mg ρ H ds vs) (hp : H p = none) (q : PostE K mg ρ H Q E (.ok (.tup ds) h)) : Q (.ref p) (upd H p (.tup vs)) :=
  q ρ _ (le_upd hp) (w.tuple hp) _ (.tup (SqT.of upd_same) (rs.mono (le_upd hp)))
theorem post_val {Q : VK} {E : XK} {d : D} {v : V} (w : Wd K mg ρ h H) (r : RelD K mg ρ H d v) (q : PostE K mg ρ H Q E (.ok d h)) : Q v H := q ρ H Le.refl w v r
end

section
variable {K : PySem.W.Frag} {mg : Str → Option Value} {X : Cx} {ES : St → XK} {e a b c : Expr} {es : List Expr} {F G : ME} {A : MA} {cf cg : MT} {pos : Pos}
theorem de_var (i : Nat) {x : Str} (hN : X.N[i]? = some x := by rfl) (hv : Vis X.env.scope x := by first | exact Or.inl rfl | exact Or.inr (Or.inl rfl) | exact Or.inr (Or.inr rfl)) (hd : (x == ("__debug__" : Str)) = false := by decide)
    (hcd : (x == ("__classdict__" : Str)) = false := by decide) : DE K mg X ES (.Name x pos) (eVar i) := PE.imp (pe_var hN hv hd hcd) fun σ H Q ⟨ρ, h, ae, w, re, p⟩ => by
  unfold eVar at p
  split at p
  · rename_i d ed
    obtain ⟨v, e1, r⟩ := re.at_ i d ed
    exact ⟨v, e1, post_val w r p⟩
  · exact p.elim
theorem de_c {v : V} {d : D} (hp : PE X e (tC v)) (r : ∀ ρ H, RelD K mg ρ H d v) : DE K mg X ES e (eC d) := PE.imp hp fun σ H Q ⟨ρ, h, ae, w, re, p⟩ => post_val w (r ρ H) p
theorem de_int {i : Int} {j : Nat} : DE K mg X ES (.Constant (.int i) j pos) (eC (.int i)) := de_c pe_int fun _ _ => .int i
theorem de_bl {i : Bool} {j : Nat} : DE K mg X ES (.Constant (.bool i) j pos) (eC (.bl i)) := de_c pe_bl fun _ _ => .bl i
theorem de_non {j : Nat} : DE K mg X ES (.Constant .none j pos) (eC .non) := de_c pe_non fun _ _ => .non
theorem de_str {x : Str} {j : Nat} : DE K mg X ES (.Constant (.str x) j pos) (eC (.str x)) := de_c pe_str fun _ _ => .str x
/-- a name of the module: a def, a class -/
theorem de_glb {x : Str} (hg : Gl X x) (ha : ∃ a, mg x = some (.ref a)) (hm : X.mg = mg := by rfl) (hd : (x == ("__debug__" : Str)) = false := by decide) : DE K mg X ES (.Name x pos) (eC (.glb x)) := by
  subst hm
  obtain ⟨a, ha⟩ := ha
  exact de_c (pe_glob hg ha (v := .ref a) rfl hd) fun _ _ => .glb ha
/-- a constant of the module -/
structure GC (K : PySem.W.Frag) (mg : Str → Option Value) (x : Str) (d : D) : Prop where
  ex : ∃ u v, mg x = some u ∧ RelV v u ∧ ∀ ρ H, RelD K mg ρ H d v
theorem de_gc {x : Str} {d : D} (hg : Gl X x) (ha : GC K mg x d) (hm : X.mg = mg := by rfl) (hd : (x == ("__debug__" : Str)) = false := by decide) : DE K mg X ES (.Name x pos) (eC d) := by
  subst hm
  obtain ⟨u, v, h1, h2, h3⟩ := ha.ex
  exact de_c (pe_glob hg h1 h2 hd) h3
/-- a type's name -/
theorem de_ty {x : Str} {n : String} (hg : Gl X x) (hm : mg x = none) (hv : bootBuiltins x = some (.type n)) (he : X.mg = mg := by rfl) (hn : x ≠ "__name__" := by decide) (hd : (x == ("__debug__" : Str)) = false := by decide) : DE K mg X ES (.Name x pos) (eC (.ty n)) := by
  subst he
  exact de_c (pe_bltn hg hm hv (v := .ty n) rfl hn hd) fun _ _ => .ty n
theorem rd_op {r : R2} {g : D → D → AH → R D} (hd : OpD K mg r g) (σ : St) (H : Hp) (Q : VK) (q : rdE K mg ES (eOp g F G) σ H Q) : tOp r (rdE K mg ES F) (rdE K mg ES G) σ H Q := by
  obtain ⟨ρ, h, ae, w, re, p⟩ := q
  exact ⟨ρ, h, ae, w, re, p.bind.imp fun dx h1 ρ1 H1 l1 w1 p1 x rx => ⟨ρ1, h1, ae, w1, re.mono l1, p1.bind.imp fun dy h2 ρ2 H2 l2 w2 p2 y ry => hd ρ2 h2 H2 dx dy x y Q _ w2 (rx.mono l2) ry p2⟩⟩
theorem de_op {op : Operator} {r : R2} {g : D → D → AH → R D} (ho : OpR X (binaryOp op) r) (hd : OpD K mg r g) (ha : DE K mg X ES a F) (hb : DE K mg X ES b G) : DE K mg X ES (.BinOp a op b pos) (eOp g F G) := PE.imp (pe_op ho ha hb) (rd_op hd)
theorem de_ix {r : R2} {g : D → D → AH → R D} (hr : IxR X r) (hd : OpD K mg r g) (ha : DE K mg X ES a F) (hb : DE K mg X ES b G) (hs : PlainIx b) : DE K mg X ES (.Subscript a b pos) (eOp g F G) := PE.imp (pe_ix hr ha hb hs) (rd_op hd)
theorem de_cmp {op : CmpOp} {r : R2} {g : D → D → AH → R D} (ho : OpR X (compareOp op) r) (hd : OpD K mg r g) (ha : DE K mg X ES a F) (hb : DE K mg X ES b G) (hm : behindInMarks op b = false) : DE K mg X ES (.Compare a [op] [b] pos) (eOp g F G) := PE.imp (pe_cmpR ho ha hb hm) (rd_op hd)
theorem rd_test (σ : St) (H : Hp) (Q : Bool → Hp → Prop) (q : rdT K mg ES (tOf F) σ H Q) : rdE K mg ES F σ H fun x H' => ∃ k, x = .bl k ∧ Q k H' := by
  obtain ⟨ρ, h, ae, w, re, p⟩ := q
  refine ⟨ρ, h, ae, w, re, p.bind.imp fun d h1 ρ1 H1 l1 w1 p1 x rx => ?_⟩
  unfold asB at p1
  split at p1
  · cases rx; exact ⟨_, rfl, p1 ρ1 H1 Le.refl w1⟩
  · exact p1.elim
theorem dt_cmp {op : CmpOp} {r : R2} {g : D → D → AH → R D} (ho : OpR X (compareOp op) r) (hd : OpD K mg r g) (ha : DE K mg X ES a F) (hb : DE K mg X ES b G) (hm : behindInMarks op b = false) : DT K mg X ES (.Compare a [op] [b] pos) (tOf (eOp g F G)) :=
  PT.imp (pt_cmpR ho ha hb hm) fun σ H Q q => rd_op hd σ H _ (rd_test σ H Q q)
theorem dt_val (ha : DE K mg X ES a F) (he : ∀ whole, isTrue a X.env whole = (do let v ← whole; standAt a.pos; holding [v] (truthy v)) := by intro _; rfl) : DT K mg X ES a (tOf F) :=
  PT.imp (pt_val ha he) fun σ H Q q => rd_test σ H Q q
theorem dt_not (ha : DT K mg X ES a cf) : DT K mg X ES (.UnaryOp .Not a pos) (tNo cf) := PT.imp (pt_not ha) fun σ H Q ⟨ρ, h, ae, w, re, p⟩ =>
  ⟨ρ, h, ae, w, re, p.bind.imp fun b h1 ρ1 H1 l1 w1 p1 => p1 ρ1 H1 Le.refl w1⟩
theorem dw_and1 (ha : DT K mg X ES a cf) : DW K mg X ES (.BoolOp .And [a] pos) cf := pw_and1 ha
theorem dw_or1 (ha : DT K mg X ES a cf) : DW K mg X ES (.BoolOp .Or [a] pos) cf := pw_or1 ha
theorem dw_and (ha : DT K mg X ES a cf) (hb : DW K mg X ES (.BoolOp .And (b :: es) pos) cg) : DW K mg X ES (.BoolOp .And (a :: b :: es) pos) (tAn cf cg) := PW.imp (pw_and ha hb) fun σ H Q ⟨ρ, h, ae, w, re, p⟩ =>
  ⟨ρ, h, ae, w, re, p.bind.imp fun b h1 ρ1 H1 l1 w1 p1 => by
    cases b with
    | true => exact ⟨ρ1, h1, ae, w1, re.mono l1, p1⟩
    | false => exact p1 ρ1 H1 Le.refl w1⟩
theorem dw_or (ha : DT K mg X ES a cf) (hb : DW K mg X ES (.BoolOp .Or (b :: es) pos) cg) : DW K mg X ES (.BoolOp .Or (a :: b :: es) pos) (tO cf cg) := PW.imp (pw_or ha hb) fun σ H Q ⟨ρ, h, ae, w, re, p⟩ =>
  ⟨ρ, h, ae, w, re, p.bind.imp fun b h1 ρ1 H1 l1 w1 p1 => by
    cases b with
    | true => exact p1 ρ1 H1 Le.refl w1
    | false => exact ⟨ρ1, h1, ae, w1, re.mono l1, p1⟩⟩
theorem DW.dt (h : DW K mg X ES a cf) : DT K mg X ES a cf := PW.pt h
theorem de_one {op} (h : DE K mg X ES a F) : DE K mg X ES (.BoolOp op [a] pos) F := pe_one h
theorem de_and (ha : DE K mg X ES a F) (hb : DE K mg X ES (.BoolOp .And (b :: es) pos) G) : DE K mg X ES (.BoolOp .And (a :: b :: es) pos) (eAnd F G) := PE.imp (pe_and ha hb) fun σ H Q ⟨ρ, h, ae, w, re, p⟩ => by
  refine ⟨ρ, h, ae, w, re, p.bind.imp fun d h1 ρ1 H1 l1 w1 p1 x rx => ?_⟩
  unfold asB at p1
  split at p1
  · rename_i b'
    cases rx
    refine ⟨b', rfl, ?_⟩
    cases b' with
    | true => exact ⟨ρ1, h1, ae, w1, re.mono l1, p1⟩
    | false => exact p1 ρ1 H1 Le.refl w1 _ (.bl false)
  · exact p1.elim
theorem de_not (ha : DE K mg X ES a F) : DE K mg X ES (.UnaryOp .Not a pos) (eNot F) := PE.imp (pe_not ha) fun σ H Q ⟨ρ, h, ae, w, re, p⟩ => by
  refine ⟨ρ, h, ae, w, re, p.bind.imp fun d h1 ρ1 H1 l1 w1 p1 x rx => ?_⟩
  unfold asB at p1
  split at p1
  · cases rx
    exact ⟨_, rfl, p1 ρ1 H1 Le.refl w1 _ (.bl _)⟩
  · exact p1.elim
theorem de_if (hc : DT K mg X ES c cf) (ha : DE K mg X ES a F) (hb : DE K mg X ES b G) : DE K mg X ES (.IfExp c a b pos) (eIf cf F G) := PE.imp (pe_ifExp hc ha hb) fun σ H Q ⟨ρ, h, ae, w, re, p⟩ =>
  ⟨ρ, h, ae, w, re, p.bind.imp fun b h1 ρ1 H1 l1 w1 p1 => by
    cases b with
    | true => exact ⟨ρ1, h1, ae, w1, re.mono l1, p1⟩
    | false => exact ⟨ρ1, h1, ae, w1, re.mono l1, p1⟩⟩
theorem de_un {op : UnaryOp} {r : V → Hp → VK → Prop} {g : D → AH → R D} (ho : UnR X (unaryOp op) r) (hd : UnD K mg r g) (ha : DE K mg X ES a F) : DE K mg X ES (.UnaryOp op a pos) (eUn g F) := PE.imp (pe_un ho ha) fun σ H Q ⟨ρ, h, ae, w, re, p⟩ =>
  ⟨ρ, h, ae, w, re, p.bind.imp fun d h1 ρ1 H1 l1 w1 p1 x rx => hd ρ1 h1 H1 d x Q _ w1 rx p1⟩
/-! argument lists -/
theorem da_nil : DA K mg X ES [] aNil := PA.imp pa_nil fun σ H Q ⟨ρ, h, ae, w, re, p⟩ => p ρ H Le.refl w _ .nil
theorem da_cons (ha : DE K mg X ES e F) (hr : DA K mg X ES es A) (hs : starEach (e :: es) X.env = (false, eval e X.env) :: starEach es X.env := by rfl) : DA K mg X ES (e :: es) (aCons F A) := PA.imp (pa_cons ha hr hs) fun σ H Q ⟨ρ, h, ae, w, re, p⟩ =>
  ⟨ρ, h, ae, w, re, p.bind.imp fun d h1 ρ1 H1 l1 w1 p1 x rx => ⟨ρ1, h1, ae, w1, re.mono l1, p1.bind.imp fun ds h2 ρ2 H2 l2 w2 p2 vs rs => p2 ρ2 H2 Le.refl w2 _ (.cons (rx.mono l2) rs)⟩⟩
theorem de_tup {x1} (h : DA K mg X ES es A) : DE K mg X ES (.Tuple es x1 pos) (eFn mkTup A) := PE.imp (pe_tup h) fun σ H Q ⟨ρ, h, ae, w, re, p⟩ =>
  ⟨ρ, h, ae, w, re, p.bind.imp fun ds h1 ρ1 H1 l1 w1 p1 vs rs => by
    unfold mkTup at p1
    split at p1
    · rename_i hl
      exact ⟨by rw [← rs.len]; exact hl, fun q hq => post_tup w1 rs hq p1⟩
    · exact p1.elim⟩
theorem de_lst (h : DA K mg X ES es A) : DE K mg X ES (.List es pos) (eFn mkLst A) := PE.imp (pe_lst h) fun σ H Q ⟨ρ, h, ae, w, re, p⟩ =>
  ⟨ρ, h, ae, w, re, p.bind.imp fun ds h1 ρ1 H1 l1 w1 p1 vs rs => by
    unfold mkLst at p1
    split at p1
    · rename_i hl
      exact ⟨by rw [← rs.len]; exact hl, fun q hq => post_lst w1 rs hq p1⟩
    · exact p1.elim⟩
theorem rd_cb {r : List V → Hp → VK → Prop} {g : Fn} (hd : CallD K mg r g) (σ : St) (H : Hp) (Q : VK) (q : rdE K mg ES (eFn g A) σ H Q) : tCB r (rdA K mg ES A) σ H Q := by
  obtain ⟨ρ, h, ae, w, re, p⟩ := q
  exact ⟨ρ, h, ae, w, re, p.bind.imp fun ds h1 ρ1 H1 l1 w1 p1 vs rs => hd ρ1 h1 H1 ds vs Q _ w1 rs p1⟩
theorem de_callB {id : String} {r : List V → Hp → VK → Prop} {g : Fn} {x : Str} {p : Pos} (hc : CallR X (.builtin id) r) (hd : CallD K mg r g) (hg : Gl X x) (hm : mg x = none) (hv : bootBuiltins x = some (.builtin id)) (ha : DA K mg X ES (e :: es) A) (hk : X.mg = mg := by rfl) (hn : x ≠ "__name__" := by decide) (hdb : (x == ("__debug__" : Str)) = false := by decide)
    (he : starEach (e :: es) X.env = (false, eval e X.env) :: starEach es X.env := by rfl) (hpl : (backTo pos (starEach es X.env)).any (·.1) = false := by rfl) : DE K mg X ES (.Call (.Name x p) (e :: es) [] pos) (eFn g A) := by
  subst hk
  exact PE.imp (pe_callB hc hg hm hv ha hn hdb he hpl) (rd_cb hd)
theorem de_callTy {T : String} {r : List V → Hp → VK → Prop} {g : Fn} {x : Str} {p : Pos} (hc : CallR X (.type T) r) (hd : CallD K mg r g) (hg : Gl X x) (hm : mg x = none) (hv : bootBuiltins x = some (.type T)) (ha : DA K mg X ES (e :: es) A) (hk : X.mg = mg := by rfl) (hn : x ≠ "__name__" := by decide) (hdb : (x == ("__debug__" : Str)) = false := by decide)
    (he : starEach (e :: es) X.env = (false, eval e X.env) :: starEach es X.env := by rfl) (hpl : (backTo pos (starEach es X.env)).any (·.1) = false := by rfl) : DE K mg X ES (.Call (.Name x p) (e :: es) [] pos) (eFn g A) := by
  subst hk
  exact PE.imp (pe_callTy hc hg hm hv ha hn hdb he hpl) (rd_cb hd)
end
end L2

set_option Elab.async false
set_option linter.all false
set_option maxRecDepth 100000
namespace L2
open PySem PySem.Spec PyProof.Rows

/-! ### statements -/
def SR.then (r : SR) (f : AE → AH → SR) : SR := match r with
  | .nx ae h => f ae h
  | .rt d h => .rt d h
  | .bk ae h => .bk ae h
  | .ct ae h => .ct ae h
  | .exc c ae h => .exc c ae h
  | .stuck => .stuck
def R.toS {α : Type} (r : R α) (ae : AE) (f : α → AH → SR) : SR := match r with
  | .ok a h => f a h
  | .exc c h => .exc c ae h
  | .stuck => .stuck
def sNx : MS := fun ae h => .nx ae h
def sBk : MS := fun ae h => .bk ae h
def sCt : MS := fun ae h => .ct ae h
def sRetN : MS := fun _ h => .rt .non h
def sSeq (F G : MS) : MS := fun ae h => (F ae h).then G
def sRet (F : ME) : MS := fun ae h => (F ae h).toS ae fun d h1 => .rt d h1
def sExpr (F : ME) : MS := fun ae h => (F ae h).toS ae fun _ h1 => .nx ae h1
def sIf (c : MT) (F G : MS) : MS := fun ae h => (c ae h).toS ae fun b h1 => if b = true then F ae h1 else G ae h1
abbrev MG := D → AE → AH → R AE
abbrev MGs := List D → AE → AH → R AE
def sAsg (F : ME) (g : MG) : MS := fun ae h => (F ae h).toS ae fun d h1 => (g d ae h1).toS ae fun ae' h2 => .nx ae' h2
def gN (i : Nat) : MG := fun d ae h => .ok (ae.set i (some d)) h
def gsN : MGs := fun ds ae h => match ds with
  | [] => .ok ae h
  | _ => .stuck
def gsC (g : MG) (u : MGs) : MGs := fun ds ae h => match ds with
  | d :: r => (g d ae h).bind fun ae' h' => u r ae' h'
  | [] => .stuck
def gT (u : MGs) : MG := fun d ae h => match d with
  | .tup ds => u ds ae h
  | _ => .stuck
def gS (F G : ME) (w : D → D → D → AH → R Unit) : MG := fun v ae h => (F ae h).bind fun o h1 => (G ae h1).bind fun i h2 => (w o i v h2).bind fun _ h3 => .ok ae h3
def sPar (i j : Nat) (A : MA) : MS := fun ae h => (A ae h).toS ae fun ds h1 => match ds with
  | [d, e] => .nx ((ae.set i (some d)).set j (some e)) h1
  | _ => .stuck
def sAug (i : Nat) (g : D → D → AH → R D) (F : ME) : MS := fun ae h => match ae[i]? with
  | some (some x) => (F ae h).toS ae fun y h1 => (g x y h1).toS ae fun z h2 => .nx (ae.set i (some z)) h2
  | _ => .stuck
def sRaise (c : Str) (A : MA) : MS := fun ae h => (A ae h).toS ae fun ds h1 => if ds.length ≤ 16777216 then .exc c ae h1 else .stuck

section
variable (K : PySem.W.Frag) (mg : Str → Option Value)
def rdG (ES : St → XK) (g : MG) : TG := fun v σ H Q => ∃ ρ h ae d, Wd K mg ρ h H ∧ RelE K mg ρ H ae σ ∧ RelD K mg ρ H d v ∧ PostG K mg ρ H (ES σ) (fun ae' _ ρ' H' => ∀ σ', RelE K mg ρ' H' ae' σ' → Q σ' H') (g d ae h)
def rdGs (ES : St → XK) (g : MGs) : TGs := fun vs σ H Q => ∃ ρ h ae ds, Wd K mg ρ h H ∧ RelE K mg ρ H ae σ ∧ RelDs K mg ρ H ds vs ∧ PostG K mg ρ H (ES σ) (fun ae' _ ρ' H' => ∀ σ', RelE K mg ρ' H' ae' σ' → Q σ' H') (g ds ae h)
def DG (X : Cx) (ES : St → XK) (e : Expr) (g : MG) : Prop := PG X e (rdG K mg ES g)
def DGs (X : Cx) (ES : St → XK) (es : List Expr) (g : MGs) : Prop := PGs X es (rdGs K mg ES g)
/-- what a call of a def raises leaves as it is wanted -/
def PassD (X : Cx) (ES : St → XK) : Prop := ∀ (pins : List (Addr × Obj)) (σ : St) (H : Hp) (s : Shared) (e : Value) (s' : Shared), Inv X pins σ H s → CX1 X.prog X.w X.stack H s (ES σ) e s' → X.xe e s'
end
section
variable {K : PySem.W.Frag} {mg : Str → Option Value} {X : Cx} {ES : St → XK} {ρ : List Addr} {H : Hp} {h : AH} {ae : AE} {σ : St} {De : Ends}
theorem toS_imp {α : Type} {r : R α} {f : α → AH → SR} {k : α → AH → List Addr → Hp → Prop} (p : PostS K mg ρ H De ES (r.toS ae f)) (re : RelE K mg ρ H ae σ)
    (i : ∀ a h1 ρ1 H1, Le ρ H ρ1 H1 → Wd K mg ρ1 h1 H1 → RelE K mg ρ1 H1 ae σ → PostS K mg ρ1 H1 De ES (f a h1) → k a h1 ρ1 H1) : PostG K mg ρ H (ES σ) k r := by
  cases r with
  | ok a h1 => exact fun ρ1 H1 l1 w1 => i a h1 ρ1 H1 l1 w1 (re.mono l1) (PostS.mono l1 p)
  | exc c h1 => exact fun ρ1 H1 C l1 w1 m => p ρ1 H1 σ C l1 w1 (re.mono l1) m
  | stuck => exact p
theorem nx_of {ae' : AE} (p : PostS K mg ρ H De ES (.nx ae' h)) (w : Wd K mg ρ h H) (re : RelE K mg ρ H ae' σ) : De.nx σ H := p ρ H σ Le.refl w re
theorem then_imp {r : SR} {f : AE → AH → SR} {N : St → Hp → Prop} (p : PostS K mg ρ H De ES (r.then f)) (i : ∀ ae1 h1 ρ1 H1 σ1, Le ρ H ρ1 H1 → Wd K mg ρ1 h1 H1 → RelE K mg ρ1 H1 ae1 σ1 → PostS K mg ρ1 H1 De ES (f ae1 h1) → N σ1 H1) : PostS K mg ρ H { De with nx := N } ES r := by
  cases r with
  | nx ae1 h1 => exact fun ρ1 H1 σ1 l1 w1 re1 => i ae1 h1 ρ1 H1 σ1 l1 w1 re1 (PostS.mono l1 p)
  | rt d h1 => exact p
  | bk ae1 h1 => exact p
  | ct ae1 h1 => exact p
  | exc c ae1 h1 => exact p
  | stuck => exact p
end
section
variable {K : PySem.W.Frag} {mg : Str → Option Value} {X : Cx} {ES : St → XK} {e a b c o i : Expr} {es : List Expr} {st : Stmt} {sts sts' : List Stmt} {F G : ME} {A : MA} {cf : MT} {U V' : MS} {g : MG} {gs : MGs} {pos : Pos}
theorem dss_nil : DSs K mg X ES [] sNx := PSs.imp pss_nil fun D σ H ⟨ρ, h, ae, w, re, p⟩ => nx_of p w re
theorem dss_one (h1 : DS K mg X ES st U) : DSs K mg X ES [st] U := pss_one h1
theorem dss_cons (h1 : DS K mg X ES st U) (h2 : DSs K mg X ES sts V') : DSs K mg X ES (st :: sts) (sSeq U V') := PSs.imp (pss_cons h1 h2) fun D σ H ⟨ρ, h, ae, w, re, p⟩ =>
  ⟨ρ, h, ae, w, re, then_imp p fun ae1 h1 ρ1 H1 σ1 l1 w1 re1 p1 => ⟨ρ1, h1, ae1, w1, re1, p1⟩⟩
theorem ds_ret (he : DE K mg X ES e F) : DS K mg X ES (.Return (some e) pos) (sRet F) := PS.imp (ps_ret he) fun D σ H ⟨ρ, h, ae, w, re, p⟩ =>
  ⟨ρ, h, ae, w, re, toS_imp p re fun d h1 ρ1 H1 l1 w1 re1 p1 v rv => p1 ρ1 H1 v Le.refl w1 rv⟩
theorem ds_expr (he : DE K mg X ES e F) (hs : swapsWith e none pos.line X.env = pure false := by rfl) : DS K mg X ES (.Expr e pos) (sExpr F) := PS.imp (ps_expr he hs) fun D σ H ⟨ρ, h, ae, w, re, p⟩ =>
  ⟨ρ, h, ae, w, re, toS_imp p re fun d h1 ρ1 H1 l1 w1 re1 p1 v rv => nx_of p1 w1 re1⟩
theorem ds_if (hc : DT K mg X ES c cf) (ha : DSs K mg X ES sts U) (hb : DSs K mg X ES sts' V') : DS K mg X ES (.If c sts sts' pos) (sIf cf U V') := PS.imp (ps_if hc ha hb) fun D σ H ⟨ρ, h, ae, w, re, p⟩ =>
  ⟨ρ, h, ae, w, re, toS_imp p re fun b h1 ρ1 H1 l1 w1 re1 p1 => by
    cases b with
    | true => exact ⟨ρ1, h1, ae, w1, re1, p1⟩
    | false => exact ⟨ρ1, h1, ae, w1, re1, p1⟩⟩
/-! targets -/
theorem dg_name {i : Nat} {x : Str} (hN : X.N.Nodup) (hi : X.N[i]? = some x) (hx : Loc X.env.scope x) (hf : X.fn x = true ∨ X.env.scope.names.lookup x = some .local := by first | exact .inl rfl | exact .inr rfl | assumption) : DG K mg X ES (.Name x pos) (gN i) :=
  PG.imp (pg_name hN hi hx hf) fun v σ H Q ⟨ρ, h, ae, d, w, re, rd, p⟩ => p ρ H Le.refl w _ (re.set i rd)
theorem dgs_nil : DGs K mg X ES [] gsN := PGs.imp pgs_nil fun vs σ H Q ⟨ρ, h, ae, ds, w, re, rd, p⟩ => by
  cases rd with
  | nil => exact ⟨rfl, p ρ H Le.refl w _ re⟩
  | cons r rr => exact p.elim
theorem dgs_cons (h1 : DG K mg X (fun _ => E0) e g) (h2 : DGs K mg X (fun _ => E0) es gs)
    (hs : (assignEach (e :: es) X.env).map (·.2) = assign e X.env :: (assignEach es X.env).map (·.2) := by rfl) : DGs K mg X (fun _ => E0) (e :: es) (gsC g gs) := PGs.imp (pgs_cons h1 h2 hs) fun vs σ H Q ⟨ρ, h, ae, ds, w, re, rd, p⟩ => by
  cases rd with
  | nil => exact p.elim
  | cons r rr => exact ⟨_, _, rfl, ρ, h, ae, _, w, re, r, p.bind.imp fun ae1 h1 ρ1 H1 l1 w1 p1 σ1 re1 => ⟨ρ1, h1, ae1, _, w1, re1, rr.mono l1, p1⟩⟩
theorem dg_tup {k n : Nat} (hK : X.K = K) (hc : X.calm = true) (h : DGs K mg X (fun _ => E0) es gs)
    (hn : (assignEach es X.env).length = n := by rfl) (hst : (assignEach es X.env).findIdx? (·.1) = none := by rfl) : DG K mg X (fun _ => E0) (.Tuple es k pos) (gT fun ds ae h => if ds.length = n then gs ds ae h else .stuck) := by
  subst hK
  refine PG.imp (pg_tup hc h hn hst) fun v σ H Q ⟨ρ, h, ae, d, w, re, rd, p⟩ => ?_
  unfold gT at p
  cases rd with
  | tup q rs =>
    dsimp only at p
    split at p
    · rename_i hl
      exact ⟨_, _, rfl, q, by rw [← rs.len]; exact hl, ρ, h, ae, _, w, re, rs, p⟩
    · exact p.elim
  | _ => exact p.elim
def noX {α : Type} (r : R α) : R α := match r with
  | .exc _ _ => .stuck
  | .ok a h => .ok a h
  | .stuck => .stuck
theorem DG.weak (hg : DG K mg X (fun _ => E0) e g) : DG K mg X ES e (fun d ae h => noX (g d ae h)) := PG.imp hg fun v σ H Q ⟨ρ, h, ae, d, w, re, rd, p⟩ => by
  refine ⟨ρ, h, ae, d, w, re, rd, ?_⟩
  dsimp only at p
  cases q : g d ae h with
  | ok a h1 => rw [q] at p; exact p
  | exc c h1 => rw [q] at p; exact p.elim
  | stuck => rw [q] at p; exact p.elim
def SetD (K : PySem.W.Frag) (mg : Str → Option Value) (r : TSet) (f : D → D → D → AH → R Unit) : Prop := ∀ ρ h H do_ di dv o i v (Q : Hp → Prop) E, Wd K mg ρ h H → RelD K mg ρ H do_ o → RelD K mg ρ H di i → RelD K mg ρ H dv v → PostG K mg ρ H E (fun _ _ _ H' => Q H') (f do_ di dv h) → r o i v H Q
theorem ds_asg (he : DE K mg X ES e F) (hg : DG K mg X ES a g) (hs : swapsWithSole [a] e pos.line X.env = pure false := by rfl) (hw : swappedStores [a] e X.env = pure none := by rfl)
    (h1 : (assignEach [a] X.env).map (·.2) = [assign a X.env] := by rfl) : DS K mg X ES (.Assign [a] e pos) (sAsg F g) := PS.imp (ps_asg he hg hs hw h1) fun D σ H ⟨ρ, h, ae, w, re, p⟩ =>
  ⟨ρ, h, ae, w, re, toS_imp p re fun d h1 ρ1 H1 l1 w1 re1 p1 v rv => ⟨ρ1, h1, ae, d, w1, re1, rv, toS_imp p1 re1 fun ae2 h2 ρ2 H2 l2 w2 re2 p2 σ' re' => nx_of p2 w2 re'⟩⟩
theorem ds_set {i : Nat} {x : Str} {pos' : Pos} (hN : X.N.Nodup) (hi : X.N[i]? = some x) (hx : Loc X.env.scope x) (he : DE K mg X ES e F) (hs : swapsWith e (some (.Name x pos')) pos.line X.env = pure false := by rfl) (hf : X.fn x = true ∨ X.env.scope.names.lookup x = some .local := by first | exact .inl rfl | exact .inr rfl | assumption) :
    DS K mg X ES (.Assign [.Name x pos'] e pos) (sAsg F (gN i)) := PS.imp (ps_set hN hi hx he hs hf) fun D σ H ⟨ρ, h, ae, w, re, p⟩ =>
  ⟨ρ, h, ae, w, re, toS_imp p re fun d h1 ρ1 H1 l1 w1 re1 p1 v rv => nx_of p1 w1 (re1.set i rv)⟩
theorem ds_par {i j : Nat} {x y : Str} {px py pt : Pos} {kt k2 pt2} (hc : X.calm = true) (hN : X.N.Nodup) (hi : X.N[i]? = some x) (hj : X.N[j]? = some y) (hij : i ≠ j)
    (hx : X.env.scope.names.lookup x = some .local) (hy : X.env.scope.names.lookup y = some .local) (ha : DA K mg X ES [a, b] A)
    (hw : swappedStores [.Tuple [.Name x px, .Name y py] kt pt] (.Tuple [a, b] k2 pt2) X.env = pure (some [x, y]))
    (hs : swapsWithSole [.Tuple [.Name x px, .Name y py] kt pt] (.Tuple [a, b] k2 pt2) pos.line X.env = pure false := by rfl) :
    DS K mg X ES (.Assign [.Tuple [.Name x px, .Name y py] kt pt] (.Tuple [a, b] k2 pt2) pos) (sPar i j A) := PS.imp (ps_par hc hN hi hj hij hx hy ha hw hs) fun D σ H ⟨ρ, h, ae, w, re, p⟩ =>
  ⟨ρ, h, ae, w, re, toS_imp p re fun ds h1 ρ1 H1 l1 w1 re1 p1 vs rs => by
    split at p1
    · cases rs with
      | cons r1 rs =>
        cases rs with
        | cons r2 rs =>
          cases rs
          exact ⟨_, _, rfl, nx_of p1 w1 ((re1.set i r1).set j r2)⟩
    · exact p1.elim⟩
theorem ds_raise {x : Str} {C : Addr} {E : XK} {np cpos : Pos} (hc : X.calm = true) (hR : Rz X E) (hg : Gl X x) (hm : mg x = some (.ref C)) (hq : PySem.W.excIn X.K C bmVE "ValueError.__new__" = true) (ha : DA K mg X (fun _ => E) (e :: es) A) (hk : X.mg = mg := by rfl)
    (he : starEach (e :: es) X.env = (false, eval e X.env) :: starEach es X.env := by rfl) (hplain : (backTo cpos (starEach es X.env)).any (·.1) = false := by rfl) (hd : (x == ("__debug__" : Str)) = false := by decide) :
    DS K mg X (fun _ => E) (.Raise (some (.Call (.Name x np) (e :: es) [] cpos)) none pos) (sRaise x A) := by
  subst hk
  exact PS.imp (ps_raise hc hR hg hm hq ha he hplain hd) fun D σ H ⟨ρ, h, ae, w, re, p⟩ =>
    ⟨ρ, h, ae, w, re, toS_imp p re fun ds h1 ρ1 H1 l1 w1 re1 p1 vs rs => by
      split at p1
      · rename_i hl
        exact ⟨by rw [← rs.len]; exact hl, p1 ρ1 H1 σ C Le.refl w1 re1 hm⟩
      · exact p1.elim⟩

/-! ### calls of defs -/
theorem de_call {x : Str} {p : Pos} {k n : Nat} {ps : List Str} {S : Fn} (C : Callee X.prog X.w X.K X.mg X.base x k ps (spD K mg n S)) (hr : Room k X.A) (hg : Gl X x) (hx : PassD X ES) (ha : DA K mg X ES (e :: es) A)
    (hdb : (x == ("__debug__" : Str)) = false := by decide) (he : starEach (e :: es) X.env = (false, eval e X.env) :: starEach es X.env := by rfl) (hpl : (backTo pos (starEach es X.env)).any (·.1) = false := by rfl) :
    DE K mg X ES (.Call (.Name x p) (e :: es) [] pos) (eFn (fun ds h => if ds.length = n then S ds h else .stuck) A) := by
  obtain ⟨f, fd, F', m, kp, bb, _⟩ := C.ex
  intro pins s σ H Q I hh
  refine wpAny_Call_Name_kw (ld_glob I hg m ?_ hdb)
  have rd : rdA K mg ES A σ H (fun vs H1 => spD K mg n S vs H1 Q (ES σ)) := by
    obtain ⟨ρ, h, ae, w, re, p⟩ := hh
    refine ⟨ρ, h, ae, w, re, p.bind.imp fun ds h1 ρ1 H1 l1 w1 p1 vs rs => ?_⟩
    split at p1
    · rename_i hl
      exact ⟨ρ1, h1, ds, w1, rs, hl, p1⟩
    · exact p1.elim
  refine PySem.W.callWith_K (h₀ := X.base) I.ok.mod.kin kp (wpAny_mono (ha pos pins s σ H _ I rd) (fun us s1 ⟨vs, H1, I1, r, q⟩ => ⟨I1.kIn, ?_⟩) fun _ _ z => z) he hpl
  have hl : (us ++ []).length = ps.length := by rw [List.append_nil, ← r.length]; exact F'.len _ _ _ _ q
  refine wpAny_call (codeAny_mono (F'.run X.A X.stack s1 H1 ⟨us, []⟩ us vs Q (ES σ) hr I1.env0 (by simpa using bb s1 us I1.kIn hl) r q) fun r s' hq => ?_)
  cases r with
  | error ex => exact hx pins σ H1 s1 ex s' I1 hq
  | ok fl =>
    cases fl with
    | ret u => exact I1.after hq
    | next => exact False.elim hq
    | brk => exact False.elim hq
    | cont => exact False.elim hq
/-- the denotation of a def -/
def fnD (n : Nat) (F : MS) : Fn := fun ds h => match F (ds.map some ++ List.replicate (n - ds.length) none) h with
  | .nx _ h' => .ok .non h'
  | .rt d h' => .ok d h'
  | .exc c _ h' => .exc c h'
  | _ => .stuck
theorem passD_const {E : XK} (hp : Passes (CX1 X.prog X.w) X E) : PassD X (fun _ => E) := fun pins σ H s e s' I h => hp pins σ H s e s' I h
theorem passD_no : PassD X (fun _ => E0) := fun pins σ H s e s' I h => passN pins σ H s e s' I h
end
section
variable {P : Program} {w : World} {K : PySem.W.Frag} {mg : Str → Option Value} {base : Heap} {x : Str} {st : Stmt} {k : Nat} {ps N : List Str} {F : MS}
theorem relE_start {ρ : List Addr} {H : Hp} {ds : List D} {vs : List V} (rs : RelDs K mg ρ H ds vs) : RelE K mg ρ H (ds.map some ++ List.replicate (N.length - ds.length) none) (start N vs) := by
  unfold start
  refine ⟨by rw [List.length_append, List.length_append, List.length_map, List.length_map, List.length_replicate, List.length_replicate, rs.len], fun i d e => ?_⟩
  by_cases hi : i < ds.length
  · rw [List.getElem?_append_left (by rw [List.length_map]; exact hi), List.getElem?_map] at e
    have e' : ds[i]? = some d := by
      cases q : ds[i]? with
      | none => rw [q] at e; cases e
      | some z => rw [q] at e; cases e; rfl
    obtain ⟨v, h1, h2⟩ := rs.getD e'
    refine ⟨v, ?_, h2⟩
    rw [List.getElem?_append_left (by rw [List.length_map, ← rs.len]; exact hi), List.getElem?_map, h1]; rfl
  · rw [List.getElem?_append_right (by rw [List.length_map]; omega), List.getElem?_replicate] at e
    split at e <;> cases e
theorem Def.okD (D : Def K mg x st) (S : FnScope N ps (defScope st))
    (hb : ∀ (kV doc pm : Value) (an : Option Addr) (cdv ct : Value) (us : List Value), us.length = ps.length → bindArgs (PySem.W.fnOf x x (defArgs st) (defBody st) (defScope st) .none kV doc pm an cdv ct) ⟨us, []⟩ = pure (ps.zip us))
    (hbody : ∀ (f : Addr) (cdv : Value) (A : Around) (outer : List Env) (s : Shared) (H : Hp) (E : XK), Room k (A.deeper (envOfC x (defScope st) s.heap.objs.size f cdv)) →
      DSs K mg (cxOf (CX1 P w) P w K mg base N x (defScope st) f cdv A outer s H E) (fun _ => E) (defBody st) F) : Callee P w K mg base x (k + 1) ps (spD K mg ps.length (fnD N.length F)) := by
  refine D.okR S hb (fun vs H Q E ⟨ρ, h, ds, w, rs, hl, p⟩ => by rw [← rs.len]; exact hl) fun f cdv A outer s H vs Q E hr ⟨ρ, h, ds, w', rs, hl, p⟩ => ?_
  refine ⟨_, hbody f cdv A outer s H E hr, ρ, h, _, w', relE_start rs, ?_⟩
  unfold fnD at p
  split at p
  · rename_i e; rw [e]; exact fun ρ1 H1 σ1 l1 w1 re1 => p ρ1 H1 l1 w1 _ .non
  · rename_i e; rw [e]; exact fun ρ1 H1 v l1 w1 rv => p ρ1 H1 l1 w1 v rv
  · rename_i e; rw [e]; exact fun ρ1 H1 σ1 C l1 w1 re1 m => p ρ1 H1 C l1 w1 m
  · exact p.elim
end
end L2

set_option Elab.async false
set_option linter.all false
set_option maxRecDepth 100000
namespace L2
open PySem PySem.Spec PyProof.Rows

/-! ### lists by their place -/
def seqAt (h : AH) (n : Nat) : Option (List D) := match h[n]? with
  | some (.lst xs) => some xs
  | some (.fz xs) => some xs
  | _ => none
/-- the items of a list or tuple -/
def itemsOf (h : AH) : D → Option (List D)
  | .tup xs => some xs
  | .ref n => seqAt h n
  | .kl xs => some xs
  | _ => none
section
variable {K : PySem.W.Frag} {mg : Str → Option Value} {ρ : List Addr} {H : Hp} {h : AH}
theorem seqAt_rel (w : Wd K mg ρ h H) {n : Nat} {a : Addr} {xs : List D} (ea : ρ[n]? = some a) (e : seqAt h n = some xs) : ∃ vs, SqL K H a vs ∧ RelDs K mg ρ H xs vs := by
  unfold seqAt at e
  split at e
  · rename_i ys eo
    cases e
    obtain ⟨vs, h1, h2⟩ := w.ob n a _ ea eo
    exact ⟨vs, SqL.of h1, h2⟩
  · rename_i ys eo
    cases e
    obtain ⟨o, vs, h1, h2⟩ := w.ob n a _ ea eo
    exact ⟨vs, .inl (.inr ⟨o, h1⟩), h2⟩
  · cases e
theorem itemsOf_rel (w : Wd K mg ρ h H) {d : D} {v : V} {xs : List D} (r : RelD K mg ρ H d v) (e : itemsOf h d = some xs) : ∃ p vs, v = .ref p ∧ (SqL K H p vs ∨ SqT K H p vs) ∧ RelDs K mg ρ H xs vs := by
  cases r with
  | tup q rs =>
    have e' : some _ = some xs := e
    cases e'
    exact ⟨_, _, rfl, .inr q, rs⟩
  | ref ea =>
    obtain ⟨vs, h1, h2⟩ := seqAt_rel w ea e
    exact ⟨_, vs, rfl, .inl h1, h2⟩
  | kl q rs =>
    have e' : some _ = some xs := e
    cases e'
    exact ⟨_, _, rfl, .inl (.inr q), rs⟩
  | _ => cases e
end

/-! ### the operations -/
def g2 (f : Int → Int → R D) (x y : D) : R D := match x, y with
  | .int i, .int j => f i j
  | _, _ => .stuck
def gI (f : Int → Int → D) : D → D → AH → R D := fun x y h => match x, y with
  | .int i, .int j => .ok (f i j) h
  | _, _ => .stuck
open Classical in
noncomputable def gIc (C : Int → Int → Prop) (f : Int → Int → D) : D → D → AH → R D := fun x y h => match x, y with
  | .int i, .int j => if C i j then .ok (f i j) h else .stuck
  | _, _ => .stuck
section
variable {K : PySem.W.Frag} {mg : Str → Option Value} {X : Cx}
theorem opd_I0 {f : Int → Int → V} {g : Int → Int → D} (hr : ∀ i j ρ H, RelD K mg ρ H (g i j) (f i j)) : OpD K mg (rI0 f) (gI g) := fun ρ h H dx dy x y Q E w rx ry p => by
  unfold gI at p
  split at p
  · cases rx; cases ry; exact ⟨_, _, rfl, rfl, post_val w (hr _ _ ρ H) p⟩
  · exact p.elim
theorem opd_I {C : Int → Int → Prop} {f : Int → Int → V} {g : Int → Int → D} (hr : ∀ i j ρ H, RelD K mg ρ H (g i j) (f i j)) : OpD K mg (rI C f) (gIc C g) := fun ρ h H dx dy x y Q E w rx ry p => by
  unfold gIc at p
  split at p
  · cases rx; cases ry
    split at p
    · rename_i hc; exact ⟨_, _, rfl, rfl, hc, post_val w (hr _ _ ρ H) p⟩
    · exact p.elim
  · exact p.elim
/-- one of two, by data -/
def gOr (g g' : D → D → AH → R D) : D → D → AH → R D := fun x y h => match g x y h with
  | .stuck => g' x y h
  | r => r
theorem OpD.or {r r' : R2} {g g' : D → D → AH → R D} (a : OpD K mg r g) (b : OpD K mg r' g') : OpD K mg (fun x y H Q => r x y H Q ∨ r' x y H Q) (gOr g g') := fun ρ h H dx dy x y Q E w rx ry p => by
  unfold gOr at p
  split at p
  · exact .inr (b ρ h H dx dy x y Q E w rx ry p)
  · exact .inl (a ρ h H dx dy x y Q E w rx ry p)
end
def gCat : D → D → AH → R D := fun x y h => match x, y with
  | .ref n, .ref m => match h[n]?, h[m]? with
    | some (.lst xs), some (.lst ys) => if xs.length + ys.length ≤ 16777216 then .ok (.ref h.length) (h ++ [.lst (xs ++ ys)]) else .stuck
    | _, _ => .stuck
  | .tup xs, .tup ys => if xs ≠ [] ∧ xs.length + ys.length ≤ 16777216 then .ok (.tup (xs ++ ys)) h else .stuck
  | _, _ => .stuck
def gRep : D → D → AH → R D := fun x y h => match x, y with
  | .ref n, .int k => match h[n]? with
    | some (.lst xs) => if -(2 ^ 63) ≤ k ∧ k < 2 ^ 63 ∧ xs.length * k.toNat ≤ 16777216 then .ok (.ref h.length) (h ++ [.lst (List.replicate k.toNat xs).flatten]) else .stuck
    | _ => .stuck
  | _, _ => .stuck
def gIx : D → D → AH → R D := fun x y h => match itemsOf h x, y with
  | some xs, .int i => match atI xs i with
    | some d => .ok d h
    | none => .stuck
  | _, _ => .stuck
section
variable {K : PySem.W.Frag} {mg : Str → Option Value} {X : Cx}
theorem opd_cat : OpD K mg (fun x y H Q => rCat x y H Q ∨ rCatT K x y H Q) gCat := fun ρ h H dx dy x y Q E w rx ry p => by
  unfold gCat at p
  split at p
  · cases rx with
    | ref ea =>
      cases ry with
      | ref eb =>
        split at p
        · rename_i xs ys e1 e2
          split at p
          · rename_i hl
            obtain ⟨vs, q1, r1⟩ := w.ob _ _ _ ea e1
            obtain ⟨ws, q2, r2⟩ := w.ob _ _ _ eb e2
            exact .inl ⟨_, _, vs, ws, rfl, rfl, q1, q2, by rw [← r1.len, ← r2.len]; exact hl, fun p' hp => post_lst w (r1.append r2) hp p⟩
          · exact p.elim
        · exact p.elim
  · cases rx with
    | tup q1 r1 =>
      cases ry with
      | tup q2 r2 =>
        split at p
        · rename_i hl
          refine .inr ⟨_, _, _, _, rfl, rfl, q1, q2, ?_, by rw [← r1.len, ← r2.len]; exact hl.2, fun z => ?_, fun _ p' hp => post_tup w (r1.append r2) hp p⟩
          · rintro rfl
            cases r1
            exact hl.1 rfl
          · subst z
            cases r2
            rw [List.append_nil] at p
            exact post_val w (.tup q1 r1) p
        · exact p.elim
  · exact p.elim
theorem atI_rel {ρ : List Addr} {H : Hp} {xs : List D} {vs : List V} (r : RelDs K mg ρ H xs vs) {i : Int} {d : D} (e : atI xs i = some d) : ∃ v, atI vs i = some v ∧ RelD K mg ρ H d v := by
  unfold atI at e ⊢
  rw [← r.len]
  cases q : ixN xs.length i with
  | none => rw [q] at e; cases e
  | some j => rw [q] at e; exact r.getD e
theorem opd_ix : OpD K mg (fun x y H Q => rIxL K x y H Q ∨ rIxT K x y H Q) gIx := fun ρ h H dx dy x y Q E w rx ry p => by
  unfold gIx at p
  split at p
  · rename_i xs i e1
    split at p
    · rename_i d e2
      cases ry
      obtain ⟨pa, vs, rfl, hq, rs⟩ := itemsOf_rel w rx e1
      obtain ⟨v, e3, rv⟩ := atI_rel rs e2
      rcases hq with hq | hq
      · exact .inl ⟨_, _, _, _, rfl, rfl, hq, e3, post_val w rv p⟩
      · exact .inr ⟨_, _, _, _, rfl, rfl, hq, e3, post_val w rv p⟩
    · exact p.elim
  · exact p.elim
theorem ixK (h : X.K = K) : IxR X (fun x y H Q => rIxL K x y H Q ∨ rIxT K x y H Q) := by subst h; exact ix_list.or ix_tup
theorem catK (h : X.K = K) : OpR X (binaryOp .Add) (fun x y H Q => rCat x y H Q ∨ rCatT K x y H Q) := by subst h; exact op_cat.or op_catT
end

/-! ### equality by data -/
def snap : Nat → AH → D → Option PyData
  | 0, _, _ => none
  | _ + 1, _, .non => some .none
  | _ + 1, _, .bl b => some (.bool b)
  | _ + 1, _, .int i => some (.int i)
  | _ + 1, _, .str x => some (.str x)
  | k + 1, h, .tup xs => (xs.mapM (snap k h)).map .tuple
  | k + 1, h, .ref n => match seqAt h n with
    | some xs => (xs.mapM (snap k h)).map .list
    | none => none
  | _ + 1, _, _ => none
theorem snaps_rel {K : PySem.W.Frag} {mg : Str → Option Value} {ρ : List Addr} {H : Hp} {f : D → Option PyData} (hf : ∀ d v pd, RelD K mg ρ H d v → f d = some pd → Rep K H v pd) : ∀ {xs : List D} {vs : List V} {ps : List PyData}, RelDs K mg ρ H xs vs → xs.mapM f = some ps → Reps K H vs ps
  | [], _, _, .nil, e => by
    have e' : some [] = some _ := e
    cases e'; exact .nil
  | x :: xs, _, ps, .cons r rr, e => by
    rw [List.mapM_cons] at e
    cases q : f x with
    | none => rw [q] at e; cases e
    | some pd =>
      rw [q] at e
      cases q2 : xs.mapM f with
      | none => rw [q2] at e; cases e
      | some pds =>
        rw [q2] at e
        have e' : some (pd :: pds) = some ps := e
        cases e'
        exact .cons (hf _ _ _ r q) (snaps_rel hf rr q2)
theorem snap_rel {K : PySem.W.Frag} {mg : Str → Option Value} {ρ : List Addr} {H : Hp} {h : AH} (w : Wd K mg ρ h H) : ∀ (k : Nat) {d : D} {v : V} {pd : PyData}, RelD K mg ρ H d v → snap k h d = some pd → Rep K H v pd
  | 0, _, _, _, _, e => by cases e
  | k + 1, d, v, pd, r, e => by
    cases r with
    | non => have e' : some _ = some pd := e; cases e'; exact .non
    | bl b => have e' : some _ = some pd := e; cases e'; exact .bl b
    | int b => have e' : some _ = some pd := e; cases e'; exact .int b
    | str b => have e' : some _ = some pd := e; cases e'; exact .str b
    | tup q rs =>
      rename_i ds
      have e' : (ds.mapM (snap k h)).map PyData.tuple = some pd := e
      cases q2 : ds.mapM (snap k h) with
      | none => rw [q2] at e'; cases e'
      | some ps =>
        rw [q2] at e'
        cases e'
        exact .tup q (snaps_rel (fun d v pd r e => snap_rel w k r e) rs q2)
    | ref ea =>
      rename_i n a
      unfold snap at e
      split at e
      · rename_i xs e1
        obtain ⟨vs, h1, h2⟩ := seqAt_rel w ea e1
        cases q2 : xs.mapM (snap k h) with
        | none => rw [q2] at e; cases e
        | some ps =>
          rw [q2] at e
          cases e
          exact .lst h1 (snaps_rel (fun d v pd r e => snap_rel w k r e) h2 q2)
      · cases e
    | _ => cases e
def gEqB (h : AH) (x y : D) : Option Bool := match snap 64 h x, snap 64 h y with
  | some a, some b => if SeqAt.shaped a = true ∧ SeqAt.shaped b = true then some (PyData.eqv a b) else none
  | _, _ => none
def gEq (neg : Bool) : D → D → AH → R D := fun x y h => match gEqB h x y with
  | some b => .ok (.bl (if neg then !b else b)) h
  | none => .stuck
section
variable {K : PySem.W.Frag} {mg : Str → Option Value} {X : Cx}
theorem opd_eqB {ρ : List Addr} {H : Hp} {h : AH} {dx dy : D} {x y : V} {b : Bool} (w : Wd K mg ρ h H) (rx : RelD K mg ρ H dx x) (ry : RelD K mg ρ H dy y) (e : gEqB h dx dy = some b) :
    ∃ a c, Rep K H x a ∧ Rep K H y c ∧ SeqAt.shaped a = true ∧ SeqAt.shaped c = true ∧ PyData.eqv a c = b := by
  unfold gEqB at e
  split at e
  · rename_i a c e1 e2
    split at e
    · rename_i hs
      cases e
      exact ⟨a, c, snap_rel w 64 rx e1, snap_rel w 64 ry e2, hs.1, hs.2, rfl⟩
    · cases e
  · cases e
theorem opd_eq : OpD K mg (rEqD K) (gEq false) := fun ρ h H dx dy x y Q E w rx ry p => by
  unfold gEq at p
  split at p
  · rename_i b e
    obtain ⟨a, c, h1, h2, h3, h4, rfl⟩ := opd_eqB w rx ry e
    exact ⟨a, c, h1, h2, h3, h4, post_val w (.bl _) p⟩
  · exact p.elim
theorem opd_ne : OpD K mg (rNeD K) (gEq true) := fun ρ h H dx dy x y Q E w rx ry p => by
  unfold gEq at p
  split at p
  · rename_i b e
    obtain ⟨a, c, h1, h2, h3, h4, rfl⟩ := opd_eqB w rx ry e
    exact ⟨a, c, h1, h2, h3, h4, post_val w (.bl _) p⟩
  · exact p.elim
end
/-! ### in -/
section
variable {K : PySem.W.Frag} {mg : Str → Option Value} {X : Cx} {ρ : List Addr} {H : Hp}
end
end L2

set_option Elab.async false
set_option linter.all false
set_option maxRecDepth 100000
namespace L2
open PySem PySem.Spec PyProof.Rows

/-! ### what a loop walks -/
inductive AIt where
  | lst (n : Nat) (xs : List D) | tup (xs : List D) | rng (lo : Int) (k : Nat)
def AIt.items : AIt → List D
  | .lst _ xs => xs
  | .tup xs => xs
  | .rng lo k => (List.range k).map fun i => D.int (lo + (i : Nat))
def AIt.guard : AIt → AH → Prop
  | .lst n xs, h => seqAt h n = some xs
  | _, _ => True
def ItR (K : PySem.W.Frag) (mg : Str → Option Value) (ρ : List Addr) (H : Hp) : AIt → It → Prop
  | .lst n _, J => ∃ a, ρ[n]? = some a ∧ J = Itl K a
  | .tup xs, J => ∃ p vs, SqT K H p vs ∧ RelDs K mg ρ H xs vs ∧ J = Itt K p
  | .rng lo k, J => J = Itr lo k
section
variable {K : PySem.W.Frag} {mg : Str → Option Value} {ρ ρ1 : List Addr} {H H1 : Hp} {h h1 : AH}
theorem ItR.step {it : AIt} {J : It} (hJ : ItR K mg ρ H it J) (l : Le ρ H ρ1 H1) (w : Wd K mg ρ1 h1 H1) (g : it.guard h1) :
    (∀ (i : Nat) (d : D), it.items[i]? = some d → J.go i H1 ∧ ∀ x H', J.yld i H1 x H' → H' = H1 ∧ RelD K mg ρ1 H1 d x) ∧ J.stop it.items.length H1 := by
  cases it with
  | lst n xs =>
    obtain ⟨a, ea, rfl⟩ := hJ
    obtain ⟨vs, q, rs⟩ := seqAt_rel w (l.pre _ _ ea) g
    refine ⟨fun i d e => ?_, vs, q, by rw [← rs.len]; exact Nat.le_refl _⟩
    obtain ⟨v, ev, rv⟩ := rs.getD e
    refine ⟨⟨vs, v, q, ev⟩, fun x H' ⟨e1, y⟩ => ⟨e1, ?_⟩⟩
    have := (y vs q).symm.trans ev
    cases this
    exact rv
  | tup xs =>
    obtain ⟨p, vs, q, rs, rfl⟩ := hJ
    have q1 := l.sqT q
    have rs1 := rs.mono l
    refine ⟨fun i d e => ?_, vs, q1, by rw [← rs1.len]; exact Nat.le_refl _⟩
    obtain ⟨v, ev, rv⟩ := rs1.getD e
    refine ⟨⟨vs, v, q1, ev⟩, fun x H' ⟨e1, y⟩ => ⟨e1, ?_⟩⟩
    have := (y vs q1).symm.trans ev
    cases this
    exact rv
  | rng lo k =>
    cases hJ
    refine ⟨fun i d e => ?_, ?_⟩
    · have e' : ((List.range k).map fun i => D.int (lo + (i : Nat)))[i]? = some d := e
      rw [List.getElem?_map] at e'
      cases q : (List.range k)[i]? with
      | none => rw [q] at e'; cases e'
      | some j =>
        rw [q] at e'
        have hj := List.getElem?_eq_some_iff.mp q
        have e2 := hj.2
        rw [List.getElem_range] at e2
        subst e2
        cases e'
        refine ⟨show i < k by simpa using hj.1, fun x H' ⟨e1, e2⟩ => ⟨e1, ?_⟩⟩
        subst e2
        exact .int _
    · show k ≤ ((List.range k).map fun i => D.int (lo + (i : Nat))).length
      simp
end
def SR.loop (r : SR) (f : AE → AH → SR) : SR := match r with
  | .nx ae h => f ae h
  | .ct ae h => f ae h
  | .bk ae h => .nx ae h
  | .rt d h => .rt d h
  | .exc c ae h => .exc c ae h
  | .stuck => .stuck
open Classical in
noncomputable def forL (G : AH → Prop) (g : MG) (B : MS) : List D → MS
  | [], ae, h => if G h then .nx ae h else .stuck
  | d :: ds, ae, h => if G h then (g d ae h).toS ae fun ae1 h1 => (B ae1 h1).loop (forL G g B ds) else .stuck
abbrev MI := AE → AH → R AIt
noncomputable def sFor (I : MI) (g : MG) (B : MS) : MS := fun ae h => (I ae h).toS ae fun it h1 => forL it.guard g B it.items ae h1
open Classical in
noncomputable def lcL (G : AH → Prop) (g : MG) (c : MT) (F : ME) : List D → List D → AE → AH → R (List D)
  | [], acc, _, h => if G h then .ok acc h else .stuck
  | d :: ds, acc, ae, h => if G h ∧ acc.length < 16777216 then (g d ae h).bind fun ae1 h1 => (c ae1 h1).bind fun b h2 => if b = true then (F ae1 h2).bind fun y h3 => lcL G g c F ds (acc ++ [y]) ae1 h3 else lcL G g c F ds acc ae1 h2 else .stuck
def subA (sub : List (Option Nat)) (ae : AE) : AE := sub.map fun o => o.bind fun i => (ae[i]?).bind id
noncomputable def eLC (I : MI) (sub : List (Option Nat)) (g : MG) (c : MT) (F : ME) : ME := fun ae h => (I ae h).bind fun it h1 => (noX (lcL it.guard g c F it.items [] (subA sub ae) h1)).bind mkLst
def tY : MT := fun _ h => .ok true h

section
variable (K : PySem.W.Frag) (mg : Str → Option Value)
def rdI (ES : St → XK) (F : MI) : TI := fun σ H R' => ∃ ρ h ae, Wd K mg ρ h H ∧ RelE K mg ρ H ae σ ∧ PostG K mg ρ H (ES σ) (fun it _ ρ' H' => ∀ J, ItR K mg ρ' H' it J → R' J H') (F ae h)
def DI (X : Cx) (ES : St → XK) (tg iter : Expr) (F : MI) : Prop := PI X tg iter (rdI K mg ES F)
end
def iSeq (F : ME) : MI := fun ae h => (F ae h).bind fun d h1 => match d with
  | .tup xs => .ok (.tup xs) h1
  | .ref n => match seqAt h1 n with
    | some xs => .ok (.lst n xs) h1
    | none => .stuck
  | _ => .stuck
def iRg1 (A : MA) : MI := fun ae h => (A ae h).bind fun ds h1 => match ds with
  | [.int j] => if -(2 ^ 62) ≤ j ∧ j < 2 ^ 62 then .ok (.rng 0 j.toNat) h1 else .stuck
  | _ => .stuck
section
variable {K : PySem.W.Frag} {mg : Str → Option Value} {X : Cx} {ES : St → XK} {tg iter e a b c elt : Expr} {F : ME} {A : MA} {I : MI} {g : MG} {cf : MT} {U : MS} {sts : List Stmt} {pos : Pos}
theorem PI.imp {t t' : TI} (h : PI X tg iter t) (k : ∀ σ H Q, t' σ H Q → t σ H Q) : PI X tg iter t' := fun pins s σ H Q I w => h pins s σ H Q I (k σ H Q w)
theorem pi_seq {l : Expr} {tl : TE} (hl : PE X l tl) : PI X tg l (fun σ H R => tl σ H fun x H1 => (∃ a, x = .ref a ∧ (∃ xs, SqL X.K H1 a xs) ∧ R (Itl X.K a) H1) ∨ (∃ a, x = .ref a ∧ (∃ xs, SqT X.K H1 a xs) ∧ R (Itt X.K a) H1)) := by
  intro pins s σ H R I h
  refine thn (hl pins s σ H _ I h) fun v s1 ⟨x, H1, I1, r1, q1⟩ => ?_
  rcases q1 with ⟨a, e, ⟨xs, hq⟩, q⟩ | ⟨a, e, ⟨xs, hq⟩, q⟩
  · subst e
    cases r1
    obtain ⟨its, rv, p, hz⟩ := I1.list hq
    refine wpAny_pyIter_list p.isList ?_
    refine ⟨s1.heap.objs.size, [s1.heap.objs.size], _, _, H1, rfl, I1.kept (t' := s1.toks) fun b o e => Heap.get?_push_of_some _ e, turn_list a _, ⟨_, Heap.get?_push_size _ rfl, rfl, rfl⟩, fun b hb => ?_, q⟩
    have e : b = s1.heap.objs.size := by simpa using hb
    subst e
    exact I1.fpOk (Nat.le_refl _) (I1.hok.fresh (Nat.le_refl _))
  · subst e
    cases r1
    obtain ⟨its, rv, p, hz⟩ := I1.tuple hq
    refine wpAny_pyIter_tuple (show s1.heap.IsTuple a its.toArray from p) ?_
    refine ⟨s1.heap.objs.size, [s1.heap.objs.size], _, _, H1, rfl, I1.kept (t' := s1.toks) fun b o e => Heap.get?_push_of_some _ e, turn_tuple a _, ⟨_, Heap.get?_push_size _ rfl, rfl, rfl⟩, fun b hb => ?_, q⟩
    have e : b = s1.heap.objs.size := by simpa using hb
    subst e
    exact I1.fpOk (Nat.le_refl _) (I1.hok.fresh (Nat.le_refl _))
theorem di_seq (hK : X.K = K) (he : DE K mg X ES e F) : DI K mg X ES tg e (iSeq F) := by
  subst hK
  refine PI.imp (pi_seq he) fun σ H R ⟨ρ, h, ae, w, re, p⟩ => ⟨ρ, h, ae, w, re, p.bind.imp fun d h1 ρ1 H1 l1 w1 p1 v rv => ?_⟩
  cases rv with
  | tup q rs => exact .inr ⟨_, rfl, ⟨_, q⟩, p1 ρ1 H1 Le.refl w1 _ ⟨_, _, q, rs, rfl⟩⟩
  | ref ea =>
    dsimp only at p1
    split at p1
    · rename_i xs e1
      obtain ⟨vs, q, rs⟩ := seqAt_rel w1 ea e1
      exact .inl ⟨_, rfl, ⟨_, q⟩, p1 ρ1 H1 Le.refl w1 _ ⟨_, ea, rfl⟩⟩
    · exact p1.elim
  | _ => exact p1.elim
theorem di_range1 {p : Pos} (hg : Gl X "range") (hm : mg "range" = none) (ha : DA K mg X ES [a] A) (hk : X.mg = mg := by rfl) (hs : starEach [a] X.env = [(false, eval a X.env)] := by rfl) : DI K mg X ES tg (.Call (.Name "range" p) [a] [] pos) (iRg1 A) := by
  subst hk
  refine PI.imp (pi_range1 hg hm ha hs) fun σ H R ⟨ρ, h, ae, w, re, p⟩ => ⟨ρ, h, ae, w, re, p.bind.imp fun ds h1 ρ1 H1 l1 w1 p1 vs rs => ?_⟩
  split at p1
  · cases rs with
    | cons r rs =>
      cases r; cases rs
      split at p1
      · rename_i hb
        exact ⟨_, rfl, hb.1, hb.2, p1 ρ1 H1 Le.refl w1 _ rfl⟩
      · exact p1.elim
  · exact p1.elim
theorem loop_imp {ρ : List Addr} {H : Hp} {De : Ends} {r : SR} {f : AE → AH → SR} {N : St → Hp → Prop} (p : PostS K mg ρ H De ES (r.loop f)) (i : ∀ ae1 h1 ρ1 H1 σ1, Le ρ H ρ1 H1 → Wd K mg ρ1 h1 H1 → RelE K mg ρ1 H1 ae1 σ1 → PostS K mg ρ1 H1 De ES (f ae1 h1) → N σ1 H1) :
    PostS K mg ρ H { De with nx := N, ct := N, bk := De.nx } ES r := by
  cases r with
  | nx ae1 h1 => exact fun ρ1 H1 σ1 l1 w1 re1 => i ae1 h1 ρ1 H1 σ1 l1 w1 re1 (PostS.mono l1 p)
  | rt d h1 => exact p
  | bk ae1 h1 => exact p
  | ct ae1 h1 => exact fun ρ1 H1 σ1 l1 w1 re1 => i ae1 h1 ρ1 H1 σ1 l1 w1 re1 (PostS.mono l1 p)
  | exc c ae1 h1 => exact p
  | stuck => exact p
theorem ds_for (hp : PassesOwn (model X.prog X.w) X.A X.env X.xe) (hc : X.calm = true) (hi : DI K mg X ES tg iter I) (hg : DG K mg X ES tg g) (hb : DSs K mg X ES sts U)
    (hs : ∀ x, foldedSetIterable iter X.env x = pure x := by intro _; rfl) : DS K mg X ES (.For tg iter sts [] pos) (sFor I g U) := by
  refine PS.imp (ps_for hp hc hi hg hb hs) fun De σ H ⟨ρ, h, ae, w, re, p⟩ => ⟨ρ, h, ae, w, re, toS_imp p re fun it h1 ρ1 H1 l1 w1 re1 p1 J hJ => ?_⟩
  refine ⟨fun i m σ2 H2 => m = it.items.length - i ∧ i ≤ it.items.length ∧ ∃ ρ2 h2 ae2, Le ρ1 H1 ρ2 H2 ∧ Wd K mg ρ2 h2 H2 ∧ RelE K mg ρ2 H2 ae2 σ2 ∧ PostS K mg ρ2 H2 De ES (forL it.guard g U (it.items.drop i) ae2 h2), ⟨_, rfl, Nat.zero_le _, ρ1, h1, ae, Le.refl, w1, re1, p1⟩, ?_⟩
  rintro i m σ2 H2 ⟨rfl, hi', ρ2, h2, ae2, l2, w2, re2, p2⟩
  by_cases hlt : i < it.items.length
  · have hd : it.items.drop i = it.items[i] :: it.items.drop (i + 1) := List.drop_eq_getElem_cons hlt
    rw [hd] at p2
    unfold forL at p2
    split at p2
    · rename_i hG
      obtain ⟨st, _⟩ := hJ.step l2 w2 hG
      obtain ⟨go, yl⟩ := st i it.items[i] (List.getElem?_eq_getElem hlt)
      refine .inr ⟨go, fun σ' H' => ∃ ρ3 h3 ae3, Le ρ1 H1 ρ3 H' ∧ Wd K mg ρ3 h3 H' ∧ RelE K mg ρ3 H' ae3 σ' ∧ PostS K mg ρ3 H' De ES (forL it.guard g U (it.items.drop (i + 1)) ae3 h3),
        fun σ' H' ⟨ρ3, h3, ae3, q⟩ => ⟨_, by omega, rfl, hlt, ρ3, h3, ae3, q⟩, fun x H' hy => ?_⟩
      obtain ⟨rfl, rx⟩ := yl x H' hy
      refine ⟨ρ2, h2, ae2, _, w2, re2, rx, toS_imp p2 re2 fun ae3 h3 ρ3 H3 l3 w3 re3 p3 σ' re' => ⟨ρ3, h3, ae3, w3, re', loop_imp p3 fun ae4 h4 ρ4 H4 σ4 l4 w4 re4 p4 => ⟨ρ4, h4, ae4, (l2.trans l3).trans l4, w4, re4, p4⟩⟩⟩
    · exact p2.elim
  · have hi2 : i = it.items.length := by omega
    subst hi2
    rw [List.drop_length] at p2
    unfold forL at p2
    split at p2
    · rename_i hG
      exact .inl ⟨(hJ.step l2 w2 hG).2, nx_of p2 w2 re2⟩
    · exact p2.elim

/-! ### comprehensions -/
theorem relE_sub {ρ : List Addr} {H : Hp} {ae : AE} {σ : St} (re : RelE K mg ρ H ae σ) (sub : List (Option Nat)) : RelE K mg ρ H (subA sub ae) (subSt sub σ) := by
  unfold subA subSt
  refine ⟨by rw [List.length_map, List.length_map], fun j d e => ?_⟩
  rw [List.getElem?_map] at e ⊢
  cases q : sub[j]? with
  | none => rw [q] at e; cases e
  | some o =>
    rw [q] at e
    cases o with
    | none => cases e
    | some i =>
      have e' : (ae[i]?).bind id = some d := Option.some.inj e
      cases q2 : ae[i]? with
      | none => rw [q2] at e'; cases e'
      | some z =>
        rw [q2] at e'
        have e3 : z = some d := e'
        subst e3
        obtain ⟨v, h1, h2⟩ := re.at_ i d q2
        refine ⟨v, ?_, h2⟩
        show some ((σ[i]?).bind id) = some (some v)
        rw [h1]; rfl
theorem noX_bind {α : Type} {ρ : List Addr} {H : Hp} {E : XK} {r : R α} {f : α → AH → R (List D)} {m : List D → AH → R D} {k : D → AH → List Addr → Hp → Prop} (p : PostG K mg ρ H E k ((noX (r.bind f)).bind m)) :
    PostG K mg ρ H E0 (fun a h1 ρ' H' => PostG K mg ρ' H' E k ((noX (f a h1)).bind m)) r := by
  cases r with
  | ok a h1 => exact fun ρ1 H1 l1 w1 => PostG.mono l1 p
  | exc c h1 => exact p.elim
  | stuck => exact p.elim
theorem rd_lc {sub : List (Option Nat)} (σ : St) (H : Hp) (Q : VK) (q : rdE K mg ES (eLC I sub g cf F) σ H Q) : tLCif (rdI K mg ES I) sub (rdG K mg (fun _ => E0) g) (rdT K mg (fun _ => E0) cf) (rdE K mg (fun _ => E0) F) σ H Q := by
  obtain ⟨ρ, h, ae, w, re, p⟩ := q
  refine ⟨ρ, h, ae, w, re, p.bind.imp fun it h1 ρ1 H1 l1 w1 p1 J hJ => ?_⟩
  have re1 := relE_sub (re.mono l1) sub
  refine ⟨fun i m ys σ2 H2 => m = it.items.length - i ∧ i ≤ it.items.length ∧ ∃ ρ2 h2 ae2 acc, Le ρ1 H1 ρ2 H2 ∧ Wd K mg ρ2 h2 H2 ∧ RelE K mg ρ2 H2 ae2 σ2 ∧ RelDs K mg ρ2 H2 acc ys ∧
      PostG K mg ρ2 H2 (ES σ) (fun d _ ρ' H' => ∀ v, RelD K mg ρ' H' d v → Q v H') ((noX (lcL it.guard g cf F (it.items.drop i) acc ae2 h2)).bind mkLst),
    ⟨_, rfl, Nat.zero_le _, ρ1, h1, subA sub ae, [], Le.refl, w1, re1, .nil, p1⟩, ?_⟩
  rintro i m ys σ2 H2 ⟨rfl, hi', ρ2, h2, ae2, acc, l2, w2, re2, rs, p2⟩
  by_cases hlt : i < it.items.length
  · have hd : it.items.drop i = it.items[i] :: it.items.drop (i + 1) := List.drop_eq_getElem_cons hlt
    rw [hd] at p2
    unfold lcL at p2
    split at p2
    · rename_i hG
      obtain ⟨st, _⟩ := hJ.step l2 w2 hG.1
      obtain ⟨go, yl⟩ := st i it.items[i] (List.getElem?_eq_getElem hlt)
      refine .inr ⟨go, by rw [← rs.len]; exact hG.2, fun ys' σ' H' => ∃ ρ3 h3 ae3 acc3, Le ρ1 H1 ρ3 H' ∧ Wd K mg ρ3 h3 H' ∧ RelE K mg ρ3 H' ae3 σ' ∧ RelDs K mg ρ3 H' acc3 ys' ∧
          PostG K mg ρ3 H' (ES σ) (fun d _ ρ' H' => ∀ v, RelD K mg ρ' H' d v → Q v H') ((noX (lcL it.guard g cf F (it.items.drop (i + 1)) acc3 ae3 h3)).bind mkLst),
        fun ys' σ' H' ⟨ρ3, h3, ae3, acc3, q⟩ => ⟨_, by omega, rfl, hlt, ρ3, h3, ae3, acc3, q⟩, fun x H' hy => ?_⟩
      obtain ⟨rfl, rx⟩ := yl x H' hy
      refine ⟨ρ2, h2, ae2, _, w2, re2, rx, (noX_bind p2).imp fun ae3 h3 ρ3 H3 l3 w3 p3 σ3 re3 => ⟨ρ3, h3, ae3, w3, re3, (noX_bind p3).imp fun b h4 ρ4 H4 l4 w4 p4 => ?_⟩⟩
      cases b with
      | true => exact ⟨ρ4, h4, ae3, w4, re3.mono l4, (noX_bind p4).imp fun y h5 ρ5 H5 l5 w5 p5 v rv => ⟨ρ5, h5, ae3, acc ++ [y], ((l2.trans l3).trans l4).trans l5, w5, (re3.mono l4).mono l5, (((rs.mono l3).mono l4).mono l5).append (.cons rv .nil), p5⟩⟩
      | false => exact ⟨ρ4, h4, ae3, acc, (l2.trans l3).trans l4, w4, re3.mono l4, (rs.mono l3).mono l4, p4⟩
    · exact p2.elim
  · have hi2 : i = it.items.length := by omega
    subst hi2
    rw [List.drop_length] at p2
    unfold lcL at p2
    split at p2
    · rename_i hG
      refine .inl ⟨(hJ.step l2 w2 hG).2, ?_⟩
      have p3 : PostG K mg ρ2 H2 (ES σ) (fun d _ ρ' H' => ∀ v, RelD K mg ρ' H' d v → Q v H') (mkLst acc h2) := p2
      unfold mkLst at p3
      split at p3
      · rename_i hl
        exact ⟨by rw [← rs.len]; exact hl, fun q hq => post_lst w2 rs hq p3⟩
      · exact p3.elim
    · exact p2.elim
theorem de_lc {scope : Scope} (M : List Str) (kn : List (Str × NameKind)) (N : List Str) (sub : List (Option Nat))
    (hc : X.calm = true) (hi : DI K mg X ES tg iter I)
    (hg : ∀ cl C s₂ H fp, DG K mg (cxComp X N scope cl C s₂ H fp) (fun _ => E0) tg g) (he : ∀ cl C s₂ H fp, DE K mg (cxComp X N scope cl C s₂ H fp) (fun _ => E0) elt F)
    (hM : X.N = M := by rfl) (hkn : X.env.scope.names = kn := by rfl) (hsub : subOk M scope.names sub N = true := by decide +kernel)
    (hk : scope.kind = .function := by rfl) (hnc : ∀ x ∈ scope.names, x.2 ≠ .cell := by decide +kernel) (hnames : ∀ x ∈ scope.names, x.2 = .local → scope.names.lookup x.1 = some .local := by decide +kernel)
    (hfr : frOk kn scope.names = true := by decide +kernel)
    (hsl : sub.length = N.length := by rfl) (hs : ∀ x, foldedSetIterable iter X.env x = pure x := by intro _; rfl) :
    DE K mg X ES (.ListComp elt [⟨tg, iter, [], 0⟩] scope pos) (eLC I sub g tY F) :=
  PE.imp (pe_lc M kn N sub hc hi hg he hM hkn hsub hk hnc hnames hfr hsl hs) fun σ H Q q => by
    have := rd_lc (cf := tY) σ H Q q
    obtain ⟨ρ, h, ae, w, re, p⟩ := this
    refine ⟨ρ, h, ae, w, re, p.imp fun it h1 ρ1 H1 l1 w1 k J hJ => ?_⟩
    obtain ⟨W, w0, tn⟩ := k J hJ
    refine ⟨W, w0, fun i m ys σ2 H2 hW => ?_⟩
    rcases tn i m ys σ2 H2 hW with z | ⟨go, hl, Nx, hN, st⟩
    · exact .inl z
    · refine .inr ⟨go, hl, Nx, hN, fun x H' hy => ?_⟩
      obtain ⟨ρ3, h3, ae3, d3, w3, re3, rd3, p3⟩ := st x H' hy
      refine ⟨ρ3, h3, ae3, d3, w3, re3, rd3, p3.imp fun ae4 h4 ρ4 H4 l4 w4 k4 σ4 re4 => ?_⟩
      obtain ⟨ρ5, h5, ae5, w5, re5, p5⟩ := k4 σ4 re4
      exact p5 ρ5 _ Le.refl w5
end

/-! ### while -/
def whN (c : MT) (B : MS) : Nat → MS
  | 0, _, _ => .stuck
  | k + 1, ae, h => (c ae h).toS ae fun b h1 => if b = true then (B ae h1).loop (whN c B k) else .nx ae h1
open Classical in
noncomputable def sWh (c : MT) (B : MS) : MS := fun ae h => if q : ∃ k, whN c B k ae h ≠ .stuck then whN c B q.choose ae h else .stuck
theorem whN_mono {c : MT} {B : MS} : ∀ {k : Nat} {ae : AE} {h : AH}, whN c B k ae h ≠ .stuck → whN c B (k + 1) ae h = whN c B k ae h
  | 0, _, _, q => absurd rfl q
  | k + 1, ae, h, q => by
    have e1 : whN c B (k + 2) ae h = (c ae h).toS ae fun b h1 => if b = true then (B ae h1).loop (whN c B (k + 1)) else .nx ae h1 := rfl
    have e2 : whN c B (k + 1) ae h = (c ae h).toS ae fun b h1 => if b = true then (B ae h1).loop (whN c B k) else .nx ae h1 := rfl
    rw [e2] at q
    rw [e1, e2]
    cases r : c ae h with
    | exc _ _ => rfl
    | stuck => rfl
    | ok b h1 =>
      rw [r] at q
      cases b with
      | false => rfl
      | true =>
        have q' : (B ae h1).loop (whN c B k) ≠ .stuck := q
        show (B ae h1).loop (whN c B (k + 1)) = (B ae h1).loop (whN c B k)
        cases s : B ae h1 with
        | nx a2 h2 => rw [s] at q'; exact whN_mono q'
        | ct a2 h2 => rw [s] at q'; exact whN_mono q'
        | _ => rfl
theorem whN_le {c : MT} {B : MS} {k j : Nat} {ae : AE} {h : AH} (q : whN c B k ae h ≠ .stuck) (hj : k ≤ j) : whN c B j ae h = whN c B k ae h := by
  induction hj with
  | refl => rfl
  | step _ ih => rw [whN_mono (by rw [ih]; exact q), ih]
theorem sWh_eq {c : MT} {B : MS} {k : Nat} {ae : AE} {h : AH} (q : whN c B k ae h ≠ .stuck) : sWh c B ae h = whN c B k ae h := by
  have hq : ∃ k, whN c B k ae h ≠ .stuck := ⟨k, q⟩
  unfold sWh
  rw [dif_pos hq]
  rcases Nat.le_total hq.choose k with z | z
  · exact (whN_le hq.choose_spec z).symm
  · exact whN_le q z
theorem sWh_step (c : MT) (B : MS) (ae : AE) (h : AH) : sWh c B ae h = (c ae h).toS ae fun b h1 => if b = true then (B ae h1).loop (sWh c B) else .nx ae h1 := by
  by_cases q : ∃ k, whN c B k ae h ≠ .stuck
  · obtain ⟨k, q⟩ := q
    rw [sWh_eq q]
    cases k with
    | zero => exact absurd rfl q
    | succ k =>
      have e2 : whN c B (k + 1) ae h = (c ae h).toS ae fun b h1 => if b = true then (B ae h1).loop (whN c B k) else .nx ae h1 := rfl
      rw [e2] at q ⊢
      cases r : c ae h with
      | exc _ _ => rfl
      | stuck => rfl
      | ok b h1 =>
        rw [r] at q
        cases b with
        | false => rfl
        | true =>
          have q' : (B ae h1).loop (whN c B k) ≠ .stuck := q
          show (B ae h1).loop (whN c B k) = (B ae h1).loop (sWh c B)
          cases s : B ae h1 with
          | nx a2 h2 => rw [s] at q'; exact (sWh_eq q').symm
          | ct a2 h2 => rw [s] at q'; exact (sWh_eq q').symm
          | _ => rfl
  · have e : sWh c B ae h = .stuck := by unfold sWh; rw [dif_neg q]
    rw [e]
    have hs : ∀ k, whN c B (k + 1) ae h = .stuck := fun k => Classical.byContradiction fun z => q ⟨_, z⟩
    cases r : c ae h with
    | stuck => rfl
    | exc c' h' =>
      have := hs 0
      unfold whN at this
      rw [r] at this
      cases this
    | ok b h1 =>
      cases b with
      | false =>
        have := hs 0
        unfold whN at this
        rw [r] at this
        cases this
      | true =>
        have h2 : ∀ k, (B ae h1).loop (whN c B k) = .stuck := fun k => by
          have := hs k
          unfold whN at this
          rw [r] at this
          exact this
        show SR.stuck = (B ae h1).loop (sWh c B)
        have lim : ∀ a2 h3, (∀ k, whN c B k a2 h3 = .stuck) → sWh c B a2 h3 = .stuck := fun a2 h3 z => by
          unfold sWh
          rw [dif_neg (fun ⟨k, y⟩ => y (z k))]
        cases s : B ae h1 with
        | nx a2 h3 => rw [s] at h2; exact (lim a2 h3 h2).symm
        | ct a2 h3 => rw [s] at h2; exact (lim a2 h3 h2).symm
        | stuck => rfl
        | _ => have := h2 0; rw [s] at this; cases this
section
variable {K : PySem.W.Frag} {mg : Str → Option Value} {X : Cx} {ES : St → XK} {c : Expr} {cf : MT} {U : MS} {sts : List Stmt} {pos : Pos}
theorem ds_while (hp : PassesOwn (model X.prog X.w) X.A X.env X.xe) (hc : DT K mg X ES c cf) (hb : DSs K mg X ES sts U) : DS K mg X ES (.While c sts [] pos) (sWh cf U) := by
  refine PS.imp (ps_while hp hc hb) fun De σ H ⟨ρ, h, ae, w, re, p⟩ => ?_
  have hx : ∃ k, whN cf U k ae h ≠ .stuck := Classical.byContradiction fun z => by
    unfold sWh at p
    rw [dif_neg z] at p
    exact p.elim
  obtain ⟨k, hk⟩ := hx
  rw [sWh_eq hk] at p
  refine ⟨fun m σ2 H2 => ∃ ρ2 h2 ae2, Wd K mg ρ2 h2 H2 ∧ RelE K mg ρ2 H2 ae2 σ2 ∧ PostS K mg ρ2 H2 De ES (whN cf U m ae2 h2), ⟨k, ρ, h, ae, w, re, p⟩, ?_⟩
  rintro m σ2 H2 ⟨ρ2, h2, ae2, w2, re2, p2⟩
  cases m with
  | zero => exact p2.elim
  | succ m =>
    refine ⟨ρ2, h2, ae2, w2, re2, toS_imp p2 re2 fun b h3 ρ3 H3 l3 w3 re3 p3 => ?_⟩
    cases b with
    | true => exact ⟨fun σ' H' => ∃ ρ4 h4 ae4, Wd K mg ρ4 h4 H' ∧ RelE K mg ρ4 H' ae4 σ' ∧ PostS K mg ρ4 H' De ES (whN cf U m ae4 h4), fun σ' H' q => ⟨m, Nat.lt_succ_self _, q⟩, ρ3, h3, ae2, w3, re3, loop_imp p3 fun ae4 h4 ρ4 H4 σ4 l4 w4 re4 p4 => ⟨ρ4, h4, ae4, w4, re4, p4⟩⟩
    | false => exact nx_of p3 w3 re3
end
end L2

set_option Elab.async false
set_option linter.all false
set_option maxRecDepth 100000
namespace L2
open PySem PySem.Spec PyProof.Rows

/-! ### built-in functions, by data -/
def bLen : Fn := fun ds h => match ds with
  | [d] => match itemsOf h d with
    | some xs => .ok (.int xs.length) h
    | none => match d with
      | .str z => if z.length ≤ 16777216 then .ok (.int z.length) h else .stuck
      | _ => .stuck
  | _ => .stuck
def bAbs : Fn := fun ds h => match ds with
  | [.int i] => .ok (.int (if i < 0 then -i else i)) h
  | _ => .stuck
def bMax2 : Fn := fun ds h => match ds with
  | [.int i, .int j] => .ok (.int (if j > i then j else i)) h
  | _ => .stuck
def bMin2 : Fn := fun ds h => match ds with
  | [.int i, .int j] => .ok (.int (if j < i then j else i)) h
  | _ => .stuck
def blsOf : List D → Option (List Bool)
  | [] => some []
  | .bl b :: r => (blsOf r).map (b :: ·)
  | _ => none
def intsOf : List D → Option (List Int)
  | [] => some []
  | .int b :: r => (intsOf r).map (b :: ·)
  | _ => none
theorem blsOf_eq : ∀ {ds : List D} {bs : List Bool}, blsOf ds = some bs → ds = bs.map D.bl
  | [], bs, e => by cases e; rfl
  | .bl b :: r, bs, e => by
    have e' : (blsOf r).map (b :: ·) = some bs := e
    cases q : blsOf r with
    | none => rw [q] at e'; cases e'
    | some z => rw [q] at e'; cases e'; rw [blsOf_eq q]; rfl
theorem intsOf_eq : ∀ {ds : List D} {bs : List Int}, intsOf ds = some bs → ds = bs.map D.int
  | [], bs, e => by cases e; rfl
  | .int b :: r, bs, e => by
    have e' : (intsOf r).map (b :: ·) = some bs := e
    cases q : intsOf r with
    | none => rw [q] at e'; cases e'
    | some z => rw [q] at e'; cases e'; rw [intsOf_eq q]; rfl
theorem intsOf_map : ∀ (bs : List Int), intsOf (bs.map D.int) = some bs
  | [] => rfl
  | b :: r => by show (intsOf (r.map D.int)).map (b :: ·) = _; rw [intsOf_map r]; rfl
theorem blsOf_map : ∀ (bs : List Bool), blsOf (bs.map D.bl) = some bs
  | [] => rfl
  | b :: r => by show (blsOf (r.map D.bl)).map (b :: ·) = _; rw [blsOf_map r]; rfl
def bAll : Fn := fun ds h => match ds with
  | [.ref n] => match (seqAt h n).bind blsOf with
    | some bs => .ok (.bl (bs.all id)) h
    | none => .stuck
  | _ => .stuck
def bSum : Fn := fun ds h => match ds with
  | [.ref n] => match (seqAt h n).bind intsOf with
    | some ns => .ok (.int ns.sum) h
    | none => .stuck
  | _ => .stuck
def bList : Fn := fun ds h => match ds with
  | [d] => match itemsOf h d with
    | some xs => .ok (.ref h.length) (h ++ [.lst xs])
    | none => .stuck
  | _ => .stuck
def bInt : Fn := fun ds h => match ds with
  | [.int i] => .ok (.int i) h
  | [.bl b] => .ok (.int (if b then 1 else 0)) h
  | _ => .stuck
section
variable {K : PySem.W.Frag} {mg : Str → Option Value} {X : Cx}
theorem cd_len : CallD K mg (fun xs H Q => (∃ p ys, xs = [.ref p] ∧ (SqL K H p ys ∨ SqT K H p ys) ∧ Q (.int ys.length) H) ∨ (∃ z, xs = [.str z] ∧ z.length ≤ sizeLine ∧ Q (.int z.length) H)) bLen := fun ρ h H ds vs Q E w rs p => by
  unfold bLen at p
  split at p
  · cases rs with
    | cons r rs =>
      cases rs
      split at p
      · rename_i xs e
        obtain ⟨pa, vs, rfl, hq, rs⟩ := itemsOf_rel w r e
        exact .inl ⟨_, _, rfl, hq, by rw [← rs.len]; exact post_val w (.int _) p⟩
      · split at p
        · cases r
          split at p
          · rename_i hl; exact .inr ⟨_, rfl, hl, post_val w (.int _) p⟩
          · exact p.elim
        · exact p.elim
  · exact p.elim
theorem lenKD (h : X.K = K) : CallR X (.builtin "len") (fun xs H Q => (∃ p ys, xs = [.ref p] ∧ (SqL K H p ys ∨ SqT K H p ys) ∧ Q (.int ys.length) H) ∨ (∃ z, xs = [.str z] ∧ z.length ≤ sizeLine ∧ Q (.int z.length) H)) := by subst h; exact call_len_seq.or call_len_str
theorem cd_abs : CallD K mg (fun xs H Q => ∃ i, xs = [.int i] ∧ Q (.int (if i < 0 then -i else i)) H) bAbs := fun ρ h H ds vs Q E w rs p => by
  unfold bAbs at p
  split at p
  · cases rs with
    | cons r rs => cases r; cases rs; exact ⟨_, rfl, post_val w (.int _) p⟩
  · exact p.elim
theorem cd_max2 : CallD K mg (fun xs H Q => ∃ i j, xs = [.int i, .int j] ∧ Q (.int (if j > i then j else i)) H) bMax2 := fun ρ h H ds vs Q E w rs p => by
  unfold bMax2 at p
  split at p
  · cases rs with
    | cons r rs => cases rs with | cons r2 rs => cases r; cases r2; cases rs; exact ⟨_, _, rfl, post_val w (.int _) p⟩
  · exact p.elim
theorem cd_min2 : CallD K mg (fun xs H Q => ∃ i j, xs = [.int i, .int j] ∧ Q (.int (if j < i then j else i)) H) bMin2 := fun ρ h H ds vs Q E w rs p => by
  unfold bMin2 at p
  split at p
  · cases rs with
    | cons r rs => cases rs with | cons r2 rs => cases r; cases r2; cases rs; exact ⟨_, _, rfl, post_val w (.int _) p⟩
  · exact p.elim
theorem cd_all : CallD K mg (fun xs H Q => ∃ (a : Addr) (bs : List Bool), xs = [.ref a] ∧ SqL K H a (bs.map V.bl) ∧ Q (.bl (bs.all id)) H) bAll := fun ρ h H ds vs Q E w rs p => by
  unfold bAll at p
  split at p
  · cases rs with
    | cons r rs =>
      cases r with
      | ref ea =>
        cases rs
        split at p
        · rename_i bs e
          obtain ⟨xs, q, e2⟩ := Option.bind_eq_some_iff.mp e
          · obtain ⟨vs, h1, h2⟩ := seqAt_rel w ea q
            rw [blsOf_eq e2] at h2
            rw [h2.bls] at h1
            exact ⟨_, bs, rfl, h1, post_val w (.bl _) p⟩
        · exact p.elim
  · exact p.elim
theorem cd_sum : CallD K mg (fun xs H Q => ∃ (a : Addr) (ns : List Int), xs = [.ref a] ∧ SqL K H a (ns.map V.int) ∧ Q (.int ns.sum) H) bSum := fun ρ h H ds vs Q E w rs p => by
  unfold bSum at p
  split at p
  · cases rs with
    | cons r rs =>
      cases r with
      | ref ea =>
        cases rs
        split at p
        · rename_i bs e
          obtain ⟨xs, q, e2⟩ := Option.bind_eq_some_iff.mp e
          · obtain ⟨vs, h1, h2⟩ := seqAt_rel w ea q
            rw [intsOf_eq e2] at h2
            rw [h2.ints] at h1
            exact ⟨_, bs, rfl, h1, post_val w (.int _) p⟩
        · exact p.elim
  · exact p.elim
theorem cd_list : CallD K mg (fun xs H Q => ∃ p ys, xs = [.ref p] ∧ (SqL K H p ys ∨ SqT K H p ys) ∧ ∀ l, H l = none → Q (.ref l) (upd H l (.lst ys))) bList := fun ρ h H ds vs Q E w rs p => by
  unfold bList at p
  split at p
  · cases rs with
    | cons r rs =>
      cases rs
      split at p
      · rename_i xs e
        obtain ⟨pa, vs, rfl, hq, rs⟩ := itemsOf_rel w r e
        exact ⟨_, _, rfl, hq, fun l hl => post_lst w rs hl p⟩
      · exact p.elim
  · exact p.elim
theorem cd_int : CallD K mg (fun xs H Q => (∃ i, xs = [.int i] ∧ Q (.int i) H) ∨ ∃ k, xs = [.bl k] ∧ Q (.int (if k then 1 else 0)) H) bInt := fun ρ h H ds vs Q E w rs p => by
  unfold bInt at p
  split at p
  · cases rs with
    | cons r rs => cases r; cases rs; exact .inl ⟨_, rfl, post_val w (.int _) p⟩
  · cases rs with
    | cons r rs => cases r; cases rs; exact .inr ⟨_, rfl, post_val w (.int _) p⟩
  · exact p.elim
theorem listKD (h : X.K = K) : CallR X (.type "list") (fun xs H Q => ∃ p ys, xs = [.ref p] ∧ (SqL K H p ys ∨ SqT K H p ys) ∧ ∀ l, H l = none → Q (.ref l) (upd H l (.lst ys))) := by subst h; exact call_list_of
end

/-! ### isinstance -/
/-- the types and classes that are asked of: built-in ones and the text's own -/
inductive Cl where
  | b (n : String) | o (x : Str)
  deriving DecidableEq
def tyD (h : AH) : D → Option Cl
  | .non => some (.b "NoneType")
  | .bl _ => some (.b "bool")
  | .int _ => some (.b "int")
  | .str _ => some (.b "str")
  | .tup _ => some (.b "tuple")
  | .exc x => some (.o x)
  | .ref n => match h[n]? with
    | some (.lst _) => some (.b "list")
    | some (.fz _) => some (.b "list")
    | some (.dct _) => some (.b "dict")
    | _ => none
  | _ => none
def clD : D → Option Cl
  | .ty n => some (.b n)
  | .glb x => some (.o x)
  | _ => none
/-- the class's value -/
def ClV (mg : Str → Option Value) : Cl → Value → Prop
  | .b n, v => v = .type n
  | .o x, v => ∃ a, v = .ref a ∧ mg x = some (.ref a)
/-- what the text tells of its classes: who is under whom; the exceptions -/
abbrev Kits := List (Cl × Cl × Bool)
structure KitsOk (K : PySem.W.Frag) (mg : Str → Option Value) (kt : Kits) : Prop where
  one : ∀ p ∈ kt, ∀ t v, ClV mg p.1 t → ClV mg p.2.1 v → PySem.W.kitOne K t v = some p.2.2
  xc : ∀ p ∈ kt, ∀ x C, p.1 = .o x → mg x = some (.ref C) → XCls K C
def kit (kt : Kits) (t c : Cl) : Option Bool := (kt.find? fun p => decide (p.1 = t) && decide (p.2.1 = c)).map (·.2.2)
def kitsAny (kt : Kits) (t : Cl) : List Cl → Option Bool
  | [] => some false
  | c :: r => match kit kt t c with
    | some true => some true
    | some false => kitsAny kt t r
    | none => none
def bIsi (kt : Kits) : Fn := fun ds h => match ds with
  | [d, c] => match tyD h d with
    | some t => match c with
      | .tup cs => match cs.mapM clD with
        | some (c0 :: cr) => match kitsAny kt t (c0 :: cr), kit kt t c0 with
          | some b, some _ => .ok (.bl b) h
          | _, _ => .stuck
        | _ => .stuck
      | c => match clD c with
        | some cl => match kit kt t cl with
          | some b => .ok (.bl b) h
          | none => .stuck
        | none => .stuck
    | none => .stuck
  | _ => .stuck
theorem kit_mem {kt : Kits} {t c : Cl} {b : Bool} (e : kit kt t c = some b) : (t, c, b) ∈ kt := by
  unfold kit at e
  cases q : kt.find? (fun p => decide (p.1 = t) && decide (p.2.1 = c)) with
  | none => rw [q] at e; cases e
  | some p =>
    rw [q] at e
    have h1 := List.find?_some q
    have h2 := List.mem_of_find?_eq_some q
    simp only [Bool.and_eq_true, decide_eq_true_eq] at h1
    obtain ⟨p1, p2, p3⟩ := p
    have e3 : p3 = b := Option.some.inj e
    obtain ⟨rfl, rfl⟩ := h1
    subst e3
    exact h2
section
variable {K : PySem.W.Frag} {mg : Str → Option Value} {X : Cx} {ρ : List Addr} {H : Hp} {h : AH}
/-- the value's type, as the model has it -/
theorem tyD_rel {kt : Kits} (ok : KitsOk K mg kt) (w : Wd K mg ρ h H) {d : D} {v : V} {t c : Cl} {b : Bool} (r : RelD K mg ρ H d v) (e : tyD h d = some t) (k : kit kt t c = some b) : ∃ tv, TyX K H v tv ∧ ClV mg t tv := by
  cases r with
  | non => cases e; exact ⟨_, .of .non, rfl⟩
  | bl => cases e; exact ⟨_, .of (.bl _), rfl⟩
  | int => cases e; exact ⟨_, .of (.int _), rfl⟩
  | str => cases e; exact ⟨_, .of (.str _), rfl⟩
  | tup q rs => cases e; exact ⟨_, .sqT q, rfl⟩
  | exc m ex =>
    cases e
    exact ⟨_, .exc ex (ok.xc _ (kit_mem k) _ _ rfl m), _, rfl, m⟩
  | ref ea =>
    unfold tyD at e
    dsimp only at e
    split at e
    · rename_i e1; cases e; obtain ⟨vs, h1, h2⟩ := w.ob _ _ _ ea e1; exact ⟨_, .of (.lst h1), rfl⟩
    · rename_i e1; cases e; obtain ⟨o, vs, h1, h2⟩ := w.ob _ _ _ ea e1; exact ⟨_, .of (.frz h1), rfl⟩
    · rename_i e1; cases e; obtain ⟨ws, h1, _⟩ := w.ob _ _ _ ea e1; exact ⟨_, .of (.dK h1), rfl⟩
    · cases e
  | _ => cases e
theorem clD_rel {d : D} {v : V} {c : Cl} (r : RelD K mg ρ H d v) (e : clD d = some c) : ∃ cv, clsV v = some cv ∧ ClV mg c cv := by
  cases r with
  | ty n => cases e; exact ⟨_, rfl, rfl⟩
  | glb m => cases e; exact ⟨_, rfl, _, rfl, m⟩
  | _ => cases e
theorem clDs_rel : ∀ {ds : List D} {vs : List V} {cs : List Cl}, RelDs K mg ρ H ds vs → ds.mapM clD = some cs → ∃ cvs, vs.mapM clsV = some cvs ∧ Paired (ClV mg) cs cvs
  | [], _, cs, .nil, e => by
    have e' : some ([] : List Cl) = some cs := e
    cases e'; exact ⟨[], rfl, .nil⟩
  | d :: ds, _, cs, .cons r rr, e => by
    rw [List.mapM_cons] at e
    cases q : clD d with
    | none => rw [q] at e; cases e
    | some c =>
      rw [q] at e
      cases q2 : ds.mapM clD with
      | none => rw [q2] at e; cases e
      | some cs' =>
        rw [q2] at e
        have e' : some (c :: cs') = some cs := e
        cases e'
        obtain ⟨cv, h1, h2⟩ := clD_rel r q
        obtain ⟨cvs, h3, h4⟩ := clDs_rel rr q2
        refine ⟨cv :: cvs, ?_, .cons h2 h4⟩
        rw [List.mapM_cons, h1, h3]; rfl
theorem kitAny_of {kt : Kits} (ok : KitsOk K mg kt) {t : Cl} {tv : Value} (ht : ClV mg t tv) : ∀ {cs : List Cl} {cvs : List Value} {b : Bool}, Paired (ClV mg) cs cvs → kitsAny kt t cs = some b → PySem.W.kitAny K tv cvs = some b
  | [], _, b, .nil, e => by cases e; rfl
  | c :: cs, _, b, .cons r rr, e => by
    unfold kitsAny at e
    unfold PySem.W.kitAny
    cases q : kit kt t c with
    | none => rw [q] at e; cases e
    | some z =>
      rw [q] at e
      rw [ok.one _ (kit_mem q) _ _ ht r]
      cases z with
      | true => exact e
      | false => exact kitAny_of ok ht rr e
theorem call_isiS : CallR X (.builtin "isinstance") (fun xs H Q => ∃ x tp cs t vs b, xs = [x, .ref tp] ∧ SqT X.K H tp cs ∧ TyX X.K H x t ∧ cs.mapM clsV = some vs ∧ PySem.W.kitAny X.K t vs = some b ∧ Q (.bl b) H) := by
  intro pins s σ H xs us Q I r h
  obtain ⟨x, tp, cs, t, vs, b, rfl, ht, ty, hc, hk, q⟩ := h
  obtain ⟨u, w', rfl, rx, rc⟩ := vals2 r
  cases rc
  obtain ⟨its, rv, ⟨o, e, c, n, d⟩, _⟩ := I.tuple ht
  obtain rfl := clsVs_rel hc rv
  obtain ⟨Hh, Z, p, hne⟩ := tyx_kit I rx ty
  obtain ⟨oc, od, odt, osl⟩ := o
  have c' : oc = .type "tuple" := c
  have d' : odt = .seq its.toArray n := d
  subst c' d'
  exact PySem.W.kia_tup Z I.kIn p e hk hne fun tk => ⟨.bl b, H, I.tok _, rfl, q⟩
theorem isiKD (hK : X.K = K) : CallR X (.builtin "isinstance") (fun xs H Q => (∃ x c t v b, xs = [x, c] ∧ TyX K H x t ∧ clsV c = some v ∧ PySem.W.kitOne K t v = some b ∧ Q (.bl b) H) ∨
    (∃ x tp cs t vs b, xs = [x, .ref tp] ∧ SqT K H tp cs ∧ TyX K H x t ∧ cs.mapM clsV = some vs ∧ PySem.W.kitAny K t vs = some b ∧ Q (.bl b) H)) := by subst hK; exact call_isi.or call_isiS
theorem cd_isi {kt : Kits} (ok : KitsOk K mg kt) : CallD K mg (fun xs H Q => (∃ x c t v b, xs = [x, c] ∧ TyX K H x t ∧ clsV c = some v ∧ PySem.W.kitOne K t v = some b ∧ Q (.bl b) H) ∨
    (∃ x tp cs t vs b, xs = [x, .ref tp] ∧ SqT K H tp cs ∧ TyX K H x t ∧ cs.mapM clsV = some vs ∧ PySem.W.kitAny K t vs = some b ∧ Q (.bl b) H)) (bIsi kt) := fun ρ h H ds vs Q E w rs p => by
  unfold bIsi at p
  split at p
  · cases rs with
    | cons r rs =>
      cases rs with
      | cons r2 rs =>
        cases rs
        split at p
        · rename_i t e1
          split at p
          · split at p
            · rename_i cs c0 cr e2
              split at p
              · rename_i b b' e3 e4
                cases r2 with
                | tup q rs2 =>
                  obtain ⟨tv, h1, h2⟩ := tyD_rel ok w r e1 e4
                  obtain ⟨cvs, h3, h4⟩ := clDs_rel rs2 e2
                  exact .inr ⟨_, _, _, tv, cvs, b, rfl, q, h1, h3, kitAny_of ok h2 h4 e3, post_val w (.bl _) p⟩
              · exact p.elim
            · exact p.elim
          · split at p
            · rename_i cl e2
              split at p
              · rename_i b e3
                obtain ⟨tv, h1, h2⟩ := tyD_rel ok w r e1 e3
                obtain ⟨cv, h3, h4⟩ := clD_rel r2 e2
                exact .inl ⟨_, _, tv, cv, b, rfl, h1, h3, ok.one _ (kit_mem e3) _ _ h2 h4, post_val w (.bl _) p⟩
              · exact p.elim
            · exact p.elim
        · exact p.elim
  · exact p.elim
end
end L2

set_option Elab.async false
set_option linter.all false
set_option maxRecDepth 100000
namespace L2
open PySem PySem.Spec PyProof.Rows

/-! ### methods -/
def MtD (K : PySem.W.Frag) (mg : Str → Option Value) (r : V → List V → Hp → VK → Prop) (g : D → List D → AH → R D) : Prop := ∀ ρ h H dx ds x vs Q E, Wd K mg ρ h H → RelD K mg ρ H dx x → RelDs K mg ρ H ds vs → PostE K mg ρ H Q E (g dx ds h) → r x vs H Q
def isLst (h : AH) : D → Bool
  | .ref n => (seqAt h n).isSome
  | _ => false
def eM (g : D → List D → AH → R D) (F : ME) (A : MA) : ME := fun ae h => (F ae h).bind fun x h1 => if isLst h1 x = true then (A ae h1).bind fun ds h2 => g x ds h2 else .stuck
def eM0 (g : D → List D → AH → R D) (F : ME) : ME := fun ae h => (F ae h).bind fun x h1 => if isLst h1 x = true then g x [] h1 else .stuck
section
variable {K : PySem.W.Frag} {mg : Str → Option Value} {X : Cx} {ES : St → XK} {o e : Expr} {es : List Expr} {F G : ME} {A : MA} {pos : Pos}
theorem isLst_rel {ρ : List Addr} {H : Hp} {h : AH} {d : D} {v : V} (w : Wd K mg ρ h H) (r : RelD K mg ρ H d v) (q : isLst h d = true) : tyV K "list" v H := by
  cases r with
  | ref ea =>
    obtain ⟨xs, e⟩ := Option.isSome_iff_exists.mp q
    obtain ⟨vs, h1, _⟩ := seqAt_rel w ea e
    exact .inl ⟨rfl, vs, h1⟩
  | _ => cases q
theorem de_m {name : Str} {id : String} {apos cpos : Pos} {r : V → List V → Hp → VK → Prop} {g : D → List D → AH → R D} (hK : X.K = K) (slot : Slot "list" name id) (hty : typeOf (.builtin id) = pure (.type "method_descriptor")) (hm : MtM X id r) (hd : MtD K mg r g) (ho : DE K mg X ES o F) (ha : DA K mg X ES (e :: es) A)
    (hbase : attributeBase o name X.env (eval o X.env) = eval o X.env := by rfl)
    (hfew : ((backTo cpos (starEach (e :: es) X.env)).all (fun x => !x.1) && (backToKw cpos (keywordEach [] X.env)).all (fun x => x.1.isSome)
      && decide ((e :: es).length + ([] : List Keyword).length + (if ([] : List Keyword).isEmpty then 0 else 1) < 30)) = true := by rfl)
    (hline : (apos.endLine == cpos.line) = true := by rfl) (hs : starEach (e :: es) X.env = (false, eval e X.env) :: starEach es X.env := by rfl) (hplain : (backTo cpos (starEach es X.env)).any (·.1) = false := by rfl) :
    DE K mg X ES (.Call (.Attribute o name apos) (e :: es) [] cpos) (eM g F A) := by
  subst hK
  refine PE.imp (pe_bm PySem.F.plainAttrs_list slot hty hm ho ha hbase hfew hline hs hplain) fun σ H Q ⟨ρ, h, ae, w, re, p⟩ => ⟨ρ, h, ae, w, re, p.bind.imp fun dx h1 ρ1 H1 l1 w1 p1 x rx => ?_⟩
  split at p1
  · rename_i hl
    exact ⟨isLst_rel w1 rx hl, ρ1, h1, ae, w1, re.mono l1, p1.bind.imp fun ds h2 ρ2 H2 l2 w2 p2 vs rs => hd ρ2 h2 H2 dx ds x vs Q _ w2 (rx.mono l2) rs p2⟩
  · exact p1.elim
end
def onLst (h : AH) (d : D) (f : Nat → List D → R D) : R D := match d with
  | .ref n => match h[n]? with
    | some (.lst xs) => f n xs
    | _ => .stuck
  | _ => .stuck
def mAppend : D → List D → AH → R D := fun x ds h => onLst h x fun n xs => match ds with
  | [d] => if xs.length < 16777216 then .ok .non (h.set n (.lst (xs ++ [d]))) else .stuck
  | _ => .stuck
/-- the items' equalities with d -/
def eqsOf (h : AH) (d : D) : List D → Option (List Bool)
  | [] => some []
  | x :: r => match gEqB h x d, eqsOf h d r with
    | some b, some bs => some (b :: bs)
    | _, _ => none
def mIndex : D → List D → AH → R D := fun x ds h => match x, ds with
  | .ref n, [d] => match (seqAt h n).bind (eqsOf h d) with
    | some bs => if bs.idxOf true < bs.length then .ok (.int (bs.idxOf true : Nat)) h else .stuck
    | none => .stuck
  | _, _ => .stuck
def mCount : D → List D → AH → R D := fun x ds h => match x, ds with
  | .ref n, [d] => match (seqAt h n).bind (eqsOf h d) with
    | some bs => .ok (.int (bs.count true : Nat)) h
    | none => .stuck
  | _, _ => .stuck
section
variable {K : PySem.W.Frag} {mg : Str → Option Value} {X : Cx} {ρ : List Addr} {H : Hp} {h : AH}
theorem onLst_rel {Q : VK} {E : XK} {d : D} {v : V} {f : Nat → List D → R D} (w : Wd K mg ρ h H) (r : RelD K mg ρ H d v) (p : PostE K mg ρ H Q E (onLst h d f)) :
    ∃ n xs a vs, d = .ref n ∧ h[n]? = some (.lst xs) ∧ ρ[n]? = some a ∧ v = .ref a ∧ H a = some (.lst vs) ∧ RelDs K mg ρ H xs vs ∧ PostE K mg ρ H Q E (f n xs) := by
  unfold onLst at p
  split at p
  · cases r with
    | ref ea =>
      split at p
      · rename_i n xs e
        obtain ⟨vs, h1, h2⟩ := w.ob _ _ _ ea e
        exact ⟨_, _, _, vs, rfl, e, ea, rfl, h1, h2, p⟩
      · exact p.elim
  · exact p.elim
theorem post_set {Q : VK} {E : XK} {n : Nat} {a : Addr} {vs ws : List V} {ys : List D} {d : D} {v : V} (w : Wd K mg ρ h H) (ea : ρ[n]? = some a) (e : H a = some (.lst vs)) (rs : RelDs K mg ρ H ys ws) (rd : RelD K mg ρ H d v) (p : PostE K mg ρ H Q E (.ok d (h.set n (.lst ys)))) : Q v (upd H a (.lst ws)) := by
  have l : Le ρ H ρ (upd H a (.lst ws)) := le_wr e lstNo
  exact p ρ _ l (w.write ea e lstNo ⟨ws, upd_same, rs.mono l⟩) v (rd.mono l)
theorem md_append : MtD K mg rAppend mAppend := fun ρ h H dx ds x vs Q E w rx rs p => by
  obtain ⟨n, xs, a, us, rfl, e, ea, rfl, h1, h2, p⟩ := onLst_rel w rx p
  split at p
  · cases rs with
    | cons r rs =>
      cases rs
      split at p
      · rename_i hl
        exact ⟨a, us, _, rfl, rfl, h1, by rw [← h2.len]; exact hl, post_set w ea h1 (h2.append (.cons r .nil)) .non p⟩
      · exact p.elim
  · exact p.elim
/-! index, count: by data -/
inductive EqsR (K : PySem.W.Frag) (H : Hp) (y : V) (pd : PyData) : List V → List Bool → Prop where
  | nil : EqsR K H y pd [] []
  | cons {x : V} {px : PyData} {xs : List V} {bs : List Bool} (rx : Rep K H x px) (hx : SeqAt.shaped px = true) (r : EqsR K H y pd xs bs) : EqsR K H y pd (x :: xs) (PyData.eqv px pd :: bs)
def rEqs (K : PySem.W.Frag) (H : Hp) (l : Addr) (y : V) (bs : List Bool) : Prop := ∃ xs pd, SqL K H l xs ∧ Rep K H y pd ∧ SeqAt.shaped pd = true ∧ EqsR K H y pd xs bs
theorem eqs_rel (w : Wd K mg ρ h H) {d : D} {y : V} {pd : PyData} (ry : RelD K mg ρ H d y) (es : snap 64 h d = some pd) : ∀ {xs : List D} {vs : List V} {bs : List Bool}, RelDs K mg ρ H xs vs → eqsOf h d xs = some bs → EqsR K H y pd vs bs
  | [], _, bs, .nil, e => by
    have e' : some ([] : List Bool) = some bs := e
    cases e'; exact .nil
  | x :: xs, _, bs, .cons r rr, e => by
    unfold eqsOf at e
    split at e
    · rename_i b bs' e1 e2
      cases e
      unfold gEqB at e1
      rw [es] at e1
      split at e1
      · rename_i a c e3 e4
        cases e4
        split at e1
        · rename_i hs
          cases e1
          exact .cons (snap_rel w 64 r e3) hs.1 (eqs_rel w ry es rr e2)
        · cases e1
      · cases e1
    · cases e
theorem eqs_snap {d : D} : ∀ {xs : List D} {bs : List Bool}, eqsOf h d xs = some bs → xs = [] ∨ ∃ pd, snap 64 h d = some pd ∧ SeqAt.shaped pd = true
  | [], _, _ => .inl rfl
  | x :: xs, bs, e => by
    right
    unfold eqsOf at e
    split at e
    · rename_i b bs' e1 e2
      unfold gEqB at e1
      split at e1
      · rename_i a c e3 e4
        split at e1
        · rename_i hs; exact ⟨c, e4, hs.2⟩
        · cases e1
      · cases e1
    · cases e
theorem eqs_vals {pins : List (Addr × Obj)} {σ : St} {s : Shared} {y : V} {pd : PyData} {v : Value} (I : Inv X pins σ H s) (hu : X.A.units + 100 < cLine) (ry : Rep X.K H y pd) (rv : RelV y v) (hy : SeqAt.shaped pd = true) : ∃ e : Value → Bool, ∀ {xs : List V} {bs : List Bool} {its : List Value}, EqsR X.K H y pd xs bs → Vals xs its → its.map e = bs ∧ ∀ u ∈ its, SeqAt.EqAt X.A.in1 s u v (e u) := by
  classical
  obtain ⟨as, q1⟩ := ry.reads I rv
  refine ⟨fun u => if q : ∃ d as, Reads s.heap u d as ∧ SeqAt.shaped d = true then PyData.eqv q.choose pd else false, fun {xs bs its} r rr => ?_⟩
  induction r generalizing its with
  | nil => cases rr; exact ⟨rfl, fun u hu => nomatch hu⟩
  | cons rx hx r ih =>
    rename_i x px xs bs
    cases rr with
    | cons r1 rr =>
      rename_i u us
      obtain ⟨ih1, ih2⟩ := ih rr
      obtain ⟨as1, q2⟩ := rx.reads I r1
      have hq : ∃ d as, Reads s.heap u d as ∧ SeqAt.shaped d = true := ⟨px, as1, q2, hx⟩
      have e1 : (if q : ∃ d as, Reads s.heap u d as ∧ SeqAt.shaped d = true then PyData.eqv q.choose pd else false) = PyData.eqv px pd := by
        rw [dif_pos hq]
        obtain ⟨as2, q3, hs3⟩ := hq.choose_spec
        have := SeqAt.Reads.unique px hq.choose u _ _ (SeqAt.canLay_of_shaped hx) q2 q3
        rw [← this]
      refine ⟨by rw [List.map_cons, ih1, e1], fun w hw => ?_⟩
      rcases List.mem_cons.mp hw with rfl | hw
      · dsimp only
        rw [e1]
        exact SeqAt.eqAt_reads px pd X.A.in1 s _ _ _ _ q2 q1 (SeqAt.canLay_of_shaped hx) (SeqAt.canLay_of_shaped hy) (SeqAt.room_of_shaped hx (by
          have : X.A.in1.units = X.A.units + 1 := rfl
          rw [this]; omega))
      · exact ih2 w hw
def rIndexE (K : PySem.W.Frag) : V → List V → Hp → VK → Prop := fun x vs H Q => ∃ l y bs, x = .ref l ∧ vs = [y] ∧ rEqs K H l y bs ∧ bs.idxOf true < bs.length ∧ Q (.int (bs.idxOf true : Nat)) H
def rCountE (K : PySem.W.Frag) : V → List V → Hp → VK → Prop := fun x vs H Q => ∃ l y bs, x = .ref l ∧ vs = [y] ∧ rEqs K H l y bs ∧ Q (.int (bs.count true : Nat)) H
theorem EqsR.len {y : V} {pd : PyData} {xs : List V} {bs : List Bool} (r : EqsR K H y pd xs bs) : xs.length = bs.length := by
  induction r with
  | nil => rfl
  | cons _ _ _ ih => rw [List.length_cons, List.length_cons, ih]
theorem mt_index (hu : X.A.units + 100 < cLine) : MtM X "list.index" (rIndexE X.K) := by
  intro pins s σ H x vs v us Q I rx rv h
  obtain ⟨l, y, bs, rfl, rfl, ⟨xs, pd, hq, ry, hy, re⟩, hi, q⟩ := h
  cases rx
  obtain ⟨u, rfl, ru⟩ := rv.one
  obtain ⟨e, he⟩ := eqs_vals I hu ry ru hy
  obtain ⟨its, r, ⟨o, n, eo, hc, hd, hs⟩, hz⟩ := I.list hq
  obtain ⟨m1, m2⟩ := he re r
  have hlen := r.length
  have hbl := re.len
  have hn := line63
  have hj : bs.idxOf true < its.toArray.size := by rw [List.size_toArray]; omega
  have eo' : s.heap.get? l = some { cls := .type "list", dict := o.dict, data := .seq its.toArray n, slots := o.slots } := by
    rw [eo]
    obtain ⟨oc, od, odt, osl⟩ := o
    have h1 : oc = .type "list" := hc
    have h2 : odt = .seq its.toArray n := hs
    subst h1 h2
    rfl
  have em : ∀ (m : Nat) (hm : m < its.toArray.size), bs[m]? = some (e its.toArray[m]) := fun m hm => by
    rw [← m1, List.getElem?_map]
    have : its[m]? = some its.toArray[m] := by
      rw [List.getElem?_eq_getElem (by simpa using hm)]
      rfl
    rw [this]; rfl
  refine call_meets PySem.F.slot_list_index ⟨_, eo', rfl⟩ PySem.F.entry_list_index (PySem.F.args_list_index_2 _ _)
    (SeqAt.list_indexAt l its.toArray n o.dict o.slots u e (bs.idxOf true) hj (by omega) ?_ ?_) ⟨eo', fun w hw => m2 w (by simpa using hw), ?_⟩
  · have := em _ hj
    rw [List.getElem?_eq_getElem hi, List.getElem_idxOf] at this
    exact (Option.some.inj this).symm
  · intro m hm hlt
    have := em m hm
    have hb : m < bs.length := by omega
    rw [List.getElem?_eq_getElem hb] at this
    have h3 : bs[m] ≠ true := fun z => by
      have h4 : bs.idxOf true ≤ m := by
        have := List.idxOf_lt_length_iff (l := bs) (a := true)
        rcases Nat.lt_or_ge m (bs.idxOf true) with z' | z'
        · exact absurd z (by
            have h5 := List.not_of_lt_findIdx (xs := bs) (p := (· == true)) (i := m) z'
            simpa using h5)
        · exact z'
      omega
    have h4 : e its.toArray[m] = bs[m] := (Option.some.inj this).symm
    rw [h4]
    exact Bool.eq_false_iff.mpr h3
  · exact ⟨.int _, H, I.tok _, ⟨_, rfl⟩, q⟩
theorem mt_count (hu : X.A.units + 100 < cLine) : MtM X "list.count" (rCountE X.K) := by
  intro pins s σ H x vs v us Q I rx rv h
  obtain ⟨l, y, bs, rfl, rfl, ⟨xs, pd, hq, ry, hy, re⟩, q⟩ := h
  cases rx
  obtain ⟨u, rfl, ru⟩ := rv.one
  obtain ⟨e, he⟩ := eqs_vals I hu ry ru hy
  obtain ⟨its, r, ⟨o, n, eo, hc, hd, hs⟩, hz⟩ := I.list hq
  obtain ⟨m1, m2⟩ := he re r
  have eo' : s.heap.get? l = some { cls := .type "list", dict := o.dict, data := .seq its.toArray n, slots := o.slots } := by
    rw [eo]
    obtain ⟨oc, od, odt, osl⟩ := o
    have h1 : oc = .type "list" := hc
    have h2 : odt = .seq its.toArray n := hs
    subst h1 h2
    rfl
  refine call_meets PySem.F.slot_list_count ⟨_, eo', rfl⟩ PySem.F.entry_list_count (PySem.F.args_list_count_2 _ _)
    (SeqAt.list_countAt l its.toArray n o.dict o.slots u e) ⟨eo', fun w hw => m2 w (by simpa using hw), ?_⟩
  have ec : its.countP e = bs.count true := by
    rw [← m1, List.count, List.countP_map]
    congr 1
    funext w
    simp
  have ec' : its.toArray.toList.countP e = bs.count true := ec
  rw [ec']
  exact ⟨.int _, H, I.tok _, ⟨_, rfl⟩, q⟩
theorem md_index : MtD K mg (rIndexE K) mIndex := fun ρ h H dx ds x vs Q E w rx rs p => by
  unfold mIndex at p
  split at p
  · cases rx with
    | ref ea =>
      cases rs with
      | cons r rs =>
        cases rs
        split at p
        · rename_i bs e
          split at p
          · rename_i hl
            obtain ⟨xs, q, e2⟩ := Option.bind_eq_some_iff.mp e
            obtain ⟨vs, h1, h2⟩ := seqAt_rel w ea q
            rcases eqs_snap e2 with rfl | ⟨pd, h3, h4⟩
            · have e3 : some ([] : List Bool) = some bs := e2
              cases e3
              exact absurd hl (by simp)
            · exact ⟨_, _, bs, rfl, rfl, ⟨vs, pd, h1, snap_rel w 64 r h3, h4, eqs_rel w r h3 h2 e2⟩, hl, post_val w (.int _) p⟩
          · exact p.elim
        · exact p.elim
  · exact p.elim
theorem md_count : MtD K mg (rCountE K) (fun x ds h => match ds with | [d] => if (snap 64 h d).isSome = true ∧ ((snap 64 h d).map SeqAt.shaped) = some true then mCount x ds h else .stuck | _ => .stuck) := fun ρ h H dx ds x vs Q E w rx rs p => by
  dsimp only at p
  split at p
  · split at p
    · rename_i d hs
      obtain ⟨pd, h3⟩ := Option.isSome_iff_exists.mp hs.1
      have h4 : SeqAt.shaped pd = true := by
        have := hs.2
        rw [h3] at this
        exact Option.some.inj this
      unfold mCount at p
      split at p
      · rename_i ed
        cases ed
        cases rx with
        | ref ea =>
          cases rs with
          | cons r rs =>
            cases rs
            split at p
            · rename_i bs e
              obtain ⟨xs, q, e2⟩ := Option.bind_eq_some_iff.mp e
              obtain ⟨vs, h1, h2⟩ := seqAt_rel w ea q
              exact ⟨_, _, bs, rfl, rfl, ⟨vs, pd, h1, snap_rel w 64 r h3, h4, eqs_rel w r h3 h2 e2⟩, post_val w (.int _) p⟩
            · exact p.elim
      · exact p.elim
    · exact p.elim
  · exact p.elim
theorem indexK (h : X.K = K) (hu : X.A.units + 100 < cLine) : MtM X "list.index" (rIndexE K) := by subst h; exact mt_index hu
theorem countK (h : X.K = K) (hu : X.A.units + 100 < cLine) : MtM X "list.count" (rCountE K) := by subst h; exact mt_count hu
theorem Room.u100 {k : Nat} {A : Around} (r : Room k A) : A.units + 100 < cLine := by have := r.un; omega
end

/-! ### o[i] = v -/
def wL (o i v : D) (h : AH) : R Unit := match o, i with
  | .ref n, .int k => match h[n]? with
    | some (.lst xs) => match ixN xs.length k with
      | some j => .ok () (h.set n (.lst (xs.set j v)))
      | none => .stuck
    | _ => .stuck
  | _, _ => .stuck
section
variable {K : PySem.W.Frag} {mg : Str → Option Value} {X : Cx} {ES : St → XK} {o i : Expr} {F G : ME} {pos : Pos}
theorem sd_list : SetD K mg rSetL wL := fun ρ h H do_ di dv o i v Q E w ro ri rv p => by
  unfold wL at p
  split at p
  · cases ro with
    | ref ea =>
      cases ri
      split at p
      · rename_i n k xs e
        split at p
        · rename_i j ej
          obtain ⟨vs, h1, h2⟩ := w.ob _ _ _ ea e
          have l : Le ρ H ρ (upd H _ (.lst (vs.set j v))) := le_wr h1 lstNo
          exact ⟨_, vs, _, j, rfl, rfl, h1, by rw [← h2.len]; exact ej, p ρ _ l (w.write ea h1 lstNo ⟨_, upd_same, (h2.set rv j).mono l⟩)⟩
        · exact p.elim
      · exact p.elim
  · exact p.elim
theorem dg_sub {t : TSet} {f : D → D → D → AH → R Unit} (ho : DE K mg X ES o F) (hi : DE K mg X ES i G) (hs : PSet X t) (hd : SetD K mg t f)
    (ha : ∀ v, assign (.Subscript o i pos) X.env v = (do
      let ov ← holding [v] (eval o X.env)
      let iv ← holding [v, ov] (eval i X.env)
      standAt pos
      holding [v, ov, iv] (setItem ov iv v)
      release [v, ov, iv] []) := by intro _; rfl) : DG K mg X ES (.Subscript o i pos) (gS F G f) :=
  PG.imp (pg_sub ho hi hs ha) fun v σ H Q ⟨ρ, h, ae, d, w, re, rd, p⟩ =>
    ⟨ρ, h, ae, w, re, p.bind.imp fun do_ h1 ρ1 H1 l1 w1 p1 o' ro => ⟨ρ1, h1, ae, w1, re.mono l1, p1.bind.imp fun di h2 ρ2 H2 l2 w2 p2 i' ri =>
      hd ρ2 h2 H2 do_ di d o' i' v _ _ w2 (ro.mono l2) ri ((rd.mono l1).mono l2) (p2.bind.imp fun _ h3 ρ3 H3 l3 w3 p3 => p3 ρ3 H3 Le.refl w3 σ (((re.mono l1).mono l2).mono l3))⟩⟩
end

/-! ### slices -/
def cutD (xs : List D) (lo hi : Option Int) : List D := (xs.drop (HT.sIx xs.length 0 lo)).take (HT.sIx xs.length xs.length hi - HT.sIx xs.length 0 lo)
abbrev MO := AE → AH → R (Option Int)
def oNone : MO := fun _ h => .ok none h
def oSome (F : ME) : MO := fun ae h => (F ae h).bind fun d h1 => match d with
  | .int i => .ok (some i) h1
  | _ => .stuck
def gSl (x : D) (lo hi : Option Int) (h : AH) : R D := match x with
  | .tup xs => if HT.sIx xs.length 0 lo = 0 ∧ HT.sIx xs.length xs.length hi = xs.length then .stuck else .ok (.tup (cutD xs lo hi)) h
  | .ref n => match seqAt h n with
    | some xs => .ok (.ref h.length) (h ++ [.lst (cutD xs lo hi)])
    | none => .stuck
  | _ => .stuck
def eSl (F : ME) (L U : MO) : ME := fun ae h => (F ae h).bind fun x h1 => (L ae h1).bind fun lo h2 => (U ae h2).bind fun hi h3 => gSl x lo hi h3
section
variable {K : PySem.W.Frag} {mg : Str → Option Value} {X : Cx} {ES : St → XK} {e : Expr} {F : ME} {L U : MO} {lo hi : Option Expr} {pos p2 : Pos}
def rdO (K : PySem.W.Frag) (mg : Str → Option Value) (ES : St → XK) (F : MO) : TO := fun σ H Q => ∃ ρ h ae, Wd K mg ρ h H ∧ RelE K mg ρ H ae σ ∧ PostG K mg ρ H (ES σ) (fun o _ ρ' H' => Q o H') (F ae h)
def DO (K : PySem.W.Frag) (mg : Str → Option Value) (X : Cx) (ES : St → XK) (e : Option Expr) (F : MO) : Prop := PO X e (rdO K mg ES F)
theorem do_none : DO K mg X ES none oNone := PO.imp po_none fun σ H Q ⟨ρ, h, ae, w, re, p⟩ => p ρ H Le.refl w
theorem do_some (he : DE K mg X ES e F) : DO K mg X ES (some e) (oSome F) := PO.imp (po_some he) fun σ H Q ⟨ρ, h, ae, w, re, p⟩ => ⟨ρ, h, ae, w, re, p.bind.imp fun d h1 ρ1 H1 l1 w1 p1 v rv => by
  split at p1
  · cases rv; exact ⟨_, rfl, p1 ρ1 H1 Le.refl w1⟩
  · exact p1.elim⟩
theorem cut_rel {ρ : List Addr} {H : Hp} {xs : List D} {vs : List V} (r : RelDs K mg ρ H xs vs) (lo hi : Option Int) : RelDs K mg ρ H (cutD xs lo hi) (cutV vs lo hi) := by
  unfold cutD cutV
  rw [← r.len]
  exact (r.drop _).take _
theorem slK (h : X.K = K) : SlR X (fun x lo hi H Q => rSlL K x lo hi H Q ∨ rSlT K x lo hi H Q) := by subst h; exact sl_list.or sl_tup
theorem de_slice (hK : X.K = K) (he : DE K mg X ES e F) (hl : DO K mg X ES lo L) (hu : DO K mg X ES hi U) : DE K mg X ES (.Subscript e (.Slice lo hi none p2) pos) (eSl F L U) :=
  PE.imp (pe_slice (slK hK) he hl hu) fun σ H Q ⟨ρ, h, ae, w, re, p⟩ => ⟨ρ, h, ae, w, re, p.bind.imp fun d h1 ρ1 H1 l1 w1 p1 x rx => ⟨ρ1, h1, ae, w1, re.mono l1, p1.bind.imp fun lo h2 ρ2 H2 l2 w2 p2 => ⟨ρ2, h2, ae, w2, (re.mono l1).mono l2, p2.bind.imp fun hi h3 ρ3 H3 l3 w3 p3 => by
    have rx3 := (rx.mono l2).mono l3
    unfold gSl at p3
    split at p3
    · split at p3
      · exact p3.elim
      · rename_i hn
        cases rx3 with
        | tup q rs => exact .inr ⟨_, _, rfl, q, by rw [← rs.len]; exact hn, fun l hl => post_tup w3 (cut_rel rs lo hi) hl p3⟩
    · split at p3
      · rename_i xs e1
        cases rx3 with
        | ref ea =>
          obtain ⟨vs, q, rs⟩ := seqAt_rel w3 ea e1
          exact .inl ⟨_, _, rfl, q, fun l hl => post_lst w3 (cut_rel rs lo hi) hl p3⟩
      · exact p3.elim
    · exact p3.elim⟩⟩⟩
end

/-! ### truth -/
section
variable {K : PySem.W.Frag} {mg : Str → Option Value} {X : Cx} {ES : St → XK} {a : Expr} {F : ME}
end
end L2

set_option Elab.async false
set_option linter.all false
set_option maxRecDepth 100000
namespace L2
open PySem PySem.Spec PyProof.Rows

/-! ### try .. except -/
/-- the context of a try's body -/
abbrev cxT (X : Cx) (pn : List (Addr × Obj)) (xe : Value → Shared → Prop) : Cx := { X with pn := pn, xe := xe }
section
variable {X : Cx} {pins pins2 pn : List (Addr × Obj)} {σ : St} {H : Hp} {s : Shared} {xe : Value → Shared → Prop}
theorem Inv.toT (I : Inv X pins σ H s) : Inv (cxT X (X.pn ++ pins) xe) [] σ H s :=
  ⟨⟨I.ok.mod, I.ok.kind, I.ok.glob, I.ok.blt, I.ok.above, I.ok.inj, I.ok.has, I.ok.cab, I.ok.hd, I.ok.frames, I.ok.stk, I.ok.exf, I.ok.bs, I.ok.bsz, I.ok.noex, I.ok.exfs, I.ok.funs, I.ok.frf⟩, I.os, I.bare, I.base, I.loc, I.cell, I.free, I.freeC, fun p hp => I.pin p (by simpa using hp), I.hok, I.len⟩
theorem Inv.ofT (I : Inv (cxT X (X.pn ++ pins) xe) pins2 σ H s) : Inv X pins σ H s :=
  ⟨⟨I.ok.mod, I.ok.kind, I.ok.glob, I.ok.blt, I.ok.above, I.ok.inj, I.ok.has, I.ok.cab, I.ok.hd, I.ok.frames, I.ok.stk, I.ok.exf, I.ok.bs, I.ok.bsz, I.ok.noex, I.ok.exfs, I.ok.funs, I.ok.frf⟩, I.os, I.bare, I.base, I.loc, I.cell, I.free, I.freeC, fun p hp => I.pin p (List.mem_append_left _ hp), I.hok, I.len⟩
end
def sTry (mro : List Str) (i : Nat) (B U : MS) : MS := fun ae h => match B ae h with
  | .exc c ae1 h1 => if c ∈ mro then match U (ae1.set i (some (.exc c))) h1 with
      | .nx ae2 h2 => .nx (ae2.set i none) h2
      | .bk ae2 h2 => .bk (ae2.set i none) h2
      | .ct ae2 h2 => .ct (ae2.set i none) h2
      | .rt d h2 => .rt d h2
      | _ => .stuck
    else .stuck
  | r => r
section
variable {K : PySem.W.Frag} {mg : Str → Option Value} {X : Cx} {ES : St → XK} {x n : Str} {C : Addr} {i : Nat} {body suite : List Stmt} {b₀ : Stmt} {B U : MS} {np hpos pos : Pos} {mro : List Str}
theorem pssx_of (hb : ∀ (pn : List (Addr × Obj)) (xe : Value → Shared → Prop) (ES' : St → XK), PassD (cxT X pn xe) ES' → DSs K mg (cxT X pn xe) ES' body B) : PSsx X body (fun De E σ H => ∃ ρ h ae, Wd K mg ρ h H ∧ RelE K mg ρ H ae σ ∧ PostS K mg ρ H De E (B ae h)) := by
  intro pins s σ H De E I hh
  let xe : Value → Shared → Prop := fun e s' => ∃ pins2 σ1 H1 s1, Inv (cxT X (X.pn ++ pins) (fun _ _ => False)) pins2 σ1 H1 s1 ∧ CX1 X.prog X.w X.stack H1 s1 (E σ1) e s'
  have hx : PassD (cxT X (X.pn ++ pins) xe) E := fun pins2 σ1 H1 s1 e s' I1 q => ⟨pins2, σ1, H1, s1, ⟨⟨I1.ok.mod, I1.ok.kind, I1.ok.glob, I1.ok.blt, I1.ok.above, I1.ok.inj, I1.ok.has, I1.ok.cab, I1.ok.hd, I1.ok.frames, I1.ok.stk, I1.ok.exf, I1.ok.bs, I1.ok.bsz, I1.ok.noex, I1.ok.exfs, I1.ok.funs, I1.ok.frf⟩, I1.os, I1.bare, I1.base, I1.loc, I1.cell, I1.free, I1.freeC, I1.pin, I1.hok, I1.len⟩, q⟩
  refine wpAny_mono (hb (X.pn ++ pins) xe E hx [] s σ H De I.toT hh) (fun f s' q => ?_) fun e s' q => ?_
  · cases f with
    | next => obtain ⟨σ1, H1, I1, q1⟩ := q; exact ⟨σ1, H1, I1.ofT, q1⟩
    | brk => obtain ⟨σ1, H1, I1, q1⟩ := q; exact ⟨σ1, H1, I1.ofT, q1⟩
    | cont => obtain ⟨σ1, H1, I1, q1⟩ := q; exact ⟨σ1, H1, I1.ofT, q1⟩
    | ret u => obtain ⟨v, σ1, H1, I1, r1, q1⟩ := q; exact ⟨v, σ1, H1, I1.ofT, r1, q1⟩
  · obtain ⟨pins2, σ1, H1, s1, I1, q1⟩ := q
    exact ⟨σ1, H1, s1, I1.ofT, q1⟩
theorem ds_try (T : X.Top) (hN : X.N.Nodup) (hi : X.N[i]? = some n) (hl : X.env.kindOf n = some .local) (hg : Gl X x) (hm : mg x = some (.ref C)) (hh : XHand K C) (hmro : ∀ c ∈ mro, ∀ Ce, mg c = some (.ref Ce) → PySem.W.mroIn K Ce (.ref C) = some true)
    (hb : ∀ (pn : List (Addr × Obj)) (xe : Value → Shared → Prop) (ES' : St → XK), PassD (cxT X pn xe) ES' → DSs K mg (cxT X pn xe) ES' body B) (hs : ∀ ea, DSs K mg (cxSuite X ea) (fun _ => E0) (b₀ :: suite) U)
    (hK : X.K = K := by rfl) (hk : X.mg = mg := by rfl) (hd : (x == ("__debug__" : Str)) = false := by decide) : DS K mg X ES (.Try body [.ExceptHandler (some (.Name x np)) (some n) (b₀ :: suite) hpos] [] [] pos) (sTry mro i B U) := by
  subst hK hk
  refine PS.imp (ps_try T hN hi hl hg hm hh (pssx_of hb) hs hd) fun De σ H ⟨ρ, h, ae, w, re, p⟩ => ⟨ρ, h, ae, w, re, ?_⟩
  unfold sTry at p
  cases q : B ae h with
  | nx a1 h1 => rw [q] at p; exact p
  | rt a1 h1 => rw [q] at p; exact p
  | bk a1 h1 => rw [q] at p; exact p
  | ct a1 h1 => rw [q] at p; exact p
  | stuck => rw [q] at p; exact p
  | exc c ae1 h1 =>
    rw [q] at p
    dsimp only at p
    split at p
    · rename_i hc
      intro ρ1 H1 σ1 Ce l1 w1 re1 mc
      refine ⟨Ce, rfl, hmro c hc Ce mc, fun ea hn => ⟨ρ1, h1, ae1.set i (some (.exc c)), w1.tuple hn, (re1.mono (le_upd hn)).set i (.exc mc upd_same), ?_⟩⟩
      have p' := PostS.mono (l1.trans (le_upd (o := .ext (excO ea Ce)) hn)) p
      cases q2 : U (ae1.set i (some (.exc c))) h1 with
      | nx a2 h2 => rw [q2] at p'; exact fun ρ2 H2 σ2 l2 w2 re2 => p' ρ2 H2 _ l2 w2 (re2.unset i)
      | bk a2 h2 => rw [q2] at p'; exact fun ρ2 H2 σ2 l2 w2 re2 => p' ρ2 H2 _ l2 w2 (re2.unset i)
      | ct a2 h2 => rw [q2] at p'; exact fun ρ2 H2 σ2 l2 w2 re2 => p' ρ2 H2 _ l2 w2 (re2.unset i)
      | rt d h2 => rw [q2] at p'; exact p'
      | exc c2 a2 h2 => rw [q2] at p'; exact p'.elim
      | stuck => rw [q2] at p'; exact p'.elim
    · exact p.elim
end

/-! ### the law -/
/-- the script: a list of whole numbers, as it may stand -/
structure Script (h : AH) (d : D) (ns : List Int) : Prop where
  form : (∃ n, d = .ref n ∧ h[n]? = some (.fz (ns.map D.int))) ∨ d = .kl (ns.map D.int)
theorem Script.items {h : AH} {d : D} {ns : List Int} (s : Script h d ns) : itemsOf h d = some (ns.map D.int) := by
  rcases s.form with ⟨n, rfl, e⟩ | rfl
  · show seqAt h n = _
    unfold seqAt
    rw [e]
  · rfl
theorem relDs_ints {K : PySem.W.Frag} {mg : Str → Option Value} {ρ : List Addr} {H : Hp} : ∀ (ns : List Int), RelDs K mg ρ H (ns.map D.int) (ns.map V.int)
  | [] => .nil
  | _ :: r => .cons (.int _) (relDs_ints r)
theorem law_spec {P : Program} {w : World} {K : PySem.W.Frag} {mg : Str → Option Value} {base : Heap} {x y : Str} {k : Nat} {S : Fn} (C : Callee P w K mg base x k [y] (spD K mg 1 S))
    (hS : ∀ (d : D) (h : AH) (ns : List Int), ns.length ≤ 63 → Script h d ns → ∃ h', S [d] h = .ok (.bl true) h') : Callee P w K mg base x k [y] (fun vs H Q _ => ∃ (a : Addr) (ns : List Int), vs = [.ref a] ∧ Only H ∧ SqL K H a (ns.map V.int) ∧ ns.length ≤ 63 ∧ ∀ H', Q (.bl true) H') := by
  refine C.imp fun vs H Q E ⟨a, ns, e, hO, hq, hl, q⟩ => ?_
  subst e
  rcases hq with (hq | ⟨o, hq⟩) | hq
  · rcases hO a with z | ⟨o, xs, z⟩ <;> rw [hq] at z <;> cases z
  · obtain ⟨h', e⟩ := hS (.ref 0) [.fz (ns.map D.int)] ns hl ⟨.inl ⟨0, rfl, rfl⟩⟩
    refine ⟨[a], [.fz (ns.map D.int)], [.ref 0], ⟨rfl, by simp, fun n b ob e1 e2 => ?_⟩, .cons (.ref rfl) .nil, rfl, ?_⟩
    · cases n with
      | zero => cases e1; cases e2; exact ⟨o, _, hq, relDs_ints ns⟩
      | succ n => simp at e1
    · rw [e]
      exact fun ρ' H' l' w' v rv => by cases rv; exact q H'
  · obtain ⟨h', e⟩ := hS (.kl (ns.map D.int)) [] ns hl ⟨.inr rfl⟩
    refine ⟨[], [], [.kl (ns.map D.int)], ⟨rfl, by simp, fun n b ob e1 e2 => by simp at e1⟩, .cons (.kl hq (relDs_ints ns)) .nil, rfl, ?_⟩
    rw [e]
    exact fun ρ' H' l' w' v rv => by cases rv; exact q H'
theorem walk_lawD {l : PySem.W.OpenLaw} {q : Program} {loose : List Str} {XP : (Str → Option Value) → Heap → Prop} {YP : World → Heap → Prop} {d : DefRec} {K : Params → PySem.W.Frag} {x : Str} {k : Nat} (hn : l.most = some 63) (hdf : d.params.defaults = []) (hr : Room k callerA)
    (hY : ∀ (w : World) (h : Heap), YP w h → (K w.params).In h)
    (F : ∀ (w : World) (mg : Str → Option Value) (h : Heap), (K w.params).In h → h.Ns mainGlobals mg → ∀ base : Heap, (K w.params).In base → base.Ns mainGlobals mg → Callee l.prog w (K w.params) mg base d.name k [x] (fun vs H Q _ => ∃ (a : Addr) (ns : List Int), vs = [.ref a] ∧ Only H ∧ SqL (K w.params) H a (ns.map V.int) ∧ ns.length ≤ 63 ∧ ∀ H', Q (.bl true) H'))
    (D : ∀ (w : World) (mg : Str → Option Value) (h : Heap), (K w.params).In h → h.Ns mainGlobals mg → ∃ st, Def (K w.params) mg d.name st ∧ ∀ (kV doc pm : Value) (an : Option Addr) (cdv ct : Value) (us : List Value), us.length = 1 → bindArgs (PySem.W.fnOf d.name d.name (defArgs st) (defBody st) (defScope st) .none kV doc pm an cdv ct) ⟨us, []⟩ = pure ([x].zip us)) :
    PySem.W.WalkO q loose XP YP l.row.toRowW d [] (fun f vs => PySem.call f vs) := by
  refine L2.walk_of (n := 63) (k := k) (x := x) (CX := fun w => CX1 l.prog w) (sp := fun w => fun vs H Q _ => ∃ (a : Addr) (ns : List Int), vs = [.ref a] ∧ Only H ∧ SqL (K w.params) H a (ns.map V.int) ∧ ns.length ≤ 63 ∧ ∀ H', Q (.bl true) H') hn (by decide) hdf hr hY (fun w mg fa h KX G hmg => ?_) (fun _ _ a ns hl hO hS => ⟨a, ns, rfl, hO, hS, hl, fun _ => rfl⟩) fun _ _ _ _ _ ⟨_, _, _, _, _, _, _, _, _, z⟩ => z
  obtain ⟨st, Dd, hbind⟩ := D w mg h KX G
  obtain ⟨f, fd, Ff, m⟩ := Dd.ex
  have e := hmg.symm.trans m
  cases e
  obtain ⟨oc, od, kV, doc, pm, an, cdv, ct, osl, rfl, lk, hcd⟩ := Ff.ex
  refine ⟨_, fun s u => .of_eq (hbind kV doc pm an cdv ct [u] rfl), fun base kb nb => ?_⟩
  obtain ⟨f', fd', F', m', kp', b', oc', od', osl', lk'⟩ := (F w mg h KX G base kb nb).ex
  rw [m] at m'
  cases m'
  rw [lk] at lk'
  cases lk'
  exact F'
end L2

set_option Elab.async false
set_option linter.all false
set_option maxRecDepth 100000
namespace L2
open PySem PySem.Spec PyProof.Rows

/-! ### a def's promise told anew: less of the heap is told -/
mutual
inductive Bel (N : Nat) : D → Prop where
  | non : Bel N .non
  | bl (b : Bool) : Bel N (.bl b)
  | int (i : Int) : Bel N (.int i)
  | str (x : Str) : Bel N (.str x)
  | ty (n : String) : Bel N (.ty n)
  | glb (x : Str) : Bel N (.glb x)
  | exc (x : Str) : Bel N (.exc x)
  | tup {ds : List D} (r : Bels N ds) : Bel N (.tup ds)
  | ref {n : Nat} (h : n < N) : Bel N (.ref n)
  | kl {ds : List D} (r : Bels N ds) : Bel N (.kl ds)
inductive Bels (N : Nat) : List D → Prop where
  | nil : Bels N []
  | cons {d : D} {ds : List D} (r : Bel N d) (rr : Bels N ds) : Bels N (d :: ds)
end
theorem Bels.all {N : Nat} : ∀ {ds : List D}, (∀ d ∈ ds, Bel N d) → Bels N ds
  | [], _ => .nil
  | _ :: _, h => .cons (h _ (List.mem_cons_self ..)) (Bels.all fun d hd => h d (List.mem_cons_of_mem _ hd))
theorem Bels.mem {N : Nat} : ∀ {ds : List D}, Bels N ds → ∀ d ∈ ds, Bel N d
  | _, .nil, _, h => nomatch h
  | _, .cons r rr, d, h => by
    rcases List.mem_cons.mp h with rfl | h
    · exact r
    · exact rr.mem d h
theorem Bels.ints {N : Nat} (ns : List Int) : Bels N (ns.map D.int) := Bels.all fun d hd => by
  obtain ⟨n, _, rfl⟩ := List.mem_map.mp hd
  exact .int n
mutual
theorem Bel.mono {N M : Nat} (h : N ≤ M) : ∀ {d : D}, Bel N d → Bel M d
  | _, .non => .non
  | _, .bl b => .bl b
  | _, .int i => .int i
  | _, .str x => .str x
  | _, .ty n => .ty n
  | _, .glb x => .glb x
  | _, .exc x => .exc x
  | _, .tup r => .tup (Bels.mono h r)
  | _, .ref q => .ref (Nat.lt_of_lt_of_le q h)
  | _, .kl r => .kl (Bels.mono h r)
theorem Bels.mono {N M : Nat} (h : N ≤ M) : ∀ {ds : List D}, Bels N ds → Bels M ds
  | _, .nil => .nil
  | _, .cons r rr => .cons (Bel.mono h r) (Bels.mono h rr)
end
def BelO (N : Nat) : Ob → Prop
  | .lst xs => Bels N xs
  | .fz xs => Bels N xs
  | .dct kvs => Bels N (kvs.map (·.2))
  | _ => True
section
variable {K : PySem.W.Frag} {mg : Str → Option Value} {ρ ρ1 ρ2 : List Addr} {H H1 : Hp} {h : AH}
mutual
theorem RelD.bel : ∀ {d : D} {v : V}, RelD K mg ρ H d v → Bel ρ.length d
  | _, _, .non => .non
  | _, _, .bl b => .bl b
  | _, _, .int i => .int i
  | _, _, .str x => .str x
  | _, _, .ty n => .ty n
  | _, _, .glb m => .glb _
  | _, _, .exc m e => .exc _
  | _, _, .tup h r => .tup (RelDs.bels r)
  | _, _, .ref e => .ref (List.getElem?_eq_some_iff.mp e).1
  | _, _, .kl h r => .kl (RelDs.bels r)
theorem RelDs.bels : ∀ {ds : List D} {vs : List V}, RelDs K mg ρ H ds vs → Bels ρ.length ds
  | _, _, .nil => .nil
  | _, _, .cons r rr => .cons (RelD.bel r) (RelDs.bels rr)
end
mutual
theorem RelD.sub {N : Nat} (h : ∀ (n : Nat) (a : Addr), n < N → ρ1[n]? = some a → ρ2[n]? = some a) : ∀ {d : D} {v : V}, Bel N d → RelD K mg ρ1 H d v → RelD K mg ρ2 H d v
  | _, _, _, .non => .non
  | _, _, _, .bl b => .bl b
  | _, _, _, .int i => .int i
  | _, _, _, .str x => .str x
  | _, _, _, .ty n => .ty n
  | _, _, _, .glb m => .glb m
  | _, _, _, .exc m e => .exc m e
  | _, _, .tup b, .tup q r => .tup q (RelDs.sub h b r)
  | _, _, .ref b, .ref e => .ref (h _ _ b e)
  | _, _, .kl b, .kl q r => .kl q (RelDs.sub h b r)
theorem RelDs.sub {N : Nat} (h : ∀ (n : Nat) (a : Addr), n < N → ρ1[n]? = some a → ρ2[n]? = some a) : ∀ {ds : List D} {vs : List V}, Bels N ds → RelDs K mg ρ1 H ds vs → RelDs K mg ρ2 H ds vs
  | _, _, _, .nil => .nil
  | _, _, .cons b bb, .cons r rr => .cons (RelD.sub h b r) (RelDs.sub h bb rr)
end
theorem ObR.bel {a : Addr} {o : Ob} (q : ObR K mg ρ H a o) : BelO ρ.length o := by
  cases o with
  | lst ds => obtain ⟨vs, h1, h2⟩ := q; exact h2.bels
  | fz ds => obtain ⟨o, vs, h1, h2⟩ := q; exact h2.bels
  | dct kvs => obtain ⟨ws, h1, h2, h3⟩ := q; exact h3.bels
  | _ => trivial
theorem ObR.sub {N : Nat} {a : Addr} {o : Ob} (h : ∀ (n : Nat) (a : Addr), n < N → ρ1[n]? = some a → ρ2[n]? = some a) (b : BelO N o) (q : ObR K mg ρ1 H a o) : ObR K mg ρ2 H a o := by
  cases o with
  | lst ds => obtain ⟨vs, h1, h2⟩ := q; exact ⟨vs, h1, h2.sub h b⟩
  | fz ds => obtain ⟨o, vs, h1, h2⟩ := q; exact ⟨o, vs, h1, h2.sub h b⟩
  | dct kvs => obtain ⟨ws, h1, h2, h3⟩ := q; exact ⟨ws, h1, h2, h3.sub h b⟩
  | set xs => exact q
  | any => exact q
theorem Wd.bel (w : Wd K mg ρ h H) {n : Nat} {o : Ob} (e : h[n]? = some o) : BelO h.length o := by
  obtain ⟨a, _, q⟩ := w.at_ e
  have := q.bel
  rw [w.len] at this
  exact this
end
/-- where the new word (right) says anything, the old one (left) said it, with more in the heap -/
inductive Rf (h : AH) : R D → R D → Prop where
  | stuck (r : R D) : Rf h r .stuck
  | eq (r : R D) : Rf h r r
  | val {d : D} {h2 g : AH} (hl : h2.length = h.length) (ho : ∀ (n : Nat) (o : Ob), h2[n]? = some o → h[n]? = some o ∨ BelO h.length o) (hd : Bel h.length d) : Rf h (.ok d (h2 ++ g)) (.ok d h2)
  | exc {c : Str} {h2 g : AH} (hl : h2.length = h.length) (ho : ∀ (n : Nat) (o : Ob), h2[n]? = some o → h[n]? = some o ∨ BelO h.length o) : Rf h (.exc c (h2 ++ g)) (.exc c h2)
  | lst {m : Nat} {h1 h2 : AH} {ys : List D} (hl : h2.length = h.length) (ho : ∀ (n : Nat) (o : Ob), h2[n]? = some o → h[n]? = some o ∨ BelO h.length o) (hs : ∀ (n : Nat) (o : Ob), h2[n]? = some o → h1[n]? = some o) (em : h1[m]? = some (.lst ys)) (hm : h.length ≤ m) (hy : Bels h.length ys) : Rf h (.ok (.ref m) h1) (.ok (.ref h.length) (h2 ++ [.lst ys]))
section
variable {K : PySem.W.Frag} {mg : Str → Option Value} {ρ : List Addr} {H : Hp} {h : AH}
theorem wd_cut {ρ1 : List Addr} {H1 : Hp} {h2 g : AH} (w : Wd K mg ρ h H) (hl : h2.length = h.length) (ho : ∀ (n : Nat) (o : Ob), h2[n]? = some o → h[n]? = some o ∨ BelO h.length o) (w1 : Wd K mg ρ1 (h2 ++ g) H1) : Wd K mg (ρ1.take h.length) h2 H1 ∧ (∀ (n : Nat) (a : Addr), n < h.length → ρ1[n]? = some a → (ρ1.take h.length)[n]? = some a) := by
  have hk : ∀ (n : Nat) (a : Addr), n < h.length → ρ1[n]? = some a → (ρ1.take h.length)[n]? = some a := fun n a hn e => by rw [List.getElem?_take_of_lt hn]; exact e
  refine ⟨⟨?_, w1.nd.sublist (List.take_sublist _ _), fun n a o e1 e2 => ?_⟩, hk⟩
  · rw [List.length_take, w1.len, List.length_append]; omega
  · have hn : n < h.length := by rw [← hl]; exact (List.getElem?_eq_some_iff.mp e2).1
    rw [List.getElem?_take_of_lt hn] at e1
    have q := w1.ob n a o e1 (by rw [List.getElem?_append_left (by rw [hl]; exact hn)]; exact e2)
    have b : BelO h.length o := by
      rcases ho n o e2 with z | z
      · exact w.bel z
      · exact z
    exact q.sub hk b
theorem le_take {ρ1 : List Addr} {H1 : Hp} {n : Nat} (l : Le ρ H ρ1 H1) (hn : ρ.length ≤ n) : Le ρ H (ρ1.take n) H1 :=
  ⟨fun i a e => by rw [List.getElem?_take_of_lt (Nat.lt_of_lt_of_le (List.getElem?_eq_some_iff.mp e).1 hn)]; exact l.pre i a e, l.tup, l.frz, l.ext⟩
theorem Rf.post {Q : VK} {E : XK} {r r' : R D} (f : Rf h r r') (w : Wd K mg ρ h H) (p : PostE K mg ρ H Q E r') : PostE K mg ρ H Q E r := by
  cases f with
  | stuck r => exact p.elim
  | eq r => exact p
  | val hl ho hd =>
    intro ρ1 H1 l1 w1 v rv
    obtain ⟨w2, hk⟩ := wd_cut w hl ho w1
    exact p _ H1 (le_take l1 (by rw [w.len]; exact Nat.le_refl _)) w2 v (rv.sub hk hd)
  | exc hl ho =>
    intro ρ1 H1 C l1 w1 m
    obtain ⟨w2, hk⟩ := wd_cut w hl ho w1
    exact p _ H1 C (le_take l1 (by rw [w.len]; exact Nat.le_refl _)) w2 m
  | lst hl ho hs em hm hy =>
    rename_i m h1 h2 ys
    intro ρ1 H1 l1 w1 v rv
    cases rv with
    | ref ea =>
      rename_i a
      have hlen : h.length ≤ ρ1.length := by
        have := (List.getElem?_eq_some_iff.mp ea).1
        omega
      have ht : (ρ1.take h.length).length = h.length := by rw [List.length_take]; omega
      have hk : ∀ (n : Nat) (b : Addr), n < h.length → ρ1[n]? = some b → (ρ1.take h.length ++ [a])[n]? = some b := fun n b hn e => by
        rw [List.getElem?_append_left (by rw [ht]; exact hn), List.getElem?_take_of_lt hn]; exact e
      refine p (ρ1.take h.length ++ [a]) H1 ⟨fun i b e => ?_, l1.tup, l1.frz, l1.ext⟩ ⟨?_, ?_, fun n b o e1 e2 => ?_⟩ _ (.ref ?_)
      · exact hk i b (by rw [← w.len]; exact (List.getElem?_eq_some_iff.mp e).1) (l1.pre i b e)
      · rw [List.length_append, List.length_append, ht, hl]; rfl
      · rw [List.nodup_append]
        refine ⟨w1.nd.sublist (List.take_sublist _ _), by simp, fun b hb c hc => ?_⟩
        rw [List.mem_singleton] at hc
        subst hc
        intro z
        subst z
        obtain ⟨i, hi⟩ := List.getElem?_of_mem hb
        have hi1 := (List.getElem?_eq_some_iff.mp hi).1
        rw [ht] at hi1
        rw [List.getElem?_take_of_lt hi1] at hi
        have h3 := List.getElem?_eq_some_iff.mp hi
        have h4 := List.getElem?_eq_some_iff.mp ea
        have := (List.getElem_inj (h₀ := h3.1) (h₁ := h4.1) w1.nd).mp (h3.2.trans h4.2.symm)
        omega
      · by_cases hn : n < h.length
        · rw [List.getElem?_append_left (by rw [ht]; exact hn), List.getElem?_take_of_lt hn] at e1
          rw [List.getElem?_append_left (by rw [hl]; exact hn)] at e2
          have q := w1.ob n b o e1 (hs n o e2)
          have bo : BelO h.length o := by
            rcases ho n o e2 with z | z
            · exact w.bel z
            · exact z
          exact q.sub hk bo
        · have hn2 : n = h.length := by
            have := (List.getElem?_eq_some_iff.mp e2).1
            rw [List.length_append, hl] at this
            simp at this
            omega
          subst hn2
          rw [List.getElem?_append_right (by rw [ht]; exact Nat.le_refl _), ht, Nat.sub_self] at e1
          rw [← hl, List.getElem?_append_right (Nat.le_refl _), Nat.sub_self] at e2
          simp at e1 e2
          subst e1 e2
          exact (w1.ob m a _ ea em).sub hk hy
      · rw [List.getElem?_append_right (by rw [ht]; exact Nat.le_refl _), ht, Nat.sub_self]; rfl
theorem Callee.spec {P : Program} {w : World} {base : Heap} {x : Str} {k n : Nat} {ps : List Str} {S S' : Fn} (C : Callee P w K mg base x k ps (spD K mg n S)) (f : ∀ (ds : List D) (h : AH), ds.length = n → Rf h (S ds h) (S' ds h)) : Callee P w K mg base x k ps (spD K mg n S') :=
  C.imp fun vs H Q E ⟨ρ, h, ds, wd, rs, hl, p⟩ => ⟨ρ, h, ds, wd, rs, hl, (f ds h hl).post wd p⟩
end
end L2

set_option Elab.async false
set_option linter.all false
set_option maxRecDepth 100000
namespace L2
open PySem PySem.Spec PyProof.Rows
/-! ### names for what the texts use -/
def gAdd : D → D → AH → R D := gOr (gI fun i j => .int (i + j)) gCat
def gMin : D → D → AH → R D := gI fun i j => .int (i - j)
def CMulA (i j : Int) : Prop := CMulB i j ∨ CMul i j
noncomputable def gMul : D → D → AH → R D := gIc CMulA fun i j => .int (i * j)
noncomputable def gDiv : D → D → AH → R D := gIc CDivB fun i j => .int (i.fdiv j)
noncomputable def gMod : D → D → AH → R D := gIc (fun _ j => j ≠ 0) fun i j => .int (i.fmod j)
noncomputable def gPow : D → D → AH → R D := gIc CPow fun i j => .int (i ^ j.toNat)
noncomputable def gShl : D → D → AH → R D := gIc CPow fun i j => .int (i * 2 ^ j.toNat)
def gLt : D → D → AH → R D := gI fun i j => .bl (decide (i < j))
def gLe : D → D → AH → R D := gI fun i j => .bl (decide (i ≤ j))
def gGt : D → D → AH → R D := gI fun i j => .bl (decide (j < i))
def gGe : D → D → AH → R D := gI fun i j => .bl (decide (j ≤ i))
def gNeg : D → AH → R D := fun x h => match x with
  | .int i => .ok (.int (-i)) h
  | _ => .stuck
def eCall (n : Nat) (S : Fn) (A : MA) : ME := eFn (fun ds h => if ds.length = n then S ds h else .stuck) A
def mCountC : D → List D → AH → R D := fun x ds h => match ds with
  | [d] => if (snap 64 h d).isSome = true ∧ ((snap 64 h d).map SeqAt.shaped) = some true then mCount x ds h else .stuck
  | _ => .stuck
section
variable {K : PySem.W.Frag} {mg : Str → Option Value} {X : Cx}
theorem or_add (h : X.K = K) : OpR X (binaryOp .Add) (fun x y H Q => rI0 (fun i j => .int (i + j)) x y H Q ∨ (rCat x y H Q ∨ rCatT K x y H Q)) := op_add.or (catK h)
theorem od_add : OpD K mg (fun x y H Q => rI0 (fun i j => .int (i + j)) x y H Q ∨ (rCat x y H Q ∨ rCatT K x y H Q)) gAdd := (opd_I0 fun _ _ _ _ => .int _).or opd_cat
theorem od_sub : OpD K mg (rI0 fun i j => .int (i - j)) gMin := opd_I0 fun _ _ _ _ => .int _
theorem or_mul : OpR X (binaryOp .Mult) (rI CMulA fun i j => .int (i * j)) := by
  intro pins s σ H x y v u Q I rx ry h
  obtain ⟨i, j, e1, e2, hc, q⟩ := h
  rcases hc with hc | hc
  · exact op_mulB pins s σ H x y v u Q I rx ry ⟨i, j, e1, e2, hc, q⟩
  · exact op_mul pins s σ H x y v u Q I rx ry ⟨i, j, e1, e2, hc, q⟩
theorem od_mul : OpD K mg (rI CMulA fun i j => .int (i * j)) gMul := opd_I fun _ _ _ _ => .int _
theorem od_div : OpD K mg (rI CDivB fun i j => .int (i.fdiv j)) gDiv := opd_I fun _ _ _ _ => .int _
theorem od_mod : OpD K mg (rI (fun _ j => j ≠ 0) fun i j => .int (i.fmod j)) gMod := opd_I fun _ _ _ _ => .int _
theorem od_pow : OpD K mg (rI CPow fun i j => .int (i ^ j.toNat)) gPow := opd_I fun _ _ _ _ => .int _
theorem od_shl : OpD K mg (rI CPow fun i j => .int (i * 2 ^ j.toNat)) gShl := opd_I fun _ _ _ _ => .int _
theorem od_lt : OpD K mg (rI0 fun i j => .bl (decide (i < j))) gLt := opd_I0 fun _ _ _ _ => .bl _
theorem od_gt : OpD K mg (rI0 fun i j => .bl (decide (j < i))) gGt := opd_I0 fun _ _ _ _ => .bl _
theorem od_ge : OpD K mg (rI0 fun i j => .bl (decide (j ≤ i))) gGe := opd_I0 fun _ _ _ _ => .bl _
theorem ud_neg : UnD K mg (rU fun i => .int (-i)) gNeg := fun ρ h H dx x Q E w rx p => by
  unfold gNeg at p
  split at p
  · cases rx; exact ⟨_, rfl, post_val w (.int _) p⟩
  · exact p.elim
theorem md_countC : MtD K mg (rCountE K) mCountC := md_count
variable {ES : St → XK} {e : Expr} {es : List Expr} {A : MA} {pos : Pos}
theorem de_callF {x : Str} {p : Pos} {k n : Nat} {ps : List Str} {S : Fn} (C : Callee X.prog X.w X.K X.mg X.base x k ps (spD K mg n S)) (hr : Room k X.A) (hg : Gl X x) (hx : PassD X ES) (ha : DA K mg X ES (e :: es) A)
    (hdb : (x == ("__debug__" : Str)) = false := by decide) (he : starEach (e :: es) X.env = (false, eval e X.env) :: starEach es X.env := by rfl) (hpl : (backTo pos (starEach es X.env)).any (·.1) = false := by rfl) :
    DE K mg X ES (.Call (.Name x p) (e :: es) [] pos) (eCall n S A) := de_call C hr hg hx ha hdb he hpl
end
/-! what the denotations are, in short -/
section
variable {ae : AE} {h : AH}
@[simp] theorem bind_ok {α β : Type} (a : α) (h : AH) (f : α → AH → R β) : (R.ok a h).bind f = f a h := rfl
@[simp] theorem bind_exc {α β : Type} (c : Str) (h : AH) (f : α → AH → R β) : (R.exc c h).bind f = .exc c h := rfl
@[simp] theorem bind_stuck {α β : Type} (f : α → AH → R β) : (R.stuck).bind f = .stuck := rfl
@[simp] theorem toS_ok {α : Type} (a : α) (h : AH) (ae : AE) (f : α → AH → SR) : (R.ok a h).toS ae f = f a h := rfl
@[simp] theorem toS_exc {α : Type} (c : Str) (h : AH) (ae : AE) (f : α → AH → SR) : (R.exc c h).toS ae f = .exc c ae h := rfl
@[simp] theorem then_nx (ae : AE) (h : AH) (f : AE → AH → SR) : (SR.nx ae h).then f = f ae h := rfl
@[simp] theorem then_rt (d : D) (h : AH) (f : AE → AH → SR) : (SR.rt d h).then f = .rt d h := rfl
@[simp] theorem then_exc (c : Str) (ae : AE) (h : AH) (f : AE → AH → SR) : (SR.exc c ae h).then f = .exc c ae h := rfl
@[simp] theorem then_bk (ae : AE) (h : AH) (f : AE → AH → SR) : (SR.bk ae h).then f = .bk ae h := rfl
@[simp] theorem then_ct (ae : AE) (h : AH) (f : AE → AH → SR) : (SR.ct ae h).then f = .ct ae h := rfl
@[simp] theorem loop_nx (ae : AE) (h : AH) (f : AE → AH → SR) : (SR.nx ae h).loop f = f ae h := rfl
@[simp] theorem loop_ct (ae : AE) (h : AH) (f : AE → AH → SR) : (SR.ct ae h).loop f = f ae h := rfl
@[simp] theorem loop_bk (ae : AE) (h : AH) (f : AE → AH → SR) : (SR.bk ae h).loop f = .nx ae h := rfl
@[simp] theorem loop_rt (d : D) (h : AH) (f : AE → AH → SR) : (SR.rt d h).loop f = .rt d h := rfl
@[simp] theorem noX_ok {α : Type} (a : α) (h : AH) : noX (R.ok a h) = .ok a h := rfl
end
end L2

set_option Elab.async false
set_option linter.all false
set_option maxRecDepth 100000
namespace L2
open PySem PySem.Spec PyProof.Rows

/-! ### plain data: no list in it -/
def plB : Nat → D → Bool
  | _, .non => true
  | _, .bl _ => true
  | _, .int _ => true
  | _, .str x => PyData.strOk x
  | k + 1, .tup xs => xs.all (plB k)
  | _, _ => false
theorem snap_pl : ∀ (k : Nat) (d : D), plB k d = true → ∃ pd : PyData, (∀ j h, k < j → snap j h d = some pd) ∧ pd.canLay0 = true ∧ pd.depth ≤ k
  | k, .non, _ => ⟨.none, fun j h hj => by cases j with | zero => omega | succ j => rfl, rfl, Nat.zero_le _⟩
  | k, .bl b, _ => ⟨.bool b, fun j h hj => by cases j with | zero => omega | succ j => rfl, rfl, Nat.zero_le _⟩
  | k, .int b, _ => ⟨.int b, fun j h hj => by cases j with | zero => omega | succ j => rfl, rfl, Nat.zero_le _⟩
  | k, .str b, e => ⟨.str b, fun j h hj => by cases j with | zero => omega | succ j => rfl, by cases k <;> exact e, Nat.zero_le _⟩
  | k, .ty _, e => by cases k <;> cases e
  | k, .glb _, e => by cases k <;> cases e
  | k, .exc _, e => by cases k <;> cases e
  | k, .ref _, e => by cases k <;> cases e
  | k, .kl _, e => by cases k <;> cases e
  | 0, .tup _, e => by cases e
  | k + 1, .tup xs, e => by
    have e' : xs.all (plB k) = true := e
    have key : ∀ ys : List D, ys.all (plB k) = true → ∃ ps : List PyData, (∀ j h, k < j → ys.mapM (snap j h) = some ps) ∧ PyData.canLayAll0 ps = true ∧ PyData.depthAll ps ≤ k := by
      intro ys
      induction ys with
      | nil => intro _; exact ⟨[], fun _ _ _ => rfl, rfl, Nat.zero_le _⟩
      | cons y ys ih =>
        intro hy
        rw [List.all_cons, Bool.and_eq_true] at hy
        obtain ⟨pd, h1, h2, h3⟩ := snap_pl k y hy.1
        obtain ⟨ps, i1, i2, i3⟩ := ih hy.2
        refine ⟨pd :: ps, fun j h hj => ?_, ?_, ?_⟩
        · rw [List.mapM_cons, h1 j h hj, i1 j h hj]; rfl
        · show (pd.canLay0 && PyData.canLayAll0 ps) = true
          rw [h2, i2]; rfl
        · show max pd.depth (PyData.depthAll ps) ≤ k
          omega
    obtain ⟨ps, i1, i2, i3⟩ := key xs e'
    refine ⟨.tuple ps, fun j h hj => ?_, i2, ?_⟩
    · cases j with
      | zero => omega
      | succ j =>
        show (xs.mapM (snap j h)).map PyData.tuple = _
        rw [i1 j h (by omega)]; rfl
    · show PyData.depthAll ps + 1 ≤ k + 1
      omega
theorem snaps_pl {k : Nat} : ∀ (xs : List D), xs.all (plB k) = true → ∃ ps : List PyData, (∀ j h, k < j → xs.mapM (snap j h) = some ps) ∧ PyData.canLayAll0 ps = true ∧ PyData.depthAll ps ≤ k
  | [], _ => ⟨[], fun _ _ _ => rfl, rfl, Nat.zero_le _⟩
  | y :: ys, hy => by
    rw [List.all_cons, Bool.and_eq_true] at hy
    obtain ⟨pd, h1, h2, h3⟩ := snap_pl k y hy.1
    obtain ⟨ps, i1, i2, i3⟩ := snaps_pl ys hy.2
    refine ⟨pd :: ps, fun j h hj => ?_, ?_, ?_⟩
    · rw [List.mapM_cons, h1 j h hj, i1 j h hj]; rfl
    · show (pd.canLay0 && PyData.canLayAll0 ps) = true
      rw [h2, i2]; rfl
    · show max pd.depth (PyData.depthAll ps) ≤ k
      omega
theorem shaped_of {pd : PyData} (h1 : pd.canLay0 = true) (h2 : pd.depth ≤ 64) : SeqAt.shaped pd = true := by
  unfold SeqAt.shaped
  rw [h1, decide_eq_true h2]; rfl
/-- a plain thing is equal to itself -/
theorem gEqB_self {h : AH} {d : D} (p : plB 60 d = true) : gEqB h d d = some true := by
  obtain ⟨pd, h1, h2, h3⟩ := snap_pl 60 d p
  unfold gEqB
  rw [h1 64 h (by omega)]
  dsimp only
  have hs := shaped_of h2 (by omega)
  rw [if_pos ⟨hs, hs⟩, SeqAt.eqv_refl pd h2]
/-- two lists with the same plain items are equal -/
theorem gEqB_lists {h : AH} {n m : Nat} {xs : List D} (hn : seqAt h n = some xs) (hm : seqAt h m = some xs) (p : xs.all (plB 60) = true) : gEqB h (.ref n) (.ref m) = some true := by
  obtain ⟨ps, i1, i2, i3⟩ := snaps_pl xs p
  have e1 : snap 64 h (.ref n) = some (.list ps) := by
    unfold snap
    rw [hn]
    show (xs.mapM (snap 63 h)).map PyData.list = _
    rw [i1 63 h (by omega)]; rfl
  have e2 : snap 64 h (.ref m) = some (.list ps) := by
    unfold snap
    rw [hm]
    show (xs.mapM (snap 63 h)).map PyData.list = _
    rw [i1 63 h (by omega)]; rfl
  have hs : SeqAt.shaped (.list ps) = true := shaped_of i2 (by show PyData.depthAll ps + 1 ≤ 64; omega)
  unfold gEqB
  rw [e1, e2]
  dsimp only
  rw [if_pos ⟨hs, hs⟩, SeqAt.eqv_refl (.list ps) i2]
theorem gEq_of {neg : Bool} {h : AH} {x y : D} {b : Bool} (e : gEqB h x y = some b) : gEq neg x y h = .ok (.bl (if neg then !b else b)) h := by
  unfold gEq; rw [e]
theorem gEq_int {neg : Bool} (x y : Int) (h : AH) : gEq neg (.int x) (.int y) h = .ok (.bl (if neg then !(x == y) else (x == y))) h := gEq_of rfl
theorem gEq_str {neg : Bool} (x y : Str) (h : AH) (hx : PyData.strOk x = true) (hy : PyData.strOk y = true) : gEq neg (.str x) (.str y) h = .ok (.bl (if neg then !(x == y) else (x == y))) h := gEq_of (by
  unfold gEqB
  show (if SeqAt.shaped (.str x) = true ∧ SeqAt.shaped (.str y) = true then _ else _) = _
  rw [if_pos ⟨shaped_of hx (Nat.zero_le _), shaped_of hy (Nat.zero_le _)⟩]
  rfl)

/-! ### sizes -/
def Sm (n : Nat) (x : Int) : Prop := x.natAbs < 2 ^ n
theorem Sm.mono {n m : Nat} {x : Int} (h : Sm n x) (l : n ≤ m) : Sm m x := Nat.lt_of_lt_of_le h (Nat.pow_le_pow_right (by omega) l)
theorem Sm.mul {n m : Nat} {x y : Int} (h : Sm n x) (k : Sm m y) : Sm (n + m) (x * y) := by
  unfold Sm at *
  rw [Int.natAbs_mul, Nat.pow_add]
  exact Nat.mul_lt_mul'' h k
theorem Sm.add {n m : Nat} {x y : Int} (h : Sm n x) (k : Sm m y) : Sm (n + m + 1) (x + y) := by
  unfold Sm at *
  have h1 : 2 ^ n ≤ 2 ^ (n + m) := Nat.pow_le_pow_right (by omega) (by omega)
  have h2 : 2 ^ m ≤ 2 ^ (n + m) := Nat.pow_le_pow_right (by omega) (by omega)
  have h3 : 2 ^ (n + m + 1) = 2 ^ (n + m) + 2 ^ (n + m) := by rw [Nat.pow_succ]; omega
  have h4 : (x + y).natAbs ≤ x.natAbs + y.natAbs := Int.natAbs_add_le x y
  omega
theorem Sm.add' {n : Nat} {x y : Int} (h : Sm n x) (k : Sm n y) : Sm (n + 1) (x + y) := by
  unfold Sm at *
  have h3 : 2 ^ (n + 1) = 2 ^ n + 2 ^ n := by rw [Nat.pow_succ]; omega
  have h4 : (x + y).natAbs ≤ x.natAbs + y.natAbs := Int.natAbs_add_le x y
  omega
theorem Sm.neg {n : Nat} {x : Int} (h : Sm n x) : Sm n (-x) := by unfold Sm at *; rw [Int.natAbs_neg]; exact h
theorem Sm.bits {n : Nat} {x : Int} (h : Sm n x) : Builtin.Int.intBits x ≤ n := intBits_le_iff.mpr h
theorem Sm.of_le {n : Nat} {x y : Int} (h : Sm n y) (l : x.natAbs ≤ y.natAbs) : Sm n x := Nat.lt_of_le_of_lt l h
theorem CMulA.of {n m : Nat} {x y : Int} (h : Sm n x) (k : Sm m y) (hn : n ≤ 100000) (hm : m ≤ 100000) : CMulA x y := .inl ⟨Nat.le_trans h.bits hn, Nat.le_trans k.bits hm⟩
theorem CMulA.left {x y : Int} (h : -(2 ^ 64) < x) (k : x < 2 ^ 64) : CMulA x y := .inr (.inl ⟨h, k⟩)
theorem CMulA.right {x y : Int} (h : -(2 ^ 64) < y) (k : y < 2 ^ 64) : CMulA x y := .inr (.inr ⟨h, k⟩)
theorem CDivB.of {x y : Int} (h0 : y ≠ 0) (h : Sm 8000 y) : CDivB x y := ⟨h0, h.bits⟩
theorem gMul_ok {x y : Int} {h : AH} (c : CMulA x y) : gMul (.int x) (.int y) h = .ok (.int (x * y)) h := by unfold gMul gIc; dsimp only; rw [if_pos c]
theorem gDiv_ok {x y : Int} {h : AH} (c : CDivB x y) : gDiv (.int x) (.int y) h = .ok (.int (x.fdiv y)) h := by unfold gDiv gIc; dsimp only; rw [if_pos c]
theorem gMod_ok {x y : Int} {h : AH} (c : y ≠ 0) : gMod (.int x) (.int y) h = .ok (.int (x.fmod y)) h := by unfold gMod gIc; dsimp only; rw [if_pos c]
theorem gPow_ok {x y : Int} {h : AH} (c : CPow x y) : gPow (.int x) (.int y) h = .ok (.int (x ^ y.toNat)) h := by unfold gPow gIc; dsimp only; rw [if_pos c]
theorem gShl_ok {x y : Int} {h : AH} (c : CPow x y) : gShl (.int x) (.int y) h = .ok (.int (x * 2 ^ y.toNat)) h := by unfold gShl gIc; dsimp only; rw [if_pos c]
theorem gAdd_int (x y : Int) (h : AH) : gAdd (.int x) (.int y) h = .ok (.int (x + y)) h := rfl

/-! ### fractions by rational numbers -/
def fD (q : Rat) : D := .tup [.int q.num, .int q.den]
structure Sz (n : Nat) (q : Rat) : Prop where
  top : Sm n q.num
  bot : Sm n (q.den : Int)
theorem Sz.mono {n m : Nat} {q : Rat} (h : Sz n q) (l : n ≤ m) : Sz m q := ⟨h.top.mono l, h.bot.mono l⟩
theorem rat_cross {a b : Int} (hb : b ≠ 0) : ((a : Rat) / (b : Rat)).num * b = a * ((a : Rat) / (b : Rat)).den := by
  have h2 := Rat.num_divInt_den ((a : Rat) / (b : Rat))
  have h3 : Rat.divInt ((a : Rat) / (b : Rat)).num (((a : Rat) / (b : Rat)).den : Int) = Rat.divInt a b := by rw [h2, Rat.divInt_eq_div]
  exact (Rat.divInt_eq_divInt_iff (by have := ((a : Rat) / (b : Rat)).den_nz; omega) hb).mp h3
theorem rat_gcd (q : Rat) : Int.gcd q.num q.den = 1 := by
  have := q.reduced
  exact this
theorem fr_eq {a b : Int} (hb : b ≠ 0) : Fr.T a b = ((a : Rat) / (b : Rat)).num ∧ Fr.B a b = (((a : Rat) / (b : Rat)).den : Int) := by
  refine Fr.uniq (Fr.B_pos hb) (by have := ((a : Rat) / (b : Rat)).den_pos; omega) (Fr.low hb) (rat_gcd _) ?_
  have h1 := Fr.cross (a := a) hb
  have h2 := rat_cross (a := a) hb
  generalize ((a : Rat) / (b : Rat)).num = n at *
  generalize (((a : Rat) / (b : Rat)).den : Int) = d at *
  generalize Fr.T a b = x at *
  generalize Fr.B a b = y at *
  have h3 : (x * d) * b = (n * y) * b := by
    calc x * d * b = (x * b) * d := by rw [Int.mul_right_comm]
      _ = a * y * d := by rw [h1]
      _ = (a * d) * y := by rw [Int.mul_right_comm]
      _ = n * b * y := by rw [h2]
      _ = n * y * b := by rw [Int.mul_right_comm]
  exact Int.eq_of_mul_eq_mul_right hb h3
theorem rat_num_le {a b : Int} (hb : b ≠ 0) : ((a : Rat) / (b : Rat)).num.natAbs ≤ a.natAbs := by
  have h := (fr_eq (a := a) hb).1
  rw [← h]
  have h1 := Fr.T_mul (a := a) hb
  have h2 := Fr.dv_ne (a := a) hb
  have h3 : (Fr.T a b).natAbs * (Fr.dv a b).natAbs = a.natAbs := by rw [← Int.natAbs_mul, h1]
  have h4 : 1 ≤ (Fr.dv a b).natAbs := by omega
  calc (Fr.T a b).natAbs = (Fr.T a b).natAbs * 1 := by omega
    _ ≤ (Fr.T a b).natAbs * (Fr.dv a b).natAbs := Nat.mul_le_mul_left _ h4
    _ = a.natAbs := h3
theorem rat_den_le {a b : Int} (hb : b ≠ 0) : ((((a : Rat) / (b : Rat)).den : Int)).natAbs ≤ b.natAbs := by
  have h := (fr_eq (a := a) hb).2
  rw [← h]
  have h1 := Fr.B_mul (a := a) hb
  have h2 := Fr.dv_ne (a := a) hb
  have h3 : (Fr.B a b).natAbs * (Fr.dv a b).natAbs = b.natAbs := by rw [← Int.natAbs_mul, h1]
  have h4 : 1 ≤ (Fr.dv a b).natAbs := by omega
  calc (Fr.B a b).natAbs = (Fr.B a b).natAbs * 1 := by omega
    _ ≤ (Fr.B a b).natAbs * (Fr.dv a b).natAbs := Nat.mul_le_mul_left _ h4
    _ = b.natAbs := h3
theorem Sz.div {n m : Nat} {a b : Int} (hb : b ≠ 0) (ha : Sm n a) (hb' : Sm m b) (k : Nat) (h1 : n ≤ k) (h2 : m ≤ k) : Sz k ((a : Rat) / (b : Rat)) :=
  ⟨(ha.of_le (rat_num_le hb)).mono h1, (hb'.of_le (rat_den_le hb)).mono h2⟩
theorem den_ne (q : Rat) : (q.den : Int) ≠ 0 := by have := q.den_nz; omega
theorem rat_def (q : Rat) : q = (q.num : Rat) / ((q.den : Int) : Rat) := by
  have := Rat.num_divInt_den q
  rw [Rat.divInt_eq_div] at this
  exact this.symm
theorem castne {b : Int} (h : b ≠ 0) : (b : Rat) ≠ 0 := by
  intro z
  exact h (by exact_mod_cast z)
theorem rat_add (p q : Rat) : p + q = ((p.num * q.den + q.num * p.den : Int) : Rat) / ((p.den * q.den : Int) : Rat) := by
  have h1 := castne (den_ne p)
  have h2 := castne (den_ne q)
  conv => lhs; rw [rat_def p, rat_def q]
  simp only [Rat.intCast_add, Rat.intCast_mul]
  grind
theorem rat_mul (p q : Rat) : p * q = ((p.num * q.num : Int) : Rat) / ((p.den * q.den : Int) : Rat) := by
  have h1 := castne (den_ne p)
  have h2 := castne (den_ne q)
  conv => lhs; rw [rat_def p, rat_def q]
  simp only [Rat.intCast_mul]
  grind
theorem rat_div {p q : Rat} (hq : q ≠ 0) : p / q = ((p.num * q.den : Int) : Rat) / ((p.den * q.num : Int) : Rat) := by
  have h1 := castne (den_ne p)
  have h2 := castne (den_ne q)
  have h3 : (q.num : Rat) ≠ 0 := castne fun z => hq (Rat.num_eq_zero.mp z)
  conv => lhs; rw [rat_def p, rat_def q]
  simp only [Rat.intCast_mul]
  grind
theorem Sz.add {n m : Nat} {p q : Rat} (hp : Sz n p) (hq : Sz m q) : Sz (n + m + 1) (p + q) := by
  rw [rat_add]
  have h1 := (hp.top.mul hq.bot)
  have h2 := (hq.top.mul hp.bot)
  exact Sz.div (by have := den_ne p; have := den_ne q; exact Int.mul_ne_zero ‹_› ‹_›) (h1.add' (by rw [Nat.add_comm n m]; exact h2)) (hp.bot.mul hq.bot) _ (by omega) (by omega)
theorem Sz.mul {n m : Nat} {p q : Rat} (hp : Sz n p) (hq : Sz m q) : Sz (n + m) (p * q) := by
  rw [rat_mul]
  exact Sz.div (by have := den_ne p; have := den_ne q; exact Int.mul_ne_zero ‹_› ‹_›) (hp.top.mul hq.top) (hp.bot.mul hq.bot) _ (by omega) (by omega)
theorem rat_pos {q : Rat} : 0 < q.num ↔ 0 < q := by
  have h1 := Rat.num_nonneg (q := q)
  have h2 := Rat.num_eq_zero (q := q)
  constructor
  · intro h
    refine Rat.lt_of_le_of_ne (h1.mp (by omega)) fun z => ?_
    have := h2.mpr z.symm
    omega
  · intro h
    have h3 := h1.mpr (Rat.le_of_lt h)
    have h4 : q.num ≠ 0 := fun z => (Rat.ne_of_lt h) (h2.mp z).symm
    omega
theorem rat_lt (p q : Rat) : p < q ↔ p.num * q.den < q.num * p.den := Rat.lt_iff p q

/-! ### evaluation, from the head -/
section
variable {α β : Type} (ae : AE) (h : AH)
theorem ev_seq (F G : MS) : sSeq F G ae h = (F ae h).then G := rfl
theorem ev_nx : sNx ae h = .nx ae h := rfl
theorem ev_bk : sBk ae h = .bk ae h := rfl
theorem ev_ct : sCt ae h = .ct ae h := rfl
theorem ev_retN : sRetN ae h = .rt .non h := rfl
theorem ev_ret (F : ME) : sRet F ae h = (F ae h).toS ae fun d h1 => .rt d h1 := rfl
theorem ev_expr (F : ME) : sExpr F ae h = (F ae h).toS ae fun _ h1 => .nx ae h1 := rfl
theorem ev_if (c : MT) (F G : MS) : sIf c F G ae h = (c ae h).toS ae fun b h1 => if b = true then F ae h1 else G ae h1 := rfl
theorem ev_asg (F : ME) (g : MG) : sAsg F g ae h = (F ae h).toS ae fun d h1 => (g d ae h1).toS ae fun ae' h2 => .nx ae' h2 := rfl
theorem ev_gN (i : Nat) (d : D) : gN i d ae h = .ok (ae.set i (some d)) h := rfl
theorem ev_gS (F G : ME) (w : D → D → D → AH → R Unit) (v : D) : gS F G w v ae h = (F ae h).bind fun o h1 => (G ae h1).bind fun i h2 => (w o i v h2).bind fun _ h3 => .ok ae h3 := rfl
theorem ev_gT (u : MGs) (ds : List D) : gT u (.tup ds) ae h = u ds ae h := rfl
theorem ev_gsC (g : MG) (u : MGs) (d : D) (ds : List D) : gsC g u (d :: ds) ae h = (g d ae h).bind fun ae' h' => u ds ae' h' := rfl
theorem ev_gsN : gsN [] ae h = .ok ae h := rfl
theorem ev_par (i j : Nat) (A : MA) : sPar i j A ae h = (A ae h).toS ae fun ds h1 => match ds with
  | [d, e] => .nx ((ae.set i (some d)).set j (some e)) h1
  | _ => .stuck := rfl
theorem ev_aug (i : Nat) (g : D → D → AH → R D) (F : ME) : sAug i g F ae h = match ae[i]? with
  | some (some x) => (F ae h).toS ae fun y h1 => (g x y h1).toS ae fun z h2 => .nx (ae.set i (some z)) h2
  | _ => .stuck := rfl
theorem ev_raise (c : Str) (A : MA) : sRaise c A ae h = (A ae h).toS ae fun ds h1 => if ds.length ≤ 16777216 then .exc c ae h1 else .stuck := rfl
theorem ev_for (I : MI) (g : MG) (B : MS) : sFor I g B ae h = (I ae h).toS ae fun it h1 => forL it.guard g B it.items ae h1 := rfl
theorem ev_var (i : Nat) : eVar i ae h = match ae[i]? with
  | some (some d) => .ok d h
  | _ => .stuck := rfl
theorem ev_c (d : D) : eC d ae h = .ok d h := rfl
theorem ev_op (g : D → D → AH → R D) (F G : ME) : eOp g F G ae h = (F ae h).bind fun x h1 => (G ae h1).bind fun y h2 => g x y h2 := rfl
theorem ev_un (g : D → AH → R D) (F : ME) : eUn g F ae h = (F ae h).bind g := rfl
theorem ev_anil : aNil ae h = .ok [] h := rfl
theorem ev_acons (F : ME) (G : MA) : aCons F G ae h = (F ae h).bind fun x h1 => (G ae h1).bind fun xs h2 => .ok (x :: xs) h2 := rfl
theorem ev_fn (g : Fn) (A : MA) : eFn g A ae h = (A ae h).bind g := rfl
theorem ev_call (n : Nat) (S : Fn) (A : MA) : eCall n S A ae h = (A ae h).bind fun ds h1 => if ds.length = n then S ds h1 else .stuck := rfl
theorem ev_m (g : D → List D → AH → R D) (F : ME) (A : MA) : eM g F A ae h = (F ae h).bind fun x h1 => if isLst h1 x = true then (A ae h1).bind fun ds h2 => g x ds h2 else .stuck := rfl
theorem ev_m0 (g : D → List D → AH → R D) (F : ME) : eM0 g F ae h = (F ae h).bind fun x h1 => if isLst h1 x = true then g x [] h1 else .stuck := rfl
theorem ev_and (F G : ME) : eAnd F G ae h = (F ae h).bind fun x h1 => (asB x h1).bind fun b h2 => if b = true then G ae h2 else .ok (.bl false) h2 := rfl
theorem ev_or (F G : ME) : eOr F G ae h = (F ae h).bind fun x h1 => (asB x h1).bind fun b h2 => if b = true then .ok (.bl true) h2 else G ae h2 := rfl
theorem ev_not (F : ME) : eNot F ae h = (F ae h).bind fun x h1 => (asB x h1).bind fun b h2 => .ok (.bl (!b)) h2 := rfl
theorem ev_ife (c : MT) (F G : ME) : eIf c F G ae h = (c ae h).bind fun b h1 => if b = true then F ae h1 else G ae h1 := rfl
theorem ev_tof (F : ME) : tOf F ae h = (F ae h).bind asB := rfl
theorem ev_tan (c d : MT) : tAn c d ae h = (c ae h).bind fun b h1 => if b = true then d ae h1 else .ok false h1 := rfl
theorem ev_to (c d : MT) : tO c d ae h = (c ae h).bind fun b h1 => if b = true then .ok true h1 else d ae h1 := rfl
theorem ev_tno (c : MT) : tNo c ae h = (c ae h).bind fun b h1 => .ok (!b) h1 := rfl
theorem ev_tY : tY ae h = .ok true h := rfl
theorem ev_asB (b : Bool) : asB (.bl b) h = .ok b h := rfl
theorem ev_lc (I : MI) (sub : List (Option Nat)) (g : MG) (c : MT) (F : ME) : eLC I sub g c F ae h = (I ae h).bind fun it h1 => (noX (lcL it.guard g c F it.items [] (subA sub ae) h1)).bind mkLst := rfl
theorem ev_iseq (F : ME) : iSeq F ae h = (F ae h).bind fun d h1 => match d with
  | .tup xs => .ok (.tup xs) h1
  | .ref n => match seqAt h1 n with
    | some xs => .ok (.lst n xs) h1
    | none => .stuck
  | _ => .stuck := rfl
theorem ev_irg1 (A : MA) : iRg1 A ae h = (A ae h).bind fun ds h1 => match ds with
  | [.int j] => if -(2 ^ 62) ≤ j ∧ j < 2 ^ 62 then .ok (.rng 0 j.toNat) h1 else .stuck
  | _ => .stuck := rfl
theorem ev_lt (x y : Int) : gLt (.int x) (.int y) h = .ok (.bl (decide (x < y))) h := rfl
theorem ev_le (x y : Int) : gLe (.int x) (.int y) h = .ok (.bl (decide (x ≤ y))) h := rfl
theorem ev_gt (x y : Int) : gGt (.int x) (.int y) h = .ok (.bl (decide (y < x))) h := rfl
theorem ev_ge (x y : Int) : gGe (.int x) (.int y) h = .ok (.bl (decide (y ≤ x))) h := rfl
theorem ev_min (x y : Int) : gMin (.int x) (.int y) h = .ok (.int (x - y)) h := rfl
theorem ev_gI (f : Int → Int → D) (x y : Int) : gI f (.int x) (.int y) h = .ok (f x y) h := rfl
theorem ev_neg (x : Int) : gNeg (.int x) h = .ok (.int (-x)) h := rfl
theorem ev_abs (x : Int) : bAbs [.int x] h = .ok (.int (if x < 0 then -x else x)) h := rfl
theorem ev_tup1 (a : D) : mkTup [a] h = .ok (.tup [a]) h := rfl
theorem ev_tup2 (a b : D) : mkTup [a, b] h = .ok (.tup [a, b]) h := rfl
theorem ev_tup3 (a b c : D) : mkTup [a, b, c] h = .ok (.tup [a, b, c]) h := rfl
theorem ev_tup4 (a b c d : D) : mkTup [a, b, c, d] h = .ok (.tup [a, b, c, d]) h := rfl
theorem ev_tup5 (a b c d e : D) : mkTup [a, b, c, d, e] h = .ok (.tup [a, b, c, d, e]) h := rfl
theorem ev_lst0 : mkLst [] h = .ok (.ref h.length) (h ++ [.lst []]) := rfl
theorem ev_lst2 (a b : D) : mkLst [a, b] h = .ok (.ref h.length) (h ++ [.lst [a, b]]) := rfl
theorem ev_lst3 (a b c : D) : mkLst [a, b, c] h = .ok (.ref h.length) (h ++ [.lst [a, b, c]]) := rfl
theorem ev_lst6 (a b c d e f : D) : mkLst [a, b, c, d, e, f] h = .ok (.ref h.length) (h ++ [.lst [a, b, c, d, e, f]]) := rfl
theorem ev_fnD (n : Nat) (F : MS) (ds : List D) : fnD n F ds h = match F (ds.map some ++ List.replicate (n - ds.length) none) h with
  | .nx _ h' => .ok .non h'
  | .rt d h' => .ok d h'
  | .exc c _ h' => .exc c h'
  | _ => .stuck := rfl
theorem len_tup (xs : List D) : bLen [.tup xs] h = .ok (.int xs.length) h := rfl
end
theorem Rf.grew {h g : AH} {d : D} (b : Bel h.length d) : Rf h (.ok d (h ++ g)) (.ok d h) := .val rfl (fun n o e => .inl e) b
theorem Rf.grewX {h g : AH} {c : Str} : Rf h (.exc c (h ++ g)) (.exc c h) := .exc rfl (fun n o e => .inl e)
theorem seqAt_new (h : AH) (o : List D) : seqAt (h ++ [.lst o]) h.length = some o := by
  unfold seqAt
  rw [List.getElem?_append_right (Nat.le_refl _), Nat.sub_self]; rfl
theorem seqAt_app {h g : AH} {n : Nat} {xs : List D} (e : seqAt h n = some xs) : seqAt (h ++ g) n = some xs := by
  unfold seqAt at e ⊢
  have hn : n < h.length := by
    rcases Nat.lt_or_ge n h.length with z | z
    · exact z
    · rw [List.getElem?_eq_none z] at e; cases e
  rw [List.getElem?_append_left hn]; exact e
def isTup : D → Bool
  | .tup _ => true
  | _ => false
theorem bAll_new (h : AH) (xs : List D) (f : D → Bool) : bAll [.ref h.length] (h ++ [.lst (xs.map fun x => .bl (f x))]) = .ok (.bl (xs.all f)) (h ++ [.lst (xs.map fun x => .bl (f x))]) := by
  unfold bAll
  dsimp only
  rw [seqAt_new]
  have e2 : blsOf (xs.map fun x => D.bl (f x)) = some (xs.map f) := by
    have := blsOf_map (xs.map f)
    rw [List.map_map] at this
    exact this
  simp only [Option.bind_some, e2, List.all_map]
  rfl
/-- [f(x) for x in items], f pure -/
theorem lc_map {G : AH → Prop} {S : Fn} {f : D → D} {h : AH} (hG : G h) : ∀ (ds acc : List D) (ae : AE), (∀ d ∈ ds, S [d] h = .ok (f d) h) → acc.length + ds.length ≤ 16777216 → 0 < ae.length →
    lcL G (gN 0) tY (eCall 1 S (aCons (eVar 0) aNil)) ds acc ae h = .ok (acc ++ ds.map f) h
  | [], acc, ae, _, _, _ => by unfold lcL; rw [if_pos hG]; simp
  | d :: ds, acc, ae, hf, hl, h0 => by
    unfold lcL
    have hl' : acc.length < 16777216 := by simp at hl; omega
    rw [if_pos ⟨hG, hl'⟩]
    have e0 : (ae.set 0 (some d))[0]? = some (some d) := by
      rw [List.getElem?_set]; simp [h0]
    simp only [ev_gN, bind_ok, ev_tY, if_true, ev_call, ev_acons, ev_anil, ev_var, e0, List.length_cons, List.length_nil, hf d (List.mem_cons_self ..)]
    rw [lc_map hG ds (acc ++ [f d]) _ (fun x hx => hf x (List.mem_cons_of_mem _ hx)) (by simp at hl ⊢; omega) (by simpa using h0)]
    simp
theorem mkLst_ok {ds : List D} {h : AH} (hl : ds.length ≤ 16777216) : mkLst ds h = .ok (.ref h.length) (h ++ [.lst ds]) := by unfold mkLst; rw [if_pos hl]
theorem lc_call {S : Fn} {f : D → D} {F : ME} {d : D} {xs : List D} {ae : AE} {h : AH} (hF : F ae h = .ok d h) (hx : itemsOf h d = some xs) (hd : ∀ ys, d ≠ .kl ys) (hl : xs.length ≤ 16777216) (hf : ∀ x ∈ xs, S [x] h = .ok (f x) h) :
    eLC (iSeq F) [none] (gN 0) tY (eCall 1 S (aCons (eVar 0) aNil)) ae h = .ok (.ref h.length) (h ++ [.lst (xs.map f)]) := by
  have fin : ∀ it : AIt, it.items = xs → it.guard h → ((noX (lcL it.guard (gN 0) tY (eCall 1 S (aCons (eVar 0) aNil)) it.items [] (subA [none] ae) h)).bind mkLst) = .ok (.ref h.length) (h ++ [.lst (xs.map f)]) := by
    intro it hi hg
    rw [hi, lc_map (G := it.guard) (S := S) (f := f) (h := h) hg xs [] (subA [none] ae) hf (by simpa using hl) (by simp [subA])]
    simp only [noX_ok, bind_ok, List.nil_append]
    exact mkLst_ok (by simpa using hl)
  rw [ev_lc, ev_iseq, hF, bind_ok]
  cases d with
  | tup ys =>
    have e : some ys = some xs := hx
    cases e
    exact fin (.tup _) rfl trivial
  | ref n =>
    have e : seqAt h n = some xs := hx
    simp only [e]
    exact fin (.lst n xs) rfl e
  | kl ys => exact absurd rfl (hd ys)
  | _ => cases hx
theorem sum_nn : ∀ {ws : List Int}, (∀ w ∈ ws, 0 ≤ w) → 0 ≤ ws.sum
  | [], _ => Int.le_refl _
  | w :: ws, h => by
    have := h w (List.mem_cons_self ..)
    have := sum_nn (ws := ws) fun v hv => h v (List.mem_cons_of_mem _ hv)
    rw [List.sum_cons]; omega
/-- [e for t in items], e pure -/
theorem lc_inv {G : AH → Prop} {g : MG} {F : ME} {f : D → D} {h : AH} (P : AE → Prop) (hG : G h) : ∀ (ds acc : List D) (ae : AE), P ae → (∀ d ∈ ds, ∀ ae, P ae → ∃ ae1, g d ae h = .ok ae1 h ∧ P ae1 ∧ F ae1 h = .ok (f d) h) → acc.length + ds.length ≤ 16777216 →
    lcL G g tY F ds acc ae h = .ok (acc ++ ds.map f) h
  | [], acc, ae, _, _, _ => by unfold lcL; rw [if_pos hG]; simp
  | d :: ds, acc, ae, hp, hf, hl => by
    obtain ⟨ae1, e1, p1, e2⟩ := hf d (List.mem_cons_self ..) ae hp
    unfold lcL
    have hl' : acc.length < 16777216 := by simp at hl; omega
    rw [if_pos ⟨hG, hl'⟩, e1]
    simp only [bind_ok, ev_tY, if_true, e2]
    rw [lc_inv P hG ds (acc ++ [f d]) ae1 p1 (fun x hx => hf x (List.mem_cons_of_mem _ hx)) (by simp at hl ⊢; omega)]
    simp
theorem lc_seq {I : MI} {it : AIt} {sub : List (Option Nat)} {g : MG} {F : ME} {f : D → D} {ae : AE} {h h1 : AH} (P : AE → Prop) (hI : I ae h = .ok it h1) (hG : it.guard h1) (hp : P (subA sub ae)) (hf : ∀ d ∈ it.items, ∀ ae, P ae → ∃ ae1, g d ae h1 = .ok ae1 h1 ∧ P ae1 ∧ F ae1 h1 = .ok (f d) h1) (hl : it.items.length ≤ 16777216) :
    eLC I sub g tY F ae h = .ok (.ref h1.length) (h1 ++ [.lst (it.items.map f)]) := by
  rw [ev_lc, hI, bind_ok, lc_inv P hG it.items [] _ hp hf (by simpa using hl)]
  simp only [noX_ok, bind_ok, List.nil_append]
  exact mkLst_ok (by simpa using hl)
/-! ### the text's own facts -/
def Vl (mg : Str → Option Value) (c : Cl) (u : Value) : Prop := match c with
  | .b n => u = .type n
  | .o x => mg x = some u
theorem kitmk {K : PySem.W.Frag} {mg : Str → Option Value} {c d : Cl} {tu cu t v : Value} {b : Bool} (e : PySem.W.kitOne K tu cu = some b) (hc : Vl mg c tu) (hd : Vl mg d cu) (h1 : ClV mg c t) (h2 : ClV mg d v) : PySem.W.kitOne K t v = some b := by
  have f : ∀ {c : Cl} {u t : Value}, Vl mg c u → ClV mg c t → u = t := by
    intro c u t h1 h2
    cases c with
    | b n => exact (show u = _ from h1).trans (show t = _ from h2).symm
    | o x =>
      obtain ⟨a, rfl, m⟩ := h2
      have h1' : mg x = some u := h1
      rw [m] at h1'
      exact (Option.some.inj h1').symm
  rw [← f hc h1, ← f hd h2]
  exact e
theorem kits_nil {K : PySem.W.Frag} {mg : Str → Option Value} : KitsOk K mg [] := ⟨fun p hp => (nomatch hp), fun p hp => (nomatch hp)⟩
theorem kits_cons {K : PySem.W.Frag} {mg : Str → Option Value} {c d : Cl} {tu cu : Value} {b : Bool} {kt : Kits} (e : PySem.W.kitOne K tu cu = some b) (hc : Vl mg c tu) (hd : Vl mg d cu) (hx : ∀ x C, c = .o x → mg x = some (.ref C) → XCls K C) (r : KitsOk K mg kt) : KitsOk K mg ((c, d, b) :: kt) :=
  ⟨fun p hp t v h1 h2 => by
    rcases List.mem_cons.mp hp with rfl | hp
    · exact kitmk e hc hd h1 h2
    · exact r.one p hp t v h1 h2, fun p hp x C e' m => by
    rcases List.mem_cons.mp hp with rfl | hp
    · exact hx x C e' m
    · exact r.xc p hp x C e' m⟩
theorem noOwn {K : PySem.W.Frag} {mg : Str → Option Value} {n : String} : ∀ x C, Cl.b n = .o x → mg x = some (.ref C) → XCls K C := fun _ _ e => nomatch e
theorem isOwn {K : PySem.W.Frag} {mg : Str → Option Value} {y : Str} {a : Addr} (m : mg y = some (.ref a)) (k : XCls K a) : ∀ x C, Cl.o y = .o x → mg x = some (.ref C) → XCls K C := fun x C e m' => by
  cases e
  rw [m] at m'
  cases m'
  exact k
theorem gc_int {K : PySem.W.Frag} {h : Heap} {mg : Str → Option Value} {x : Str} {i : Int} {t : Tok} (X : K.In h) (G : h.Ns mainGlobals mg) (e : PySem.W.nsIn K mainGlobals x = some (some (.int i t))) : GC K mg x (.int i) :=
  ⟨_, .int i, PySem.W.mg_of X G e, ⟨t, rfl⟩, fun _ _ => .int i⟩
end L2
set_option hygiene false in
local macro_rules | `(tactic| simp! [$args,*]) => `(tactic| simp only [ev_seq, ev_nx, ev_bk, ev_ct, ev_retN, ev_ret, ev_expr, ev_if, ev_asg, ev_gN, ev_gS, ev_gT, ev_gsC, ev_gsN, ev_par, ev_aug, ev_raise, ev_var, ev_c, ev_op, ev_un, ev_anil, ev_acons, ev_fn, ev_call, ev_m, ev_m0, ev_and, ev_or, ev_not, ev_ife, ev_tof, ev_tan, ev_to, ev_tno, ev_tY, ev_asB, ev_lt, ev_le, ev_gt, ev_ge, ev_min, ev_gI, ev_neg, ev_abs, ev_tup1, ev_tup2, ev_tup3, ev_tup4, ev_tup5, ev_fnD, gAdd_int, gEq_int, bind_ok, bind_exc, bind_stuck, toS_ok, toS_exc, then_nx, then_rt, then_exc, then_bk, then_ct, loop_nx, loop_rt, loop_bk, loop_ct, noX_ok, List.map_cons, List.map_nil, List.cons_append, List.nil_append, List.length_cons, List.length_nil, List.set_cons_zero, List.set_cons_succ, List.getElem?_cons_zero, List.getElem?_cons_succ, Nat.reduceAdd, Nat.reduceSub, List.replicate, if_true, if_false, reduceIte, Bool.not_true, Bool.not_false, Nat.zero_add, Nat.reduceLeDiff, Bool.false_eq_true, Int.cast_ofNat_Int, Int.reduceBEq, Int.reduceLT, Int.reduceLE, Int.reduceAdd, Int.reduceSub, Int.reduceMul, decide_true, decide_false, Nat.reduceEqDiff, $args,*])

set_option Elab.async false
set_option linter.all false
set_option maxRecDepth 100000
namespace L2
open PySem PySem.Spec PyProof.Rows
/-! ### {} -/
section
variable {K : PySem.W.Frag} {mg : Str → Option Value} {X : Cx} {ES : St → XK} {pos : Pos}
end
end L2

set_option Elab.async false
set_option linter.all false
set_option maxRecDepth 100000
set_option maxHeartbeats 1000000
namespace L2
open PySem PySem.Spec PyProof.Rows
variable {K : PySem.W.Frag} {mg : Str → Option Value}
theorem rels_rep {ρ : List Addr} {H : Hp} {xs : List D} {vs : List V} (r : RelDs K mg ρ H xs vs) : ∀ n : Nat, RelDs K mg ρ H (List.replicate n xs).flatten (List.replicate n vs).flatten
  | 0 => .nil
  | n + 1 => by
    rw [List.replicate_succ, List.replicate_succ, List.flatten_cons, List.flatten_cons]
    exact r.append (rels_rep r n)
theorem opd_rep : OpD K mg rRep gRep := fun ρ h H dx dy x y Q E w rx ry p => by
  unfold gRep at p
  split at p
  · cases rx with
    | ref ea =>
      cases ry with
      | int =>
        split at p
        · rename_i xs e1
          split at p
          · rename_i hl
            obtain ⟨vs, q1, r1⟩ := w.ob _ _ _ ea e1
            exact ⟨_, _, vs, rfl, rfl, q1, hl.1, hl.2.1, by rw [← r1.len]; exact hl.2.2, fun p' hp => post_lst w (rels_rep r1 _) hp p⟩
          · exact p.elim
        · exact p.elim
  · exact p.elim
end L2

set_option Elab.async false
set_option linter.all false
set_option maxRecDepth 100000
set_option maxHeartbeats 4000000
namespace KK
open PySem PySem.Spec PyProof.Rows L2
theorem bo_abs : bootBuiltins "abs" = some (.builtin "abs") := by decide +kernel
theorem bo_all : bootBuiltins "all" = some (.builtin "all") := by decide +kernel
theorem bo_bool : bootBuiltins "bool" = some (.type "bool") := by decide +kernel
theorem bo_int : bootBuiltins "int" = some (.type "int") := by decide +kernel
theorem bo_isinstance : bootBuiltins "isinstance" = some (.builtin "isinstance") := by decide +kernel
theorem bo_len : bootBuiltins "len" = some (.builtin "len") := by decide +kernel
theorem bo_list : bootBuiltins "list" = some (.type "list") := by decide +kernel
theorem bo_max : bootBuiltins "max" = some (.builtin "max") := by decide +kernel
theorem bo_min : bootBuiltins "min" = some (.builtin "min") := by decide +kernel
theorem bo_sum : bootBuiltins "sum" = some (.builtin "sum") := by decide +kernel
theorem bo_tuple : bootBuiltins "tuple" = some (.type "tuple") := by decide +kernel
def top (i : Nat) : Stmt := PySem.Challenge.pw_weightrooms_k27_floors.main.body.getD i (.Pass ⟨0, 0, 0, 0⟩)
abbrev s_law_feed : Stmt := top 30
theorem sc_law_feed : FnScope ["_law_script", "_law_k"] ["_law_script", "_law_k"] (defScope s_law_feed) := ⟨rfl, rfl, rfl, by decide +kernel, rfl, by decide +kernel, by decide +kernel⟩
abbrev s_law_next : Stmt := top 31
theorem sc_law_next : FnScope ["_law_feed_here", "_law_many", "_law_digit", "_law_mixed"] ["_law_feed_here", "_law_many"] (defScope s_law_next) := ⟨rfl, rfl, rfl, by decide +kernel, rfl, by decide +kernel, by decide +kernel⟩
abbrev s_law_low : Stmt := top 33
theorem sc_law_low : FnScope ["_law_top", "_law_bottom", "_law_one", "_law_two"] ["_law_top", "_law_bottom"] (defScope s_law_low) := ⟨rfl, rfl, rfl, by decide +kernel, rfl, by decide +kernel, by decide +kernel⟩
abbrev s_law_great : Stmt := top 32
theorem sc_law_great : FnScope ["_law_feed_here", "_law_far", "_law_number", "_law_k"] ["_law_feed_here", "_law_far"] (defScope s_law_great) := ⟨rfl, rfl, rfl, by decide +kernel, rfl, by decide +kernel, by decide +kernel⟩
abbrev s_law_room : Stmt := top 34
theorem sc_law_room : FnScope ["_law_feed_here", "_law_way", "_law_left", "_law_top", "_law_wide", "_law_high", "_law_far"] ["_law_feed_here"] (defScope s_law_room) := ⟨rfl, rfl, rfl, by decide +kernel, rfl, by decide +kernel, by decide +kernel⟩
abbrev s_law_weights : Stmt := top 35
theorem sc_law_weights : FnScope ["_law_script", "_law_at", "_law_most_here", "_law_feed_here", "_law_many", "_law_more", "_law_style", "_law_some", "_law_k", "_law_weight"] ["_law_script", "_law_at", "_law_most_here"] (defScope s_law_weights) := ⟨rfl, rfl, rfl, by decide +kernel, rfl, by decide +kernel, by decide +kernel⟩
abbrev s_is_whole : Stmt := top 10
theorem sc_is_whole : FnScope ["thing"] ["thing"] (defScope s_is_whole) := ⟨rfl, rfl, rfl, by decide +kernel, rfl, by decide +kernel, by decide +kernel⟩
abbrev s_common_divisor : Stmt := top 11
theorem sc_common_divisor : FnScope ["one", "other"] ["one", "other"] (defScope s_common_divisor) := ⟨rfl, rfl, rfl, by decide +kernel, rfl, by decide +kernel, by decide +kernel⟩
abbrev s_is_fraction : Stmt := top 12
theorem sc_is_fraction : FnScope ["thing", "top", "bottom"] ["thing"] (defScope s_is_fraction) := ⟨rfl, rfl, rfl, by decide +kernel, rfl, by decide +kernel, by decide +kernel⟩
abbrev s_is_box : Stmt := top 20
theorem sc_is_box : FnScope ["thing"] ["thing"] (defScope s_is_box) := ⟨rfl, rfl, rfl, by decide +kernel, rfl, by decide +kernel, by decide +kernel⟩
abbrev s_check_box : Stmt := top 21
theorem sc_check_box : FnScope ["thing"] ["thing"] (defScope s_check_box) := ⟨rfl, rfl, rfl, by decide +kernel, rfl, by decide +kernel, by decide +kernel⟩
abbrev s_is_weight : Stmt := top 22
theorem sc_is_weight : FnScope ["thing"] ["thing"] (defScope s_is_weight) := ⟨rfl, rfl, rfl, by decide +kernel, rfl, by decide +kernel, by decide +kernel⟩
abbrev s_check_weights : Stmt := top 23
theorem sc_check_weights : FnScope ["thing"] ["thing"] (defScope s_check_weights) := ⟨rfl, rfl, rfl, by decide +kernel, rfl, by decide +kernel, by decide +kernel⟩
abbrev s_is_less : Stmt := top 16
theorem sc_is_less : FnScope ["one", "other"] ["one", "other"] (defScope s_is_less) := ⟨rfl, rfl, rfl, by decide +kernel, rfl, by decide +kernel, by decide +kernel⟩
abbrev s_greatest_of : Stmt := top 17
theorem sc_greatest_of : FnScope ["fractions", "found", "one"] ["fractions"] (defScope s_greatest_of) := ⟨rfl, rfl, rfl, by decide +kernel, rfl, by decide +kernel, by decide +kernel⟩
abbrev s_fraction : Stmt := top 13
theorem sc_fraction : FnScope ["top", "bottom", "divisor"] ["top", "bottom"] (defScope s_fraction) := ⟨rfl, rfl, rfl, by decide +kernel, rfl, by decide +kernel, by decide +kernel⟩
abbrev s_times : Stmt := top 14
theorem sc_times : FnScope ["one", "other"] ["one", "other"] (defScope s_times) := ⟨rfl, rfl, rfl, by decide +kernel, rfl, by decide +kernel, by decide +kernel⟩
abbrev s_long_way : Stmt := top 24
theorem sc_long_way : FnScope ["box"] ["box"] (defScope s_long_way) := ⟨rfl, rfl, rfl, by decide +kernel, rfl, by decide +kernel, by decide +kernel⟩
abbrev s_over : Stmt := top 15
theorem sc_over : FnScope ["one", "other"] ["one", "other"] (defScope s_over) := ⟨rfl, rfl, rfl, by decide +kernel, rfl, by decide +kernel, by decide +kernel⟩
abbrev s_shape : Stmt := top 25
theorem sc_shape : FnScope ["box"] ["box"] (defScope s_shape) := ⟨rfl, rfl, rfl, by decide +kernel, rfl, by decide +kernel, by decide +kernel⟩
abbrev s_thinness : Stmt := top 27
theorem sc_thinness : FnScope ["room", "weight", "whole"] ["room", "weight", "whole"] (defScope s_thinness) := ⟨rfl, rfl, rfl, by decide +kernel, rfl, by decide +kernel, by decide +kernel⟩
abbrev s_floor_of : Stmt := top 28
theorem sc_floor_of : FnScope ["room", "weights"] ["room", "weights"] (defScope s_floor_of) := ⟨rfl, rfl, rfl, by decide +kernel, rfl, by decide +kernel, by decide +kernel⟩
abbrev s_law_long : Stmt := top 36
theorem sc_law_long : FnScope ["_law_box"] ["_law_box"] (defScope s_law_long) := ⟨rfl, rfl, rfl, by decide +kernel, rfl, by decide +kernel, by decide +kernel⟩
abbrev s_law_most : Stmt := top 38
theorem sc_law_most : FnScope ["_law_some", "_law_found", "_law_one"] ["_law_some"] (defScope s_law_most) := ⟨rfl, rfl, rfl, by decide +kernel, rfl, by decide +kernel, by decide +kernel⟩
abbrev s_law_due : Stmt := top 39
theorem sc_law_due : FnScope ["_law_room_here", "_law_weights_here", "_law_wide", "_law_high", "_law_short", "_law_found", "_law_weight", "_law_top"] ["_law_room_here", "_law_weights_here"] (defScope s_law_due) := ⟨rfl, rfl, rfl, by decide +kernel, rfl, by decide +kernel, by decide +kernel⟩
abbrev s_law_class : Stmt := top 40
theorem sc_law_class : FnScope ["_law_room_here", "_law_weights_here", "_law_caught", "e", "_law_some"] ["_law_room_here", "_law_weights_here"] (defScope s_law_class) := ⟨rfl, rfl, rfl, by decide +kernel, rfl, by decide +kernel, by decide +kernel⟩
abbrev s_law : Stmt := top 41
theorem sc_law : FnScope ["_law_script", "_law_feed_here", "_law_room_here", "_law_weights_here", "_law_kept", "_law_at", "_law_bad", "_law_many"] ["_law_script"] (defScope s_law) := ⟨rfl, rfl, rfl, by decide +kernel, rfl, by decide +kernel, by decide +kernel⟩
def kits : Kits := [((.b "NoneType"), (.o "NoBox"), false), ((.b "bool"), (.o "NoBox"), false), ((.b "int"), (.o "NoBox"), false), ((.b "str"), (.o "NoBox"), false), ((.b "tuple"), (.o "NoBox"), false), ((.b "list"), (.o "NoBox"), false), ((.b "dict"), (.o "NoBox"), false), ((.o "NoFraction"), (.o "NoBox"), false), ((.o "NoBox"), (.o "NoBox"), true), ((.o "NoWeights"), (.o "NoBox"), false), ((.o "TooMany"), (.o "NoBox"), false), ((.b "NoneType"), (.o "NoFraction"), false), ((.b "bool"), (.o "NoFraction"), false), ((.b "int"), (.o "NoFraction"), false), ((.b "str"), (.o "NoFraction"), false), ((.b "tuple"), (.o "NoFraction"), false), ((.b "list"), (.o "NoFraction"), false), ((.b "dict"), (.o "NoFraction"), false), ((.o "NoFraction"), (.o "NoFraction"), true), ((.o "NoBox"), (.o "NoFraction"), false), ((.o "NoWeights"), (.o "NoFraction"), false), ((.o "TooMany"), (.o "NoFraction"), false), ((.b "NoneType"), (.o "NoRule"), false), ((.b "bool"), (.o "NoRule"), false), ((.b "int"), (.o "NoRule"), false), ((.b "str"), (.o "NoRule"), false), ((.b "tuple"), (.o "NoRule"), false), ((.b "list"), (.o "NoRule"), false), ((.b "dict"), (.o "NoRule"), false), ((.o "NoFraction"), (.o "NoRule"), false), ((.o "NoBox"), (.o "NoRule"), false), ((.o "NoWeights"), (.o "NoRule"), false), ((.o "TooMany"), (.o "NoRule"), false), ((.b "NoneType"), (.o "NoText"), false), ((.b "bool"), (.o "NoText"), false), ((.b "int"), (.o "NoText"), false), ((.b "str"), (.o "NoText"), false), ((.b "tuple"), (.o "NoText"), false), ((.b "list"), (.o "NoText"), false), ((.b "dict"), (.o "NoText"), false), ((.o "NoFraction"), (.o "NoText"), false), ((.o "NoBox"), (.o "NoText"), false), ((.o "NoWeights"), (.o "NoText"), false), ((.o "TooMany"), (.o "NoText"), false), ((.b "NoneType"), (.o "NoWay"), false), ((.b "bool"), (.o "NoWay"), false), ((.b "int"), (.o "NoWay"), false), ((.b "str"), (.o "NoWay"), false), ((.b "tuple"), (.o "NoWay"), false), ((.b "list"), (.o "NoWay"), false), ((.b "dict"), (.o "NoWay"), false), ((.o "NoFraction"), (.o "NoWay"), false), ((.o "NoBox"), (.o "NoWay"), false), ((.o "NoWeights"), (.o "NoWay"), false), ((.o "TooMany"), (.o "NoWay"), false), ((.b "NoneType"), (.o "NoWeights"), false), ((.b "bool"), (.o "NoWeights"), false), ((.b "int"), (.o "NoWeights"), false), ((.b "str"), (.o "NoWeights"), false), ((.b "tuple"), (.o "NoWeights"), false), ((.b "list"), (.o "NoWeights"), false), ((.b "dict"), (.o "NoWeights"), false), ((.o "NoFraction"), (.o "NoWeights"), false), ((.o "NoBox"), (.o "NoWeights"), false), ((.o "NoWeights"), (.o "NoWeights"), true), ((.o "TooMany"), (.o "NoWeights"), false), ((.b "NoneType"), (.o "TooMany"), false), ((.b "bool"), (.o "TooMany"), false), ((.b "int"), (.o "TooMany"), false), ((.b "str"), (.o "TooMany"), false), ((.b "tuple"), (.o "TooMany"), false), ((.b "list"), (.o "TooMany"), false), ((.b "dict"), (.o "TooMany"), false), ((.o "NoFraction"), (.o "TooMany"), false), ((.o "NoBox"), (.o "TooMany"), false), ((.o "NoWeights"), (.o "TooMany"), false), ((.o "TooMany"), (.o "TooMany"), true), ((.b "NoneType"), (.b "bool"), false), ((.b "bool"), (.b "bool"), true), ((.b "int"), (.b "bool"), false), ((.b "str"), (.b "bool"), false), ((.b "tuple"), (.b "bool"), false), ((.b "list"), (.b "bool"), false), ((.b "dict"), (.b "bool"), false), ((.o "NoFraction"), (.b "bool"), false), ((.o "NoBox"), (.b "bool"), false), ((.o "NoWeights"), (.b "bool"), false), ((.o "TooMany"), (.b "bool"), false), ((.b "NoneType"), (.b "int"), false), ((.b "bool"), (.b "int"), true), ((.b "int"), (.b "int"), true), ((.b "str"), (.b "int"), false), ((.b "tuple"), (.b "int"), false), ((.b "list"), (.b "int"), false), ((.b "dict"), (.b "int"), false), ((.o "NoFraction"), (.b "int"), false), ((.o "NoBox"), (.b "int"), false), ((.o "NoWeights"), (.b "int"), false), ((.o "TooMany"), (.b "int"), false), ((.b "NoneType"), (.b "list"), false), ((.b "bool"), (.b "list"), false), ((.b "int"), (.b "list"), false), ((.b "str"), (.b "list"), false), ((.b "tuple"), (.b "list"), false), ((.b "list"), (.b "list"), true), ((.b "dict"), (.b "list"), false), ((.o "NoFraction"), (.b "list"), false), ((.o "NoBox"), (.b "list"), false), ((.o "NoWeights"), (.b "list"), false), ((.o "TooMany"), (.b "list"), false), ((.b "NoneType"), (.b "tuple"), false), ((.b "bool"), (.b "tuple"), false), ((.b "int"), (.b "tuple"), false), ((.b "str"), (.b "tuple"), false), ((.b "tuple"), (.b "tuple"), true), ((.b "list"), (.b "tuple"), false), ((.b "dict"), (.b "tuple"), false), ((.o "NoFraction"), (.b "tuple"), false), ((.o "NoBox"), (.b "tuple"), false), ((.o "NoWeights"), (.b "tuple"), false), ((.o "TooMany"), (.b "tuple"), false)]
def mro_RoomError : List Str := ["NoFraction", "NoBox", "NoWeights", "TooMany"]
def c_MOST_WEIGHTS : D := (.int 40)
structure Txt (K : PySem.W.Frag) (mg : Str → Option Value) (a_RoomError : Addr) (a_NoFraction : Addr) (a_NoBox : Addr) (a_NoWay : Addr) (a_NoWeights : Addr) (a_TooMany : Addr) (a_NoRule : Addr) (a_NoText : Addr) : Prop where
  g_MOST_WEIGHTS : GC K mg "MOST_WEIGHTS" c_MOST_WEIGHTS
  m_NoBox : mg "NoBox" = some (.ref a_NoBox)
  m_NoFraction : mg "NoFraction" = some (.ref a_NoFraction)
  m_NoRule : mg "NoRule" = some (.ref a_NoRule)
  m_NoText : mg "NoText" = some (.ref a_NoText)
  m_NoWay : mg "NoWay" = some (.ref a_NoWay)
  m_NoWeights : mg "NoWeights" = some (.ref a_NoWeights)
  m_RoomError : mg "RoomError" = some (.ref a_RoomError)
  m_TooMany : mg "TooMany" = some (.ref a_TooMany)
  n_abs : mg "abs" = none
  n_all : mg "all" = none
  n_bool : mg "bool" = none
  n_int : mg "int" = none
  n_isinstance : mg "isinstance" = none
  n_len : mg "len" = none
  n_list : mg "list" = none
  n_max : mg "max" = none
  n_min : mg "min" = none
  n_range : mg "range" = none
  n_sum : mg "sum" = none
  n_tuple : mg "tuple" = none
  h_RoomError : XHand K a_RoomError
  r_RoomError : ∀ c ∈ mro_RoomError, ∀ Ce, mg c = some (.ref Ce) → PySem.W.mroIn K Ce (.ref a_RoomError) = some true
  x_NoFraction : PySem.W.excIn K a_NoFraction bmVE "ValueError.__new__" = true
  x_NoBox : PySem.W.excIn K a_NoBox bmVE "ValueError.__new__" = true
  x_NoWeights : PySem.W.excIn K a_NoWeights bmVE "ValueError.__new__" = true
  x_TooMany : PySem.W.excIn K a_TooMany bmVE "ValueError.__new__" = true
  kits : KitsOk K mg kits
/-! boxes -/
structure Bx where
  l : Rat
  t : Rat
  w : Rat
  h : Rat
structure Bx.Ok (b : Bx) : Prop where
  w : 0 < b.w
  h : 0 < b.h
structure Bx.Sz (n : Nat) (b : Bx) : Prop where
  l : L2.Sz n b.l
  t : L2.Sz n b.t
  w : L2.Sz n b.w
  h : L2.Sz n b.h
def bD (b : Bx) : D := .tup [fD b.l, fD b.t, fD b.w, fD b.h]
/-- what may be asked of: the kinds of it and, so deep, of what is in it, are known -/
def kn (h : AH) : D → Bool
  | .exc _ => false
  | d => (tyD h d).isSome
def askB : Nat → AH → D → Bool
  | k + 1, h, .tup xs => xs.all (askB k h)
  | _, h, d => kn h d
def isI : D → Bool
  | .int _ => true
  | _ => false
def isFr : D → Bool
  | .tup [.int a, .int b] => decide (1 ≤ b) && decide (Int.gcd a b = 1)
  | _ => false
def posTop : D → Bool
  | .tup (.int a :: _) => decide (0 < a)
  | _ => false
def isBx : D → Bool
  | .tup [a, b, c, d] => isFr a && (isFr b && (isFr c && (isFr d && (posTop c && posTop d))))
  | _ => false
def S_is_box : Fn := fun ds h => match ds with
  | [d] => if askB 2 h d = true then .ok (.bl (isBx d)) h else .stuck
  | _ => .stuck
def S_check_box : Fn := fun ds h => match ds with
  | [d] => if askB 2 h d = true then (if isBx d = true then .ok .non h else .exc "NoBox" h) else .stuck
  | _ => .stuck
def isWt : D → Bool
  | .int i => decide (1 ≤ i)
  | _ => false
/-- what a thing is as weights -/
def chkW (h : AH) (d : D) : R D := match d with
  | .ref n => match seqAt h n with
    | some xs => if xs.length ≤ 1000 ∧ xs.all (kn h) = true then
        (if xs = [] then .exc "NoWeights" h else if xs.all isWt = true then (if xs.length ≤ 40 then .ok .non h else .exc "TooMany" h) else .exc "NoWeights" h) else .stuck
    | none => if kn h d = true then .exc "NoWeights" h else .stuck
  | d => if kn h d = true then .exc "NoWeights" h else .stuck
def S_check_weights : Fn := fun ds h => match ds with
  | [d] => chkW h d
  | _ => .stuck
def wD (a : Bool) : D := .str (if a then "across" else "down")
/-- shares: one after another, what stands ahead -/
def shr (start length : Rat) (whole : Int) : Int → List Int → List (Rat × Rat)
  | _, [] => []
  | ahead, w :: ws => (start + length * ((ahead : Rat) / (whole : Rat)), length * ((w : Rat) / (whole : Rat))) :: shr start length whole (ahead + w) ws
def parts (b : Bx) (a : Bool) (ws : List Int) : List Bx := if a then (shr b.l b.w ws.sum 0 ws).map (fun p => ⟨p.1, b.t, p.2, b.h⟩) else (shr b.t b.h ws.sum 0 ws).map (fun p => ⟨b.l, p.1, b.w, p.2⟩)
section
variable {P : Program} {w : World} {K : PySem.W.Frag} {mg : Str → Option Value} {base : Heap} {a_RoomError a_NoFraction a_NoBox a_NoWay a_NoWeights a_TooMany a_NoRule a_NoText : Addr}
noncomputable def F_law_feed : MS :=
  (sSeq (sIf (tOf (eOp (gEq false) (eFn bLen (aCons (eVar 0) aNil)) (eC (.int 0)))) (sRet (eFn mkLst (aCons (eC (.int 0)) (aCons (eC (.int 0)) (aCons (eVar 1) aNil))))) sNx)
    (sRet (eFn mkLst (aCons (eOp gIx (eVar 0) (eOp gMod (eVar 1) (eFn bLen (aCons (eVar 0) aNil)))) (aCons (eC (.int 0)) (aCons (eVar 1) aNil))))))
noncomputable def G_law_feed : Fn := fnD 2 (F_law_feed)
theorem den_law_feed (T : Txt K mg a_RoomError a_NoFraction a_NoBox a_NoWay a_NoWeights a_TooMany a_NoRule a_NoText) (D : Def K mg "_law_feed" s_law_feed)  : Callee P w K mg base "_law_feed" (0 + 1) ["_law_script", "_law_k"] (spD K mg 2 (fnD 2 (F_law_feed))) :=
  D.okD sc_law_feed (fun _ _ _ _ _ _ us hl => match us, hl with | [_, _], _ => rfl) fun f cdv A outer s H E hr =>
    (dss_cons (ds_if (dt_cmp (eqDK (K := K) rfl hr.units) opd_eq (de_callB (lenKD (K := K) rfl) cd_len rfl T.n_len bo_len (da_cons (de_var 0) da_nil)) de_int (nomark _)) (dss_one (ds_ret (de_lst (da_cons de_int (da_cons de_int (da_cons (de_var 1) da_nil)))))) dss_nil)
      (dss_one (ds_ret (de_lst (da_cons (de_ix (ixK (K := K) rfl) opd_ix (de_var 0) (de_op op_modN od_mod (de_var 1) (de_callB (lenKD (K := K) rfl) cd_len rfl T.n_len bo_len (da_cons (de_var 0) da_nil))) (fun _ _ => rfl)) (da_cons de_int (da_cons (de_var 1) da_nil)))))))
noncomputable def F_law_next : MS :=
  (sSeq (sAsg (eOp gAdd (eOp gIx (eVar 0) (eC (.int 1))) (eC (.int 1))) (gS (eVar 0) (eC (.int 1)) wL))
    (sSeq (sIf (tOf (eOp gGe (eOp gIx (eVar 0) (eC (.int 0))) (eOp gPow (eC (.int 10)) (eC (.int 18))))) (sSeq (sAsg (eOp gMod (eOp gIx (eVar 0) (eC (.int 0))) (eVar 1)) (gN 2))
    (sSeq (sAsg (eOp gDiv (eOp gIx (eVar 0) (eC (.int 0))) (eVar 1)) (gS (eVar 0) (eC (.int 0)) wL))
    (sRet (eVar 2)))) sNx)
    (sSeq (sAsg (eOp gAdd (eOp gAdd (eOp gMod (eOp gIx (eVar 0) (eC (.int 0))) (eC (.int 1000003))) (eOp gMul (eC (.int 7919)) (eOp gIx (eVar 0) (eC (.int 2))))) (eOp gMul (eC (.int 104729)) (eOp gIx (eVar 0) (eC (.int 1))))) (gN 3))
    (sSeq (sAsg (eOp gMod (eOp gMul (eVar 3) (eC (.int 48271))) (eC (.int 2147483647))) (gN 3))
    (sRet (eOp gMod (eOp gMod (eOp gMul (eVar 3) (eOp gAdd (eOp gMod (eVar 3) (eC (.int 65521))) (eOp gIx (eVar 0) (eC (.int 1))))) (eC (.int 2147483629))) (eVar 1)))))))
noncomputable def G_law_next : Fn := fnD 4 (F_law_next)
theorem den_law_next (T : Txt K mg a_RoomError a_NoFraction a_NoBox a_NoWay a_NoWeights a_TooMany a_NoRule a_NoText) (D : Def K mg "_law_next" s_law_next)  : Callee P w K mg base "_law_next" (0 + 1) ["_law_feed_here", "_law_many"] (spD K mg 2 (fnD 4 (F_law_next))) :=
  D.okD sc_law_next (fun _ _ _ _ _ _ us hl => match us, hl with | [_, _], _ => rfl) fun f cdv A outer s H E hr =>
    (dss_cons (ds_asg (de_op (or_add (K := K) rfl) od_add (de_ix (ixK (K := K) rfl) opd_ix (de_var 0) de_int (fun _ _ => rfl)) de_int) (dg_sub (de_var 0) de_int set_list sd_list))
      (dss_cons (ds_if (dt_cmp op_ge od_ge (de_ix (ixK (K := K) rfl) opd_ix (de_var 0) de_int (fun _ _ => rfl)) (de_op op_pow od_pow de_int de_int) (nomark _)) (dss_cons (ds_set (i := 2) sc_law_next.nd rfl (by first | exact Or.inl rfl | exact Or.inr rfl) (de_op op_modN od_mod (de_ix (ixK (K := K) rfl) opd_ix (de_var 0) de_int (fun _ _ => rfl)) (de_var 1)))
      (dss_cons (ds_asg (de_op op_fdivB od_div (de_ix (ixK (K := K) rfl) opd_ix (de_var 0) de_int (fun _ _ => rfl)) (de_var 1)) (dg_sub (de_var 0) de_int set_list sd_list))
      (dss_one (ds_ret (de_var 2))))) dss_nil)
      (dss_cons (ds_set (i := 3) sc_law_next.nd rfl (by first | exact Or.inl rfl | exact Or.inr rfl) (de_op (or_add (K := K) rfl) od_add (de_op (or_add (K := K) rfl) od_add (de_op op_modN od_mod (de_ix (ixK (K := K) rfl) opd_ix (de_var 0) de_int (fun _ _ => rfl)) de_int) (de_op or_mul od_mul de_int (de_ix (ixK (K := K) rfl) opd_ix (de_var 0) de_int (fun _ _ => rfl)))) (de_op or_mul od_mul de_int (de_ix (ixK (K := K) rfl) opd_ix (de_var 0) de_int (fun _ _ => rfl)))))
      (dss_cons (ds_set (i := 3) sc_law_next.nd rfl (by first | exact Or.inl rfl | exact Or.inr rfl) (de_op op_modN od_mod (de_op or_mul od_mul (de_var 3) de_int) de_int))
      (dss_one (ds_ret (de_op op_modN od_mod (de_op op_modN od_mod (de_op or_mul od_mul (de_var 3) (de_op (or_add (K := K) rfl) od_add (de_op op_modN od_mod (de_var 3) de_int) (de_ix (ixK (K := K) rfl) opd_ix (de_var 0) de_int (fun _ _ => rfl)))) de_int) (de_var 1))))))))
noncomputable def F_law_low : MS :=
  (sSeq (sPar 2 3 (aCons (eFn bAbs (aCons (eVar 0) aNil)) (aCons (eFn bAbs (aCons (eVar 1) aNil)) aNil)))
    (sSeq (sWh (tOf (eOp gGt (eVar 3) (eC (.int 0)))) (sPar 2 3 (aCons (eVar 3) (aCons (eOp gMod (eVar 2) (eVar 3)) aNil))))
    (sSeq (sIf (tOf (eOp gLt (eVar 1) (eC (.int 0)))) (sAsg (eOp gMin (eC (.int 0)) (eVar 2)) (gN 2)) sNx)
    (sRet (eFn mkTup (aCons (eOp gDiv (eVar 0) (eVar 2)) (aCons (eOp gDiv (eVar 1) (eVar 2)) aNil)))))))
noncomputable def G_law_low : Fn := fnD 4 (F_law_low)
theorem den_law_low (T : Txt K mg a_RoomError a_NoFraction a_NoBox a_NoWay a_NoWeights a_TooMany a_NoRule a_NoText) (D : Def K mg "_law_low" s_law_low)  : Callee P w K mg base "_law_low" (0 + 1) ["_law_top", "_law_bottom"] (spD K mg 2 (fnD 4 (F_law_low))) :=
  D.okD sc_law_low (fun _ _ _ _ _ _ us hl => match us, hl with | [_, _], _ => rfl) fun f cdv A outer s H E hr =>
    (dss_cons (ds_par (i := 2) (j := 3) rfl sc_law_low.nd rfl rfl (by decide) rfl rfl (da_cons (de_callB call_abs cd_abs rfl T.n_abs bo_abs (da_cons (de_var 0) da_nil)) (da_cons (de_callB call_abs cd_abs rfl T.n_abs bo_abs (da_cons (de_var 1) da_nil)) da_nil)) rfl)
      (dss_cons (ds_while own1 (dt_cmp op_gt od_gt (de_var 3) de_int (nomark _)) (dss_one (ds_par (i := 2) (j := 3) rfl sc_law_low.nd rfl rfl (by decide) rfl rfl (da_cons (de_var 3) (da_cons (de_op op_modN od_mod (de_var 2) (de_var 3)) da_nil)) rfl)))
      (dss_cons (ds_if (dt_cmp op_lt od_lt (de_var 1) de_int (nomark _)) (dss_one (ds_set (i := 2) sc_law_low.nd rfl (by first | exact Or.inl rfl | exact Or.inr rfl) (de_op op_sub od_sub de_int (de_var 2)))) dss_nil)
      (dss_one (ds_ret (de_tup (da_cons (de_op op_fdivB od_div (de_var 0) (de_var 2)) (da_cons (de_op op_fdivB od_div (de_var 1) (de_var 2)) da_nil))))))))
noncomputable def B1_law_great (S_law_next : Fn) : MS :=
  (sAsg (eOp gAdd (eOp gMul (eVar 2) (eOp gPow (eC (.int 10)) (eC (.int 6)))) (eCall 2 S_law_next (aCons (eVar 0) (aCons (eOp gPow (eC (.int 10)) (eC (.int 6))) aNil)))) (gN 2))
noncomputable def F_law_great (S_law_next : Fn) : MS :=
  (sSeq (sAsg (eC (.int 0)) (gN 2))
    (sSeq (sFor (iRg1 (aCons (eC (.int 6)) aNil)) (gN 3) (B1_law_great S_law_next))
    (sRet (eOp gMin (eOp gMod (eVar 2) (eOp gAdd (eOp gMul (eC (.int 2)) (eVar 1)) (eC (.int 1)))) (eVar 1)))))
noncomputable def G_law_great : Fn := fnD 4 (F_law_great G_law_next)
theorem den_law_great (T : Txt K mg a_RoomError a_NoFraction a_NoBox a_NoWay a_NoWeights a_TooMany a_NoRule a_NoText) (D : Def K mg "_law_great" s_law_great) {S_law_next : Fn} (c_law_next : Callee P w K mg base "_law_next" 1 ["_law_feed_here", "_law_many"] (spD K mg 2 S_law_next)) : Callee P w K mg base "_law_great" (1 + 1) ["_law_feed_here", "_law_far"] (spD K mg 2 (fnD 4 (F_law_great S_law_next))) :=
  D.okD sc_law_great (fun _ _ _ _ _ _ us hl => match us, hl with | [_, _], _ => rfl) fun f cdv A outer s H E hr =>
    (dss_cons (ds_set (i := 2) sc_law_great.nd rfl (by first | exact Or.inl rfl | exact Or.inr rfl) de_int)
      (dss_cons (ds_for own1 rfl (di_range1 rfl T.n_range (da_cons de_int da_nil)) (dg_name (i := 3) sc_law_great.nd rfl (by first | exact Or.inl rfl | exact Or.inr rfl)) (dss_one (ds_set (i := 2) sc_law_great.nd rfl (by first | exact Or.inl rfl | exact Or.inr rfl) (de_op (or_add (K := K) rfl) od_add (de_op or_mul od_mul (de_var 2) (de_op op_pow od_pow de_int de_int)) (de_callF c_law_next (hr.mono (by omega)) rfl (passD_const pass1) (da_cons (de_var 0) (da_cons (de_op op_pow od_pow de_int de_int) da_nil)))))))
      (dss_one (ds_ret (de_op op_sub od_sub (de_op op_modN od_mod (de_var 2) (de_op (or_add (K := K) rfl) od_add (de_op or_mul od_mul de_int (de_var 1)) de_int)) (de_var 1))))))
noncomputable def F_law_room (S_law_next : Fn) (S_law_low : Fn) (S_law_great : Fn) : MS :=
  (sSeq (sAsg (eCall 2 S_law_next (aCons (eVar 0) (aCons (eC (.int 6)) aNil))) (gN 1))
    (sSeq (sPar 2 3 (aCons (eFn mkTup (aCons (eOp gMin (eCall 2 S_law_next (aCons (eVar 0) (aCons (eC (.int 19)) aNil))) (eC (.int 9))) (aCons (eC (.int 1)) aNil))) (aCons (eFn mkTup (aCons (eOp gMin (eCall 2 S_law_next (aCons (eVar 0) (aCons (eC (.int 19)) aNil))) (eC (.int 9))) (aCons (eC (.int 1)) aNil))) aNil)))
    (sSeq (sPar 4 5 (aCons (eFn mkTup (aCons (eOp gAdd (eC (.int 1)) (eCall 2 S_law_next (aCons (eVar 0) (aCons (eC (.int 12)) aNil)))) (aCons (eC (.int 1)) aNil))) (aCons (eFn mkTup (aCons (eOp gAdd (eC (.int 1)) (eCall 2 S_law_next (aCons (eVar 0) (aCons (eC (.int 12)) aNil)))) (aCons (eC (.int 1)) aNil))) aNil)))
    (sSeq (sIf (tOf (eOp (gEq false) (eVar 1) (eC (.int 1)))) (sAsg (eVar 4) (gN 5)) sNx)
    (sSeq (sIf (tOf (eOp (gEq false) (eVar 1) (eC (.int 2)))) (sAsg (eFn mkTup (aCons (eOp gAdd (eC (.int 1)) (eCall 2 S_law_next (aCons (eVar 0) (aCons (eC (.int 99)) aNil)))) (aCons (eC (.int 1)) aNil))) (gN 4)) sNx)
    (sSeq (sIf (tOf (eOp (gEq false) (eVar 1) (eC (.int 3)))) (sAsg (eFn mkTup (aCons (eOp gAdd (eC (.int 1)) (eCall 2 S_law_next (aCons (eVar 0) (aCons (eC (.int 99)) aNil)))) (aCons (eC (.int 1)) aNil))) (gN 5)) sNx)
    (sSeq (sIf (tOf (eOp (gEq false) (eVar 1) (eC (.int 4)))) (sSeq (sPar 2 3 (aCons (eCall 2 S_law_low (aCons (eOp gMin (eCall 2 S_law_next (aCons (eVar 0) (aCons (eC (.int 199)) aNil))) (eC (.int 99))) (aCons (eOp gAdd (eC (.int 1)) (eCall 2 S_law_next (aCons (eVar 0) (aCons (eC (.int 30)) aNil)))) aNil))) (aCons (eCall 2 S_law_low (aCons (eCall 2 S_law_next (aCons (eVar 0) (aCons (eC (.int 9)) aNil))) (aCons (eC (.int 7)) aNil))) aNil)))
    (sPar 4 5 (aCons (eCall 2 S_law_low (aCons (eOp gAdd (eC (.int 1)) (eCall 2 S_law_next (aCons (eVar 0) (aCons (eC (.int 99)) aNil)))) (aCons (eOp gAdd (eC (.int 1)) (eCall 2 S_law_next (aCons (eVar 0) (aCons (eC (.int 30)) aNil)))) aNil))) (aCons (eCall 2 S_law_low (aCons (eOp gAdd (eC (.int 1)) (eCall 2 S_law_next (aCons (eVar 0) (aCons (eC (.int 99)) aNil)))) (aCons (eC (.int 11)) aNil))) aNil)))) sNx)
    (sSeq (sIf (tOf (eOp (gEq false) (eVar 1) (eC (.int 5)))) (sSeq (sAsg (eOp gMin (eOp gPow (eC (.int 10)) (eC (.int 30))) (eC (.int 1))) (gN 6))
    (sSeq (sPar 2 3 (aCons (eCall 2 S_law_low (aCons (eCall 2 S_law_great (aCons (eVar 0) (aCons (eVar 6) aNil))) (aCons (eOp gAdd (eC (.int 1)) (eFn bAbs (aCons (eCall 2 S_law_great (aCons (eVar 0) (aCons (eOp gMin (eVar 6) (eC (.int 1))) aNil))) aNil))) aNil))) (aCons (eFn mkTup (aCons (eCall 2 S_law_great (aCons (eVar 0) (aCons (eVar 6) aNil))) (aCons (eC (.int 1)) aNil))) aNil)))
    (sPar 4 5 (aCons (eFn mkTup (aCons (eOp gAdd (eC (.int 1)) (eFn bAbs (aCons (eCall 2 S_law_great (aCons (eVar 0) (aCons (eOp gMin (eVar 6) (eC (.int 1))) aNil))) aNil))) (aCons (eC (.int 1)) aNil))) (aCons (eCall 2 S_law_low (aCons (eOp gAdd (eC (.int 1)) (eFn bAbs (aCons (eCall 2 S_law_great (aCons (eVar 0) (aCons (eOp gMin (eVar 6) (eC (.int 1))) aNil))) aNil))) (aCons (eVar 6) aNil))) aNil))))) sNx)
    (sRet (eFn mkTup (aCons (eVar 2) (aCons (eVar 3) (aCons (eVar 4) (aCons (eVar 5) aNil))))))))))))))
noncomputable def G_law_room : Fn := fnD 7 (F_law_room G_law_next G_law_low G_law_great)
theorem den_law_room (T : Txt K mg a_RoomError a_NoFraction a_NoBox a_NoWay a_NoWeights a_TooMany a_NoRule a_NoText) (D : Def K mg "_law_room" s_law_room) {S_law_next : Fn} (c_law_next : Callee P w K mg base "_law_next" 1 ["_law_feed_here", "_law_many"] (spD K mg 2 S_law_next)) {S_law_low : Fn} (c_law_low : Callee P w K mg base "_law_low" 1 ["_law_top", "_law_bottom"] (spD K mg 2 S_law_low)) {S_law_great : Fn} (c_law_great : Callee P w K mg base "_law_great" 2 ["_law_feed_here", "_law_far"] (spD K mg 2 S_law_great)) : Callee P w K mg base "_law_room" (2 + 1) ["_law_feed_here"] (spD K mg 1 (fnD 7 (F_law_room S_law_next S_law_low S_law_great))) :=
  D.okD sc_law_room (fun _ _ _ _ _ _ us hl => match us, hl with | [_], _ => rfl) fun f cdv A outer s H E hr =>
    (dss_cons (ds_set (i := 1) sc_law_room.nd rfl (by first | exact Or.inl rfl | exact Or.inr rfl) (de_callF c_law_next (hr.mono (by omega)) rfl (passD_const pass1) (da_cons (de_var 0) (da_cons de_int da_nil))))
      (dss_cons (ds_par (i := 2) (j := 3) rfl sc_law_room.nd rfl rfl (by decide) rfl rfl (da_cons (de_tup (da_cons (de_op op_sub od_sub (de_callF c_law_next (hr.mono (by omega)) rfl (passD_const pass1) (da_cons (de_var 0) (da_cons de_int da_nil))) de_int) (da_cons de_int da_nil))) (da_cons (de_tup (da_cons (de_op op_sub od_sub (de_callF c_law_next (hr.mono (by omega)) rfl (passD_const pass1) (da_cons (de_var 0) (da_cons de_int da_nil))) de_int) (da_cons de_int da_nil))) da_nil)) rfl)
      (dss_cons (ds_par (i := 4) (j := 5) rfl sc_law_room.nd rfl rfl (by decide) rfl rfl (da_cons (de_tup (da_cons (de_op (or_add (K := K) rfl) od_add de_int (de_callF c_law_next (hr.mono (by omega)) rfl (passD_const pass1) (da_cons (de_var 0) (da_cons de_int da_nil)))) (da_cons de_int da_nil))) (da_cons (de_tup (da_cons (de_op (or_add (K := K) rfl) od_add de_int (de_callF c_law_next (hr.mono (by omega)) rfl (passD_const pass1) (da_cons (de_var 0) (da_cons de_int da_nil)))) (da_cons de_int da_nil))) da_nil)) rfl)
      (dss_cons (ds_if (dt_cmp (eqDK (K := K) rfl hr.units) opd_eq (de_var 1) de_int (nomark _)) (dss_one (ds_set (i := 5) sc_law_room.nd rfl (by first | exact Or.inl rfl | exact Or.inr rfl) (de_var 4))) dss_nil)
      (dss_cons (ds_if (dt_cmp (eqDK (K := K) rfl hr.units) opd_eq (de_var 1) de_int (nomark _)) (dss_one (ds_set (i := 4) sc_law_room.nd rfl (by first | exact Or.inl rfl | exact Or.inr rfl) (de_tup (da_cons (de_op (or_add (K := K) rfl) od_add de_int (de_callF c_law_next (hr.mono (by omega)) rfl (passD_const pass1) (da_cons (de_var 0) (da_cons de_int da_nil)))) (da_cons de_int da_nil))))) dss_nil)
      (dss_cons (ds_if (dt_cmp (eqDK (K := K) rfl hr.units) opd_eq (de_var 1) de_int (nomark _)) (dss_one (ds_set (i := 5) sc_law_room.nd rfl (by first | exact Or.inl rfl | exact Or.inr rfl) (de_tup (da_cons (de_op (or_add (K := K) rfl) od_add de_int (de_callF c_law_next (hr.mono (by omega)) rfl (passD_const pass1) (da_cons (de_var 0) (da_cons de_int da_nil)))) (da_cons de_int da_nil))))) dss_nil)
      (dss_cons (ds_if (dt_cmp (eqDK (K := K) rfl hr.units) opd_eq (de_var 1) de_int (nomark _)) (dss_cons (ds_par (i := 2) (j := 3) rfl sc_law_room.nd rfl rfl (by decide) rfl rfl (da_cons (de_callF c_law_low (hr.mono (by omega)) rfl (passD_const pass1) (da_cons (de_op op_sub od_sub (de_callF c_law_next (hr.mono (by omega)) rfl (passD_const pass1) (da_cons (de_var 0) (da_cons de_int da_nil))) de_int) (da_cons (de_op (or_add (K := K) rfl) od_add de_int (de_callF c_law_next (hr.mono (by omega)) rfl (passD_const pass1) (da_cons (de_var 0) (da_cons de_int da_nil)))) da_nil))) (da_cons (de_callF c_law_low (hr.mono (by omega)) rfl (passD_const pass1) (da_cons (de_callF c_law_next (hr.mono (by omega)) rfl (passD_const pass1) (da_cons (de_var 0) (da_cons de_int da_nil))) (da_cons de_int da_nil))) da_nil)) rfl)
      (dss_one (ds_par (i := 4) (j := 5) rfl sc_law_room.nd rfl rfl (by decide) rfl rfl (da_cons (de_callF c_law_low (hr.mono (by omega)) rfl (passD_const pass1) (da_cons (de_op (or_add (K := K) rfl) od_add de_int (de_callF c_law_next (hr.mono (by omega)) rfl (passD_const pass1) (da_cons (de_var 0) (da_cons de_int da_nil)))) (da_cons (de_op (or_add (K := K) rfl) od_add de_int (de_callF c_law_next (hr.mono (by omega)) rfl (passD_const pass1) (da_cons (de_var 0) (da_cons de_int da_nil)))) da_nil))) (da_cons (de_callF c_law_low (hr.mono (by omega)) rfl (passD_const pass1) (da_cons (de_op (or_add (K := K) rfl) od_add de_int (de_callF c_law_next (hr.mono (by omega)) rfl (passD_const pass1) (da_cons (de_var 0) (da_cons de_int da_nil)))) (da_cons de_int da_nil))) da_nil)) rfl))) dss_nil)
      (dss_cons (ds_if (dt_cmp (eqDK (K := K) rfl hr.units) opd_eq (de_var 1) de_int (nomark _)) (dss_cons (ds_set (i := 6) sc_law_room.nd rfl (by first | exact Or.inl rfl | exact Or.inr rfl) (de_op op_sub od_sub (de_op op_pow od_pow de_int de_int) de_int))
      (dss_cons (ds_par (i := 2) (j := 3) rfl sc_law_room.nd rfl rfl (by decide) rfl rfl (da_cons (de_callF c_law_low (hr.mono (by omega)) rfl (passD_const pass1) (da_cons (de_callF c_law_great (hr.mono (by omega)) rfl (passD_const pass1) (da_cons (de_var 0) (da_cons (de_var 6) da_nil))) (da_cons (de_op (or_add (K := K) rfl) od_add de_int (de_callB call_abs cd_abs rfl T.n_abs bo_abs (da_cons (de_callF c_law_great (hr.mono (by omega)) rfl (passD_const pass1) (da_cons (de_var 0) (da_cons (de_op op_sub od_sub (de_var 6) de_int) da_nil))) da_nil))) da_nil))) (da_cons (de_tup (da_cons (de_callF c_law_great (hr.mono (by omega)) rfl (passD_const pass1) (da_cons (de_var 0) (da_cons (de_var 6) da_nil))) (da_cons de_int da_nil))) da_nil)) rfl)
      (dss_one (ds_par (i := 4) (j := 5) rfl sc_law_room.nd rfl rfl (by decide) rfl rfl (da_cons (de_tup (da_cons (de_op (or_add (K := K) rfl) od_add de_int (de_callB call_abs cd_abs rfl T.n_abs bo_abs (da_cons (de_callF c_law_great (hr.mono (by omega)) rfl (passD_const pass1) (da_cons (de_var 0) (da_cons (de_op op_sub od_sub (de_var 6) de_int) da_nil))) da_nil))) (da_cons de_int da_nil))) (da_cons (de_callF c_law_low (hr.mono (by omega)) rfl (passD_const pass1) (da_cons (de_op (or_add (K := K) rfl) od_add de_int (de_callB call_abs cd_abs rfl T.n_abs bo_abs (da_cons (de_callF c_law_great (hr.mono (by omega)) rfl (passD_const pass1) (da_cons (de_var 0) (da_cons (de_op op_sub od_sub (de_var 6) de_int) da_nil))) da_nil))) (da_cons (de_var 6) da_nil))) da_nil)) rfl)))) dss_nil)
      (dss_one (ds_ret (de_tup (da_cons (de_var 2) (da_cons (de_var 3) (da_cons (de_var 4) (da_cons (de_var 5) da_nil)))))))))))))))
noncomputable def B1_law_weights (S_law_feed : Fn) (S_law_next : Fn) (S_law_great : Fn) : MS :=
  (sSeq (sAsg (eCall 2 S_law_feed (aCons (eVar 0) (aCons (eOp gAdd (eOp gAdd (eVar 1) (eC (.int 1))) (eVar 8)) aNil))) (gN 3))
    (sSeq (sAsg (eOp gIx (eFn mkLst (aCons (eC (.int 1)) (aCons (eOp gAdd (eC (.int 1)) (eCall 2 S_law_next (aCons (eVar 3) (aCons (eC (.int 9)) aNil)))) (aCons (eOp gShl (eC (.int 1)) (eOp gMod (eVar 8) (eC (.int 24)))) (aCons (eOp gAdd (eC (.int 1)) (eCall 2 S_law_next (aCons (eVar 3) (aCons (eC (.int 9)) aNil)))) (aCons (eC (.int 1)) (aCons (eOp gAdd (eC (.int 1)) (eCall 2 S_law_next (aCons (eVar 3) (aCons (eC (.int 3)) aNil)))) aNil))))))) (eVar 6)) (gN 9))
    (sSeq (sIf (tAn (tOf (eOp (gEq false) (eVar 6) (eC (.int 3)))) (tOf (eOp (gEq false) (eCall 2 S_law_next (aCons (eVar 3) (aCons (eC (.int 4)) aNil))) (eC (.int 0))))) (sAsg (eOp gAdd (eOp gPow (eC (.int 10)) (eC (.int 29))) (eCall 2 S_law_next (aCons (eVar 3) (aCons (eC (.int 100)) aNil)))) (gN 9)) sNx)
    (sSeq (sIf (tOf (eOp (gEq false) (eVar 6) (eC (.int 4)))) (sAsg (eOp gAdd (eC (.int 1)) (eFn bAbs (aCons (eCall 2 S_law_great (aCons (eVar 3) (aCons (eOp gMin (eOp gPow (eC (.int 10)) (eC (.int 30))) (eC (.int 2))) aNil))) aNil))) (gN 9)) sNx)
    (sExpr (eM mAppend (eVar 7) (aCons (eVar 9) aNil)))))))
noncomputable def F_law_weights (S_law_feed : Fn) (S_law_next : Fn) (S_law_great : Fn) : MS :=
  (sSeq (sAsg (eCall 2 S_law_feed (aCons (eVar 0) (aCons (eVar 1) aNil))) (gN 3))
    (sSeq (sAsg (eOp gAdd (eC (.int 1)) (eCall 2 S_law_next (aCons (eVar 3) (aCons (eFn bMin2 (aCons (eVar 2) (aCons (eC (.int 7)) aNil))) aNil)))) (gN 4))
    (sSeq (sAsg (eCall 2 S_law_next (aCons (eVar 3) (aCons (eC (.int 6)) aNil))) (gN 5))
    (sSeq (sIf (tOf (eOp gLt (eVar 5) (eC (.int 2)))) (sAsg (eOp gIx (eFn mkLst (aCons (eVar 2) (aCons (eFn bMax2 (aCons (eC (.int 1)) (aCons (eOp gDiv (eOp gMul (eVar 4) (eVar 2)) (eC (.int 8))) aNil))) aNil))) (eVar 5)) (gN 4)) sNx)
    (sSeq (sAsg (eCall 2 S_law_next (aCons (eVar 3) (aCons (eC (.int 6)) aNil))) (gN 6))
    (sSeq (sIf (tOf (eOp gGt (eVar 4) (eC (.int 9)))) (sAsg (eOp gMod (eVar 6) (eC (.int 3))) (gN 6)) sNx)
    (sSeq (sAsg (eFn mkLst aNil) (gN 7))
    (sSeq (sFor (iRg1 (aCons (eVar 4) aNil)) (gN 8) (B1_law_weights S_law_feed S_law_next S_law_great))
    (sRet (eVar 7))))))))))
noncomputable def G_law_weights : Fn := fnD 10 (F_law_weights G_law_feed G_law_next G_law_great)
theorem den_law_weights (T : Txt K mg a_RoomError a_NoFraction a_NoBox a_NoWay a_NoWeights a_TooMany a_NoRule a_NoText) (D : Def K mg "_law_weights" s_law_weights) {S_law_feed : Fn} (c_law_feed : Callee P w K mg base "_law_feed" 1 ["_law_script", "_law_k"] (spD K mg 2 S_law_feed)) {S_law_next : Fn} (c_law_next : Callee P w K mg base "_law_next" 1 ["_law_feed_here", "_law_many"] (spD K mg 2 S_law_next)) {S_law_great : Fn} (c_law_great : Callee P w K mg base "_law_great" 2 ["_law_feed_here", "_law_far"] (spD K mg 2 S_law_great)) : Callee P w K mg base "_law_weights" (2 + 1) ["_law_script", "_law_at", "_law_most_here"] (spD K mg 3 (fnD 10 (F_law_weights S_law_feed S_law_next S_law_great))) :=
  D.okD sc_law_weights (fun _ _ _ _ _ _ us hl => match us, hl with | [_, _, _], _ => rfl) fun f cdv A outer s H E hr =>
    (dss_cons (ds_set (i := 3) sc_law_weights.nd rfl (by first | exact Or.inl rfl | exact Or.inr rfl) (de_callF c_law_feed (hr.mono (by omega)) rfl (passD_const pass1) (da_cons (de_var 0) (da_cons (de_var 1) da_nil))))
      (dss_cons (ds_set (i := 4) sc_law_weights.nd rfl (by first | exact Or.inl rfl | exact Or.inr rfl) (de_op (or_add (K := K) rfl) od_add de_int (de_callF c_law_next (hr.mono (by omega)) rfl (passD_const pass1) (da_cons (de_var 3) (da_cons (de_callB (call_min2 rfl) cd_min2 rfl T.n_min bo_min (da_cons (de_var 2) (da_cons de_int da_nil))) da_nil)))))
      (dss_cons (ds_set (i := 5) sc_law_weights.nd rfl (by first | exact Or.inl rfl | exact Or.inr rfl) (de_callF c_law_next (hr.mono (by omega)) rfl (passD_const pass1) (da_cons (de_var 3) (da_cons de_int da_nil))))
      (dss_cons (ds_if (dt_cmp op_lt od_lt (de_var 5) de_int (nomark _)) (dss_one (ds_set (i := 4) sc_law_weights.nd rfl (by first | exact Or.inl rfl | exact Or.inr rfl) (de_ix (ixK (K := K) rfl) opd_ix (de_lst (da_cons (de_var 2) (da_cons (de_callB (call_max2 rfl) cd_max2 rfl T.n_max bo_max (da_cons de_int (da_cons (de_op op_fdivB od_div (de_op or_mul od_mul (de_var 4) (de_var 2)) de_int) da_nil))) da_nil))) (de_var 5) (fun _ _ => rfl)))) dss_nil)
      (dss_cons (ds_set (i := 6) sc_law_weights.nd rfl (by first | exact Or.inl rfl | exact Or.inr rfl) (de_callF c_law_next (hr.mono (by omega)) rfl (passD_const pass1) (da_cons (de_var 3) (da_cons de_int da_nil))))
      (dss_cons (ds_if (dt_cmp op_gt od_gt (de_var 4) de_int (nomark _)) (dss_one (ds_set (i := 6) sc_law_weights.nd rfl (by first | exact Or.inl rfl | exact Or.inr rfl) (de_op op_modN od_mod (de_var 6) de_int))) dss_nil)
      (dss_cons (ds_set (i := 7) sc_law_weights.nd rfl (by first | exact Or.inl rfl | exact Or.inr rfl) (de_lst da_nil))
      (dss_cons (ds_for own1 rfl (di_range1 rfl T.n_range (da_cons (de_var 4) da_nil)) (dg_name (i := 8) sc_law_weights.nd rfl (by first | exact Or.inl rfl | exact Or.inr rfl)) (dss_cons (ds_set (i := 3) sc_law_weights.nd rfl (by first | exact Or.inl rfl | exact Or.inr rfl) (de_callF c_law_feed (hr.mono (by omega)) rfl (passD_const pass1) (da_cons (de_var 0) (da_cons (de_op (or_add (K := K) rfl) od_add (de_op (or_add (K := K) rfl) od_add (de_var 1) de_int) (de_var 8)) da_nil))))
      (dss_cons (ds_set (i := 9) sc_law_weights.nd rfl (by first | exact Or.inl rfl | exact Or.inr rfl) (de_ix (ixK (K := K) rfl) opd_ix (de_lst (da_cons de_int (da_cons (de_op (or_add (K := K) rfl) od_add de_int (de_callF c_law_next (hr.mono (by omega)) rfl (passD_const pass1) (da_cons (de_var 3) (da_cons de_int da_nil)))) (da_cons (de_op op_shl od_shl de_int (de_op op_modN od_mod (de_var 8) de_int)) (da_cons (de_op (or_add (K := K) rfl) od_add de_int (de_callF c_law_next (hr.mono (by omega)) rfl (passD_const pass1) (da_cons (de_var 3) (da_cons de_int da_nil)))) (da_cons de_int (da_cons (de_op (or_add (K := K) rfl) od_add de_int (de_callF c_law_next (hr.mono (by omega)) rfl (passD_const pass1) (da_cons (de_var 3) (da_cons de_int da_nil)))) da_nil))))))) (de_var 6) (fun _ _ => rfl)))
      (dss_cons (ds_if (DW.dt (dw_and (dt_cmp (eqDK (K := K) rfl hr.units) opd_eq (de_var 6) de_int (nomark _)) (dw_and1 (dt_cmp (eqDK (K := K) rfl hr.units) opd_eq (de_callF c_law_next (hr.mono (by omega)) rfl (passD_const pass1) (da_cons (de_var 3) (da_cons de_int da_nil))) de_int (nomark _))))) (dss_one (ds_set (i := 9) sc_law_weights.nd rfl (by first | exact Or.inl rfl | exact Or.inr rfl) (de_op (or_add (K := K) rfl) od_add (de_op op_pow od_pow de_int de_int) (de_callF c_law_next (hr.mono (by omega)) rfl (passD_const pass1) (da_cons (de_var 3) (da_cons de_int da_nil)))))) dss_nil)
      (dss_cons (ds_if (dt_cmp (eqDK (K := K) rfl hr.units) opd_eq (de_var 6) de_int (nomark _)) (dss_one (ds_set (i := 9) sc_law_weights.nd rfl (by first | exact Or.inl rfl | exact Or.inr rfl) (de_op (or_add (K := K) rfl) od_add de_int (de_callB call_abs cd_abs rfl T.n_abs bo_abs (da_cons (de_callF c_law_great (hr.mono (by omega)) rfl (passD_const pass1) (da_cons (de_var 3) (da_cons (de_op op_sub od_sub (de_op op_pow od_pow de_int de_int) de_int) da_nil))) da_nil))))) dss_nil)
      (dss_one (ds_expr (de_m rfl PySem.F.slot_list_append PySem.F.type_list_append mt_append md_append (de_var 7) (da_cons (de_var 9) da_nil)))))))))
      (dss_one (ds_ret (de_var 7)))))))))))
noncomputable def F_is_whole : MS :=
  (sRet (eAnd (eFn (bIsi kits) (aCons (eVar 0) (aCons (eC (.ty "int")) aNil))) (eNot (eFn (bIsi kits) (aCons (eVar 0) (aCons (eC (.ty "bool")) aNil))))))
noncomputable def G_is_whole : Fn := fnD 1 (F_is_whole)
theorem den_is_whole (T : Txt K mg a_RoomError a_NoFraction a_NoBox a_NoWay a_NoWeights a_TooMany a_NoRule a_NoText) (D : Def K mg "is_whole" s_is_whole)  : Callee P w K mg base "is_whole" (0 + 1) ["thing"] (spD K mg 1 (fnD 1 (F_is_whole))) :=
  D.okD sc_is_whole (fun _ _ _ _ _ _ us hl => match us, hl with | [_], _ => rfl) fun f cdv A outer s H E hr =>
    (dss_one (ds_ret (de_and (de_callB (isiKD (K := K) rfl) (cd_isi T.kits) rfl T.n_isinstance bo_isinstance (da_cons (de_var 0) (da_cons (de_ty rfl T.n_int bo_int) da_nil))) (de_one (de_not (de_callB (isiKD (K := K) rfl) (cd_isi T.kits) rfl T.n_isinstance bo_isinstance (da_cons (de_var 0) (da_cons (de_ty rfl T.n_bool bo_bool) da_nil))))))))
noncomputable def F_common_divisor : MS :=
  (sSeq (sPar 0 1 (aCons (eFn bAbs (aCons (eVar 0) aNil)) (aCons (eFn bAbs (aCons (eVar 1) aNil)) aNil)))
    (sSeq (sWh (tOf (eOp (gEq true) (eVar 1) (eC (.int 0)))) (sPar 0 1 (aCons (eVar 1) (aCons (eOp gMod (eVar 0) (eVar 1)) aNil))))
    (sRet (eVar 0))))
noncomputable def G_common_divisor : Fn := fnD 2 (F_common_divisor)
theorem den_common_divisor (T : Txt K mg a_RoomError a_NoFraction a_NoBox a_NoWay a_NoWeights a_TooMany a_NoRule a_NoText) (D : Def K mg "common_divisor" s_common_divisor)  : Callee P w K mg base "common_divisor" (0 + 1) ["one", "other"] (spD K mg 2 (fnD 2 (F_common_divisor))) :=
  D.okD sc_common_divisor (fun _ _ _ _ _ _ us hl => match us, hl with | [_, _], _ => rfl) fun f cdv A outer s H E hr =>
    (dss_cons (ds_par (i := 0) (j := 1) rfl sc_common_divisor.nd rfl rfl (by decide) rfl rfl (da_cons (de_callB call_abs cd_abs rfl T.n_abs bo_abs (da_cons (de_var 0) da_nil)) (da_cons (de_callB call_abs cd_abs rfl T.n_abs bo_abs (da_cons (de_var 1) da_nil)) da_nil)) rfl)
      (dss_cons (ds_while own1 (dt_cmp (neDK (K := K) rfl hr.units) opd_ne (de_var 1) de_int (nomark _)) (dss_one (ds_par (i := 0) (j := 1) rfl sc_common_divisor.nd rfl rfl (by decide) rfl rfl (da_cons (de_var 1) (da_cons (de_op op_modN od_mod (de_var 0) (de_var 1)) da_nil)) rfl)))
      (dss_one (ds_ret (de_var 0)))))
noncomputable def F_is_fraction (S_is_whole : Fn) (S_common_divisor : Fn) : MS :=
  (sSeq (sIf (tO (tNo (tOf (eFn (bIsi kits) (aCons (eVar 0) (aCons (eC (.ty "tuple")) aNil))))) (tOf (eOp (gEq true) (eFn bLen (aCons (eVar 0) aNil)) (eC (.int 2))))) (sRet (eC (.bl false))) sNx)
    (sSeq (sAsg (eVar 0) (fun d ae h => noX ((gT fun ds ae h => if ds.length = 2 then (gsC (gN 1) (gsC (gN 2) gsN)) ds ae h else .stuck) d ae h)))
    (sSeq (sIf (tO (tNo (tOf (eCall 1 S_is_whole (aCons (eVar 1) aNil)))) (tNo (tOf (eCall 1 S_is_whole (aCons (eVar 2) aNil))))) (sRet (eC (.bl false))) sNx)
    (sRet (eAnd (eOp gGe (eVar 2) (eC (.int 1))) (eOp (gEq false) (eCall 2 S_common_divisor (aCons (eVar 1) (aCons (eVar 2) aNil))) (eC (.int 1))))))))
noncomputable def G_is_fraction : Fn := fnD 3 (F_is_fraction G_is_whole G_common_divisor)
theorem den_is_fraction (T : Txt K mg a_RoomError a_NoFraction a_NoBox a_NoWay a_NoWeights a_TooMany a_NoRule a_NoText) (D : Def K mg "is_fraction" s_is_fraction) {S_is_whole : Fn} (c_is_whole : Callee P w K mg base "is_whole" 1 ["thing"] (spD K mg 1 S_is_whole)) {S_common_divisor : Fn} (c_common_divisor : Callee P w K mg base "common_divisor" 1 ["one", "other"] (spD K mg 2 S_common_divisor)) : Callee P w K mg base "is_fraction" (1 + 1) ["thing"] (spD K mg 1 (fnD 3 (F_is_fraction S_is_whole S_common_divisor))) :=
  D.okD sc_is_fraction (fun _ _ _ _ _ _ us hl => match us, hl with | [_], _ => rfl) fun f cdv A outer s H E hr =>
    (dss_cons (ds_if (DW.dt (dw_or (dt_not (dt_val (de_callB (isiKD (K := K) rfl) (cd_isi T.kits) rfl T.n_isinstance bo_isinstance (da_cons (de_var 0) (da_cons (de_ty rfl T.n_tuple bo_tuple) da_nil))))) (dw_or1 (dt_cmp (neDK (K := K) rfl hr.units) opd_ne (de_callB (lenKD (K := K) rfl) cd_len rfl T.n_len bo_len (da_cons (de_var 0) da_nil)) de_int (nomark _))))) (dss_one (ds_ret de_bl)) dss_nil)
      (dss_cons (ds_asg (de_var 0) (DG.weak (dg_tup rfl rfl (dgs_cons (dg_name (i := 1) sc_is_fraction.nd rfl (by first | exact Or.inl rfl | exact Or.inr rfl)) (dgs_cons (dg_name (i := 2) sc_is_fraction.nd rfl (by first | exact Or.inl rfl | exact Or.inr rfl)) dgs_nil)))))
      (dss_cons (ds_if (DW.dt (dw_or (dt_not (dt_val (de_callF c_is_whole (hr.mono (by omega)) rfl (passD_const pass1) (da_cons (de_var 1) da_nil)))) (dw_or1 (dt_not (dt_val (de_callF c_is_whole (hr.mono (by omega)) rfl (passD_const pass1) (da_cons (de_var 2) da_nil))))))) (dss_one (ds_ret de_bl)) dss_nil)
      (dss_one (ds_ret (de_and (de_cmp op_ge od_ge (de_var 2) de_int (nomark _)) (de_one (de_cmp (eqDK (K := K) rfl hr.units) opd_eq (de_callF c_common_divisor (hr.mono (by omega)) rfl (passD_const pass1) (da_cons (de_var 1) (da_cons (de_var 2) da_nil))) de_int (nomark _)))))))))
noncomputable def F_is_box (S_is_fraction : Fn) : MS :=
  (sSeq (sIf (tO (tNo (tOf (eFn (bIsi kits) (aCons (eVar 0) (aCons (eC (.ty "tuple")) aNil))))) (tOf (eOp (gEq true) (eFn bLen (aCons (eVar 0) aNil)) (eC (.int 4))))) (sRet (eC (.bl false))) sNx)
    (sSeq (sIf (tNo (tOf (eFn bAll (aCons (eLC (iSeq (eVar 0)) [none] (gN 0) tY (eCall 1 S_is_fraction (aCons (eVar 0) aNil))) aNil)))) (sRet (eC (.bl false))) sNx)
    (sRet (eAnd (eOp gGt (eOp gIx (eOp gIx (eVar 0) (eC (.int 2))) (eC (.int 0))) (eC (.int 0))) (eOp gGt (eOp gIx (eOp gIx (eVar 0) (eC (.int 3))) (eC (.int 0))) (eC (.int 0)))))))
noncomputable def G_is_box : Fn := fnD 1 (F_is_box G_is_fraction)
theorem den_is_box (T : Txt K mg a_RoomError a_NoFraction a_NoBox a_NoWay a_NoWeights a_TooMany a_NoRule a_NoText) (D : Def K mg "is_box" s_is_box) {S_is_fraction : Fn} (c_is_fraction : Callee P w K mg base "is_fraction" 2 ["thing"] (spD K mg 1 S_is_fraction)) : Callee P w K mg base "is_box" (2 + 1) ["thing"] (spD K mg 1 (fnD 1 (F_is_box S_is_fraction))) :=
  D.okD sc_is_box (fun _ _ _ _ _ _ us hl => match us, hl with | [_], _ => rfl) fun f cdv A outer s H E hr =>
    (dss_cons (ds_if (DW.dt (dw_or (dt_not (dt_val (de_callB (isiKD (K := K) rfl) (cd_isi T.kits) rfl T.n_isinstance bo_isinstance (da_cons (de_var 0) (da_cons (de_ty rfl T.n_tuple bo_tuple) da_nil))))) (dw_or1 (dt_cmp (neDK (K := K) rfl hr.units) opd_ne (de_callB (lenKD (K := K) rfl) cd_len rfl T.n_len bo_len (da_cons (de_var 0) da_nil)) de_int (nomark _))))) (dss_one (ds_ret de_bl)) dss_nil)
      (dss_cons (ds_if (dt_not (dt_val (de_callB (allK (K := K) rfl rfl) cd_all rfl T.n_all bo_all (da_cons (de_lc ["thing"] (defScope s_is_box).names ["part"] [none] rfl (di_seq rfl (de_var 0)) (fun _ _ _ _ _ => (dg_name (i := 0) (show List.Nodup (["part"] : List Str) from by decide +kernel) rfl (by first | exact Or.inl rfl | exact Or.inr rfl))) (fun _ _ _ _ _ => (de_callF c_is_fraction (hr.mono (by omega)) rfl passD_no (da_cons (de_var 0) da_nil)))) da_nil)))) (dss_one (ds_ret de_bl)) dss_nil)
      (dss_one (ds_ret (de_and (de_cmp op_gt od_gt (de_ix (ixK (K := K) rfl) opd_ix (de_ix (ixK (K := K) rfl) opd_ix (de_var 0) de_int (fun _ _ => rfl)) de_int (fun _ _ => rfl)) de_int (nomark _)) (de_one (de_cmp op_gt od_gt (de_ix (ixK (K := K) rfl) opd_ix (de_ix (ixK (K := K) rfl) opd_ix (de_var 0) de_int (fun _ _ => rfl)) de_int (fun _ _ => rfl)) de_int (nomark _))))))))
noncomputable def F_check_box (S_is_box : Fn) : MS :=
  (sIf (tNo (tOf (eCall 1 S_is_box (aCons (eVar 0) aNil)))) (sRaise "NoBox" (aCons (eC (.str "this is no box")) aNil)) sNx)
noncomputable def G_check_box : Fn := fnD 1 (F_check_box S_is_box)
theorem den_check_box (T : Txt K mg a_RoomError a_NoFraction a_NoBox a_NoWay a_NoWeights a_TooMany a_NoRule a_NoText) (D : Def K mg "check_box" s_check_box) {S_is_box : Fn} (c_is_box : Callee P w K mg base "is_box" 3 ["thing"] (spD K mg 1 S_is_box)) : Callee P w K mg base "check_box" (3 + 1) ["thing"] (spD K mg 1 (fnD 1 (F_check_box S_is_box))) :=
  D.okD sc_check_box (fun _ _ _ _ _ _ us hl => match us, hl with | [_], _ => rfl) fun f cdv A outer s H E hr =>
    (dss_one (ds_if (dt_not (dt_val (de_callF c_is_box (hr.mono (by omega)) rfl (passD_const pass1) (da_cons (de_var 0) da_nil)))) (dss_one (ds_raise rfl rz1 rfl T.m_NoBox T.x_NoBox (da_cons de_str da_nil))) dss_nil))
noncomputable def F_is_weight (S_is_whole : Fn) : MS :=
  (sRet (eAnd (eCall 1 S_is_whole (aCons (eVar 0) aNil)) (eOp gGe (eVar 0) (eC (.int 1)))))
noncomputable def G_is_weight : Fn := fnD 1 (F_is_weight G_is_whole)
theorem den_is_weight (T : Txt K mg a_RoomError a_NoFraction a_NoBox a_NoWay a_NoWeights a_TooMany a_NoRule a_NoText) (D : Def K mg "is_weight" s_is_weight) {S_is_whole : Fn} (c_is_whole : Callee P w K mg base "is_whole" 1 ["thing"] (spD K mg 1 S_is_whole)) : Callee P w K mg base "is_weight" (1 + 1) ["thing"] (spD K mg 1 (fnD 1 (F_is_weight S_is_whole))) :=
  D.okD sc_is_weight (fun _ _ _ _ _ _ us hl => match us, hl with | [_], _ => rfl) fun f cdv A outer s H E hr =>
    (dss_one (ds_ret (de_and (de_callF c_is_whole (hr.mono (by omega)) rfl (passD_const pass1) (da_cons (de_var 0) da_nil)) (de_one (de_cmp op_ge od_ge (de_var 0) de_int (nomark _))))))
noncomputable def F_check_weights (S_is_weight : Fn) : MS :=
  (sSeq (sIf (tO (tNo (tOf (eFn (bIsi kits) (aCons (eVar 0) (aCons (eC (.ty "list")) aNil))))) (tOf (eOp (gEq false) (eFn bLen (aCons (eVar 0) aNil)) (eC (.int 0))))) (sRaise "NoWeights" (aCons (eC (.str "this is no list of weights")) aNil)) sNx)
    (sSeq (sIf (tNo (tOf (eFn bAll (aCons (eLC (iSeq (eVar 0)) [none] (gN 0) tY (eCall 1 S_is_weight (aCons (eVar 0) aNil))) aNil)))) (sRaise "NoWeights" (aCons (eC (.str "a weight is a whole number from 1 on")) aNil)) sNx)
    (sIf (tOf (eOp gGt (eFn bLen (aCons (eVar 0) aNil)) (eC c_MOST_WEIGHTS))) (sRaise "TooMany" (aCons (eC (.str "these are more weights than forty")) aNil)) sNx)))
noncomputable def G_check_weights : Fn := fnD 1 (F_check_weights G_is_weight)
theorem den_check_weights (T : Txt K mg a_RoomError a_NoFraction a_NoBox a_NoWay a_NoWeights a_TooMany a_NoRule a_NoText) (D : Def K mg "check_weights" s_check_weights) {S_is_weight : Fn} (c_is_weight : Callee P w K mg base "is_weight" 2 ["thing"] (spD K mg 1 S_is_weight)) : Callee P w K mg base "check_weights" (2 + 1) ["thing"] (spD K mg 1 (fnD 1 (F_check_weights S_is_weight))) :=
  D.okD sc_check_weights (fun _ _ _ _ _ _ us hl => match us, hl with | [_], _ => rfl) fun f cdv A outer s H E hr =>
    (dss_cons (ds_if (DW.dt (dw_or (dt_not (dt_val (de_callB (isiKD (K := K) rfl) (cd_isi T.kits) rfl T.n_isinstance bo_isinstance (da_cons (de_var 0) (da_cons (de_ty rfl T.n_list bo_list) da_nil))))) (dw_or1 (dt_cmp (eqDK (K := K) rfl hr.units) opd_eq (de_callB (lenKD (K := K) rfl) cd_len rfl T.n_len bo_len (da_cons (de_var 0) da_nil)) de_int (nomark _))))) (dss_one (ds_raise rfl rz1 rfl T.m_NoWeights T.x_NoWeights (da_cons de_str da_nil))) dss_nil)
      (dss_cons (ds_if (dt_not (dt_val (de_callB (allK (K := K) rfl rfl) cd_all rfl T.n_all bo_all (da_cons (de_lc ["thing"] (defScope s_check_weights).names ["weight"] [none] rfl (di_seq rfl (de_var 0)) (fun _ _ _ _ _ => (dg_name (i := 0) (show List.Nodup (["weight"] : List Str) from by decide +kernel) rfl (by first | exact Or.inl rfl | exact Or.inr rfl))) (fun _ _ _ _ _ => (de_callF c_is_weight (hr.mono (by omega)) rfl passD_no (da_cons (de_var 0) da_nil)))) da_nil)))) (dss_one (ds_raise rfl rz1 rfl T.m_NoWeights T.x_NoWeights (da_cons de_str da_nil))) dss_nil)
      (dss_one (ds_if (dt_cmp op_gt od_gt (de_callB (lenKD (K := K) rfl) cd_len rfl T.n_len bo_len (da_cons (de_var 0) da_nil)) (de_gc rfl T.g_MOST_WEIGHTS) (nomark _)) (dss_one (ds_raise rfl rz1 rfl T.m_TooMany T.x_TooMany (da_cons de_str da_nil))) dss_nil))))
noncomputable def F_is_less : MS :=
  (sRet (eOp gLt (eOp gMul (eOp gIx (eVar 0) (eC (.int 0))) (eOp gIx (eVar 1) (eC (.int 1)))) (eOp gMul (eOp gIx (eVar 1) (eC (.int 0))) (eOp gIx (eVar 0) (eC (.int 1))))))
noncomputable def G_is_less : Fn := fnD 2 (F_is_less)
theorem den_is_less (T : Txt K mg a_RoomError a_NoFraction a_NoBox a_NoWay a_NoWeights a_TooMany a_NoRule a_NoText) (D : Def K mg "is_less" s_is_less)  : Callee P w K mg base "is_less" (0 + 1) ["one", "other"] (spD K mg 2 (fnD 2 (F_is_less))) :=
  D.okD sc_is_less (fun _ _ _ _ _ _ us hl => match us, hl with | [_, _], _ => rfl) fun f cdv A outer s H E hr =>
    (dss_one (ds_ret (de_cmp op_lt od_lt (de_op or_mul od_mul (de_ix (ixK (K := K) rfl) opd_ix (de_var 0) de_int (fun _ _ => rfl)) (de_ix (ixK (K := K) rfl) opd_ix (de_var 1) de_int (fun _ _ => rfl))) (de_op or_mul od_mul (de_ix (ixK (K := K) rfl) opd_ix (de_var 1) de_int (fun _ _ => rfl)) (de_ix (ixK (K := K) rfl) opd_ix (de_var 0) de_int (fun _ _ => rfl))) (nomark _))))
noncomputable def B1_greatest_of (S_is_less : Fn) : MS :=
  (sIf (tOf (eCall 2 S_is_less (aCons (eVar 1) (aCons (eVar 2) aNil)))) (sAsg (eVar 2) (gN 1)) sNx)
noncomputable def F_greatest_of (S_is_less : Fn) : MS :=
  (sSeq (sAsg (eOp gIx (eVar 0) (eC (.int 0))) (gN 1))
    (sSeq (sFor (iSeq (eVar 0)) (gN 2) (B1_greatest_of S_is_less))
    (sRet (eVar 1))))
noncomputable def G_greatest_of : Fn := fnD 3 (F_greatest_of G_is_less)
theorem den_greatest_of (T : Txt K mg a_RoomError a_NoFraction a_NoBox a_NoWay a_NoWeights a_TooMany a_NoRule a_NoText) (D : Def K mg "greatest_of" s_greatest_of) {S_is_less : Fn} (c_is_less : Callee P w K mg base "is_less" 1 ["one", "other"] (spD K mg 2 S_is_less)) : Callee P w K mg base "greatest_of" (1 + 1) ["fractions"] (spD K mg 1 (fnD 3 (F_greatest_of S_is_less))) :=
  D.okD sc_greatest_of (fun _ _ _ _ _ _ us hl => match us, hl with | [_], _ => rfl) fun f cdv A outer s H E hr =>
    (dss_cons (ds_set (i := 1) sc_greatest_of.nd rfl (by first | exact Or.inl rfl | exact Or.inr rfl) (de_ix (ixK (K := K) rfl) opd_ix (de_var 0) de_int (fun _ _ => rfl)))
      (dss_cons (ds_for own1 rfl (di_seq rfl (de_var 0)) (dg_name (i := 2) sc_greatest_of.nd rfl (by first | exact Or.inl rfl | exact Or.inr rfl)) (dss_one (ds_if (dt_val (de_callF c_is_less (hr.mono (by omega)) rfl (passD_const pass1) (da_cons (de_var 1) (da_cons (de_var 2) da_nil)))) (dss_one (ds_set (i := 1) sc_greatest_of.nd rfl (by first | exact Or.inl rfl | exact Or.inr rfl) (de_var 2))) dss_nil)))
      (dss_one (ds_ret (de_var 1)))))
noncomputable def F_fraction (S_common_divisor : Fn) : MS :=
  (sSeq (sIf (tOf (eOp (gEq false) (eVar 1) (eC (.int 0)))) (sRaise "NoFraction" (aCons (eC (.str "a fraction has no bottom of 0")) aNil)) sNx)
    (sSeq (sAsg (eCall 2 S_common_divisor (aCons (eVar 0) (aCons (eVar 1) aNil))) (gN 2))
    (sSeq (sIf (tOf (eOp gLt (eVar 1) (eC (.int 0)))) (sAsg (eUn gNeg (eVar 2)) (gN 2)) sNx)
    (sRet (eFn mkTup (aCons (eOp gDiv (eVar 0) (eVar 2)) (aCons (eOp gDiv (eVar 1) (eVar 2)) aNil)))))))
noncomputable def G_fraction : Fn := fnD 3 (F_fraction G_common_divisor)
theorem den_fraction (T : Txt K mg a_RoomError a_NoFraction a_NoBox a_NoWay a_NoWeights a_TooMany a_NoRule a_NoText) (D : Def K mg "fraction" s_fraction) {S_common_divisor : Fn} (c_common_divisor : Callee P w K mg base "common_divisor" 1 ["one", "other"] (spD K mg 2 S_common_divisor)) : Callee P w K mg base "fraction" (1 + 1) ["top", "bottom"] (spD K mg 2 (fnD 3 (F_fraction S_common_divisor))) :=
  D.okD sc_fraction (fun _ _ _ _ _ _ us hl => match us, hl with | [_, _], _ => rfl) fun f cdv A outer s H E hr =>
    (dss_cons (ds_if (dt_cmp (eqDK (K := K) rfl hr.units) opd_eq (de_var 1) de_int (nomark _)) (dss_one (ds_raise rfl rz1 rfl T.m_NoFraction T.x_NoFraction (da_cons de_str da_nil))) dss_nil)
      (dss_cons (ds_set (i := 2) sc_fraction.nd rfl (by first | exact Or.inl rfl | exact Or.inr rfl) (de_callF c_common_divisor (hr.mono (by omega)) rfl (passD_const pass1) (da_cons (de_var 0) (da_cons (de_var 1) da_nil))))
      (dss_cons (ds_if (dt_cmp op_lt od_lt (de_var 1) de_int (nomark _)) (dss_one (ds_set (i := 2) sc_fraction.nd rfl (by first | exact Or.inl rfl | exact Or.inr rfl) (de_un un_neg ud_neg (de_var 2)))) dss_nil)
      (dss_one (ds_ret (de_tup (da_cons (de_op op_fdivB od_div (de_var 0) (de_var 2)) (da_cons (de_op op_fdivB od_div (de_var 1) (de_var 2)) da_nil))))))))
noncomputable def F_times (S_fraction : Fn) : MS :=
  (sRet (eCall 2 S_fraction (aCons (eOp gMul (eOp gIx (eVar 0) (eC (.int 0))) (eOp gIx (eVar 1) (eC (.int 0)))) (aCons (eOp gMul (eOp gIx (eVar 0) (eC (.int 1))) (eOp gIx (eVar 1) (eC (.int 1)))) aNil))))
noncomputable def G_times : Fn := fnD 2 (F_times G_fraction)
theorem den_times (T : Txt K mg a_RoomError a_NoFraction a_NoBox a_NoWay a_NoWeights a_TooMany a_NoRule a_NoText) (D : Def K mg "times" s_times) {S_fraction : Fn} (c_fraction : Callee P w K mg base "fraction" 2 ["top", "bottom"] (spD K mg 2 S_fraction)) : Callee P w K mg base "times" (2 + 1) ["one", "other"] (spD K mg 2 (fnD 2 (F_times S_fraction))) :=
  D.okD sc_times (fun _ _ _ _ _ _ us hl => match us, hl with | [_, _], _ => rfl) fun f cdv A outer s H E hr =>
    (dss_one (ds_ret (de_callF c_fraction (hr.mono (by omega)) rfl (passD_const pass1) (da_cons (de_op or_mul od_mul (de_ix (ixK (K := K) rfl) opd_ix (de_var 0) de_int (fun _ _ => rfl)) (de_ix (ixK (K := K) rfl) opd_ix (de_var 1) de_int (fun _ _ => rfl))) (da_cons (de_op or_mul od_mul (de_ix (ixK (K := K) rfl) opd_ix (de_var 0) de_int (fun _ _ => rfl)) (de_ix (ixK (K := K) rfl) opd_ix (de_var 1) de_int (fun _ _ => rfl))) da_nil)))))
noncomputable def F_long_way (S_check_box : Fn) (S_is_less : Fn) : MS :=
  (sSeq (sExpr (eCall 1 S_check_box (aCons (eVar 0) aNil)))
    (sSeq (sIf (tOf (eCall 2 S_is_less (aCons (eOp gIx (eVar 0) (eC (.int 2))) (aCons (eOp gIx (eVar 0) (eC (.int 3))) aNil)))) (sRet (eC (.str "down"))) sNx)
    (sRet (eC (.str "across")))))
noncomputable def G_long_way : Fn := fnD 1 (F_long_way S_check_box G_is_less)
theorem den_long_way (T : Txt K mg a_RoomError a_NoFraction a_NoBox a_NoWay a_NoWeights a_TooMany a_NoRule a_NoText) (D : Def K mg "long_way" s_long_way) {S_check_box : Fn} (c_check_box : Callee P w K mg base "check_box" 4 ["thing"] (spD K mg 1 S_check_box)) {S_is_less : Fn} (c_is_less : Callee P w K mg base "is_less" 1 ["one", "other"] (spD K mg 2 S_is_less)) : Callee P w K mg base "long_way" (4 + 1) ["box"] (spD K mg 1 (fnD 1 (F_long_way S_check_box S_is_less))) :=
  D.okD sc_long_way (fun _ _ _ _ _ _ us hl => match us, hl with | [_], _ => rfl) fun f cdv A outer s H E hr =>
    (dss_cons (ds_expr (de_callF c_check_box (hr.mono (by omega)) rfl (passD_const pass1) (da_cons (de_var 0) da_nil)))
      (dss_cons (ds_if (dt_val (de_callF c_is_less (hr.mono (by omega)) rfl (passD_const pass1) (da_cons (de_ix (ixK (K := K) rfl) opd_ix (de_var 0) de_int (fun _ _ => rfl)) (da_cons (de_ix (ixK (K := K) rfl) opd_ix (de_var 0) de_int (fun _ _ => rfl)) da_nil)))) (dss_one (ds_ret de_str)) dss_nil)
      (dss_one (ds_ret de_str))))
noncomputable def F_over (S_fraction : Fn) : MS :=
  (sRet (eCall 2 S_fraction (aCons (eOp gMul (eOp gIx (eVar 0) (eC (.int 0))) (eOp gIx (eVar 1) (eC (.int 1)))) (aCons (eOp gMul (eOp gIx (eVar 0) (eC (.int 1))) (eOp gIx (eVar 1) (eC (.int 0)))) aNil))))
noncomputable def G_over : Fn := fnD 2 (F_over G_fraction)
theorem den_over (T : Txt K mg a_RoomError a_NoFraction a_NoBox a_NoWay a_NoWeights a_TooMany a_NoRule a_NoText) (D : Def K mg "over" s_over) {S_fraction : Fn} (c_fraction : Callee P w K mg base "fraction" 2 ["top", "bottom"] (spD K mg 2 S_fraction)) : Callee P w K mg base "over" (2 + 1) ["one", "other"] (spD K mg 2 (fnD 2 (F_over S_fraction))) :=
  D.okD sc_over (fun _ _ _ _ _ _ us hl => match us, hl with | [_, _], _ => rfl) fun f cdv A outer s H E hr =>
    (dss_one (ds_ret (de_callF c_fraction (hr.mono (by omega)) rfl (passD_const pass1) (da_cons (de_op or_mul od_mul (de_ix (ixK (K := K) rfl) opd_ix (de_var 0) de_int (fun _ _ => rfl)) (de_ix (ixK (K := K) rfl) opd_ix (de_var 1) de_int (fun _ _ => rfl))) (da_cons (de_op or_mul od_mul (de_ix (ixK (K := K) rfl) opd_ix (de_var 0) de_int (fun _ _ => rfl)) (de_ix (ixK (K := K) rfl) opd_ix (de_var 1) de_int (fun _ _ => rfl))) da_nil)))))
noncomputable def F_shape (S_long_way : Fn) (S_over : Fn) : MS :=
  (sSeq (sIf (tOf (eOp (gEq false) (eCall 1 S_long_way (aCons (eVar 0) aNil)) (eC (.str "across")))) (sRet (eCall 2 S_over (aCons (eOp gIx (eVar 0) (eC (.int 2))) (aCons (eOp gIx (eVar 0) (eC (.int 3))) aNil)))) sNx)
    (sRet (eCall 2 S_over (aCons (eOp gIx (eVar 0) (eC (.int 3))) (aCons (eOp gIx (eVar 0) (eC (.int 2))) aNil)))))
noncomputable def G_shape : Fn := fnD 1 (F_shape G_long_way G_over)
theorem den_shape (T : Txt K mg a_RoomError a_NoFraction a_NoBox a_NoWay a_NoWeights a_TooMany a_NoRule a_NoText) (D : Def K mg "shape" s_shape) {S_long_way : Fn} (c_long_way : Callee P w K mg base "long_way" 5 ["box"] (spD K mg 1 S_long_way)) {S_over : Fn} (c_over : Callee P w K mg base "over" 3 ["one", "other"] (spD K mg 2 S_over)) : Callee P w K mg base "shape" (5 + 1) ["box"] (spD K mg 1 (fnD 1 (F_shape S_long_way S_over))) :=
  D.okD sc_shape (fun _ _ _ _ _ _ us hl => match us, hl with | [_], _ => rfl) fun f cdv A outer s H E hr =>
    (dss_cons (ds_if (dt_cmp (eqDK (K := K) rfl hr.units) opd_eq (de_callF c_long_way (hr.mono (by omega)) rfl (passD_const pass1) (da_cons (de_var 0) da_nil)) de_str (nomark _)) (dss_one (ds_ret (de_callF c_over (hr.mono (by omega)) rfl (passD_const pass1) (da_cons (de_ix (ixK (K := K) rfl) opd_ix (de_var 0) de_int (fun _ _ => rfl)) (da_cons (de_ix (ixK (K := K) rfl) opd_ix (de_var 0) de_int (fun _ _ => rfl)) da_nil))))) dss_nil)
      (dss_one (ds_ret (de_callF c_over (hr.mono (by omega)) rfl (passD_const pass1) (da_cons (de_ix (ixK (K := K) rfl) opd_ix (de_var 0) de_int (fun _ _ => rfl)) (da_cons (de_ix (ixK (K := K) rfl) opd_ix (de_var 0) de_int (fun _ _ => rfl)) da_nil))))))
noncomputable def F_thinness (S_times : Fn) (S_shape : Fn) (S_fraction : Fn) : MS :=
  (sRet (eCall 2 S_times (aCons (eCall 1 S_shape (aCons (eVar 0) aNil)) (aCons (eCall 2 S_fraction (aCons (eVar 1) (aCons (eVar 2) aNil))) aNil))))
noncomputable def G_thinness : Fn := fnD 3 (F_thinness G_times G_shape G_fraction)
theorem den_thinness (T : Txt K mg a_RoomError a_NoFraction a_NoBox a_NoWay a_NoWeights a_TooMany a_NoRule a_NoText) (D : Def K mg "thinness" s_thinness) {S_times : Fn} (c_times : Callee P w K mg base "times" 3 ["one", "other"] (spD K mg 2 S_times)) {S_shape : Fn} (c_shape : Callee P w K mg base "shape" 6 ["box"] (spD K mg 1 S_shape)) {S_fraction : Fn} (c_fraction : Callee P w K mg base "fraction" 2 ["top", "bottom"] (spD K mg 2 S_fraction)) : Callee P w K mg base "thinness" (6 + 1) ["room", "weight", "whole"] (spD K mg 3 (fnD 3 (F_thinness S_times S_shape S_fraction))) :=
  D.okD sc_thinness (fun _ _ _ _ _ _ us hl => match us, hl with | [_, _, _], _ => rfl) fun f cdv A outer s H E hr =>
    (dss_one (ds_ret (de_callF c_times (hr.mono (by omega)) rfl (passD_const pass1) (da_cons (de_callF c_shape (hr.mono (by omega)) rfl (passD_const pass1) (da_cons (de_var 0) da_nil)) (da_cons (de_callF c_fraction (hr.mono (by omega)) rfl (passD_const pass1) (da_cons (de_var 1) (da_cons (de_var 2) da_nil))) da_nil)))))
noncomputable def F_floor_of (S_check_box : Fn) (S_check_weights : Fn) (S_greatest_of : Fn) (S_thinness : Fn) : MS :=
  (sSeq (sExpr (eCall 1 S_check_box (aCons (eVar 0) aNil)))
    (sSeq (sExpr (eCall 1 S_check_weights (aCons (eVar 1) aNil)))
    (sRet (eCall 1 S_greatest_of (aCons (eOp gAdd (eFn mkLst (aCons (eFn mkTup (aCons (eC (.int 1)) (aCons (eC (.int 1)) aNil))) aNil)) (eLC (iSeq (eVar 1)) [none, some 0, some 1] (gN 0) tY (eCall 3 S_thinness (aCons (eVar 1) (aCons (eVar 0) (aCons (eFn bSum (aCons (eVar 2) aNil)) aNil)))))) aNil)))))
noncomputable def G_floor_of : Fn := fnD 2 (F_floor_of S_check_box S_check_weights G_greatest_of G_thinness)
theorem den_floor_of (T : Txt K mg a_RoomError a_NoFraction a_NoBox a_NoWay a_NoWeights a_TooMany a_NoRule a_NoText) (D : Def K mg "floor_of" s_floor_of) {S_check_box : Fn} (c_check_box : Callee P w K mg base "check_box" 4 ["thing"] (spD K mg 1 S_check_box)) {S_check_weights : Fn} (c_check_weights : Callee P w K mg base "check_weights" 3 ["thing"] (spD K mg 1 S_check_weights)) {S_greatest_of : Fn} (c_greatest_of : Callee P w K mg base "greatest_of" 2 ["fractions"] (spD K mg 1 S_greatest_of)) {S_thinness : Fn} (c_thinness : Callee P w K mg base "thinness" 7 ["room", "weight", "whole"] (spD K mg 3 S_thinness)) : Callee P w K mg base "floor_of" (7 + 1) ["room", "weights"] (spD K mg 2 (fnD 2 (F_floor_of S_check_box S_check_weights S_greatest_of S_thinness))) :=
  D.okD sc_floor_of (fun _ _ _ _ _ _ us hl => match us, hl with | [_, _], _ => rfl) fun f cdv A outer s H E hr =>
    (dss_cons (ds_expr (de_callF c_check_box (hr.mono (by omega)) rfl (passD_const pass1) (da_cons (de_var 0) da_nil)))
      (dss_cons (ds_expr (de_callF c_check_weights (hr.mono (by omega)) rfl (passD_const pass1) (da_cons (de_var 1) da_nil)))
      (dss_one (ds_ret (de_callF c_greatest_of (hr.mono (by omega)) rfl (passD_const pass1) (da_cons (de_op (or_add (K := K) rfl) od_add (de_lst (da_cons (de_tup (da_cons de_int (da_cons de_int da_nil))) da_nil)) (de_lc ["room", "weights"] (defScope s_floor_of).names ["weight", "room", "weights"] [none, some 0, some 1] rfl (di_seq rfl (de_var 1)) (fun _ _ _ _ _ => (dg_name (i := 0) (show List.Nodup (["weight", "room", "weights"] : List Str) from by decide +kernel) rfl (by first | exact Or.inl rfl | exact Or.inr rfl))) (fun _ _ _ _ _ => (de_callF c_thinness (hr.mono (by omega)) rfl passD_no (da_cons (de_var 1) (da_cons (de_var 0) (da_cons (de_callB (call_sumL (K := K) rfl rfl) cd_sum rfl T.n_sum bo_sum (da_cons (de_var 2) da_nil)) da_nil))))))) da_nil))))))
noncomputable def F_law_long : MS :=
  (sRet (eOp gIx (eFn mkLst (aCons (eC (.str "down")) (aCons (eC (.str "across")) aNil))) (eFn bInt (aCons (eOp gGe (eOp gMul (eOp gIx (eOp gIx (eVar 0) (eC (.int 2))) (eC (.int 0))) (eOp gIx (eOp gIx (eVar 0) (eC (.int 3))) (eC (.int 1)))) (eOp gMul (eOp gIx (eOp gIx (eVar 0) (eC (.int 3))) (eC (.int 0))) (eOp gIx (eOp gIx (eVar 0) (eC (.int 2))) (eC (.int 1))))) aNil))))
noncomputable def G_law_long : Fn := fnD 1 (F_law_long)
theorem den_law_long (T : Txt K mg a_RoomError a_NoFraction a_NoBox a_NoWay a_NoWeights a_TooMany a_NoRule a_NoText) (D : Def K mg "_law_long" s_law_long)  : Callee P w K mg base "_law_long" (0 + 1) ["_law_box"] (spD K mg 1 (fnD 1 (F_law_long))) :=
  D.okD sc_law_long (fun _ _ _ _ _ _ us hl => match us, hl with | [_], _ => rfl) fun f cdv A outer s H E hr =>
    (dss_one (ds_ret (de_ix (ixK (K := K) rfl) opd_ix (de_lst (da_cons de_str (da_cons de_str da_nil))) (de_callTy call_int1 cd_int rfl T.n_int bo_int (da_cons (de_cmp op_ge od_ge (de_op or_mul od_mul (de_ix (ixK (K := K) rfl) opd_ix (de_ix (ixK (K := K) rfl) opd_ix (de_var 0) de_int (fun _ _ => rfl)) de_int (fun _ _ => rfl)) (de_ix (ixK (K := K) rfl) opd_ix (de_ix (ixK (K := K) rfl) opd_ix (de_var 0) de_int (fun _ _ => rfl)) de_int (fun _ _ => rfl))) (de_op or_mul od_mul (de_ix (ixK (K := K) rfl) opd_ix (de_ix (ixK (K := K) rfl) opd_ix (de_var 0) de_int (fun _ _ => rfl)) de_int (fun _ _ => rfl)) (de_ix (ixK (K := K) rfl) opd_ix (de_ix (ixK (K := K) rfl) opd_ix (de_var 0) de_int (fun _ _ => rfl)) de_int (fun _ _ => rfl))) (nomark _)) da_nil)) (fun _ _ => rfl))))
noncomputable def B1_law_most : MS :=
  (sIf (tOf (eOp gGt (eOp gMul (eOp gIx (eVar 2) (eC (.int 0))) (eOp gIx (eVar 1) (eC (.int 1)))) (eOp gMul (eOp gIx (eVar 1) (eC (.int 0))) (eOp gIx (eVar 2) (eC (.int 1)))))) (sAsg (eVar 2) (gN 1)) sNx)
noncomputable def F_law_most : MS :=
  (sSeq (sAsg (eOp gIx (eVar 0) (eC (.int 0))) (gN 1))
    (sSeq (sFor (iSeq (eSl (eVar 0) (oSome (eC (.int 1))) oNone)) (gN 2) (B1_law_most))
    (sRet (eVar 1))))
noncomputable def G_law_most : Fn := fnD 3 (F_law_most)
theorem den_law_most (T : Txt K mg a_RoomError a_NoFraction a_NoBox a_NoWay a_NoWeights a_TooMany a_NoRule a_NoText) (D : Def K mg "_law_most" s_law_most)  : Callee P w K mg base "_law_most" (0 + 1) ["_law_some"] (spD K mg 1 (fnD 3 (F_law_most))) :=
  D.okD sc_law_most (fun _ _ _ _ _ _ us hl => match us, hl with | [_], _ => rfl) fun f cdv A outer s H E hr =>
    (dss_cons (ds_set (i := 1) sc_law_most.nd rfl (by first | exact Or.inl rfl | exact Or.inr rfl) (de_ix (ixK (K := K) rfl) opd_ix (de_var 0) de_int (fun _ _ => rfl)))
      (dss_cons (ds_for own1 rfl (di_seq rfl (de_slice rfl (de_var 0) (do_some de_int) do_none)) (dg_name (i := 2) sc_law_most.nd rfl (by first | exact Or.inl rfl | exact Or.inr rfl)) (dss_one (ds_if (dt_cmp op_gt od_gt (de_op or_mul od_mul (de_ix (ixK (K := K) rfl) opd_ix (de_var 2) de_int (fun _ _ => rfl)) (de_ix (ixK (K := K) rfl) opd_ix (de_var 1) de_int (fun _ _ => rfl))) (de_op or_mul od_mul (de_ix (ixK (K := K) rfl) opd_ix (de_var 1) de_int (fun _ _ => rfl)) (de_ix (ixK (K := K) rfl) opd_ix (de_var 2) de_int (fun _ _ => rfl))) (nomark _)) (dss_one (ds_set (i := 1) sc_law_most.nd rfl (by first | exact Or.inl rfl | exact Or.inr rfl) (de_var 2))) dss_nil)))
      (dss_one (ds_ret (de_var 1)))))
noncomputable def B1_law_due (S_law_long : Fn) (S_law_low : Fn) (S_law_most : Fn) : MS :=
  (sSeq (sAsg (eOp gMul (eOp gMul (eOp gMul (eOp gMul (eOp gIx (eVar 2) (eC (.int 0))) (eOp gIx (eVar 3) (eC (.int 0)))) (eVar 6)) (eOp gIx (eVar 4) (eC (.int 1)))) (eOp gIx (eVar 4) (eC (.int 1)))) (gN 7))
    (sExpr (eM mAppend (eVar 5) (aCons (eCall 2 S_law_low (aCons (eVar 7) (aCons (eOp gMul (eOp gMul (eOp gMul (eOp gMul (eOp gIx (eVar 2) (eC (.int 1))) (eOp gIx (eVar 3) (eC (.int 1)))) (eFn bSum (aCons (eVar 1) aNil))) (eOp gIx (eVar 4) (eC (.int 0)))) (eOp gIx (eVar 4) (eC (.int 0)))) aNil))) aNil))))
noncomputable def F_law_due (S_law_long : Fn) (S_law_low : Fn) (S_law_most : Fn) : MS :=
  (sSeq (sPar 2 3 (aCons (eOp gIx (eVar 0) (eC (.int 2))) (aCons (eOp gIx (eVar 0) (eC (.int 3))) aNil)))
    (sSeq (sAsg (eIf (tOf (eOp (gEq false) (eCall 1 S_law_long (aCons (eVar 0) aNil)) (eC (.str "across")))) (eVar 3) (eVar 2)) (gN 4))
    (sSeq (sAsg (eFn mkLst (aCons (eFn mkTup (aCons (eC (.int 1)) (aCons (eC (.int 1)) aNil))) aNil)) (gN 5))
    (sSeq (sFor (iSeq (eVar 1)) (gN 6) (B1_law_due S_law_long S_law_low S_law_most))
    (sRet (eCall 1 S_law_most (aCons (eVar 5) aNil)))))))
noncomputable def G_law_due : Fn := fnD 8 (F_law_due G_law_long G_law_low G_law_most)
theorem den_law_due (T : Txt K mg a_RoomError a_NoFraction a_NoBox a_NoWay a_NoWeights a_TooMany a_NoRule a_NoText) (D : Def K mg "_law_due" s_law_due) {S_law_long : Fn} (c_law_long : Callee P w K mg base "_law_long" 1 ["_law_box"] (spD K mg 1 S_law_long)) {S_law_low : Fn} (c_law_low : Callee P w K mg base "_law_low" 1 ["_law_top", "_law_bottom"] (spD K mg 2 S_law_low)) {S_law_most : Fn} (c_law_most : Callee P w K mg base "_law_most" 1 ["_law_some"] (spD K mg 1 S_law_most)) : Callee P w K mg base "_law_due" (1 + 1) ["_law_room_here", "_law_weights_here"] (spD K mg 2 (fnD 8 (F_law_due S_law_long S_law_low S_law_most))) :=
  D.okD sc_law_due (fun _ _ _ _ _ _ us hl => match us, hl with | [_, _], _ => rfl) fun f cdv A outer s H E hr =>
    (dss_cons (ds_par (i := 2) (j := 3) rfl sc_law_due.nd rfl rfl (by decide) rfl rfl (da_cons (de_ix (ixK (K := K) rfl) opd_ix (de_var 0) de_int (fun _ _ => rfl)) (da_cons (de_ix (ixK (K := K) rfl) opd_ix (de_var 0) de_int (fun _ _ => rfl)) da_nil)) rfl)
      (dss_cons (ds_set (i := 4) sc_law_due.nd rfl (by first | exact Or.inl rfl | exact Or.inr rfl) (de_if (dt_cmp (eqDK (K := K) rfl hr.units) opd_eq (de_callF c_law_long (hr.mono (by omega)) rfl (passD_const pass1) (da_cons (de_var 0) da_nil)) de_str (nomark _)) (de_var 3) (de_var 2)))
      (dss_cons (ds_set (i := 5) sc_law_due.nd rfl (by first | exact Or.inl rfl | exact Or.inr rfl) (de_lst (da_cons (de_tup (da_cons de_int (da_cons de_int da_nil))) da_nil)))
      (dss_cons (ds_for own1 rfl (di_seq rfl (de_var 1)) (dg_name (i := 6) sc_law_due.nd rfl (by first | exact Or.inl rfl | exact Or.inr rfl)) (dss_cons (ds_set (i := 7) sc_law_due.nd rfl (by first | exact Or.inl rfl | exact Or.inr rfl) (de_op or_mul od_mul (de_op or_mul od_mul (de_op or_mul od_mul (de_op or_mul od_mul (de_ix (ixK (K := K) rfl) opd_ix (de_var 2) de_int (fun _ _ => rfl)) (de_ix (ixK (K := K) rfl) opd_ix (de_var 3) de_int (fun _ _ => rfl))) (de_var 6)) (de_ix (ixK (K := K) rfl) opd_ix (de_var 4) de_int (fun _ _ => rfl))) (de_ix (ixK (K := K) rfl) opd_ix (de_var 4) de_int (fun _ _ => rfl))))
      (dss_one (ds_expr (de_m rfl PySem.F.slot_list_append PySem.F.type_list_append mt_append md_append (de_var 5) (da_cons (de_callF c_law_low (hr.mono (by omega)) rfl (passD_const pass1) (da_cons (de_var 7) (da_cons (de_op or_mul od_mul (de_op or_mul od_mul (de_op or_mul od_mul (de_op or_mul od_mul (de_ix (ixK (K := K) rfl) opd_ix (de_var 2) de_int (fun _ _ => rfl)) (de_ix (ixK (K := K) rfl) opd_ix (de_var 3) de_int (fun _ _ => rfl))) (de_callB (call_sumL (K := K) rfl rfl) cd_sum rfl T.n_sum bo_sum (da_cons (de_var 1) da_nil))) (de_ix (ixK (K := K) rfl) opd_ix (de_var 4) de_int (fun _ _ => rfl))) (de_ix (ixK (K := K) rfl) opd_ix (de_var 4) de_int (fun _ _ => rfl))) da_nil))) da_nil))))))
      (dss_one (ds_ret (de_callF c_law_most (hr.mono (by omega)) rfl (passD_const pass1) (da_cons (de_var 5) da_nil))))))))
noncomputable def F_law_class (S_floor_of : Fn) : MS :=
  (sSeq (sAsg (eC .non) (gN 2))
    (sSeq (sTry mro_RoomError 3 (sExpr (eCall 2 S_floor_of (aCons (eVar 0) (aCons (eVar 1) aNil)))) (sAsg (eVar 3) (gN 2)))
    (sSeq (sAsg (eFn mkLst (aCons (eFn (bIsi kits) (aCons (eVar 2) (aCons (eC (.glb "NoBox")) aNil))) (aCons (eFn (bIsi kits) (aCons (eVar 2) (aCons (eC (.glb "NoWeights")) aNil))) (aCons (eFn (bIsi kits) (aCons (eVar 2) (aCons (eC (.glb "TooMany")) aNil))) aNil)))) (gN 4))
    (sSeq (sIf (tO (tOf (eOp (gEq true) (eM mCountC (eVar 4) (aCons (eC (.bl true)) aNil)) (eC (.int 1)))) (tOf (eFn (bIsi kits) (aCons (eVar 2) (aCons (eFn mkTup (aCons (eC (.glb "NoFraction")) (aCons (eC (.glb "NoRule")) (aCons (eC (.glb "NoText")) (aCons (eC (.glb "NoWay")) aNil))))) aNil))))) (sRet (eC (.int 9))) sNx)
    (sRet (eM mIndex (eVar 4) (aCons (eC (.bl true)) aNil)))))))
noncomputable def G_law_class : Fn := fnD 5 (F_law_class G_floor_of)
theorem den_law_class (T : Txt K mg a_RoomError a_NoFraction a_NoBox a_NoWay a_NoWeights a_TooMany a_NoRule a_NoText) (D : Def K mg "_law_class" s_law_class) {S_floor_of : Fn} (c_floor_of : Callee P w K mg base "floor_of" 8 ["room", "weights"] (spD K mg 2 S_floor_of)) : Callee P w K mg base "_law_class" (8 + 1) ["_law_room_here", "_law_weights_here"] (spD K mg 2 (fnD 5 (F_law_class S_floor_of))) :=
  D.okD sc_law_class (fun _ _ _ _ _ _ us hl => match us, hl with | [_, _], _ => rfl) fun f cdv A outer s H E hr =>
    (dss_cons (ds_set (i := 2) sc_law_class.nd rfl (by first | exact Or.inl rfl | exact Or.inr rfl) de_non)
      (dss_cons (ds_try (i := 3) cxTop sc_law_class.nd rfl rfl rfl T.m_RoomError T.h_RoomError T.r_RoomError (fun _ _ _ hx => (dss_one (ds_expr (de_callF c_floor_of (hr.mono (by omega)) rfl hx (da_cons (de_var 0) (da_cons (de_var 1) da_nil)))))) (fun _ => (dss_one (ds_set (i := 2) sc_law_class.nd rfl (by first | exact Or.inl rfl | exact Or.inr rfl) (de_var 3)))))
      (dss_cons (ds_set (i := 4) sc_law_class.nd rfl (by first | exact Or.inl rfl | exact Or.inr rfl) (de_lst (da_cons (de_callB (isiKD (K := K) rfl) (cd_isi T.kits) rfl T.n_isinstance bo_isinstance (da_cons (de_var 2) (da_cons (de_glb rfl ⟨_, T.m_NoBox⟩) da_nil))) (da_cons (de_callB (isiKD (K := K) rfl) (cd_isi T.kits) rfl T.n_isinstance bo_isinstance (da_cons (de_var 2) (da_cons (de_glb rfl ⟨_, T.m_NoWeights⟩) da_nil))) (da_cons (de_callB (isiKD (K := K) rfl) (cd_isi T.kits) rfl T.n_isinstance bo_isinstance (da_cons (de_var 2) (da_cons (de_glb rfl ⟨_, T.m_TooMany⟩) da_nil))) da_nil)))))
      (dss_cons (ds_if (DW.dt (dw_or (dt_cmp (neDK (K := K) rfl hr.units) opd_ne (de_m rfl PySem.F.slot_list_count PySem.F.type_list_count (countK (K := K) rfl hr.u100) md_countC (de_var 4) (da_cons de_bl da_nil)) de_int (nomark _)) (dw_or1 (dt_val (de_callB (isiKD (K := K) rfl) (cd_isi T.kits) rfl T.n_isinstance bo_isinstance (da_cons (de_var 2) (da_cons (de_tup (da_cons (de_glb rfl ⟨_, T.m_NoFraction⟩) (da_cons (de_glb rfl ⟨_, T.m_NoRule⟩) (da_cons (de_glb rfl ⟨_, T.m_NoText⟩) (da_cons (de_glb rfl ⟨_, T.m_NoWay⟩) da_nil))))) da_nil))))))) (dss_one (ds_ret de_int)) dss_nil)
      (dss_one (ds_ret (de_m rfl PySem.F.slot_list_index PySem.F.type_list_index (indexK (K := K) rfl hr.u100) md_index (de_var 4) (da_cons de_bl da_nil))))))))
noncomputable def F_law (S_law_feed : Fn) (S_law_room : Fn) (S_law_weights : Fn) (S_law_next : Fn) (S_floor_of : Fn) (S_law_due : Fn) (S_law_class : Fn) : MS :=
  (sSeq (sAsg (eCall 2 S_law_feed (aCons (eVar 0) (aCons (eC (.int 55)) aNil))) (gN 1))
    (sSeq (sAsg (eCall 1 S_law_room (aCons (eVar 1) aNil)) (gN 2))
    (sSeq (sAsg (eCall 3 S_law_weights (aCons (eVar 0) (aCons (eC (.int 0)) (aCons (eOp gIx (eFn mkLst (aCons (eC (.int 9)) (aCons (eC (.int 40)) aNil))) (eFn bInt (aCons (eOp (gEq false) (eCall 2 S_law_next (aCons (eVar 1) (aCons (eC (.int 6)) aNil))) (eC (.int 0))) aNil))) aNil)))) (gN 3))
    (sSeq (sAsg (eFn bList (aCons (eVar 3) aNil)) (gN 4))
    (sSeq (sIf (tO (tOf (eOp (gEq true) (eCall 2 S_floor_of (aCons (eVar 2) (aCons (eVar 3) aNil))) (eCall 2 S_law_due (aCons (eVar 2) (aCons (eVar 3) aNil))))) (tOf (eOp (gEq true) (eVar 3) (eVar 4)))) (sRet (eC (.bl false))) sNx)
    (sSeq (sAsg (eCall 2 S_law_next (aCons (eVar 1) (aCons (eFn bLen (aCons (eVar 3) aNil)) aNil))) (gN 5))
    (sSeq (sAsg (eFn bList (aCons (eVar 3) aNil)) (gN 6))
    (sSeq (sAsg (eOp gIx (eFn mkLst (aCons (eC (.int 0)) (aCons (eOp gMin (eC (.int 0)) (eOp gIx (eVar 3) (eVar 5))) (aCons (eC (.bl true)) (aCons (eC .non) (aCons (eC (.str "1")) (aCons (eFn mkLst (aCons (eC (.int 1)) aNil)) aNil))))))) (eCall 2 S_law_next (aCons (eVar 1) (aCons (eC (.int 6)) aNil)))) (gS (eVar 6) (eVar 5) wL))
    (sSeq (sIf (tO (tOf (eOp (gEq true) (eCall 2 S_law_class (aCons (eVar 2) (aCons (eVar 6) aNil))) (eC (.int 1)))) (tO (tOf (eOp (gEq true) (eCall 2 S_law_class (aCons (eSl (eVar 2) oNone (oSome (eC (.int 3)))) (aCons (eVar 6) aNil))) (eC (.int 0)))) (tOf (eOp (gEq true) (eCall 2 S_law_class (aCons (eVar 2) (aCons (eFn mkLst aNil) aNil))) (eC (.int 1)))))) (sRet (eC (.bl false))) sNx)
    (sSeq (sAsg (eOp gRep (eFn mkLst (aCons (eC (.int 1)) aNil)) (eC (.int 41))) (gN 7))
    (sSeq (sIf (tO (tOf (eOp (gEq true) (eCall 2 S_law_class (aCons (eVar 2) (aCons (eVar 7) aNil))) (eC (.int 2)))) (tOf (eOp (gEq true) (eCall 2 S_law_class (aCons (eC .non) (aCons (eVar 7) aNil))) (eC (.int 0))))) (sRet (eC (.bl false))) sNx)
    (sSeq (sAsg (eC (.int 0)) (gS (eVar 7) (eOp gIx (eFn mkLst (aCons (eC (.int 0)) (aCons (eC (.int 40)) (aCons (eCall 2 S_law_next (aCons (eVar 1) (aCons (eC (.int 41)) aNil))) aNil)))) (eCall 2 S_law_next (aCons (eVar 1) (aCons (eC (.int 3)) aNil)))) wL))
    (sSeq (sIf (tO (tOf (eOp (gEq true) (eCall 2 S_law_class (aCons (eVar 2) (aCons (eVar 7) aNil))) (eC (.int 1)))) (tOf (eOp (gEq true) (eCall 2 S_floor_of (aCons (eVar 2) (aCons (eVar 3) aNil))) (eCall 2 S_law_due (aCons (eVar 2) (aCons (eVar 3) aNil)))))) (sRet (eC (.bl false))) sNx)
    (sSeq (sAsg (eOp gAdd (eC (.int 1)) (eOp gMod (eOp gIx (eVar 3) (eC (.int 0))) (eOp gPow (eC (.int 10)) (eC (.int 6))))) (gS (eVar 3) (eOp gMin (eFn bLen (aCons (eVar 3) aNil)) (eC (.int 1))) wL))
    (sRet (eOp (gEq false) (eCall 2 S_floor_of (aCons (eVar 2) (aCons (eVar 3) aNil))) (eCall 2 S_law_due (aCons (eVar 2) (aCons (eVar 3) aNil)))))))))))))))))))
noncomputable def G_law : Fn := fnD 8 (F_law G_law_feed G_law_room G_law_weights G_law_next G_floor_of G_law_due G_law_class)
theorem den_law (T : Txt K mg a_RoomError a_NoFraction a_NoBox a_NoWay a_NoWeights a_TooMany a_NoRule a_NoText) (D : Def K mg "law" s_law) {S_law_feed : Fn} (c_law_feed : Callee P w K mg base "_law_feed" 1 ["_law_script", "_law_k"] (spD K mg 2 S_law_feed)) {S_law_room : Fn} (c_law_room : Callee P w K mg base "_law_room" 3 ["_law_feed_here"] (spD K mg 1 S_law_room)) {S_law_weights : Fn} (c_law_weights : Callee P w K mg base "_law_weights" 3 ["_law_script", "_law_at", "_law_most_here"] (spD K mg 3 S_law_weights)) {S_law_next : Fn} (c_law_next : Callee P w K mg base "_law_next" 1 ["_law_feed_here", "_law_many"] (spD K mg 2 S_law_next)) {S_floor_of : Fn} (c_floor_of : Callee P w K mg base "floor_of" 8 ["room", "weights"] (spD K mg 2 S_floor_of)) {S_law_due : Fn} (c_law_due : Callee P w K mg base "_law_due" 2 ["_law_room_here", "_law_weights_here"] (spD K mg 2 S_law_due)) {S_law_class : Fn} (c_law_class : Callee P w K mg base "_law_class" 9 ["_law_room_here", "_law_weights_here"] (spD K mg 2 S_law_class)) : Callee P w K mg base "law" (9 + 1) ["_law_script"] (spD K mg 1 (fnD 8 (F_law S_law_feed S_law_room S_law_weights S_law_next S_floor_of S_law_due S_law_class))) :=
  D.okD sc_law (fun _ _ _ _ _ _ us hl => match us, hl with | [_], _ => rfl) fun f cdv A outer s H E hr =>
    (dss_cons (ds_set (i := 1) sc_law.nd rfl (by first | exact Or.inl rfl | exact Or.inr rfl) (de_callF c_law_feed (hr.mono (by omega)) rfl (passD_const pass1) (da_cons (de_var 0) (da_cons de_int da_nil))))
      (dss_cons (ds_set (i := 2) sc_law.nd rfl (by first | exact Or.inl rfl | exact Or.inr rfl) (de_callF c_law_room (hr.mono (by omega)) rfl (passD_const pass1) (da_cons (de_var 1) da_nil)))
      (dss_cons (ds_set (i := 3) sc_law.nd rfl (by first | exact Or.inl rfl | exact Or.inr rfl) (de_callF c_law_weights (hr.mono (by omega)) rfl (passD_const pass1) (da_cons (de_var 0) (da_cons de_int (da_cons (de_ix (ixK (K := K) rfl) opd_ix (de_lst (da_cons de_int (da_cons de_int da_nil))) (de_callTy call_int1 cd_int rfl T.n_int bo_int (da_cons (de_cmp (eqDK (K := K) rfl hr.units) opd_eq (de_callF c_law_next (hr.mono (by omega)) rfl (passD_const pass1) (da_cons (de_var 1) (da_cons de_int da_nil))) de_int (nomark _)) da_nil)) (fun _ _ => rfl)) da_nil)))))
      (dss_cons (ds_set (i := 4) sc_law.nd rfl (by first | exact Or.inl rfl | exact Or.inr rfl) (de_callTy (listKD (K := K) rfl) cd_list rfl T.n_list bo_list (da_cons (de_var 3) da_nil)))
      (dss_cons (ds_if (DW.dt (dw_or (dt_cmp (neDK (K := K) rfl hr.units) opd_ne (de_callF c_floor_of (hr.mono (by omega)) rfl (passD_const pass1) (da_cons (de_var 2) (da_cons (de_var 3) da_nil))) (de_callF c_law_due (hr.mono (by omega)) rfl (passD_const pass1) (da_cons (de_var 2) (da_cons (de_var 3) da_nil))) (nomark _)) (dw_or1 (dt_cmp (neDK (K := K) rfl hr.units) opd_ne (de_var 3) (de_var 4) (nomark _))))) (dss_one (ds_ret de_bl)) dss_nil)
      (dss_cons (ds_set (i := 5) sc_law.nd rfl (by first | exact Or.inl rfl | exact Or.inr rfl) (de_callF c_law_next (hr.mono (by omega)) rfl (passD_const pass1) (da_cons (de_var 1) (da_cons (de_callB (lenKD (K := K) rfl) cd_len rfl T.n_len bo_len (da_cons (de_var 3) da_nil)) da_nil))))
      (dss_cons (ds_set (i := 6) sc_law.nd rfl (by first | exact Or.inl rfl | exact Or.inr rfl) (de_callTy (listKD (K := K) rfl) cd_list rfl T.n_list bo_list (da_cons (de_var 3) da_nil)))
      (dss_cons (ds_asg (de_ix (ixK (K := K) rfl) opd_ix (de_lst (da_cons de_int (da_cons (de_op op_sub od_sub de_int (de_ix (ixK (K := K) rfl) opd_ix (de_var 3) (de_var 5) (fun _ _ => rfl))) (da_cons de_bl (da_cons de_non (da_cons de_str (da_cons (de_lst (da_cons de_int da_nil)) da_nil))))))) (de_callF c_law_next (hr.mono (by omega)) rfl (passD_const pass1) (da_cons (de_var 1) (da_cons de_int da_nil))) (fun _ _ => rfl)) (dg_sub (de_var 6) (de_var 5) set_list sd_list))
      (dss_cons (ds_if (DW.dt (dw_or (dt_cmp (neDK (K := K) rfl hr.units) opd_ne (de_callF c_law_class (hr.mono (by omega)) rfl (passD_const pass1) (da_cons (de_var 2) (da_cons (de_var 6) da_nil))) de_int (nomark _)) (dw_or (dt_cmp (neDK (K := K) rfl hr.units) opd_ne (de_callF c_law_class (hr.mono (by omega)) rfl (passD_const pass1) (da_cons (de_slice rfl (de_var 2) do_none (do_some de_int)) (da_cons (de_var 6) da_nil))) de_int (nomark _)) (dw_or1 (dt_cmp (neDK (K := K) rfl hr.units) opd_ne (de_callF c_law_class (hr.mono (by omega)) rfl (passD_const pass1) (da_cons (de_var 2) (da_cons (de_lst da_nil) da_nil))) de_int (nomark _)))))) (dss_one (ds_ret de_bl)) dss_nil)
      (dss_cons (ds_set (i := 7) sc_law.nd rfl (by first | exact Or.inl rfl | exact Or.inr rfl) (de_op op_rep opd_rep (de_lst (da_cons de_int da_nil)) de_int))
      (dss_cons (ds_if (DW.dt (dw_or (dt_cmp (neDK (K := K) rfl hr.units) opd_ne (de_callF c_law_class (hr.mono (by omega)) rfl (passD_const pass1) (da_cons (de_var 2) (da_cons (de_var 7) da_nil))) de_int (nomark _)) (dw_or1 (dt_cmp (neDK (K := K) rfl hr.units) opd_ne (de_callF c_law_class (hr.mono (by omega)) rfl (passD_const pass1) (da_cons de_non (da_cons (de_var 7) da_nil))) de_int (nomark _))))) (dss_one (ds_ret de_bl)) dss_nil)
      (dss_cons (ds_asg de_int (dg_sub (de_var 7) (de_ix (ixK (K := K) rfl) opd_ix (de_lst (da_cons de_int (da_cons de_int (da_cons (de_callF c_law_next (hr.mono (by omega)) rfl (passD_const pass1) (da_cons (de_var 1) (da_cons de_int da_nil))) da_nil)))) (de_callF c_law_next (hr.mono (by omega)) rfl (passD_const pass1) (da_cons (de_var 1) (da_cons de_int da_nil))) (fun _ _ => rfl)) set_list sd_list))
      (dss_cons (ds_if (DW.dt (dw_or (dt_cmp (neDK (K := K) rfl hr.units) opd_ne (de_callF c_law_class (hr.mono (by omega)) rfl (passD_const pass1) (da_cons (de_var 2) (da_cons (de_var 7) da_nil))) de_int (nomark _)) (dw_or1 (dt_cmp (neDK (K := K) rfl hr.units) opd_ne (de_callF c_floor_of (hr.mono (by omega)) rfl (passD_const pass1) (da_cons (de_var 2) (da_cons (de_var 3) da_nil))) (de_callF c_law_due (hr.mono (by omega)) rfl (passD_const pass1) (da_cons (de_var 2) (da_cons (de_var 3) da_nil))) (nomark _))))) (dss_one (ds_ret de_bl)) dss_nil)
      (dss_cons (ds_asg (de_op (or_add (K := K) rfl) od_add de_int (de_op op_modN od_mod (de_ix (ixK (K := K) rfl) opd_ix (de_var 3) de_int (fun _ _ => rfl)) (de_op op_pow od_pow de_int de_int))) (dg_sub (de_var 3) (de_op op_sub od_sub (de_callB (lenKD (K := K) rfl) cd_len rfl T.n_len bo_len (da_cons (de_var 3) da_nil)) de_int) set_list sd_list))
      (dss_one (ds_ret (de_cmp (eqDK (K := K) rfl hr.units) opd_eq (de_callF c_floor_of (hr.mono (by omega)) rfl (passD_const pass1) (da_cons (de_var 2) (da_cons (de_var 3) da_nil))) (de_callF c_law_due (hr.mono (by omega)) rfl (passD_const pass1) (da_cons (de_var 2) (da_cons (de_var 3) da_nil))) (nomark _))))))))))))))))))
end
/-! fracs -/
theorem cd_loop (h : AH) : ∀ (n one other : Nat), other ≤ n → sWh (tOf (eOp (gEq true) (eVar 1) (eC (D.int 0)))) (sPar 0 1 (aCons (eVar 1) (aCons (eOp gMod (eVar 0) (eVar 1)) aNil))) [some (.int (one : Nat)), some (.int (other : Nat))] h = .nx [some (.int (Nat.gcd one other : Nat)), some (.int 0)] h
  | n, one, 0, _ => by
    rw [sWh_step]
    simp! [bind_ok]
    rw [Nat.gcd_zero_right]
    try rfl
  | 0, one, other + 1, hl => absurd hl (by omega)
  | n + 1, one, other + 1, hl => by
    rw [sWh_step]
    simp! [bind_ok]
    have e : ((((other + 1 : Nat) : Int) == 0)) = false := by rw [beq_eq_false_iff_ne]; omega
    rw [e]
    simp! [bind_ok]
    rw [gMod_ok (by omega)]
    simp! [bind_ok]
    have e2 : ((one : Nat) : Int).fmod ((other + 1 : Nat) : Int) = ((one % (other + 1) : Nat) : Int) := by
      rw [Int.fmod_eq_emod_of_nonneg _ (by omega)]; rfl
    rw [e2, cd_loop h n (other + 1) (one % (other + 1)) (by have := Nat.mod_lt one (show other + 1 > 0 by omega); omega)]
    rw [Fr.euc]
theorem abs_nat (a : Int) : (if a < 0 then -a else a) = ((a.natAbs : Nat) : Int) := by split <;> omega
theorem common_divisor_eq (a b : Int) (h : AH) : G_common_divisor [.int a, .int b] h = .ok (.int (Int.gcd a b : Nat)) h := by
  unfold G_common_divisor F_common_divisor
  simp! [bind_ok]
  rw [abs_nat a, abs_nat b, cd_loop h _ _ _ (Nat.le_refl _)]
  simp! [bind_ok]
  try rfl
theorem fraction_eq {a b : Int} (hb : b ≠ 0) (hs : Sm 8000 b) (h : AH) : G_fraction [.int a, .int b] h = .ok (fD ((a : Rat) / (b : Rat))) h := by
  unfold G_fraction F_fraction
  have e : (b == 0) = false := by rw [beq_eq_false_iff_ne]; exact hb
  simp! [e, common_divisor_eq]
  have key : ∀ d : Int, d = Fr.dv a b → (match gDiv (.int a) (.int d) h with
    | .ok x h1 => (match gDiv (.int b) (.int d) h1 with | .ok y h2 => R.ok (D.tup [x, y]) h2 | _ => .stuck) | _ => .stuck) = .ok (fD ((a : Rat) / (b : Rat))) h := by
    rintro d rfl
    have c : ∀ x, CDivB x (Fr.dv a b) := fun x => CDivB.of (Fr.dv_ne hb) (hs.of_le (by
      rw [Fr.dv_abs]
      exact Nat.le_of_dvd (by omega) (Nat.gcd_dvd_right a.natAbs b.natAbs)))
    rw [gDiv_ok (c a)]
    dsimp only
    rw [gDiv_ok (c b)]
    dsimp only
    have hh := fr_eq (a := a) hb
    unfold fD
    rw [← hh.1, ← hh.2]
    rfl
  have k2 := key (Fr.dv a b) rfl
  by_cases hn : b < 0
  · rw [decide_eq_true hn]
    simp! [bind_ok]
    have hd : Fr.dv a b = -((Int.gcd a b : Nat) : Int) := by unfold Fr.dv; rw [if_pos hn]
    rw [hd] at k2
    cases q1 : gDiv (.int a) (.int (-((Int.gcd a b : Nat) : Int))) h with
    | ok x h1 =>
      rw [q1] at k2
      dsimp only at k2
      cases q2 : gDiv (.int b) (.int (-((Int.gcd a b : Nat) : Int))) h1 with
      | ok y h2 => rw [q2] at k2; simp! [q2]; exact k2
      | exc c h2 => rw [q2] at k2; cases k2
      | stuck => rw [q2] at k2; cases k2
    | exc c h1 => rw [q1] at k2; cases k2
    | stuck => rw [q1] at k2; cases k2
  · rw [decide_eq_false hn]
    simp! [bind_ok]
    have hd : Fr.dv a b = ((Int.gcd a b : Nat) : Int) := by unfold Fr.dv; rw [if_neg hn]
    rw [hd] at k2
    cases q1 : gDiv (.int a) (.int (((Int.gcd a b : Nat) : Int))) h with
    | ok x h1 =>
      rw [q1] at k2
      dsimp only at k2
      cases q2 : gDiv (.int b) (.int (((Int.gcd a b : Nat) : Int))) h1 with
      | ok y h2 => rw [q2] at k2; simp! [q2]; exact k2
      | exc c h2 => rw [q2] at k2; cases k2
      | stuck => rw [q2] at k2; cases k2
    | exc c h1 => rw [q1] at k2; cases k2
    | stuck => rw [q1] at k2; cases k2
theorem gIx_fD0 (q : Rat) (h : AH) : gIx (fD q) (.int 0) h = .ok (.int q.num) h := rfl
theorem gIx_fD1 (q : Rat) (h : AH) : gIx (fD q) (.int 1) h = .ok (.int q.den) h := rfl
theorem times_eq {p q : Rat} {n m : Nat} (hp : Sz n p) (hq : Sz m q) (hl : n + m ≤ 8000) (h : AH) : G_times [fD p, fD q] h = .ok (fD (p * q)) h := by
  unfold G_times F_times
  simp! [gIx_fD0, gIx_fD1, gMul_ok (CMulA.of hp.top hq.top (by omega) (by omega)), gMul_ok (CMulA.of hp.bot hq.bot (by omega) (by omega))]
  rw [fraction_eq (Int.mul_ne_zero (den_ne p) (den_ne q)) ((hp.bot.mul hq.bot).mono hl), ← rat_mul]
  rfl
/-! rooms -/
theorem fD_of {a b : Int} (h1 : 1 ≤ b) (h2 : Int.gcd a b = 1) : D.tup [.int a, .int b] = fD ((a : Rat) / (b : Rat)) := by
  have hb : b ≠ 0 := by omega
  have h := fr_eq (a := a) hb
  have s := Fr.self (by omega) h2
  unfold fD
  rw [← h.1, ← h.2, s.1, s.2]
theorem isFr_mk (q : Rat) : isFr (fD q) = true := by
  show (decide (1 ≤ (q.den : Int)) && decide (Int.gcd q.num q.den = 1)) = true
  have := q.den_pos
  rw [decide_eq_true (by omega), decide_eq_true (rat_gcd q)]; rfl
theorem fr_of {d : D} (h : isFr d = true) : ∃ q, d = fD q := by
  unfold isFr at h
  split at h
  · rename_i a b
    simp only [Bool.and_eq_true, decide_eq_true_eq] at h
    exact ⟨_, fD_of h.1 h.2⟩
  · cases h
theorem posTop_fD (q : Rat) : posTop (fD q) = decide (0 < q) := by
  show decide (0 < q.num) = decide (0 < q)
  rw [decide_eq_decide]
  exact rat_pos
theorem isBx_mk {b : Bx} (h : b.Ok) : isBx (bD b) = true := by
  show (isFr (fD b.l) && (isFr (fD b.t) && (isFr (fD b.w) && (isFr (fD b.h) && (posTop (fD b.w) && posTop (fD b.h)))))) = true
  rw [isFr_mk, isFr_mk, isFr_mk, isFr_mk, posTop_fD, posTop_fD, decide_eq_true h.w, decide_eq_true h.h]; rfl
theorem ask_bD (b : Bx) (h : AH) : askB 2 h (bD b) = true := rfl
theorem is_whole_eq {d : D} {h : AH} (ha : kn h d = true) : G_is_whole [d] h = .ok (.bl (isI d)) h := by
  unfold G_is_whole F_is_whole
  cases d with
  | ref n =>
    obtain ⟨t, e⟩ := Option.isSome_iff_exists.mp (show (tyD h (.ref n)).isSome = true from ha)
    have ht : t = .b "list" ∨ t = .b "dict" := by
      unfold tyD at e
      dsimp only at e
      split at e <;> cases e <;> first | exact .inl rfl | exact .inr rfl
    simp! [bIsi, e]
    rcases ht with rfl | rfl <;> rfl
  | exc x => cases ha
  | ty _ => cases ha
  | glb _ => cases ha
  | kl _ => cases ha
  | _ => rfl
theorem isi_tup {d : D} {h : AH} (ha : kn h d = true) : bIsi kits [d, .ty "tuple"] h = .ok (.bl (isTup d)) h := by
  cases d with
  | ref n =>
    obtain ⟨t, e⟩ := Option.isSome_iff_exists.mp (show (tyD h (.ref n)).isSome = true from ha)
    have ht : t = .b "list" ∨ t = .b "dict" := by
      unfold tyD at e
      dsimp only at e
      split at e <;> cases e <;> first | exact .inl rfl | exact .inr rfl
    unfold bIsi
    dsimp only
    rw [e]
    rcases ht with rfl | rfl <;> rfl
  | exc x => cases ha
  | ty _ => cases ha
  | glb _ => cases ha
  | kl _ => cases ha
  | _ => rfl
theorem bLen_tup (xs : List D) (h : AH) : bLen [.tup xs] h = .ok (.int xs.length) h := rfl
theorem ask1 {h : AH} {d : D} (ha : askB 1 h d = true) (hn : ∀ xs, d ≠ .tup xs) : kn h d = true := by
  cases d with
  | tup xs => exact absurd rfl (hn xs)
  | _ => exact ha
theorem is_fraction_eq {d : D} {h : AH} (ha : askB 1 h d = true) : G_is_fraction [d] h = .ok (.bl (isFr d)) h := by
  unfold G_is_fraction F_is_fraction
  cases d with
  | tup xs =>
    simp! [isi_tup (d := .tup xs) (h := h) rfl, bLen_tup, isTup]
    by_cases hl : xs.length = 2
    · match xs, hl, ha with
      | [a, b], _, ha =>
        have ha' : (kn h a && (kn h b && true)) = true := ha
        simp only [Bool.and_eq_true] at ha'
        simp! [beq_self_eq_true]
        rw [is_whole_eq ha'.1]
        cases a with
        | int i =>
          simp! [isI]
          rw [is_whole_eq ha'.2.1]
          cases b with
          | int j =>
            simp! [isI, common_divisor_eq]
            by_cases hj : 1 ≤ j
            · rw [decide_eq_true hj]
              simp! [bind_ok]
              show R.ok (D.bl (((Int.gcd i j : Nat) : Int) == 1)) h = .ok (.bl (decide (1 ≤ j) && decide (Int.gcd i j = 1))) h
              rw [decide_eq_true hj, Bool.true_and]
              have : ((((Int.gcd i j : Nat) : Int) == 1) : Bool) = decide (Int.gcd i j = 1) := by
                rw [Bool.eq_iff_iff, beq_iff_eq, decide_eq_true_eq]; omega
              rw [this]
            · rw [decide_eq_false hj]
              simp! [bind_ok]
              show R.ok (D.bl false) h = .ok (.bl (decide (1 ≤ j) && _)) h
              rw [decide_eq_false hj]; rfl
          | _ => simp! [isI]; rfl
        | _ => simp! [isI]; rfl
    · have e : (((xs.length : Nat) : Int) == 2) = false := by rw [beq_eq_false_iff_ne]; omega
      simp! [e]
      have : isFr (.tup xs) = false := by
        unfold isFr
        split
        · rename_i e; injection e with e; subst e; exact absurd rfl hl
        · rfl
      rw [this]
  | _ =>
    have hk := ask1 ha (by intro xs z; cases z)
    simp! [isi_tup hk, isTup]
    rfl
theorem is_box_raw {d : D} {h : AH} (ha : askB 2 h d = true) : ∃ g, G_is_box [d] h = .ok (.bl (isBx d)) (h ++ g) := by
  unfold G_is_box F_is_box
  cases d with
  | tup xs =>
    by_cases hl : xs.length = 4
    · match xs, hl, ha with
      | [a, b, c, d], _, ha =>
        have ha' : (askB 1 h a && (askB 1 h b && (askB 1 h c && (askB 1 h d && true)))) = true := ha
        simp only [Bool.and_eq_true] at ha'
        have hf : ∀ x ∈ [a, b, c, d], G_is_fraction [x] h = .ok (.bl (isFr x)) h := by
          intro x hx
          simp only [List.mem_cons, List.not_mem_nil, or_false] at hx
          rcases hx with rfl | rfl | rfl | rfl
          · exact is_fraction_eq ha'.1
          · exact is_fraction_eq ha'.2.1
          · exact is_fraction_eq ha'.2.2.1
          · exact is_fraction_eq ha'.2.2.2.1
        have hc := lc_call (S := G_is_fraction) (f := fun x => .bl (isFr x)) (F := eVar 0) (d := .tup [a, b, c, d]) (xs := [a, b, c, d]) (ae := [some (.tup [a, b, c, d])]) (h := h) rfl rfl (by intro ys z; cases z) (by simp) hf
        refine ⟨[.lst ([a, b, c, d].map fun x => .bl (isFr x))], ?_⟩
        have e1 : ([a, b, c, d].all isFr) = (isFr a && (isFr b && (isFr c && (isFr d && true)))) := rfl
        have hn := bAll_new h [a, b, c, d] isFr
        generalize ([a, b, c, d].map fun x => D.bl (isFr x)) = g0 at *
        generalize [a, b, c, d].all isFr = bb at *
        simp! [isi_tup (d := .tup [a, b, c, d]) (h := h) rfl, len_tup, hc, hn, isTup]
        generalize [Ob.lst g0] = g at *
        cases hA : bb with
        | false =>
          simp! [bind_ok]
          have : isBx (.tup [a, b, c, d]) = false := by
            show (isFr a && (isFr b && (isFr c && (isFr d && (posTop c && posTop d))))) = false
            rw [hA] at e1
            have hA := e1.symm
            cases h1 : isFr a <;> cases h2 : isFr b <;> cases h3 : isFr c <;> cases h4 : isFr d <;> simp [h1, h2, h3, h4] at hA ⊢
          rw [this]
        | true =>
          rw [hA] at e1
          have hA := e1.symm
          simp only [Bool.and_eq_true, and_true] at hA
          obtain ⟨h1, h2, h3, h4⟩ := hA
          have e2 : isBx (.tup [a, b, c, d]) = (posTop c && posTop d) := by
            show (isFr a && (isFr b && (isFr c && (isFr d && (posTop c && posTop d))))) = _
            rw [h1, h2, h3, h4]; rfl
          rw [e2]
          obtain ⟨p, rfl⟩ := fr_of h3
          obtain ⟨q, rfl⟩ := fr_of h4
          have e3 : ∀ h', gIx (.tup [a, b, fD p, fD q]) (.int 2) h' = .ok (fD p) h' := fun _ => rfl
          have e4 : ∀ h', gIx (.tup [a, b, fD p, fD q]) (.int 3) h' = .ok (fD q) h' := fun _ => rfl
          simp! [e3, e4, gIx_fD0]
          show _ = R.ok (D.bl (decide (0 < p.num) && decide (0 < q.num))) (h ++ g)
          by_cases hp : 0 < p.num
          · rw [decide_eq_true hp]; rfl
          · rw [decide_eq_false hp]; rfl
    · have e : (((xs.length : Nat) : Int) == 4) = false := by rw [beq_eq_false_iff_ne]; omega
      simp! [isi_tup (d := .tup xs) (h := h) rfl, len_tup, e, isTup]
      have : isBx (.tup xs) = false := by
        unfold isBx
        split
        · rename_i e; injection e with e; subst e; exact absurd rfl hl
        · rfl
      rw [this]
      exact ⟨[], by rw [List.append_nil]⟩
  | _ =>
    have hk : kn h _ = true := ha
    refine ⟨[], ?_⟩
    simp! [isi_tup hk, isTup, List.append_nil]
    rfl
theorem rf_is_box (ds : List D) (h : AH) (hl : ds.length = 1) : Rf h (G_is_box ds h) (S_is_box ds h) := by
  match ds, hl with
  | [d], _ =>
    unfold S_is_box
    dsimp only
    split
    · rename_i ha
      obtain ⟨g, e⟩ := is_box_raw ha
      rw [e]
      exact .grew (.bl _)
    · exact .stuck _
theorem S_is_box_eq {d : D} {h : AH} (ha : askB 2 h d = true) : S_is_box [d] h = .ok (.bl (isBx d)) h := by
  unfold S_is_box; dsimp only; rw [if_pos ha]
theorem rf_check_box (ds : List D) (h : AH) (hl : ds.length = 1) : Rf h (G_check_box ds h) (S_check_box ds h) := by
  match ds, hl with
  | [d], _ =>
    unfold S_check_box
    dsimp only
    split
    · rename_i ha
      have e : G_check_box [d] h = if isBx d = true then .ok .non h else .exc "NoBox" h := by
        unfold G_check_box F_check_box
        simp! [S_is_box_eq ha]
        cases isBx d <;> rfl
      rw [e]
      exact .eq _
    · exact .stuck _
theorem check_box_ok {b : Bx} (hb : b.Ok) (h : AH) : S_check_box [bD b] h = .ok .non h := by
  unfold S_check_box
  dsimp only
  rw [if_pos (ask_bD b h), if_pos (isBx_mk hb)]
theorem isi_list {d : D} {h : AH} (ha : kn h d = true) : bIsi kits [d, .ty "list"] h = .ok (.bl (isLst h d)) h := by
  cases d with
  | ref n =>
    unfold bIsi tyD isLst seqAt
    have hk : (tyD h (.ref n)).isSome = true := ha
    unfold tyD at hk
    dsimp only at hk ⊢
    cases q : h[n]? with
    | none => rw [q] at hk; cases hk
    | some o =>
      rw [q] at hk
      cases o with
      | lst xs => rfl
      | fz xs => rfl
      | dct kvs => rfl
      | _ => cases hk
  | exc x => cases ha
  | ty _ => cases ha
  | glb _ => cases ha
  | kl _ => cases ha
  | _ => rfl
theorem is_weight_eq {d : D} {h : AH} (ha : kn h d = true) : G_is_weight [d] h = .ok (.bl (isWt d)) h := by
  unfold G_is_weight F_is_weight
  simp! [is_whole_eq ha]
  cases d <;> rfl
theorem rf_check_weights (ds : List D) (h : AH) (hl : ds.length = 1) : Rf h (G_check_weights ds h) (S_check_weights ds h) := by
  match ds, hl with
  | [d], _ =>
    show Rf h _ (chkW h d)
    have other : kn h d = true → (∀ n, d = .ref n → seqAt h n = none) → Rf h (G_check_weights [d] h) (.exc "NoWeights" h) := by
      intro hk hn
      have e : G_check_weights [d] h = .exc "NoWeights" h := by
        unfold G_check_weights F_check_weights
        simp! [isi_list hk]
        cases d with
        | ref n =>
          simp! [isLst, hn n rfl, Option.isSome_none]
        | _ => simp! [isLst]
      rw [e]
      exact .eq _
    cases d with
    | ref n =>
      unfold chkW
      dsimp only
      split
      · rename_i xs ex
        split
        · rename_i hk
          have hkn : kn h (.ref n) = true := by
            show (tyD h (.ref n)).isSome = true
            unfold seqAt at ex
            unfold tyD
            dsimp only
            split at ex
            · rename_i e; rw [e]; rfl
            · rename_i e; rw [e]; rfl
            · cases ex
          have elen : bLen [.ref n] h = .ok (.int xs.length) h := by
            unfold bLen
            show (match seqAt h n with | some xs => _ | none => _) = _
            rw [ex]
          have hc := lc_call (S := G_is_weight) (f := fun x => .bl (isWt x)) (F := eVar 0) (d := .ref n) (xs := xs) (ae := [some (.ref n)]) (h := h) rfl ex (by intro ys z; cases z) (by have := hk.1; omega) (fun x hx => is_weight_eq (List.all_eq_true.mp hk.2 x hx))
          have elen2 : ∀ g, bLen [.ref n] (h ++ g) = .ok (.int xs.length) (h ++ g) := by
            intro g
            unfold bLen
            show (match seqAt (h ++ g) n with | some xs => _ | none => _) = _
            rw [seqAt_app ex]
          by_cases hz : xs = []
          · rw [if_pos hz]
            subst hz
            have e : G_check_weights [.ref n] h = .exc "NoWeights" h := by
              unfold G_check_weights F_check_weights
              simp! [isi_list hkn, isLst, ex, Option.isSome_some, elen]
            rw [e]
            exact .eq _
          · rw [if_neg hz]
            have e0 : (((xs.length : Nat) : Int) == 0) = false := by
              rw [beq_eq_false_iff_ne]
              intro z
              exact hz (List.length_eq_zero_iff.mp (by omega))
            have hn := bAll_new h xs isWt
            generalize (xs.map fun x => D.bl (isWt x)) = g0 at *
            cases hA : xs.all isWt with
            | false =>
              have e : G_check_weights [.ref n] h = .exc "NoWeights" (h ++ [.lst g0]) := by
                unfold G_check_weights F_check_weights
                simp! [isi_list hkn, ex, Option.isSome_some, elen, e0, hc, hn, hA, isLst]
              rw [e]
              exact .grewX
            | true =>
              by_cases h40 : xs.length ≤ 40
              · have e : G_check_weights [.ref n] h = .ok .non (h ++ [.lst g0]) := by
                  unfold G_check_weights F_check_weights
                  simp! [isi_list hkn, ex, Option.isSome_some, elen, e0, hc, hn, hA, isLst, elen2, c_MOST_WEIGHTS]
                  rw [decide_eq_false (by omega)]
                  simp! [bind_ok]
                rw [e, if_pos h40]
                exact .grew .non
              · have e : G_check_weights [.ref n] h = .exc "TooMany" (h ++ [.lst g0]) := by
                  unfold G_check_weights F_check_weights
                  simp! [isi_list hkn, ex, Option.isSome_some, elen, e0, hc, hn, hA, isLst, elen2, c_MOST_WEIGHTS]
                  rw [decide_eq_true (by omega)]
                  simp! [bind_ok]
                rw [e, if_neg h40]
                exact .grewX
        · exact .stuck _
      · rename_i ex
        split
        · rename_i hk
          exact other hk (fun m z => by cases z; exact ex)
        · exact .stuck _
    | _ =>
      unfold chkW
      dsimp only
      split
      · rename_i hk
        exact other hk (fun m z => by cases z)
      · exact .stuck _
theorem check_weights_ok {h : AH} {n : Nat} {ws : List Int} (e : seqAt h n = some (ws.map D.int)) (h0 : ws ≠ []) (h1 : ∀ w ∈ ws, 1 ≤ w) (h2 : ws.length ≤ 40) : S_check_weights [.ref n] h = .ok .non h := by
  show chkW h (.ref n) = _
  unfold chkW
  dsimp only
  rw [e]
  dsimp only
  have a1 : (ws.map D.int).all (kn h) = true := by
    rw [List.all_eq_true]
    intro x hx
    obtain ⟨w, _, rfl⟩ := List.mem_map.mp hx
    rfl
  have a2 : (ws.map D.int).all isWt = true := by
    rw [List.all_eq_true]
    intro x hx
    obtain ⟨w, hw, rfl⟩ := List.mem_map.mp hx
    exact decide_eq_true (h1 w hw)
  rw [if_pos ⟨by rw [List.length_map]; omega, a1⟩, if_neg (by intro z; exact h0 (List.map_eq_nil_iff.mp z)), if_pos a2, if_pos (by rw [List.length_map]; exact h2)]
theorem bSum_ints {h : AH} {n : Nat} {ws : List Int} (e : seqAt h n = some (ws.map D.int)) : bSum [.ref n] h = .ok (.int ws.sum) h := by
  unfold bSum
  dsimp only
  rw [e]
  simp only [Option.bind_some, intsOf_map]
/-! shapes -/
theorem is_less_eq {p q : Rat} {n m : Nat} (hp : Sz n p) (hq : Sz m q) (hn : n ≤ 100000) (hm : m ≤ 100000) (h : AH) : G_is_less [fD p, fD q] h = .ok (.bl (decide (p < q))) h := by
  unfold G_is_less F_is_less
  simp! [gIx_fD0, gIx_fD1, gMul_ok (CMulA.of hp.top hq.bot hn hm), gMul_ok (CMulA.of hq.top hp.bot hm hn)]
  have : decide (p.num * (q.den : Int) < q.num * (p.den : Int)) = decide (p < q) := by rw [decide_eq_decide]; exact (rat_lt p q).symm
  rw [this]
theorem over_eq {p q : Rat} {n m : Nat} (hp : Sz n p) (hq : Sz m q) (hq0 : q ≠ 0) (hl : n + m ≤ 8000) (h : AH) : G_over [fD p, fD q] h = .ok (fD (p / q)) h := by
  have h0 : q.num ≠ 0 := fun z => hq0 (Rat.num_eq_zero.mp z)
  unfold G_over F_over
  simp! [gIx_fD0, gIx_fD1, gMul_ok (CMulA.of hp.top hq.bot (by omega) (by omega)), gMul_ok (CMulA.of hp.bot hq.top (by omega) (by omega))]
  rw [fraction_eq (Int.mul_ne_zero (den_ne p) h0) ((hp.bot.mul hq.top).mono hl), ← rat_div hq0]
  rfl
theorem way_eq (a : Bool) (h : AH) : gEq false (wD a) (.str "across") h = .ok (.bl a) h := by
  cases a with
  | true => exact (gEq_str "across" "across" h (by decide +kernel) (by decide +kernel)).trans (by rw [show (("across" : Str) == "across") = true from by decide +kernel]; rfl)
  | false => exact (gEq_str "down" "across" h (by decide +kernel) (by decide +kernel)).trans (by rw [show (("down" : Str) == "across") = false from by decide +kernel]; rfl)
theorem ix2 (b : Bx) (h : AH) : gIx (bD b) (.int 2) h = .ok (fD b.w) h := rfl
theorem ix3 (b : Bx) (h : AH) : gIx (bD b) (.int 3) h = .ok (fD b.h) h := rfl
theorem long_way_eq {b : Bx} (hb : b.Ok) (hs : b.Sz 3000) (h : AH) : G_long_way [bD b] h = .ok (wD (!decide (b.w < b.h))) h := by
  have il := is_less_eq hs.w hs.h (by decide) (by decide)
  unfold G_long_way F_long_way
  simp! [check_box_ok hb, ix2, ix3, il]
  cases decide (b.w < b.h) <;> rfl
/-- the shape of a box -/
def shp (b : Bx) : Rat := if b.w < b.h then b.h / b.w else b.w / b.h
theorem pos_ne {q : Rat} (h : 0 < q) : q ≠ 0 := (Rat.ne_of_lt h).symm
theorem shape_eq {b : Bx} (hb : b.Ok) (hs : b.Sz 3000) (h : AH) : G_shape [bD b] h = .ok (fD (shp b)) h := by
  have o1 := over_eq hs.w hs.h (pos_ne hb.h) (by decide)
  have o2 := over_eq hs.h hs.w (pos_ne hb.w) (by decide)
  unfold G_shape F_shape shp
  by_cases hw : b.w < b.h
  · simp! [long_way_eq hb hs, hw, way_eq, ix2, ix3, o2]
  · simp! [long_way_eq hb hs, hw, way_eq, ix2, ix3, o1]
/-- the greatest so far -/
def gmx (q : Rat) (qs : List Rat) : Rat := qs.foldl (fun f x => if f < x then x else f) q
theorem greatest_loop {n : Nat} (hn : n ≤ 100000) (G : AH → Prop) (h : AH) (hG : G h) (x0 : Option D) : ∀ (qs : List Rat) (q : Rat) (y : Option D), Sz n q → (∀ x ∈ qs, Sz n x) → ∃ y', forL G (gN 2) (B1_greatest_of G_is_less) (qs.map fD) [x0, some (fD q), y] h = .nx [x0, some (fD (gmx q qs)), y'] h
  | [], q, y, _, _ => ⟨y, by rw [List.map_nil]; unfold forL; rw [if_pos hG]; rfl⟩
  | x :: qs, q, y, hq, hx => by
    have sx := hx x (List.mem_cons_self ..)
    have il := is_less_eq hq sx hn hn h
    by_cases hl : q < x
    · obtain ⟨y', e⟩ := greatest_loop hn G h hG x0 qs x (some (fD x)) sx (fun z hz => hx z (List.mem_cons_of_mem _ hz))
      refine ⟨y', ?_⟩
      rw [List.map_cons]
      unfold forL
      rw [if_pos hG]
      conv => lhs; unfold B1_greatest_of
      simp! [il, hl]
      show _ = SR.nx [x0, some (fD (gmx (if q < x then x else q) qs)), y'] h
      rw [if_pos hl]
      unfold B1_greatest_of at e
      exact e
    · obtain ⟨y', e⟩ := greatest_loop hn G h hG x0 qs q (some (fD x)) hq (fun z hz => hx z (List.mem_cons_of_mem _ hz))
      refine ⟨y', ?_⟩
      rw [List.map_cons]
      unfold forL
      rw [if_pos hG]
      conv => lhs; unfold B1_greatest_of
      simp! [il, hl]
      show _ = SR.nx [x0, some (fD (gmx (if q < x then x else q) qs)), y'] h
      rw [if_neg hl]
      unfold B1_greatest_of at e
      exact e
theorem gmx_self (q : Rat) (qs : List Rat) : gmx q (q :: qs) = gmx q qs := by
  show gmx (if q < q then q else q) qs = _
  rw [if_neg Rat.lt_irrefl]
theorem ix_head {h : AH} {n : Nat} {x : D} {xs : List D} (e : seqAt h n = some (x :: xs)) : gIx (.ref n) (.int 0) h = .ok x h := by
  unfold gIx itemsOf
  dsimp only
  rw [e]
  dsimp only
  rw [show atI (x :: xs) 0 = some x from atI_nat (j := 0) rfl]
theorem greatest_eq {n k : Nat} (hn : n ≤ 100000) {h : AH} {q : Rat} {qs : List Rat} (e : seqAt h k = some ((q :: qs).map fD)) (hs : ∀ x ∈ q :: qs, Sz n x) : G_greatest_of [.ref k] h = .ok (fD (gmx q qs)) h := by
  obtain ⟨y', el⟩ := greatest_loop hn (AIt.guard (.lst k ((q :: qs).map fD))) h e (some (.ref k)) (q :: qs) q none (hs q (List.mem_cons_self ..)) hs
  unfold G_greatest_of F_greatest_of
  simp! [ix_head e, ev_for, ev_iseq, e]
  have it : AIt.items (.lst k (fD q :: qs.map fD)) = (q :: qs).map fD := rfl
  rw [it]
  rw [gmx_self] at el
  have el' : forL (AIt.guard (.lst k (fD q :: qs.map fD))) (gN 2) (B1_greatest_of G_is_less) ((q :: qs).map fD) [some (.ref k), some (fD q), none] h = _ := el
  rw [el']
  simp! [bind_ok]
theorem shp_sz {b : Bx} (hb : b.Ok) {n : Nat} (hs : b.Sz n) : Sz (n + n) (shp b) := by
  have dv : ∀ {p q : Rat}, Sz n p → Sz n q → q ≠ 0 → Sz (n + n) (p / q) := by
    intro p q hp hq h0
    rw [rat_div h0]
    exact Sz.div (Int.mul_ne_zero (den_ne p) fun z => h0 (Rat.num_eq_zero.mp z)) (hp.top.mul hq.bot) (hp.bot.mul hq.top) _ (Nat.le_refl _) (Nat.le_refl _)
  unfold shp
  split
  · exact dv hs.h hs.w (pos_ne hb.w)
  · exact dv hs.w hs.h (pos_ne hb.h)
/-! thinness and floors -/
def thn (b : Bx) (W w : Int) : Rat := shp b * ((w : Rat) / (W : Rat))
theorem thn_sz {b : Bx} (hb : b.Ok) (hs : b.Sz 101) {W w : Int} (hW : Sm 1000 W) (hw : Sm 1000 w) (W0 : W ≠ 0) : Sz 1202 (thn b W w) :=
  (shp_sz hb hs).mul (Sz.div W0 hw hW 1000 (Nat.le_refl _) (Nat.le_refl _))
theorem sz3 {b : Bx} (hs : b.Sz 101) : b.Sz 3000 := ⟨hs.l.mono (by decide), hs.t.mono (by decide), hs.w.mono (by decide), hs.h.mono (by decide)⟩
theorem thinness_eq {b : Bx} (hb : b.Ok) (hs : b.Sz 101) {W w : Int} (hW : Sm 1000 W) (hw : Sm 1000 w) (W0 : W ≠ 0) (h : AH) : G_thinness [bD b, .int w, .int W] h = .ok (fD (thn b W w)) h := by
  have e1 := shape_eq hb (sz3 hs) h
  have e2 := fraction_eq (a := w) W0 (hW.mono (by decide)) h
  have e3 := times_eq (shp_sz hb hs) (Sz.div W0 hw hW 1000 (Nat.le_refl _) (Nat.le_refl _)) (by decide) h
  unfold G_thinness F_thinness
  simp! [e1, e2, e3]
  rfl
def flo (b : Bx) (ws : List Int) : Rat := gmx 1 (ws.map (thn b ws.sum))
theorem sum_pos {ws : List Int} (h0 : ws ≠ []) (h1 : ∀ w ∈ ws, 1 ≤ w) : 0 < ws.sum := by
  cases ws with
  | nil => exact absurd rfl h0
  | cons w ws =>
    have := h1 w (List.mem_cons_self ..)
    have : 0 ≤ ws.sum := sum_nn fun v hv => by have := h1 v (List.mem_cons_of_mem _ hv); omega
    rw [List.sum_cons]; omega
theorem le_sum {ws : List Int} (h1 : ∀ w ∈ ws, 1 ≤ w) : ∀ w ∈ ws, w ≤ ws.sum := by
  induction ws with
  | nil => intro w hw; cases hw
  | cons v vs ih =>
    intro w hw
    have hv := h1 v (List.mem_cons_self ..)
    have hs : 0 ≤ vs.sum := sum_nn fun v hv => by have := h1 v (List.mem_cons_of_mem _ hv); omega
    rw [List.sum_cons]
    rcases List.mem_cons.mp hw with rfl | hw
    · omega
    · have := ih (fun w hw => h1 w (List.mem_cons_of_mem _ hw)) w hw
      omega
/-- weights as they are handed in -/
structure Wt (h : AH) (k : Nat) (ws : List Int) : Prop where
  at_ : seqAt h k = some (ws.map D.int)
  ne : ws ≠ []
  pos : ∀ w ∈ ws, 1 ≤ w
  few : ws.length ≤ 40
  sm : Sm 1000 ws.sum
theorem Wt.smw {h : AH} {k : Nat} {ws : List Int} (t : Wt h k ws) : ∀ w ∈ ws, Sm 1000 w := fun w hw => t.sm.of_le (by
  have h1 := t.pos w hw
  have h2 := le_sum t.pos w hw
  omega)
theorem at_new (h : AH) (o : Ob) : (h ++ [o])[h.length]? = some o := by rw [List.getElem?_append_right (Nat.le_refl _), Nat.sub_self]; rfl
theorem at_app {h g : AH} {n : Nat} {o : Ob} (e : h[n]? = some o) : (h ++ g)[n]? = some o := by rw [List.getElem?_append_left (List.getElem?_eq_some_iff.mp e).1]; exact e
theorem at_ne {h : AH} {n p : Nat} {o o' : Ob} (e : h[n]? = some o) (hp : p ≠ n) : (h.set p o')[n]? = some o := by rw [List.getElem?_set_ne hp]; exact e
theorem sq {h : AH} {n : Nat} {xs : List D} (e : h[n]? = some (.lst xs)) : seqAt h n = some xs := by unfold seqAt; rw [e]
theorem floor_eq {h : AH} {k : Nat} {b : Bx} {ws : List Int} (hb : b.Ok) (hs : b.Sz 101) (t : Wt h k ws) : ∃ g, G_floor_of [bD b, .ref k] h = .ok (fD (flo b ws)) (h ++ g) := by
  have W0 := sum_pos t.ne t.pos
  have c1 := check_box_ok hb h
  have c2 := check_weights_ok t.at_ t.ne t.pos t.few
  have m1 : mkLst [.tup [.int 1, .int 1]] h = .ok (.ref h.length) (h ++ [.lst [fD 1]]) := rfl
  have e1 := seqAt_app (g := [.lst [fD 1]]) t.at_
  have n1 := at_new h (.lst [fD 1])
  obtain ⟨g1, hg1⟩ : ∃ g1, h ++ [Ob.lst [fD 1]] = h ++ g1 := ⟨_, rfl⟩
  generalize hN : h.length = N at *
  generalize h ++ [.lst [fD 1]] = H1 at *
  have lc := lc_seq (sub := [none, some 0, some 1]) (I := iSeq (eVar 1)) (it := .lst k (ws.map D.int)) (g := gN 0) (F := eCall 3 G_thinness (aCons (eVar 1) (aCons (eVar 0) (aCons (eFn bSum (aCons (eVar 2) aNil)) aNil)))) (f := fun d => match d with | .int w => fD (thn b ws.sum w) | _ => .non) (ae := [some (bD b), some (.ref k)]) (h := H1) (h1 := H1)
    (fun ae => ∃ x, ae = [x, some (bD b), some (.ref k)]) (by simp! [ev_iseq, e1]) (show seqAt _ _ = some _ from e1) ⟨none, rfl⟩ (by
      rintro d hd ae ⟨x, rfl⟩
      obtain ⟨y, hy, rfl⟩ := List.mem_map.mp hd
      refine ⟨[some (.int y), some (bD b), some (.ref k)], rfl, ⟨_, rfl⟩, ?_⟩
      have th := thinness_eq hb hs t.sm (t.smw y hy) (show ws.sum ≠ 0 by omega) H1
      simp! [bSum_ints e1, th]) (by show (ws.map D.int).length ≤ _; rw [List.length_map]; have := t.few; omega)
  have el : ((AIt.lst k (ws.map D.int)).items.map fun d => match d with | .int w => fD (thn b ws.sum w) | _ => .non) = (ws.map (thn b ws.sum)).map fD := by
    show ((ws.map D.int).map _) = _
    rw [List.map_map, List.map_map]
    rfl
  rw [el] at lc
  have n2 := at_app (g := [.lst ((ws.map (thn b ws.sum)).map fD)]) n1
  have t2 := at_new H1 (.lst ((ws.map (thn b ws.sum)).map fD))
  obtain ⟨g2, hg2⟩ : ∃ g2, H1 ++ [Ob.lst ((ws.map (thn b ws.sum)).map fD)] = h ++ g2 := ⟨_, by rw [hg1, List.append_assoc]⟩
  generalize hM : H1.length = M at *
  generalize H1 ++ [.lst ((ws.map (thn b ws.sum)).map fD)] = H2 at *
  have ad : gAdd (.ref N) (.ref M) H2 = .ok (.ref H2.length) (H2 ++ [.lst ((1 :: ws.map (thn b ws.sum)).map fD)]) := by
    show gOr (gI fun i j => .int (i + j)) gCat _ _ _ = _
    unfold gOr gI gCat
    dsimp only
    rw [n2, t2]
    dsimp only
    rw [if_pos (by simp; have := t.few; omega)]
    rfl
  have t3 := seqAt_new H2 ((1 :: ws.map (thn b ws.sum)).map fD)
  obtain ⟨g3, hg3⟩ : ∃ g3, H2 ++ [Ob.lst ((1 :: ws.map (thn b ws.sum)).map fD)] = h ++ g3 := ⟨_, by rw [hg2, List.append_assoc]⟩
  generalize hL : H2.length = L at *
  generalize H2 ++ [.lst ((1 :: ws.map (thn b ws.sum)).map fD)] = H3 at *
  have ge := greatest_eq (n := 1202) (by decide) (q := 1) (qs := ws.map (thn b ws.sum)) t3 (by
    intro x hx
    rcases List.mem_cons.mp hx with rfl | hx
    · exact Sz.mono (n := 1) ⟨show (Rat.num 1).natAbs < 2 ^ 1 by decide, show ((Rat.den 1 : Nat) : Int).natAbs < 2 ^ 1 by decide⟩ (by decide)
    · obtain ⟨y, hy, rfl⟩ := List.mem_map.mp hx
      exact thn_sz hb hs t.sm (t.smw y hy) (by omega))
  refine ⟨g3, ?_⟩
  unfold G_floor_of F_floor_of
  simp! [c1, c2, m1, lc, ad, ge]
  rw [hg3]; rfl
/-! the law's draws -/
theorem seq_inv {F G : MS} {ae : AE} {h : AH} {I : AE → AH → Prop} {P : SR → Prop} (h1 : ∃ ae1 h1, F ae h = .nx ae1 h1 ∧ I ae1 h1) (h2 : ∀ ae1 h1, I ae1 h1 → P (G ae1 h1)) : P (sSeq F G ae h) := by
  obtain ⟨ae1, h1', e, i⟩ := h1
  rw [ev_seq, e, then_nx]
  exact h2 _ _ i
def fd (a c k : Int) : Ob := .lst [.int a, .int c, .int k]
theorem set_at {h : AH} {n : Nat} (hn : n < h.length) (o : Ob) : (h.set n o)[n]? = some o := by
  rw [List.getElem?_set]; simp [hn]
theorem seq_set {h : AH} {n : Nat} (hn : n < h.length) (xs : List D) : seqAt (h.set n (.lst xs)) n = some xs := by
  unfold seqAt; rw [set_at hn]
theorem fmod_rng {a m : Int} (hm : 0 < m) : 0 ≤ a.fmod m ∧ a.fmod m < m := by
  rw [Int.fmod_eq_emod_of_nonneg _ (by omega)]
  exact ⟨Int.emod_nonneg _ (by omega), Int.emod_lt_of_pos _ hm⟩
theorem feed_eq {h : AH} {d : D} {ns : List Int} (s : Script h d ns) (k : Int) : ∃ a, G_law_feed [d, .int k] h = .ok (.ref h.length) (h ++ [fd a 0 k]) := by
  have hi := s.items
  have hl : bLen [d] h = .ok (.int ns.length) h := by
    unfold bLen
    dsimp only
    rw [hi]
    show R.ok (D.int ((ns.map D.int).length : Nat)) h = _
    rw [List.length_map]
  unfold G_law_feed F_law_feed
  by_cases hz : ns.length = 0
  · refine ⟨0, ?_⟩
    simp! [hl, hz, ev_lst3]
    rfl
  · have e0 : (((ns.length : Nat) : Int) == 0) = false := by rw [beq_eq_false_iff_ne]; omega
    have hpos : (0 : Int) < (ns.length : Nat) := by omega
    have hm := fmod_rng (a := k) hpos
    obtain ⟨a, ea⟩ : ∃ a, atI (ns.map D.int) (k.fmod (ns.length : Nat)) = some (.int a) := by
      have : ((k.fmod (ns.length : Nat)).toNat : Int) = k.fmod (ns.length : Nat) := Int.toNat_of_nonneg hm.1
      rw [← this]
      refine ⟨ns[(k.fmod (ns.length : Nat)).toNat]'(by omega), atI_nat ?_⟩
      rw [List.getElem?_map, List.getElem?_eq_getElem (by omega)]; rfl
    have ix : gIx d (.int (k.fmod (ns.length : Nat))) h = .ok (.int a) h := by
      unfold gIx
      rw [hi]
      dsimp only
      rw [ea]
    refine ⟨a, ?_⟩
    simp! [hl, e0, gMod_ok (show ((ns.length : Nat) : Int) ≠ 0 by omega), ix, ev_lst3]
    rfl
theorem next_eq {h : AH} {n : Nat} (hn : n < h.length) (a c k : Int) {m : Int} (hm : 0 < m) (hs : Sm 8000 m) : ∃ r a', 0 ≤ r ∧ r < m ∧ G_law_next [.ref n, .int m] (h.set n (fd a c k)) = .ok (.int r) (h.set n (fd a' (c + 1) k)) := by
  have ix : ∀ (a c k : Int) (i : Nat) (v : D), ([.int a, .int c, .int k] : List D)[i]? = some v → gIx (.ref n) (.int (i : Nat)) (h.set n (fd a c k)) = .ok v (h.set n (fd a c k)) := by
    intro a c k i v e
    unfold gIx itemsOf fd
    dsimp only
    rw [seq_set hn]
    dsimp only
    rw [atI_nat e]
  have i0 : ∀ a c k, gIx (.ref n) (.int 0) (h.set n (fd a c k)) = .ok (.int a) (h.set n (fd a c k)) := fun a c k => ix a c k 0 (.int a) rfl
  have i1 : ∀ a c k, gIx (.ref n) (.int 1) (h.set n (fd a c k)) = .ok (.int c) (h.set n (fd a c k)) := fun a c k => ix a c k 1 (.int c) rfl
  have i2 : ∀ a c k, gIx (.ref n) (.int 2) (h.set n (fd a c k)) = .ok (.int k) (h.set n (fd a c k)) := fun a c k => ix a c k 2 (.int k) rfl
  have w1 : ∀ a c k v, wL (.ref n) (.int 1) (.int v) (h.set n (fd a c k)) = .ok () (h.set n (fd a v k)) := by
    intro a c k v
    unfold wL fd
    dsimp only
    rw [set_at hn]
    show R.ok () ((h.set n (.lst [.int a, .int c, .int k])).set n (.lst [.int a, .int v, .int k])) = _
    rw [List.set_set]
  have w0 : ∀ a c k v, wL (.ref n) (.int 0) (.int v) (h.set n (fd a c k)) = .ok () (h.set n (fd v c k)) := by
    intro a c k v
    unfold wL fd
    dsimp only
    rw [set_at hn]
    show R.ok () ((h.set n (.lst [.int a, .int c, .int k])).set n (.lst [.int v, .int c, .int k])) = _
    rw [List.set_set]
  have p18 : ∀ h', gPow (.int 10) (.int 18) h' = .ok (.int 1000000000000000000) h' := fun h' => gPow_ok ⟨by decide, by decide, by decide⟩
  unfold G_law_next F_law_next
  by_cases hb : 1000000000000000000 ≤ a
  · refine ⟨a.fmod m, a.fdiv m, (fmod_rng hm).1, (fmod_rng hm).2, ?_⟩
    simp! [i1 a c k, w1, i0 a (c + 1) k, p18, hb, gMod_ok (show m ≠ 0 by omega), gDiv_ok (CDivB.of (x := a) (show m ≠ 0 by omega) hs), w0]
  · generalize hmx : ((a.fmod 1000003 + 7919 * k + 104729 * (c + 1)) * 48271).fmod 2147483647 = mx
    have hmr : 0 ≤ mx ∧ mx < 2147483647 := by rw [← hmx]; exact fmod_rng (by decide)
    have b1 : -(2 ^ 64) < mx := by omega
    have b2 : mx < 2 ^ 64 := by omega
    refine ⟨((mx * (mx.fmod 65521 + (c + 1))).fmod 2147483629).fmod m, a, (fmod_rng hm).1, (fmod_rng hm).2, ?_⟩
    simp! [i1 a c k, w1, i0 a (c + 1) k, i1 a (c + 1) k, i2 a (c + 1) k, p18, hb, gMod_ok (show (1000003 : Int) ≠ 0 by decide), gMod_ok (show (2147483647 : Int) ≠ 0 by decide), gMul_ok (CMulA.left (x := 7919) (y := k) (by decide) (by decide)), gMul_ok (CMulA.left (x := 104729) (y := c + 1) (by decide) (by decide)), gMul_ok (CMulA.right (x := a.fmod 1000003 + 7919 * k + 104729 * (c + 1)) (y := 48271) (by decide) (by decide)), hmx, gMod_ok (show (65521 : Int) ≠ 0 by decide), gMul_ok (CMulA.left (x := mx) (y := mx.fmod 65521 + (c + 1)) b1 b2), gMod_ok (show (2147483629 : Int) ≠ 0 by decide), gMod_ok (show m ≠ 0 by omega)]
theorem low_loop (h : AH) (x y : Option D) : ∀ (n one other : Nat), other ≤ n → sWh (tOf (eOp gGt (eVar 3) (eC (D.int 0)))) (sPar 2 3 (aCons (eVar 3) (aCons (eOp gMod (eVar 2) (eVar 3)) aNil))) [x, y, some (.int (one : Nat)), some (.int (other : Nat))] h = .nx [x, y, some (.int (Nat.gcd one other : Nat)), some (.int 0)] h
  | n, one, 0, _ => by
    rw [sWh_step]
    simp! [bind_ok]
    rw [Nat.gcd_zero_right]
    try rfl
  | 0, one, other + 1, hl => absurd hl (by omega)
  | n + 1, one, other + 1, hl => by
    rw [sWh_step]
    simp! [bind_ok]
    rw [decide_eq_true (show (0 : Int) < ((other + 1 : Nat) : Int) by omega)]
    simp! [bind_ok]
    rw [gMod_ok (by omega)]
    simp! [bind_ok]
    have e2 : ((one : Nat) : Int).fmod ((other + 1 : Nat) : Int) = ((one % (other + 1) : Nat) : Int) := by
      rw [Int.fmod_eq_emod_of_nonneg _ (by omega)]; rfl
    rw [e2, low_loop h x y n (other + 1) (one % (other + 1)) (by have := Nat.mod_lt one (show other + 1 > 0 by omega); omega)]
    rw [Fr.euc]
theorem low_eq {a b : Int} (hb : b ≠ 0) (hs : Sm 8000 b) (h : AH) : G_law_low [.int a, .int b] h = .ok (fD ((a : Rat) / (b : Rat))) h := by
  unfold G_law_low F_law_low
  have c : ∀ x, CDivB x (Fr.dv a b) := fun x => CDivB.of (Fr.dv_ne hb) (hs.of_le (by
      rw [Fr.dv_abs]
      exact Nat.le_of_dvd (by omega) (Nat.gcd_dvd_right a.natAbs b.natAbs)))
  have hh := fr_eq (a := a) hb
  have fin : R.ok (D.tup [.int (a.fdiv (Fr.dv a b)), .int (b.fdiv (Fr.dv a b))]) h = .ok (fD ((a : Rat) / (b : Rat))) h := by
    unfold fD
    rw [← hh.1, ← hh.2]
    rfl
  simp! [bind_ok]
  rw [abs_nat a, abs_nat b, low_loop h _ _ _ _ _ (Nat.le_refl _)]
  by_cases hn : b < 0
  · have hd : Fr.dv a b = 0 - ((Nat.gcd a.natAbs b.natAbs : Nat) : Int) := by unfold Fr.dv; rw [if_pos hn]; show -((Int.gcd a b : Nat) : Int) = _; unfold Int.gcd; omega
    simp! [hn]
    rw [hd] at c fin
    simp! [gDiv_ok (c a), gDiv_ok (c b)]
    exact fin
  · have hd : Fr.dv a b = ((Nat.gcd a.natAbs b.natAbs : Nat) : Int) := by unfold Fr.dv; rw [if_neg hn]; rfl
    simp! [hn]
    rw [hd] at c fin
    simp! [gDiv_ok (c a), gDiv_ok (c b)]
    exact fin
theorem great_eq {h : AH} {n : Nat} (hn : n < h.length) (a c k : Int) {far : Int} (hf : 0 ≤ far) : ∃ r a' c', -far ≤ r ∧ r ≤ far ∧ G_law_great [.ref n, .int far] (h.set n (fd a c k)) = .ok (.int r) (h.set n (fd a' c' k)) := by
  have p6 : ∀ h', gPow (.int 10) (.int 6) h' = .ok (.int 1000000) h' := fun h' => gPow_ok ⟨by decide, by decide, by decide⟩
  have loop : ∀ (ds : List D) (num a c : Int) (z : Option D), ∃ num' a' c' z', forL (fun _ => True) (gN 3) (B1_law_great G_law_next) ds [some (.ref n), some (.int far), some (.int num), z] (h.set n (fd a c k)) =
      .nx [some (.ref n), some (.int far), some (.int num'), z'] (h.set n (fd a' c' k)) := by
    intro ds
    induction ds with
    | nil => intro num a c z; exact ⟨num, a, c, z, by unfold forL; rw [if_pos trivial]⟩
    | cons d ds ih =>
      intro num a c z
      obtain ⟨r, a1, _, _, e1⟩ := next_eq hn a c k (m := 1000000) (by decide) (by unfold Sm; exact Nat.lt_of_lt_of_le (by decide : (1000000 : Int).natAbs < 2 ^ 20) (Nat.pow_le_pow_right (by decide) (by decide)))
      obtain ⟨num', a', c', z', e2⟩ := ih (num * 1000000 + r) a1 (c + 1) (some d)
      refine ⟨num', a', c', z', ?_⟩
      unfold forL
      rw [if_pos trivial]
      conv => lhs; unfold B1_law_great
      simp! [p6, gMul_ok (CMulA.right (x := num) (y := 1000000) (by decide) (by decide)), e1]
      unfold B1_law_great at e2
      exact e2
  obtain ⟨num', a', c', z', e⟩ := loop ((List.range 6).map fun i => D.int (0 + (i : Nat))) 0 a c none
  have hr := fmod_rng (a := num') (m := 2 * far + 1) (by omega)
  refine ⟨num'.fmod (2 * far + 1) - far, a', c', by omega, by omega, ?_⟩
  unfold G_law_great F_law_great
  simp! [ev_for, ev_irg1]
  rw [if_pos ⟨by decide, by decide⟩]
  simp only [toS_ok]
  have e' : forL (AIt.guard (.rng 0 (6 : Int).toNat)) (gN 3) (B1_law_great G_law_next) (AIt.items (.rng 0 (6 : Int).toNat)) [some (.ref n), some (.int far), some (.int 0), none] (h.set n (fd a c k)) = _ := e
  rw [e']
  simp! [gMul_ok (CMulA.left (x := 2) (y := far) (by decide) (by decide)), gMod_ok (show 2 * far + 1 ≠ 0 by omega)]
/-! the drawn room -/
def outR (r : SR) : R D := match r with
  | .nx _ h' => .ok .non h'
  | .rt d h' => .ok d h'
  | .exc c _ h' => .exc c h'
  | _ => .stuck
theorem ev_out (n : Nat) (F : MS) (ds : List D) (h : AH) : fnD n F ds h = outR (F (ds.map some ++ List.replicate (n - ds.length) none) h) := by
  unfold fnD outR
  split <;> simp_all
theorem out_rt (d : D) (h : AH) : outR (.rt d h) = .ok d h := rfl
theorem sm8 {m : Int} (h : m.natAbs < 1099511627776) : Sm 8000 m := Nat.lt_of_lt_of_le (show m.natAbs < 2 ^ 40 from h) (Nat.pow_le_pow_right (by decide) (by decide))
theorem sm101 {m : Int} (h : m.natAbs ≤ 2000000000000000000000000000000) : Sm 101 m := by unfold Sm; exact Nat.lt_of_le_of_lt h (by decide)
theorem sz_int {m : Int} (h : m.natAbs ≤ 2000000000000000000000000000000) : Sz 101 (m : Rat) := ⟨sm101 h, sm101 (by show (1 : Int).natAbs ≤ _; decide)⟩
theorem sz_frac {a b : Int} (hb : b ≠ 0) (h1 : a.natAbs ≤ 2000000000000000000000000000000) (h2 : b.natAbs ≤ 2000000000000000000000000000000) : Sz 101 ((a : Rat) / (b : Rat)) := Sz.div hb (sm101 h1) (sm101 h2) 101 (Nat.le_refl _) (Nat.le_refl _)
theorem pos_int {m : Int} (h : 0 < m) : (0 : Rat) < (m : Rat) := Rat.intCast_pos.mpr h
theorem pos_frac {a b : Int} (h1 : 0 < a) (h2 : 0 < b) : (0 : Rat) < (a : Rat) / (b : Rat) := by
  rw [Rat.div_def]
  exact Rat.mul_pos (pos_int h1) (Rat.inv_pos.mpr (pos_int h2))
structure Good (b : Bx) : Prop where
  ok : b.Ok
  sz : b.Sz 101
theorem sm_30 {m : Int} (h : m.natAbs ≤ 2000000000000000000000000000000) : Sm 8000 m := (sm101 h).mono (by decide)
theorem room_eq {h : AH} {n : Nat} (hn : n < h.length) (a c k : Int) : ∃ b a' c', Good b ∧ G_law_room [.ref n] (h.set n (fd a c k)) = .ok (bD b) (h.set n (fd a' c' k)) := by
  have p30 : ∀ h', gPow (.int 10) (.int 30) h' = .ok (.int 1000000000000000000000000000000) h' := fun h' => gPow_ok ⟨by decide, by decide, by decide⟩
  let Is : Int → AE → AH → Prop := fun way ae1 h1 => ∃ b x a c, Good b ∧ ae1 = [some (.ref n), some (.int way), some (fD b.l), some (fD b.t), some (fD b.w), some (fD b.h), x] ∧ h1 = h.set n (fd a c k)
  unfold G_law_room F_law_room
  rw [ev_out]
  obtain ⟨way, a1, hw0, hw1, e1⟩ := next_eq hn a c k (m := 6) (by decide) (sm8 (by decide))
  refine seq_inv (P := fun r => ∃ b a' c', Good b ∧ outR r = .ok (bD b) (h.set n (fd a' c' k))) (I := fun ae1 h1 => ae1 = [some (.ref n), some (.int way), none, none, none, none, none] ∧ h1 = h.set n (fd a1 (c + 1) k)) ⟨_, _, by simp! [e1]; try rfl, rfl, rfl⟩ ?_
  rintro _ _ ⟨rfl, rfl⟩
  obtain ⟨l, a2, hl0, hl1, e2⟩ := next_eq hn a1 (c + 1) k (m := 19) (by decide) (sm8 (by decide))
  obtain ⟨t, a3, ht0, ht1, e3⟩ := next_eq hn a2 (c + 1 + 1) k (m := 19) (by decide) (sm8 (by decide))
  refine seq_inv (P := fun r => ∃ b a' c', Good b ∧ outR r = .ok (bD b) (h.set n (fd a' c' k))) (I := fun ae1 h1 => ae1 = [some (.ref n), some (.int way), some (fD ((l - 9 : Int) : Rat)), some (fD ((t - 9 : Int) : Rat)), none, none, none] ∧ h1 = h.set n (fd a3 (c + 1 + 1 + 1) k)) ⟨_, _, by simp! [e2, e3]; try rfl, rfl, rfl⟩ ?_
  rintro _ _ ⟨rfl, rfl⟩
  obtain ⟨w, a4, hww0, hww1, e4⟩ := next_eq hn a3 (c + 1 + 1 + 1) k (m := 12) (by decide) (sm8 (by decide))
  obtain ⟨hh, a5, hh0, hh1, e5⟩ := next_eq hn a4 (c + 1 + 1 + 1 + 1) k (m := 12) (by decide) (sm8 (by decide))
  refine seq_inv (P := fun r => ∃ b a' c', Good b ∧ outR r = .ok (bD b) (h.set n (fd a' c' k))) (I := Is way) ⟨[some (.ref n), some (.int way), some (fD ((l - 9 : Int) : Rat)), some (fD ((t - 9 : Int) : Rat)), some (fD ((1 + w : Int) : Rat)), some (fD ((1 + hh : Int) : Rat)), none], h.set n (fd a5 (c + 1 + 1 + 1 + 1 + 1) k), by simp! [e4, e5]; try rfl, ⟨_, _, _, _⟩, none, a5, _, ⟨⟨pos_int (by omega), pos_int (by omega)⟩, ⟨sz_int (by omega), sz_int (by omega), sz_int (by omega), sz_int (by omega)⟩⟩, rfl, rfl⟩ ?_
  rintro _ _ ⟨b, x, a, c, gb, rfl, rfl⟩
  -- way 1
  refine seq_inv (P := fun r => ∃ b a' c', Good b ∧ outR r = .ok (bD b) (h.set n (fd a' c' k))) (I := Is way) ?_ ?_
  · by_cases hw : way = 1
    · subst hw
      exact ⟨[some (.ref n), some (.int 1), some (fD b.l), some (fD b.t), some (fD b.w), some (fD b.w), x], _, by simp! [bind_ok]; try rfl, ⟨b.l, b.t, b.w, b.w⟩, x, a, c, ⟨⟨gb.ok.w, gb.ok.w⟩, ⟨gb.sz.l, gb.sz.t, gb.sz.w, gb.sz.w⟩⟩, rfl, rfl⟩
    · exact ⟨_, _, by simp! [beq_eq_false_iff_ne.mpr hw]; try rfl, b, x, a, c, gb, rfl, rfl⟩
  rintro _ _ ⟨b, x, a, c, gb, rfl, rfl⟩
  refine seq_inv (P := fun r => ∃ b a' c', Good b ∧ outR r = .ok (bD b) (h.set n (fd a' c' k))) (I := Is way) ?_ ?_
  · by_cases hw : way = 2
    · subst hw
      obtain ⟨r, a1, h0, h1, e1⟩ := next_eq hn a c k (m := 99) (by decide) (sm8 (by decide))
      exact ⟨[some (.ref n), some (.int 2), some (fD b.l), some (fD b.t), some (fD ((1 + r : Int) : Rat)), some (fD b.h), x], h.set n (fd a1 (c + 1) k), by simp! [e1]; try rfl, ⟨b.l, b.t, ((1 + r : Int) : Rat), b.h⟩, x, a1, c + 1, ⟨⟨pos_int (by omega), gb.ok.h⟩, ⟨gb.sz.l, gb.sz.t, sz_int (by omega), gb.sz.h⟩⟩, rfl, rfl⟩
    · exact ⟨_, _, by simp! [beq_eq_false_iff_ne.mpr hw]; try rfl, b, x, a, c, gb, rfl, rfl⟩
  rintro _ _ ⟨b, x, a, c, gb, rfl, rfl⟩
  refine seq_inv (P := fun r => ∃ b a' c', Good b ∧ outR r = .ok (bD b) (h.set n (fd a' c' k))) (I := Is way) ?_ ?_
  · by_cases hw : way = 3
    · subst hw
      obtain ⟨r, a1, h0, h1, e1⟩ := next_eq hn a c k (m := 99) (by decide) (sm8 (by decide))
      exact ⟨[some (.ref n), some (.int 3), some (fD b.l), some (fD b.t), some (fD b.w), some (fD ((1 + r : Int) : Rat)), x], h.set n (fd a1 (c + 1) k), by simp! [e1]; try rfl, ⟨b.l, b.t, b.w, ((1 + r : Int) : Rat)⟩, x, a1, c + 1, ⟨⟨gb.ok.w, pos_int (by omega)⟩, ⟨gb.sz.l, gb.sz.t, gb.sz.w, sz_int (by omega)⟩⟩, rfl, rfl⟩
    · exact ⟨_, _, by simp! [beq_eq_false_iff_ne.mpr hw]; try rfl, b, x, a, c, gb, rfl, rfl⟩
  rintro _ _ ⟨b, x, a, c, gb, rfl, rfl⟩
  refine seq_inv (P := fun r => ∃ b a' c', Good b ∧ outR r = .ok (bD b) (h.set n (fd a' c' k))) (I := Is way) ?_ ?_
  · by_cases hw : way = 4
    · subst hw
      obtain ⟨r1, a1, h10, h11, e1⟩ := next_eq hn a c k (m := 199) (by decide) (sm8 (by decide))
      obtain ⟨r2, a2, h20, h21, e2⟩ := next_eq hn a1 (c + 1) k (m := 30) (by decide) (sm8 (by decide))
      obtain ⟨r3, a3, h30, h31, e3⟩ := next_eq hn a2 (c + 1 + 1) k (m := 9) (by decide) (sm8 (by decide))
      obtain ⟨r4, a4, h40, h41, e4⟩ := next_eq hn a3 (c + 1 + 1 + 1) k (m := 99) (by decide) (sm8 (by decide))
      obtain ⟨r5, a5, h50, h51, e5⟩ := next_eq hn a4 (c + 1 + 1 + 1 + 1) k (m := 30) (by decide) (sm8 (by decide))
      obtain ⟨r6, a6, h60, h61, e6⟩ := next_eq hn a5 (c + 1 + 1 + 1 + 1 + 1) k (m := 99) (by decide) (sm8 (by decide))
      have l1 := fun h => low_eq (a := r1 - 99) (b := 1 + r2) (by omega) (sm_30 (by omega)) h
      have l2 := fun h => low_eq (a := r3) (b := 7) (by omega) (sm_30 (by omega)) h
      have l3 := fun h => low_eq (a := 1 + r4) (b := 1 + r5) (by omega) (sm_30 (by omega)) h
      have l4 := fun h => low_eq (a := 1 + r6) (b := 11) (by omega) (sm_30 (by omega)) h
      exact ⟨[some (.ref n), some (.int 4), some (fD (((r1 - 99 : Int) : Rat) / ((1 + r2 : Int) : Rat))), some (fD (((r3 : Int) : Rat) / ((7 : Int) : Rat))), some (fD (((1 + r4 : Int) : Rat) / ((1 + r5 : Int) : Rat))), some (fD (((1 + r6 : Int) : Rat) / ((11 : Int) : Rat))), x], h.set n (fd a6 (c + 1 + 1 + 1 + 1 + 1 + 1) k), by simp! [e1, e2, e3, e4, e5, e6, l1, l2, l3, l4]; try rfl, ⟨_, _, _, _⟩, x, a6, _, ⟨⟨pos_frac (by omega) (by omega), pos_frac (by omega) (by omega)⟩, ⟨sz_frac (by omega) (by omega) (by omega), sz_frac (by omega) (by omega) (by omega), sz_frac (by omega) (by omega) (by omega), sz_frac (by omega) (by omega) (by omega)⟩⟩, rfl, rfl⟩
    · exact ⟨_, _, by simp! [beq_eq_false_iff_ne.mpr hw]; try rfl, b, x, a, c, gb, rfl, rfl⟩
  rintro _ _ ⟨b, x, a, c, gb, rfl, rfl⟩
  refine seq_inv (P := fun r => ∃ b a' c', Good b ∧ outR r = .ok (bD b) (h.set n (fd a' c' k))) (I := Is way) ?_ ?_
  · by_cases hw : way = 5
    · subst hw
      obtain ⟨r1, a1, c1, h10, h11, e1⟩ := great_eq hn a c k (far := 999999999999999999999999999999) (by decide)
      obtain ⟨r2, a2, c2, h20, h21, e2⟩ := great_eq hn a1 c1 k (far := 999999999999999999999999999998) (by decide)
      obtain ⟨r3, a3, c3, h30, h31, e3⟩ := great_eq hn a2 c2 k (far := 999999999999999999999999999999) (by decide)
      obtain ⟨r4, a4, c4, h40, h41, e4⟩ := great_eq hn a3 c3 k (far := 999999999999999999999999999998) (by decide)
      obtain ⟨r5, a5, c5, h50, h51, e5⟩ := great_eq hn a4 c4 k (far := 999999999999999999999999999998) (by decide)
      have n2 := abs_nat r2
      have n4 := abs_nat r4
      have n5 := abs_nat r5
      have l1 := fun h => low_eq (a := r1) (b := 1 + ((r2.natAbs : Nat) : Int)) (by omega) (sm_30 (by omega)) h
      have l4 := fun h => low_eq (a := 1 + ((r5.natAbs : Nat) : Int)) (b := 999999999999999999999999999999) (by omega) (sm_30 (by omega)) h
      exact ⟨[some (.ref n), some (.int 5), some (fD (((r1 : Int) : Rat) / ((1 + ((r2.natAbs : Nat) : Int) : Int) : Rat))), some (fD ((r3 : Int) : Rat)), some (fD ((1 + ((r4.natAbs : Nat) : Int) : Int) : Rat)), some (fD (((1 + ((r5.natAbs : Nat) : Int) : Int) : Rat) / ((999999999999999999999999999999 : Int) : Rat))), some (.int 999999999999999999999999999999)], h.set n (fd a5 c5 k), by simp! [p30, e1, e2, e3, e4, e5, n2, n4, n5, l1, l4]; try rfl, ⟨_, _, _, _⟩, _, a5, c5, ⟨⟨pos_int (by omega), pos_frac (by omega) (by omega)⟩, ⟨sz_frac (by omega) (by omega) (by omega), sz_int (by omega), sz_int (by omega), sz_frac (by omega) (by omega) (by omega)⟩⟩, rfl, rfl⟩
    · exact ⟨_, _, by simp! [beq_eq_false_iff_ne.mpr hw]; try rfl, b, x, a, c, gb, rfl, rfl⟩
  rintro _ _ ⟨b, x, a, c, gb, rfl, rfl⟩
  refine ⟨b, a, c, gb, ?_⟩
  simp! [out_rt]
  rfl
/-! the drawn weights -/
theorem set_self {h : AH} {n : Nat} {o : Ob} (e : h[n]? = some o) : h.set n o = h := by
  apply List.ext_getElem?
  intro i
  rw [List.getElem?_set]
  split
  · rename_i hi
    subst hi
    split
    · exact e.symm
    · rename_i hl; exact absurd (List.getElem?_eq_some_iff.mp e).1 hl
  · rfl
/-- a feed stands at p -/
def Fd (h : AH) (p : Nat) : Prop := ∃ a c k, h[p]? = some (fd a c k)
/-- the heap grew (and what is behind the old may have changed) -/
def Ex (h h1 : AH) : Prop := ∃ g, h1 = h ++ g
theorem Ex.refl (h : AH) : Ex h h := ⟨[], by rw [List.append_nil]⟩
theorem Ex.app {h h1 : AH} (e : Ex h h1) (g : AH) : Ex h (h1 ++ g) := by
  obtain ⟨g0, rfl⟩ := e
  exact ⟨g0 ++ g, by rw [List.append_assoc]⟩
theorem Ex.trans {h h1 h2 : AH} (e : Ex h h1) (f : Ex h1 h2) : Ex h h2 := by
  obtain ⟨g0, rfl⟩ := f
  exact e.app g0
theorem Ex.set {h h1 : AH} (e : Ex h h1) {p : Nat} (hp : h.length ≤ p) (o : Ob) : Ex h (h1.set p o) := by
  obtain ⟨g0, rfl⟩ := e
  exact ⟨g0.set (p - h.length) o, by rw [List.set_append_right _ _ hp]⟩
theorem Ex.len {h h1 : AH} (e : Ex h h1) : h.length ≤ h1.length := by
  obtain ⟨g0, rfl⟩ := e
  rw [List.length_append]; omega
theorem Ex.get {h h1 : AH} (e : Ex h h1) {n : Nat} {o : Ob} (q : h[n]? = some o) : h1[n]? = some o := by
  obtain ⟨g0, rfl⟩ := e
  rw [List.getElem?_append_left (List.getElem?_eq_some_iff.mp q).1]; exact q
theorem Ex.seq {h h1 : AH} (e : Ex h h1) {n : Nat} {xs : List D} (q : seqAt h n = some xs) : seqAt h1 n = some xs := by
  obtain ⟨g0, rfl⟩ := e
  exact seqAt_app q
theorem _root_.L2.Script.ex {h h1 : AH} {d : D} {ns : List Int} (s : Script h d ns) (e : Ex h h1) : Script h1 d ns := by
  rcases s.form with ⟨n, rfl, q⟩ | rfl
  · exact ⟨.inl ⟨n, rfl, e.get q⟩⟩
  · exact ⟨.inr rfl⟩
theorem next_fd {h : AH} {p : Nat} (f : Fd h p) {m : Int} (hm : 0 < m) (hs : Sm 8000 m) : ∃ r o, 0 ≤ r ∧ r < m ∧ G_law_next [.ref p, .int m] h = .ok (.int r) (h.set p o) ∧ Fd (h.set p o) p := by
  obtain ⟨a, c, k, e⟩ := f
  have hp := (List.getElem?_eq_some_iff.mp e).1
  obtain ⟨r, a', h0, h1, e1⟩ := next_eq hp a c k hm hs
  rw [set_self e] at e1
  exact ⟨r, _, h0, h1, e1, a', c + 1, k, set_at hp _⟩
theorem great_fd {h : AH} {p : Nat} (f : Fd h p) {far : Int} (hf : 0 ≤ far) : ∃ r o, -far ≤ r ∧ r ≤ far ∧ G_law_great [.ref p, .int far] h = .ok (.int r) (h.set p o) ∧ Fd (h.set p o) p := by
  obtain ⟨a, c, k, e⟩ := f
  have hp := (List.getElem?_eq_some_iff.mp e).1
  obtain ⟨r, a', c', h0, h1, e1⟩ := great_eq hp a c k hf
  rw [set_self e] at e1
  exact ⟨r, _, h0, h1, e1, a', c', k, set_at hp _⟩
theorem feed_fd {h : AH} {d : D} {ns : List Int} (s : Script h d ns) (k : Int) : ∃ o, G_law_feed [d, .int k] h = .ok (.ref h.length) (h ++ [o]) ∧ Fd (h ++ [o]) h.length := by
  obtain ⟨a, e⟩ := feed_eq s k
  exact ⟨_, e, a, 0, k, by rw [List.getElem?_append_right (Nat.le_refl _), Nat.sub_self]; rfl⟩
theorem Fd.app {h : AH} {p : Nat} (f : Fd h p) (g : AH) : Fd (h ++ g) p := by
  obtain ⟨a, c, k, e⟩ := f
  exact ⟨a, c, k, by rw [List.getElem?_append_left (List.getElem?_eq_some_iff.mp e).1]; exact e⟩
theorem Fd.set {h : AH} {p q : Nat} {o : Ob} (f : Fd h p) (hq : q ≠ p) : Fd (h.set q o) p := by
  obtain ⟨a, c, k, e⟩ := f
  exact ⟨a, c, k, by rw [List.getElem?_set_ne hq]; exact e⟩
/-- a list of weights stands at s -/
structure WsAt (h : AH) (s : Nat) (ws : List Int) : Prop where
  at_ : h[s]? = some (.lst (ws.map D.int))
  rng : ∀ w ∈ ws, 1 ≤ w ∧ w ≤ 1000000000000000000000000000000
theorem WsAt.app {h : AH} {s : Nat} {ws : List Int} (w : WsAt h s ws) (g : AH) : WsAt (h ++ g) s ws := ⟨by rw [List.getElem?_append_left (List.getElem?_eq_some_iff.mp w.at_).1]; exact w.at_, w.rng⟩
theorem WsAt.set {h : AH} {s p : Nat} {ws : List Int} {o : Ob} (w : WsAt h s ws) (hp : p ≠ s) : WsAt (h.set p o) s ws := ⟨by rw [List.getElem?_set_ne hp]; exact w.at_, w.rng⟩
theorem WsAt.seq {h : AH} {s : Nat} {ws : List Int} (w : WsAt h s ws) : seqAt h s = some (ws.map D.int) := by unfold seqAt; rw [w.at_]
theorem WsAt.push {h : AH} {s : Nat} {ws : List Int} (w : WsAt h s ws) (hl : ws.length < 1000) {v : Int} (h1 : 1 ≤ v) (h2 : v ≤ 1000000000000000000000000000000) : mAppend (.ref s) [.int v] h = .ok .non (h.set s (.lst ((ws ++ [v]).map D.int))) ∧ WsAt (h.set s (.lst ((ws ++ [v]).map D.int))) s (ws ++ [v]) := by
  have hs := (List.getElem?_eq_some_iff.mp w.at_).1
  refine ⟨?_, set_at hs _, fun x hx => ?_⟩
  · unfold mAppend onLst
    dsimp only
    rw [w.at_]
    dsimp only
    rw [if_pos (by rw [List.length_map]; omega), List.map_append]
    rfl
  · rcases List.mem_append.mp hx with z | z
    · exact w.rng x z
    · rw [List.mem_singleton] at z; subst z; exact ⟨h1, h2⟩
theorem WsAt.isL {h : AH} {s : Nat} {ws : List Int} (w : WsAt h s ws) : isLst h (.ref s) = true := by show (seqAt h s).isSome = true; rw [w.seq]; rfl
theorem sum_sm {ws : List Int} : (∀ w ∈ ws, 1 ≤ w ∧ w ≤ 1000000000000000000000000000000) → ws.length ≤ 1000 → Sm 1000 ws.sum := by
  intro h hl
  have key : ∀ (vs : List Int), (∀ w ∈ vs, 1 ≤ w ∧ w ≤ 1000000000000000000000000000000) → 0 ≤ vs.sum ∧ vs.sum ≤ vs.length * 1000000000000000000000000000000 := by
    intro vs
    induction vs with
    | nil => intro _; simp
    | cons v vs ih =>
      intro hv
      have h1 := hv v (List.mem_cons_self ..)
      have h2 := ih fun w hw => hv w (List.mem_cons_of_mem _ hw)
      rw [List.sum_cons, List.length_cons]
      omega
  have := key ws h
  have h3 : ws.sum.natAbs < 2 ^ 120 := by
    have e : (2 : Nat) ^ 120 = 1329227995784915872903807060280344576 := by decide
    omega
  exact Nat.lt_of_lt_of_le h3 (Nat.pow_le_pow_right (by decide) (by decide))
theorem lst6_ix {h : AH} {a b c d e f : D} {i : Int} (h0 : 0 ≤ i) (h1 : i < 6) : gIx (.ref h.length) (.int i) (h ++ [.lst [a, b, c, d, e, f]]) = .ok (([a, b, c, d, e, f] : List D).getD i.toNat .non) (h ++ [.lst [a, b, c, d, e, f]]) := by
  unfold gIx itemsOf
  dsimp only
  rw [seqAt_new]
  dsimp only
  have e1 : ((i.toNat : Nat) : Int) = i := Int.toNat_of_nonneg h0
  rw [← e1, atI_nat (v := ([a, b, c, d, e, f] : List D).getD i.toNat .non) (by
    rw [List.getD_eq_getElem?_getD, List.getElem?_eq_getElem (by show i.toNat < 6; omega)]; rfl)]
  rfl
/-- one turn: one weight more -/
theorem wturn {h h1 : AH} {d : D} {ns ws : List Int} {at_ most many more style i : Int} {s : Nat} {x3 x8 x9 : Option D} (sc : Script h d ns) (ex : Ex h h1) (hs : h.length ≤ s) (w : WsAt h1 s ws) (hl : ws.length < 1000) (st0 : 0 ≤ style) (st1 : style < 6) (hi : 0 ≤ i) (hi2 : i < 1000) :
    ∃ v h2 x3' x9', B1_law_weights G_law_feed G_law_next G_law_great [some d, some (.int at_), some (.int most), x3, some (.int many), some (.int more), some (.int style), some (.ref s), some (.int i), x9] h1 =
      .nx [some d, some (.int at_), some (.int most), x3', some (.int many), some (.int more), some (.int style), some (.ref s), some (.int i), x9'] h2 ∧ Ex h h2 ∧ WsAt h2 s (ws ++ [v]) := by
  have p29 : ∀ h', gPow (.int 10) (.int 29) h' = .ok (.int 100000000000000000000000000000) h' := fun h' => gPow_ok ⟨by decide, by decide, by decide⟩
  have p30 : ∀ h', gPow (.int 10) (.int 30) h' = .ok (.int 1000000000000000000000000000000) h' := fun h' => gPow_ok ⟨by decide, by decide, by decide⟩
  have hsl := (List.getElem?_eq_some_iff.mp w.at_).1
  obtain ⟨o, ef, f0⟩ := feed_fd (sc.ex ex) (at_ + 1 + i)
  have w0 := w.app [o]
  have hp : h1.length ≠ s := by omega
  have hlp : h.length ≤ h1.length := ex.len
  have ex0 := ex.app [o]
  generalize h1 ++ [o] = H0 at *
  obtain ⟨r1, o1, r10, r11, e1, f1⟩ := next_fd f0 (m := 9) (by decide) (sm8 (by decide))
  have w1 := w0.set (o := o1) hp
  have ex1 := ex0.set (o := o1) hlp
  generalize H0.set h1.length o1 = H1 at *
  have hm := fmod_rng (a := i) (m := 24) (by decide)
  have sh : ∀ h', gShl (.int 1) (.int (i.fmod 24)) h' = .ok (.int (1 * 2 ^ (i.fmod 24).toNat)) h' := fun h' => gShl_ok ⟨by omega, by omega, by decide⟩
  have hsh : 1 ≤ (1 : Int) * 2 ^ (i.fmod 24).toNat ∧ (1 : Int) * 2 ^ (i.fmod 24).toNat ≤ 1000000000000000000000000000000 := by
    have h1 : (i.fmod 24).toNat ≤ 24 := by omega
    have h2 : (2 : Nat) ^ (i.fmod 24).toNat ≤ 2 ^ 24 := Nat.pow_le_pow_right (by decide) h1
    have h3 : 1 ≤ (2 : Nat) ^ (i.fmod 24).toNat := Nat.one_le_two_pow
    have h4 : ((2 ^ (i.fmod 24).toNat : Nat) : Int) = (2 : Int) ^ (i.fmod 24).toNat := by norm_cast
    rw [Int.one_mul, ← h4]
    omega
  obtain ⟨r2, o2, r20, r21, e2, f2⟩ := next_fd f1 (m := 9) (by decide) (sm8 (by decide))
  have w2 := w1.set (o := o2) hp
  have ex2 := ex1.set (o := o2) hlp
  generalize H1.set h1.length o2 = H2 at *
  obtain ⟨r3, o3, r30, r31, e3, f3⟩ := next_fd f2 (m := 3) (by decide) (sm8 (by decide))
  have w3 := w2.set (o := o3) hp
  have ex3 := ex2.set (o := o3) hlp
  generalize H2.set h1.length o3 = H3 at *
  generalize hps : (1 : Int) * 2 ^ (i.fmod 24).toNat = ps at *
  have ix := lst6_ix (h := H3) (a := .int 1) (b := .int (1 + r1)) (c := .int ps) (d := .int (1 + r2)) (e := .int 1) (f := .int (1 + r3)) st0 st1
  obtain ⟨v0, ev0, v01, v02⟩ : ∃ v0 : Int, ([.int 1, .int (1 + r1), .int ps, .int (1 + r2), .int 1, .int (1 + r3)] : List D).getD style.toNat .non = .int v0 ∧ 1 ≤ v0 ∧ v0 ≤ 1000000000000000000000000000000 := by
    have : style = 0 ∨ style = 1 ∨ style = 2 ∨ style = 3 ∨ style = 4 ∨ style = 5 := by omega
    rcases this with rfl | rfl | rfl | rfl | rfl | rfl
    · exact ⟨1, rfl, by decide, by decide⟩
    · exact ⟨1 + r1, rfl, by omega, by omega⟩
    · exact ⟨ps, rfl, hsh.1, hsh.2⟩
    · exact ⟨1 + r2, rfl, by omega, by omega⟩
    · exact ⟨1, rfl, by decide, by decide⟩
    · exact ⟨1 + r3, rfl, by omega, by omega⟩
  rw [ev0] at ix
  have w4 := w3.app [.lst [.int 1, .int (1 + r1), .int ps, .int (1 + r2), .int 1, .int (1 + r3)]]
  have f4 := f3.app [.lst [.int 1, .int (1 + r1), .int ps, .int (1 + r2), .int 1, .int (1 + r3)]]
  have ex4 := ex3.app [.lst [.int 1, .int (1 + r1), .int ps, .int (1 + r2), .int 1, .int (1 + r3)]]
  have l6 := ev_lst6 H3 (.int 1) (.int (1 + r1)) (.int ps) (.int (1 + r2)) (.int 1) (.int (1 + r3))
  generalize H3 ++ [.lst [.int 1, .int (1 + r1), .int ps, .int (1 + r2), .int 1, .int (1 + r3)]] = H4 at *
  let P : SR → Prop := fun r => ∃ v h2 x3' x9', r = .nx [some d, some (.int at_), some (.int most), x3', some (.int many), some (.int more), some (.int style), some (.ref s), some (.int i), x9'] h2 ∧ Ex h h2 ∧ WsAt h2 s (ws ++ [v])
  let I : AE → AH → Prop := fun ae h2 => ∃ v, 1 ≤ v ∧ v ≤ 1000000000000000000000000000000 ∧ ae = [some d, some (.int at_), some (.int most), some (.ref h1.length), some (.int many), some (.int more), some (.int style), some (.ref s), some (.int i), some (.int v)] ∧ Ex h h2 ∧ WsAt h2 s ws ∧ Fd h2 h1.length
  unfold B1_law_weights
  show P _
  refine seq_inv (I := fun ae h2 => ae = [some d, some (.int at_), some (.int most), some (.ref h1.length), some (.int many), some (.int more), some (.int style), some (.ref s), some (.int i), x9] ∧ H0 = h2) ⟨_, _, by simp! [ef]; try rfl, rfl, rfl⟩ ?_
  rintro _ _ ⟨rfl, rfl⟩
  refine seq_inv (I := I) ⟨[some d, some (.int at_), some (.int most), some (.ref h1.length), some (.int many), some (.int more), some (.int style), some (.ref s), some (.int i), some (.int v0)], H4, by simp! [e1, gMod_ok (show (24 : Int) ≠ 0 by decide), sh, hps, e2, e3, l6, ix]; try rfl, v0, v01, v02, rfl, ex4, w4, f4⟩ ?_
  rintro _ H5 ⟨v, v1, v2, rfl, ex5, w5, f5⟩
  refine seq_inv (I := I) ?_ ?_
  · by_cases h3 : style = 3
    · subst h3
      obtain ⟨r, o, r0, r1, e, f⟩ := next_fd f5 (m := 4) (by decide) (sm8 (by decide))
      by_cases hr : r = 0
      · subst hr
        obtain ⟨r', o', r0', r1', e', f'⟩ := next_fd f (m := 100) (by decide) (sm8 (by decide))
        exact ⟨[some d, some (.int at_), some (.int most), some (.ref h1.length), some (.int many), some (.int more), some (.int 3), some (.ref s), some (.int i), some (.int (100000000000000000000000000000 + r'))], (H5.set h1.length o).set h1.length o', by simp! [e, p29, e']; try rfl, _, by omega, by omega, rfl, (ex5.set hlp _).set hlp _, (w5.set hp).set hp, f'⟩
      · exact ⟨_, H5.set h1.length o, by simp! [e, beq_eq_false_iff_ne.mpr hr]; try rfl, v, v1, v2, rfl, ex5.set hlp _, w5.set hp, f⟩
    · exact ⟨_, H5, by simp! [beq_eq_false_iff_ne.mpr h3]; try rfl, v, v1, v2, rfl, ex5, w5, f5⟩
  rintro _ H6 ⟨v, v1, v2, rfl, ex6, w6, f6⟩
  refine seq_inv (I := I) ?_ ?_
  · by_cases h4 : style = 4
    · subst h4
      obtain ⟨r, o, r0, r1, e, f⟩ := great_fd f6 (far := 999999999999999999999999999998) (by decide)
      have na := abs_nat r
      exact ⟨[some d, some (.int at_), some (.int most), some (.ref h1.length), some (.int many), some (.int more), some (.int 4), some (.ref s), some (.int i), some (.int (1 + ((r.natAbs : Nat) : Int)))], H6.set h1.length o, by simp! [p30, e, na]; try rfl, _, by omega, by omega, rfl, ex6.set hlp _, w6.set hp, f⟩
    · exact ⟨_, H6, by simp! [beq_eq_false_iff_ne.mpr h4]; try rfl, v, v1, v2, rfl, ex6, w6, f6⟩
  rintro _ H7 ⟨v, v1, v2, rfl, ex7, w7, f7⟩
  obtain ⟨ea, wa⟩ := w7.push hl v1 v2
  refine ⟨v, H7.set s (.lst ((ws ++ [v]).map D.int)), some (.ref h1.length), some (.int v), ?_, ex7.set hs _, wa⟩
  simp! [w7.isL, ea]
theorem wloop {h : AH} {d : D} {ns : List Int} {at_ most many more style : Int} {s : Nat} (sc : Script h d ns) (hs : h.length ≤ s) (st0 : 0 ≤ style) (st1 : style < 6) (G : AH → Prop) (hG : ∀ h, G h) :
    ∀ (is : List Int) (h1 : AH) (ws : List Int) (x3 x8 x9 : Option D), (∀ i ∈ is, 0 ≤ i ∧ i < 1000) → Ex h h1 → WsAt h1 s ws → ws.length + is.length ≤ 1000 →
      ∃ ws' h2 x3' x8' x9', forL G (gN 8) (B1_law_weights G_law_feed G_law_next G_law_great) (is.map D.int) [some d, some (.int at_), some (.int most), x3, some (.int many), some (.int more), some (.int style), some (.ref s), x8, x9] h1 =
        .nx [some d, some (.int at_), some (.int most), x3', some (.int many), some (.int more), some (.int style), some (.ref s), x8', x9'] h2 ∧ Ex h h2 ∧ WsAt h2 s ws' ∧ ws'.length = ws.length + is.length
  | [], h1, ws, x3, x8, x9, _, ex, w, _ => ⟨ws, h1, x3, x8, x9, by rw [List.map_nil]; unfold forL; rw [if_pos (hG _)], ex, w, rfl⟩
  | i :: is, h1, ws, x3, x8, x9, hi, ex, w, hl => by
    have h0 := hi i (List.mem_cons_self ..)
    rw [List.length_cons] at hl
    obtain ⟨v, h2, x3', x9', e, ex2, w2⟩ := wturn (at_ := at_) (most := most) (many := many) (more := more) (style := style) (x3 := x3) (x8 := x8) (x9 := x9) sc ex hs w (by omega) st0 st1 h0.1 h0.2
    obtain ⟨ws', h3, y3, y8, y9, e3, ex3, w3, l3⟩ := wloop (at_ := at_) (most := most) (many := many) (more := more) sc hs st0 st1 G hG is h2 (ws ++ [v]) x3' (some (.int i)) x9' (fun j hj => hi j (List.mem_cons_of_mem _ hj)) ex2 w2 (by simp; omega)
    refine ⟨ws', h3, y3, y8, y9, ?_, ex3, w3, by rw [l3]; simp; omega⟩
    rw [List.map_cons]
    unfold forL
    rw [if_pos (hG _)]
    simp only [ev_gN, toS_ok, List.set_cons_zero, List.set_cons_succ, e, loop_nx]
    exact e3
theorem weights_eq {h : AH} {d : D} {ns : List Int} {at_ most : Int} (sc : Script h d ns) (hm0 : 1 ≤ most) (hm1 : most ≤ 40) :
    ∃ ws h2 s, G_law_weights [d, .int at_, .int most] h = .ok (.ref s) h2 ∧ Ex h h2 ∧ h.length ≤ s ∧ WsAt h2 s ws ∧ 1 ≤ ws.length ∧ ws.length ≤ most.toNat := by
  obtain ⟨o, ef, f0⟩ := feed_fd sc at_
  have ex0 := (Ex.refl h).app [o]
  generalize h ++ [o] = H0 at *
  let P : SR → Prop := fun r => ∃ ws h2 s, outR r = .ok (.ref s) h2 ∧ Ex h h2 ∧ h.length ≤ s ∧ WsAt h2 s ws ∧ 1 ≤ ws.length ∧ ws.length ≤ most.toNat
  unfold G_law_weights F_law_weights
  rw [ev_out]
  show P _
  refine seq_inv (I := fun ae h2 => ae = [some d, some (.int at_), some (.int most), some (.ref h.length), none, none, none, none, none, none] ∧ H0 = h2) ⟨_, _, by simp! [ef]; try rfl, rfl, rfl⟩ ?_
  rintro _ _ ⟨rfl, rfl⟩
  have mn : bMin2 [.int most, .int 7] H0 = .ok (.int (if 7 < most then 7 else most)) H0 := rfl
  obtain ⟨r1, o1, r10, r11, e1, f1⟩ := next_fd f0 (m := if 7 < most then 7 else most) (by split <;> omega) (sm8 (by split <;> omega))
  have ex1 := ex0.set (o := o1) (Nat.le_refl _)
  have hr1 : r1 < most := by split at r11 <;> omega
  refine seq_inv (I := fun ae h2 => ae = [some d, some (.int at_), some (.int most), some (.ref h.length), some (.int (1 + r1)), none, none, none, none, none] ∧ h2 = H0.set h.length o1) ⟨_, _, by simp! [mn, e1]; try rfl, rfl, rfl⟩ ?_
  rintro _ _ ⟨rfl, rfl⟩
  generalize H0.set h.length o1 = H1 at *
  obtain ⟨more, o2, r20, r21, e2, f2⟩ := next_fd f1 (m := 6) (by decide) (sm8 (by decide))
  have ex2 := ex1.set (o := o2) (Nat.le_refl _)
  refine seq_inv (I := fun ae h2 => ae = [some d, some (.int at_), some (.int most), some (.ref h.length), some (.int (1 + r1)), some (.int more), none, none, none, none] ∧ h2 = H1.set h.length o2) ⟨_, _, by simp! [e2]; try rfl, rfl, rfl⟩ ?_
  rintro _ _ ⟨rfl, rfl⟩
  generalize H1.set h.length o2 = H2 at *
  refine seq_inv (I := fun ae h2 => ∃ many, 1 ≤ many ∧ many ≤ most ∧ ae = [some d, some (.int at_), some (.int most), some (.ref h.length), some (.int many), some (.int more), none, none, none, none] ∧ Ex h h2 ∧ Fd h2 h.length) ?_ ?_
  · by_cases h2 : more < 2
    · have mx : ∀ x h', bMax2 [.int 1, .int x] h' = .ok (.int (if x > 1 then x else 1)) h' := fun _ _ => rfl
      have dv : ∀ h', gDiv (.int ((1 + r1) * most)) (.int 8) h' = .ok (.int (((1 + r1) * most).fdiv 8)) h' := fun h' => gDiv_ok (CDivB.of (by decide) (sm8 (by decide)))
      have ml : ∀ h', gMul (.int (1 + r1)) (.int most) h' = .ok (.int ((1 + r1) * most)) h' := fun h' => gMul_ok (CMulA.left (by omega) (by omega))
      have bnd : ((1 + r1) * most).fdiv 8 ≤ most := by
        rw [Int.fdiv_eq_ediv_of_nonneg _ (by decide)]
        have h7 : 1 + r1 ≤ 7 := by split at r11 <;> omega
        have : (1 + r1) * most ≤ 7 * most := Int.mul_le_mul_of_nonneg_right h7 (by omega)
        omega
      generalize ((1 + r1) * most).fdiv 8 = q at *
      have ix : gIx (.ref H2.length) (.int more) (H2 ++ [.lst [.int most, .int (if q > 1 then q else 1)]]) = .ok (.int (if more = 0 then most else if q > 1 then q else 1)) (H2 ++ [.lst [.int most, .int (if q > 1 then q else 1)]]) := by
        unfold gIx itemsOf
        dsimp only
        rw [seqAt_new]
        dsimp only
        have : more = 0 ∨ more = 1 := by omega
        rcases this with rfl | rfl <;> rfl
      refine ⟨[some d, some (.int at_), some (.int most), some (.ref h.length), some (.int (if more = 0 then most else if q > 1 then q else 1)), some (.int more), none, none, none, none], H2 ++ [.lst [.int most, .int (if q > 1 then q else 1)]], by simp! [h2, ml, dv, mx, ev_lst2, ix]; try rfl, _, ?_, ?_, rfl, ex2.app _, f2.app _⟩
      · split
        · omega
        · split <;> omega
      · split
        · omega
        · split <;> omega
    · exact ⟨_, H2, by simp! [h2]; try rfl, 1 + r1, by omega, by omega, rfl, ex2, f2⟩
  rintro _ H3 ⟨many, m1, m2, rfl, ex3, f3⟩
  obtain ⟨st, o4, r40, r41, e4, f4⟩ := next_fd f3 (m := 6) (by decide) (sm8 (by decide))
  have ex4 := ex3.set (o := o4) (Nat.le_refl _)
  refine seq_inv (I := fun ae h2 => ae = [some d, some (.int at_), some (.int most), some (.ref h.length), some (.int many), some (.int more), some (.int st), none, none, none] ∧ h2 = H3.set h.length o4) ⟨_, _, by simp! [e4]; try rfl, rfl, rfl⟩ ?_
  rintro _ _ ⟨rfl, rfl⟩
  generalize H3.set h.length o4 = H4 at *
  refine seq_inv (I := fun ae h2 => ∃ style, 0 ≤ style ∧ style < 6 ∧ ae = [some d, some (.int at_), some (.int most), some (.ref h.length), some (.int many), some (.int more), some (.int style), none, none, none] ∧ H4 = h2) ?_ ?_
  · by_cases h9 : 9 < many
    · have hf := fmod_rng (a := st) (m := 3) (by decide)
      exact ⟨_, H4, by simp! [h9, gMod_ok (show (3 : Int) ≠ 0 by decide)]; try rfl, st.fmod 3, by omega, by omega, rfl, rfl⟩
    · exact ⟨_, H4, by simp! [h9]; try rfl, st, r40, r41, rfl, rfl⟩
  rintro _ _ ⟨style, s0, s1, rfl, rfl⟩
  refine seq_inv (I := fun ae h2 => ae = [some d, some (.int at_), some (.int most), some (.ref h.length), some (.int many), some (.int more), some (.int style), some (.ref H4.length), none, none] ∧ h2 = H4 ++ [.lst []]) ⟨_, _, by simp! [ev_lst0]; try rfl, rfl, rfl⟩ ?_
  rintro _ _ ⟨rfl, rfl⟩
  have wl := wloop (at_ := at_) (most := most) (many := many) (more := more) (style := style) (s := H4.length) sc ex4.len s0 s1 (AIt.guard (.rng 0 many.toNat)) (fun _ => trivial) ((List.range many.toNat).map fun i => (0 : Int) + (i : Nat)) (H4 ++ [.lst []]) [] (some (.ref h.length)) none none (by
    intro i hi
    obtain ⟨j, hj, rfl⟩ := List.mem_map.mp hi
    have := List.mem_range.mp hj
    omega) (ex4.app _) ⟨by rw [List.getElem?_append_right (Nat.le_refl _), Nat.sub_self]; rfl, fun w hw => nomatch hw⟩ (by simp; omega)
  obtain ⟨ws, h2, x3, x8, x9, e, ex5, w5, l5⟩ := wl
  rw [List.map_map] at e
  have e' : forL (AIt.guard (.rng 0 many.toNat)) (gN 8) (B1_law_weights G_law_feed G_law_next G_law_great) (AIt.items (.rng 0 many.toNat)) [some d, some (.int at_), some (.int most), some (.ref h.length), some (.int many), some (.int more), some (.int style), some (.ref H4.length), none, none] (H4 ++ [.lst []]) = _ := e
  refine seq_inv (I := fun ae h3 => ae = [some d, some (.int at_), some (.int most), x3, some (.int many), some (.int more), some (.int style), some (.ref H4.length), x8, x9] ∧ h2 = h3) ⟨_, _, by
    simp! [ev_for, ev_irg1]
    rw [if_pos ⟨by omega, by omega⟩, toS_ok, e'], rfl, rfl⟩ ?_
  rintro _ _ ⟨rfl, rfl⟩
  refine ⟨ws, _, H4.length, ?_, ex5, ex4.len, w5, ?_, ?_⟩
  · simp! [out_rt]
  · rw [l5]; simp; omega
  · rw [l5]; simp; omega
theorem room_fd {h : AH} {p : Nat} (f : Fd h p) : ∃ b o, Good b ∧ G_law_room [.ref p] h = .ok (bD b) (h.set p o) ∧ Fd (h.set p o) p := by
  obtain ⟨a, c, k, e⟩ := f
  have hp := (List.getElem?_eq_some_iff.mp e).1
  obtain ⟨b, a', c', gb, er⟩ := room_eq hp a c k
  rw [set_self e] at er
  exact ⟨b, _, gb, er, a', c', k, set_at hp _⟩
theorem cut1 (x : D) (xs : List D) : L2.cutD (x :: xs) (some 1) none = xs := by
  unfold L2.cutD HT.sIx
  simp
theorem most_loop {n : Nat} (hn : n ≤ 100000) (G : AH → Prop) (h : AH) (hG : G h) (x0 : Option D) : ∀ (qs : List Rat) (q : Rat) (y : Option D), Sz n q → (∀ x ∈ qs, Sz n x) → ∃ y', forL G (gN 2) B1_law_most (qs.map fD) [x0, some (fD q), y] h = .nx [x0, some (fD (gmx q qs)), y'] h
  | [], q, y, _, _ => ⟨y, by rw [List.map_nil]; unfold forL; rw [if_pos hG]; rfl⟩
  | x :: qs, q, y, hq, hx => by
    have sx := hx x (List.mem_cons_self ..)
    have m1 := fun h => gMul_ok (h := h) (CMulA.of sx.top hq.bot hn hn)
    have m2 := fun h => gMul_ok (h := h) (CMulA.of hq.top sx.bot hn hn)
    have hi : (q.num * (x.den : Int) < x.num * (q.den : Int)) ↔ q < x := (rat_lt q x).symm
    by_cases hl : q < x
    · obtain ⟨y', e⟩ := most_loop hn G h hG x0 qs x (some (fD x)) sx (fun z hz => hx z (List.mem_cons_of_mem _ hz))
      refine ⟨y', ?_⟩
      rw [List.map_cons]
      unfold forL
      rw [if_pos hG]
      conv => lhs; unfold B1_law_most
      simp! [gIx_fD0, gIx_fD1, m1, m2, hi, hl]
      show _ = SR.nx [x0, some (fD (gmx (if q < x then x else q) qs)), y'] h
      rw [if_pos hl]
      unfold B1_law_most at e
      exact e
    · obtain ⟨y', e⟩ := most_loop hn G h hG x0 qs q (some (fD x)) hq (fun z hz => hx z (List.mem_cons_of_mem _ hz))
      refine ⟨y', ?_⟩
      rw [List.map_cons]
      unfold forL
      rw [if_pos hG]
      conv => lhs; unfold B1_law_most
      simp! [gIx_fD0, gIx_fD1, m1, m2, hi, hl]
      show _ = SR.nx [x0, some (fD (gmx (if q < x then x else q) qs)), y'] h
      rw [if_neg hl]
      unfold B1_law_most at e
      exact e
theorem most_eq {n k : Nat} (hn : n ≤ 100000) {h : AH} {q : Rat} {qs : List Rat} (e : seqAt h k = some ((q :: qs).map fD)) (hs : ∀ x ∈ q :: qs, Sz n x) : G_law_most [.ref k] h = .ok (fD (gmx q qs)) (h ++ [.lst (qs.map fD)]) := by
  have e' : seqAt h k = some (fD q :: qs.map fD) := e
  have sl : gSl (.ref k) (some 1) none h = .ok (.ref h.length) (h ++ [.lst (qs.map fD)]) := by
    unfold gSl
    dsimp only
    rw [e']
    dsimp only
    rw [cut1]
  have es := seqAt_new h (qs.map fD)
  obtain ⟨y', el⟩ := most_loop hn (AIt.guard (.lst h.length (qs.map fD))) (h ++ [Ob.lst (qs.map fD)]) (show seqAt _ _ = some _ from es) (some (.ref k)) qs q none (hs q (List.mem_cons_self ..)) (fun x hx => hs x (List.mem_cons_of_mem _ hx))
  unfold G_law_most F_law_most
  simp! [ix_head e', ev_for, ev_iseq, L2.eSl, oSome, oNone, sl, es, AIt.items]
  rw [el]
  simp! [bind_ok]
theorem ev_try (mro : List Str) (i : Nat) (B U : MS) (ae : AE) (h : AH) : sTry mro i B U ae h = match B ae h with
  | .exc c ae1 h1 => if c ∈ mro then match U (ae1.set i (some (.exc c))) h1 with
      | .nx ae2 h2 => .nx (ae2.set i none) h2
      | .bk ae2 h2 => .bk (ae2.set i none) h2
      | .ct ae2 h2 => .ct (ae2.set i none) h2
      | .rt d h2 => .rt d h2
      | _ => .stuck
    else .stuck
  | r => r := rfl
/-! the law of what parted refuses -/
theorem isL_new (h : AH) (xs : List D) : isLst (h ++ [.lst xs]) (.ref h.length) = true := by show (seqAt _ _).isSome = true; rw [seqAt_new]; rfl
theorem isi1 {h : AH} {c x : Str} {b : Bool} (e : kit kits (.o c) (.o x) = some b) : bIsi kits [.exc c, .glb x] h = .ok (.bl b) h := by
  show (match some (Cl.o x) with | some cl => (match kit kits (.o c) cl with | some b => R.ok (D.bl b) h | none => .stuck) | none => .stuck) = _
  dsimp only
  rw [e]
theorem isiT {h : AH} {c : Str} {ds : List D} {c0 : Cl} {cs : List Cl} {b b0 : Bool} (e0 : ds.mapM clD = some (c0 :: cs)) (e : kitsAny kits (.o c) (c0 :: cs) = some b) (e1 : kit kits (.o c) c0 = some b0) : bIsi kits [.exc c, .tup ds] h = .ok (.bl b) h := by
  unfold bIsi tyD
  dsimp only
  rw [e0]
  dsimp only
  rw [e, e1]
theorem eqs_bls (h : AH) : ∀ bs : List Bool, eqsOf h (.bl true) (bs.map D.bl) = some bs
  | [] => rfl
  | b :: bs => by
    show (match gEqB h (.bl b) (.bl true), eqsOf h (.bl true) (bs.map D.bl) with | some b, some bs => some (b :: bs) | _, _ => none) = _
    rw [eqs_bls h bs]
    cases b <;> rfl
theorem count_new (h : AH) (bs : List Bool) (n : Nat) (e : bs.count true = n) : mCountC (.ref h.length) [.bl true] (h ++ [.lst (bs.map D.bl)]) = .ok (.int (n : Nat)) (h ++ [.lst (bs.map D.bl)]) := by
  unfold mCountC
  dsimp only
  rw [if_pos ⟨rfl, rfl⟩]
  unfold mCount
  dsimp only
  rw [seqAt_new, Option.bind_some, eqs_bls]
  dsimp only
  rw [e]
theorem index_new (h : AH) (bs : List Bool) (n : Nat) (e : bs.idxOf true = n) (hl : n < bs.length) : mIndex (.ref h.length) [.bl true] (h ++ [.lst (bs.map D.bl)]) = .ok (.int (n : Nat)) (h ++ [.lst (bs.map D.bl)]) := by
  unfold mIndex
  dsimp only
  rw [seqAt_new, Option.bind_some, eqs_bls]
  dsimp only
  rw [e, if_pos hl]
/-! the law of floors -/
theorem law_long_eq {b : Bx} (hs : b.Sz 101) (h : AH) : G_law_long [bD b] h = .ok (wD (!decide (b.w < b.h))) (h ++ [.lst [.str "down", .str "across"]]) := by
  have m1 := fun h => gMul_ok (h := h) (CMulA.of hs.w.top hs.h.bot (by decide) (by decide))
  have m2 := fun h => gMul_ok (h := h) (CMulA.of hs.h.top hs.w.bot (by decide) (by decide))
  have l2 : mkLst [.str "down", .str "across"] h = .ok (.ref h.length) (h ++ [.lst [.str "down", .str "across"]]) := rfl
  have es := seqAt_new h [.str "down", .str "across"]
  have bi : ∀ (b : Bool) h', bInt [.bl b] h' = .ok (.int (if b then 1 else 0)) h' := fun _ _ => rfl
  have ge : ∀ (i j : Int) h', gGe (.int i) (.int j) h' = .ok (.bl (decide (j ≤ i))) h' := fun _ _ _ => rfl
  generalize hN : h.length = N at *
  generalize h ++ [.lst [.str "down", .str "across"]] = H1 at *
  have i0 : gIx (.ref N) (.int 0) H1 = .ok (.str "down") H1 := by unfold gIx itemsOf; dsimp only; rw [es]; rfl
  have i1 : gIx (.ref N) (.int 1) H1 = .ok (.str "across") H1 := by unfold gIx itemsOf; dsimp only; rw [es]; rfl
  unfold G_law_long F_law_long
  by_cases hl : b.w < b.h
  · have : decide (b.h.num * (b.w.den : Int) ≤ b.w.num * (b.h.den : Int)) = false := decide_eq_false (by have := (rat_lt b.w b.h).mp hl; omega)
    rw [decide_eq_true hl]
    simp! [l2, ix2, ix3, gIx_fD0, gIx_fD1, m1, m2, ge, this, bi, i0]
    rfl
  · have : decide (b.h.num * (b.w.den : Int) ≤ b.w.num * (b.h.den : Int)) = true := decide_eq_true (Int.not_lt.mp fun z => hl ((rat_lt b.w b.h).mpr z))
    rw [decide_eq_false hl]
    simp! [l2, ix2, ix3, gIx_fD0, gIx_fD1, m1, m2, ge, this, bi, i1]
    rfl
def shS (b : Bx) : Rat := if b.w < b.h then b.w else b.h
theorem shS_sz {b : Bx} (hs : b.Sz 101) : Sz 101 (shS b) := by unfold shS; split; exact hs.w; exact hs.h
theorem shS_pos {b : Bx} (hb : b.Ok) : 0 < shS b := by unfold shS; split; exact hb.w; exact hb.h
theorem key27 {b : Bx} (hb : b.Ok) {W : Int} (W0 : W ≠ 0) (w : Int) : ((b.w.num * b.h.num * w * (shS b).den * (shS b).den : Int) : Rat) / ((b.w.den * b.h.den * W * (shS b).num * (shS b).num : Int) : Rat) = thn b W w := by
  have d1 := castne (den_ne b.w)
  have d2 := castne (den_ne b.h)
  have n1 : ((b.w.num : Int) : Rat) ≠ 0 := castne (fun z => pos_ne hb.w (Rat.num_eq_zero.mp z))
  have n2 : ((b.h.num : Int) : Rat) ≠ 0 := castne (fun z => pos_ne hb.h (Rat.num_eq_zero.mp z))
  have w0 := castne W0
  have e1 := rat_def b.w
  have e2 := rat_def b.h
  unfold thn shp shS
  by_cases hl : b.w < b.h
  · simp only [hl, if_true, Rat.intCast_mul]
    generalize ((b.w.num : Int) : Rat) = N1 at *
    generalize ((b.w.den : Int) : Rat) = D1 at *
    generalize ((b.h.num : Int) : Rat) = N2 at *
    generalize ((b.h.den : Int) : Rat) = D2 at *
    rw [e1, e2]
    grind
  · simp only [hl, if_false, Rat.intCast_mul]
    generalize ((b.w.num : Int) : Rat) = N1 at *
    generalize ((b.w.den : Int) : Rat) = D1 at *
    generalize ((b.h.num : Int) : Rat) = N2 at *
    generalize ((b.h.den : Int) : Rat) = D2 at *
    rw [e1, e2]
    grind
theorem due_loop {b : Bx} (hb : b.Ok) (hs : b.Sz 101) {W : Int} (hW : Sm 1000 W) (W0 : W ≠ 0) {k : Nat} (G : AH → Prop) (h0 : AH) (hG : ∀ ys : List D, G (h0 ++ [.lst ys])) (sm : ∀ ys : List D, bSum [.ref k] (h0 ++ [.lst ys]) = .ok (.int W) (h0 ++ [.lst ys])) :
    ∀ (ws : List Int) (acc : List D) (y z : Option D), (∀ w ∈ ws, Sm 1000 w) → acc.length + ws.length ≤ 1000 →
      ∃ y' z', forL G (gN 6) (B1_law_due G_law_long G_law_low G_law_most) (ws.map D.int) [some (bD b), some (.ref k), some (fD b.w), some (fD b.h), some (fD (shS b)), some (.ref h0.length), y, z] (h0 ++ [.lst acc]) =
        .nx [some (bD b), some (.ref k), some (fD b.w), some (fD b.h), some (fD (shS b)), some (.ref h0.length), y', z'] (h0 ++ [.lst (acc ++ (ws.map (thn b W)).map fD)])
  | [], acc, y, z, _, _ => by
    refine ⟨y, z, ?_⟩
    rw [List.map_nil]
    unfold forL
    rw [if_pos (hG acc)]
    simp
  | w :: ws, acc, y, z, h1, hlen => by
    have sw := h1 w (List.mem_cons_self ..)
    have ss := shS_sz hs
    have t1 := hs.w.top.mul hs.h.top
    have t2 := t1.mul sw
    have t3 := t2.mul ss.bot
    have u1 := hs.w.bot.mul hs.h.bot
    have u2 := u1.mul hW
    have u3 := u2.mul ss.top
    have u4 := u3.mul ss.top
    have a1 := fun h => gMul_ok (h := h) (CMulA.of hs.w.top hs.h.top (by decide) (by decide))
    have a2 := fun h => gMul_ok (h := h) (CMulA.of t1 sw (by decide) (by decide))
    have a3 := fun h => gMul_ok (h := h) (CMulA.of t2 ss.bot (by decide) (by decide))
    have a4 := fun h => gMul_ok (h := h) (CMulA.of t3 ss.bot (by decide) (by decide))
    have c1 := fun h => gMul_ok (h := h) (CMulA.of hs.w.bot hs.h.bot (by decide) (by decide))
    have c2 := fun h => gMul_ok (h := h) (CMulA.of u1 hW (by decide) (by decide))
    have c3 := fun h => gMul_ok (h := h) (CMulA.of u2 ss.top (by decide) (by decide))
    have c4 := fun h => gMul_ok (h := h) (CMulA.of u3 ss.top (by decide) (by decide))
    have sn : (shS b).num ≠ 0 := fun z => pos_ne (shS_pos hb) (Rat.num_eq_zero.mp z)
    have lo := fun h => low_eq (a := b.w.num * b.h.num * w * (shS b).den * (shS b).den) (b := b.w.den * b.h.den * W * (shS b).num * (shS b).num) (Int.mul_ne_zero (Int.mul_ne_zero (Int.mul_ne_zero (Int.mul_ne_zero (den_ne _) (den_ne _)) W0) sn) sn) (u4.mono (by decide)) h
    rw [key27 hb W0 w] at lo
    have iL : isLst (h0 ++ [.lst acc]) (.ref h0.length) = true := by show (seqAt _ _).isSome = true; rw [seqAt_new]; rfl
    have ap : ∀ d, mAppend (.ref h0.length) [d] (h0 ++ [.lst acc]) = .ok .non (h0 ++ [.lst (acc ++ [d])]) := by
      intro d
      unfold mAppend onLst
      dsimp only
      rw [List.getElem?_append_right (Nat.le_refl _), Nat.sub_self]
      simp only [List.getElem?_cons_zero]
      rw [if_pos (by simp at hlen; omega)]
      congr 1
      rw [List.set_append_right _ _ (Nat.le_refl _), Nat.sub_self]
      rfl
    obtain ⟨y', z', e⟩ := due_loop hb hs hW W0 G h0 hG sm ws (acc ++ [fD (thn b W w)]) (some (.int w)) (some (.int (b.w.num * b.h.num * w * (shS b).den * (shS b).den))) (fun v hv => h1 v (List.mem_cons_of_mem _ hv)) (by simp at hlen ⊢; omega)
    refine ⟨y', z', ?_⟩
    rw [List.map_cons]
    unfold forL
    rw [if_pos (hG acc)]
    conv => lhs; unfold B1_law_due
    simp! [gIx_fD0, gIx_fD1, a1, a2, a3, a4, sm, c1, c2, c3, c4, lo, iL, ap]
    unfold B1_law_due at e
    rw [e]
    simp
theorem due_eq {h : AH} {k : Nat} {b : Bx} {ws : List Int} (hb : b.Ok) (hs : b.Sz 101) (t : Wt h k ws) : ∃ g, G_law_due [bD b, .ref k] h = .ok (fD (flo b ws)) (h ++ g) := by
  have W0 := sum_pos t.ne t.pos
  have ll := law_long_eq hs h
  have t1 := seqAt_app (g := [.lst [.str "down", .str "across"]]) t.at_
  obtain ⟨g1, hg1⟩ : ∃ g1, h ++ [Ob.lst [.str "down", .str "across"]] = h ++ g1 := ⟨_, rfl⟩
  generalize h ++ [.lst [.str "down", .str "across"]] = H1 at *
  have wy := fun a => way_eq a H1
  have m1 : mkLst [.tup [.int 1, .int 1]] H1 = .ok (.ref H1.length) (H1 ++ [.lst [fD 1]]) := rfl
  obtain ⟨y', z', e⟩ := due_loop hb hs t.sm (show ws.sum ≠ 0 by omega) (k := k) (AIt.guard (.lst k (ws.map D.int))) H1 (fun ys => seqAt_app t1) (fun ys => bSum_ints (seqAt_app t1)) ws [fD 1] none none t.smw (by have := t.few; simp; omega)
  have e' : forL (AIt.guard (.lst k (ws.map D.int))) (gN 6) (B1_law_due G_law_long G_law_low G_law_most) (AIt.items (.lst k (ws.map D.int))) _ _ = _ := e
  have t2 := seqAt_new H1 ((1 :: ws.map (thn b ws.sum)).map fD)
  have mo := most_eq (n := 1202) (by decide) (q := 1) (qs := ws.map (thn b ws.sum)) t2 (by
    intro x hx
    rcases List.mem_cons.mp hx with rfl | hx
    · exact Sz.mono (n := 1) ⟨show (Rat.num 1).natAbs < 2 ^ 1 by decide, show ((Rat.den 1 : Nat) : Int).natAbs < 2 ^ 1 by decide⟩ (by decide)
    · obtain ⟨y, hy, rfl⟩ := List.mem_map.mp hx
      exact thn_sz hb hs t.sm (t.smw y hy) (by omega))
  have mo' : G_law_most [D.ref H1.length] (H1 ++ [Ob.lst (fD 1 :: (ws.map (thn b ws.sum)).map fD)]) = .ok (fD (flo b ws)) (H1 ++ [Ob.lst (fD 1 :: (ws.map (thn b ws.sum)).map fD)] ++ [Ob.lst ((ws.map (thn b ws.sum)).map fD)]) := mo
  refine ⟨g1 ++ [.lst ((1 :: ws.map (thn b ws.sum)).map fD)] ++ [.lst ((ws.map (thn b ws.sum)).map fD)], ?_⟩
  rw [← List.append_assoc, ← List.append_assoc, ← hg1]
  have q1 := seqAt_app (g := [.lst [fD 1]]) t1
  have fin : (if (!decide (b.w < b.h)) = true then fD b.h else fD b.w) = fD (shS b) := by
    unfold shS
    by_cases hl : b.w < b.h <;> simp [hl]
  unfold G_law_due F_law_due
  by_cases hl : b.w < b.h
  · have sh : shS b = b.w := if_pos hl
    rw [sh] at e'
    simp! [ix2, ix3, ll, wy, hl, m1, ev_for, ev_iseq, q1]
    rw [e']
    simp! [mo']
  · have sh : shS b = b.h := if_neg hl
    rw [sh] at e'
    simp! [ix2, ix3, ll, wy, hl, m1, ev_for, ev_iseq, q1]
    rw [e']
    simp! [mo']
theorem fl_box {h : AH} {X W : D} (ha : askB 2 h X = true) (e : isBx X = false) : G_floor_of [X, W] h = .exc "NoBox" h := by
  have : S_check_box [X] h = .exc "NoBox" h := by
    unfold S_check_box
    dsimp only
    rw [if_pos ha, e]
    rfl
  unfold G_floor_of F_floor_of
  simp! [this]
theorem fl_wts {h : AH} {b : Bx} {W : D} {c : Str} (hb : b.Ok) (e : chkW h W = .exc c h) : G_floor_of [bD b, W] h = .exc c h := by
  have c1 := check_box_ok hb h
  have c2 : S_check_weights [W] h = .exc c h := e
  unfold G_floor_of F_floor_of
  simp! [c1, c2]
theorem class_NoBox {h : AH} {X W : D} (e : G_floor_of [X, W] h = .exc "NoBox" h) : ∃ g, G_law_class [X, W] h = .ok (.int 0) (h ++ g) := by
  have k_NoBox : ∀ h, bIsi kits [.exc "NoBox", .glb "NoBox"] h = .ok (.bl true) h := fun h => isi1 (by decide +kernel)
  have k_NoWeights : ∀ h, bIsi kits [.exc "NoBox", .glb "NoWeights"] h = .ok (.bl false) h := fun h => isi1 (by decide +kernel)
  have k_TooMany : ∀ h, bIsi kits [.exc "NoBox", .glb "TooMany"] h = .ok (.bl false) h := fun h => isi1 (by decide +kernel)
  have k_o : ∀ h, bIsi kits [.exc "NoBox", .tup [.glb "NoFraction", .glb "NoRule", .glb "NoText", .glb "NoWay"]] h = .ok (.bl false) h := fun h => isiT (c0 := .o "NoFraction") (b0 := false) rfl (by decide +kernel) (by decide +kernel)
  have l3 : mkLst [.bl true, .bl false, .bl false] h = .ok (.ref h.length) (h ++ [.lst [.bl true, .bl false, .bl false]]) := rfl
  have iL := isL_new h [.bl true, .bl false, .bl false]
  have ct := count_new h [true, false, false] 1 (by rfl)
  have ix := index_new h [true, false, false] 0 (by rfl) (by decide)
  have hc : ("NoBox" : Str) ∈ mro_RoomError := by decide +kernel
  refine ⟨[.lst [.bl true, .bl false, .bl false]], ?_⟩
  unfold G_law_class F_law_class
  simp only [List.map_cons, List.map_nil] at ct ix
  simp! [ev_try, e, hc, k_NoBox, k_NoWeights, k_TooMany, k_o, l3, iL, ct, ix]
theorem class_NoWeights {h : AH} {X W : D} (e : G_floor_of [X, W] h = .exc "NoWeights" h) : ∃ g, G_law_class [X, W] h = .ok (.int 1) (h ++ g) := by
  have k_NoBox : ∀ h, bIsi kits [.exc "NoWeights", .glb "NoBox"] h = .ok (.bl false) h := fun h => isi1 (by decide +kernel)
  have k_NoWeights : ∀ h, bIsi kits [.exc "NoWeights", .glb "NoWeights"] h = .ok (.bl true) h := fun h => isi1 (by decide +kernel)
  have k_TooMany : ∀ h, bIsi kits [.exc "NoWeights", .glb "TooMany"] h = .ok (.bl false) h := fun h => isi1 (by decide +kernel)
  have k_o : ∀ h, bIsi kits [.exc "NoWeights", .tup [.glb "NoFraction", .glb "NoRule", .glb "NoText", .glb "NoWay"]] h = .ok (.bl false) h := fun h => isiT (c0 := .o "NoFraction") (b0 := false) rfl (by decide +kernel) (by decide +kernel)
  have l3 : mkLst [.bl false, .bl true, .bl false] h = .ok (.ref h.length) (h ++ [.lst [.bl false, .bl true, .bl false]]) := rfl
  have iL := isL_new h [.bl false, .bl true, .bl false]
  have ct := count_new h [false, true, false] 1 (by rfl)
  have ix := index_new h [false, true, false] 1 (by rfl) (by decide)
  have hc : ("NoWeights" : Str) ∈ mro_RoomError := by decide +kernel
  refine ⟨[.lst [.bl false, .bl true, .bl false]], ?_⟩
  unfold G_law_class F_law_class
  simp only [List.map_cons, List.map_nil] at ct ix
  simp! [ev_try, e, hc, k_NoBox, k_NoWeights, k_TooMany, k_o, l3, iL, ct, ix]
theorem class_TooMany {h : AH} {X W : D} (e : G_floor_of [X, W] h = .exc "TooMany" h) : ∃ g, G_law_class [X, W] h = .ok (.int 2) (h ++ g) := by
  have k_NoBox : ∀ h, bIsi kits [.exc "TooMany", .glb "NoBox"] h = .ok (.bl false) h := fun h => isi1 (by decide +kernel)
  have k_NoWeights : ∀ h, bIsi kits [.exc "TooMany", .glb "NoWeights"] h = .ok (.bl false) h := fun h => isi1 (by decide +kernel)
  have k_TooMany : ∀ h, bIsi kits [.exc "TooMany", .glb "TooMany"] h = .ok (.bl true) h := fun h => isi1 (by decide +kernel)
  have k_o : ∀ h, bIsi kits [.exc "TooMany", .tup [.glb "NoFraction", .glb "NoRule", .glb "NoText", .glb "NoWay"]] h = .ok (.bl false) h := fun h => isiT (c0 := .o "NoFraction") (b0 := false) rfl (by decide +kernel) (by decide +kernel)
  have l3 : mkLst [.bl false, .bl false, .bl true] h = .ok (.ref h.length) (h ++ [.lst [.bl false, .bl false, .bl true]]) := rfl
  have iL := isL_new h [.bl false, .bl false, .bl true]
  have ct := count_new h [false, false, true] 1 (by rfl)
  have ix := index_new h [false, false, true] 2 (by rfl) (by decide)
  have hc : ("TooMany" : Str) ∈ mro_RoomError := by decide +kernel
  refine ⟨[.lst [.bl false, .bl false, .bl true]], ?_⟩
  unfold G_law_class F_law_class
  simp only [List.map_cons, List.map_nil] at ct ix
  simp! [ev_try, e, hc, k_NoBox, k_NoWeights, k_TooMany, k_o, l3, iL, ct, ix]
theorem ixS {h : AH} {n : Nat} {xs : List D} {i : Int} {x : D} (e : seqAt h n = some xs) (h0 : 0 ≤ i) (ex : xs[i.toNat]? = some x) : gIx (.ref n) (.int i) h = .ok x h := by
  unfold gIx itemsOf
  dsimp only
  rw [e]
  dsimp only
  have e1 : ((i.toNat : Nat) : Int) = i := Int.toNat_of_nonneg h0
  have : atI xs i = some x := by
    conv => lhs; rw [← e1]
    exact atI_nat ex
  rw [this]
theorem stI {h : AH} {n : Nat} {xs : List D} {i : Int} {v : D} (e : h[n]? = some (.lst xs)) (h0 : 0 ≤ i) (h1 : i.toNat < xs.length) : wL (.ref n) (.int i) v h = .ok () (h.set n (.lst (xs.set i.toNat v))) := by
  unfold wL
  dsimp only
  rw [e]
  dsimp only
  have : ixN xs.length i = some i.toNat := by
    unfold ixN
    rw [if_pos (by omega), if_pos (by omega)]
  rw [this]
theorem chk_bad {h : AH} {n i : Nat} {ws : List Int} {V : D} (e : seqAt h n = some ((ws.map D.int).set i V)) (hi : i < ws.length) (hl : ws.length ≤ 1000) (hk : kn h V = true) (hw : isWt V = false) : chkW h (.ref n) = .exc "NoWeights" h := by
  unfold chkW
  dsimp only
  rw [e]
  dsimp only
  have a1 : ((ws.map D.int).set i V).all (kn h) = true := by
    rw [List.all_eq_true]
    intro x hx
    rcases List.mem_or_eq_of_mem_set hx with hx | rfl
    · obtain ⟨v, _, rfl⟩ := List.mem_map.mp hx; rfl
    · exact hk
  have a2 : ¬ ((ws.map D.int).set i V).all isWt = true := by
    intro z
    have := List.all_eq_true.mp z V (List.mem_set (by rw [List.length_map]; exact hi) V)
    rw [hw] at this
    cases this
  rw [if_pos ⟨by rw [List.length_set, List.length_map]; exact hl, a1⟩, if_neg (by intro z; have := congrArg List.length z; rw [List.length_set, List.length_map, List.length_nil] at this; omega), if_neg a2]
theorem chk_many {h : AH} {n : Nat} {ws : List Int} (e : seqAt h n = some (ws.map D.int)) (h1 : ∀ w ∈ ws, 1 ≤ w) (hl : 40 < ws.length) (h2 : ws.length ≤ 1000) : chkW h (.ref n) = .exc "TooMany" h := by
  unfold chkW
  dsimp only
  rw [e]
  dsimp only
  have a1 : (ws.map D.int).all (kn h) = true := by
    rw [List.all_eq_true]; intro x hx; obtain ⟨v, _, rfl⟩ := List.mem_map.mp hx; rfl
  have a2 : (ws.map D.int).all isWt = true := by
    rw [List.all_eq_true]; intro x hx; obtain ⟨v, hv, rfl⟩ := List.mem_map.mp hx; exact decide_eq_true (h1 v hv)
  rw [if_pos ⟨by rw [List.length_map]; omega, a1⟩, if_neg (by intro z; have := congrArg List.length z; simp at this; subst this; simp at hl), if_pos a2, if_neg (by rw [List.length_map]; omega)]
theorem chk_empty {h : AH} {n : Nat} (e : seqAt h n = some []) : chkW h (.ref n) = .exc "NoWeights" h := by
  unfold chkW
  dsimp only
  rw [e]
  rfl
theorem wt_of {h : AH} {s : Nat} {ws : List Int} (w : WsAt h s ws) (h1 : 1 ≤ ws.length) (h2 : ws.length ≤ 40) : Wt h s ws := ⟨w.seq, by rintro rfl; simp at h1, fun x hx => (w.rng x hx).1, h2, sum_sm w.rng (by omega)⟩
theorem fne (q : Rat) (h : AH) : gEq true (fD q) (fD q) h = .ok (.bl false) h := gEq_of (gEqB_self rfl)
theorem feq (q : Rat) (h : AH) : gEq false (fD q) (fD q) h = .ok (.bl true) h := gEq_of (gEqB_self rfl)
theorem ws_pl (ws : List Int) : (ws.map D.int).all (plB 60) = true := by
  rw [List.all_eq_true]
  intro d hd
  obtain ⟨b, _, rfl⟩ := List.mem_map.mp hd
  rfl
theorem fdl {h : AH} {p : Nat} (f : Fd h p) : p < h.length := by obtain ⟨_, _, _, e⟩ := f; exact (List.getElem?_eq_some_iff.mp e).1
theorem Fd.ex {h h1 : AH} {p : Nat} (f : Fd h p) (e : Ex h h1) : Fd h1 p := by
  obtain ⟨a, c, k, q⟩ := f
  exact ⟨a, c, k, e.get q⟩
theorem law_run (d : D) (h : AH) (ns : List Int) (hl : ns.length ≤ 63) (sc : Script h d ns) : ∃ h', F_law G_law_feed G_law_room G_law_weights G_law_next G_floor_of G_law_due G_law_class [some d, none, none, none, none, none, none, none] h = .rt (.bl true) h' := by
  let P : SR → Prop := fun r => ∃ h', r = .rt (.bl true) h'
  obtain ⟨o, ef, f0⟩ := feed_fd sc 55
  have ex0 := (Ex.refl h).app [o]
  generalize hpp : h.length = p at *
  generalize h ++ [o] = H0 at *
  obtain ⟨b, o1, gb, er, f1⟩ := room_fd f0
  have ex1 := ex0.set (Nat.le_of_eq hpp) o1
  generalize H0.set p o1 = H1 at *
  have hb := gb.ok
  have hs := gb.sz
  unfold F_law
  show P _
  refine seq_inv (I := fun ae h2 => ae = [some d, some (.ref p), none, none, none, none, none, none] ∧ H0 = h2) ⟨_, _, by simp! [ef]; try rfl, rfl, rfl⟩ ?_
  rintro _ _ ⟨rfl, rfl⟩
  refine seq_inv (I := fun ae h2 => ae = [some d, some (.ref p), some (bD b), none, none, none, none, none] ∧ H1 = h2) ⟨_, _, by simp! [er]; try rfl, rfl, rfl⟩ ?_
  rintro _ _ ⟨rfl, rfl⟩
  refine seq_inv (I := fun ae h2 => ∃ s ws, ae = [some d, some (.ref p), some (bD b), some (.ref s), none, none, none, none] ∧ Fd h2 p ∧ WsAt h2 s ws ∧ 1 ≤ ws.length ∧ ws.length ≤ 40 ∧ p ≠ s) ?_ ?_
  · have ml : mkLst [.int 9, .int 40] H1 = .ok (.ref H1.length) (H1 ++ [.lst [.int 9, .int 40]]) := rfl
    have ex2 := ex1.app [.lst [.int 9, .int 40]]
    have f2 := f1.app [.lst [.int 9, .int 40]]
    have t2 := at_new H1 (.lst [.int 9, .int 40])
    have p1 := fdl f1
    generalize hN : H1.length = N at *
    generalize H1 ++ [.lst [.int 9, .int 40]] = H2 at *
    obtain ⟨r3, o3, r30, r31, e3, f3⟩ := next_fd f2 (m := 6) (by decide) (sm8 (by decide))
    have ex3 := ex2.set (Nat.le_of_eq hpp) o3
    have t3 := at_ne (o' := o3) t2 (show p ≠ N by omega)
    generalize H2.set p o3 = H3 at *
    have bi : ∀ (b : Bool) h', bInt [.bl b] h' = .ok (.int (if b then 1 else 0)) h' := fun _ _ => rfl
    obtain ⟨c, ic, c1, c40⟩ : ∃ c : Int, gIx (.ref N) (.int (if (r3 == 0) then 1 else 0)) H3 = .ok (.int c) H3 ∧ 1 ≤ c ∧ c ≤ 40 := by
      by_cases h0 : r3 = 0
      · refine ⟨40, ?_, by decide, by decide⟩
        rw [if_pos (by rw [h0]; rfl)]
        exact ixS (sq t3) (by decide) rfl
      · refine ⟨9, ?_, by decide, by decide⟩
        rw [if_neg (by rw [beq_eq_false_iff_ne.mpr h0]; decide)]
        exact ixS (sq t3) (by decide) rfl
    obtain ⟨ws, H4, s, ew, ex4, hs4, w4, l1, l2⟩ := weights_eq (at_ := 0) (sc.ex ex3) c1 c40
    have p3 := fdl f3
    refine ⟨[some d, some (.ref p), some (bD b), some (.ref s), none, none, none, none], H4, by simp! [ml, e3, bi, ic, ew]; try rfl, s, ws, rfl, Fd.ex f3 ex4, w4, l1, by omega, by omega⟩
  rintro _ H4 ⟨s, ws, rfl, f4, w4, l1, l40, hps⟩
  -- kept
  have cp4 : bList [.ref s] H4 = .ok (.ref H4.length) (H4 ++ [.lst (ws.map D.int)]) := by
    unfold bList itemsOf
    dsimp only
    rw [w4.seq]
  have w5 := w4.app [.lst (ws.map D.int)]
  have f5 := f4.app [.lst (ws.map D.int)]
  have k5 := at_new H4 (.lst (ws.map D.int))
  generalize hq : H4.length = q at *
  generalize H4 ++ [.lst (ws.map D.int)] = H5 at *
  refine seq_inv (I := fun ae h2 => ae = [some d, some (.ref p), some (bD b), some (.ref s), some (.ref q), none, none, none] ∧ H5 = h2) ⟨_, _, by simp! [cp4]; try rfl, rfl, rfl⟩ ?_
  rintro _ _ ⟨rfl, rfl⟩
  obtain ⟨g6, e6⟩ := floor_eq hb hs (wt_of w5 l1 l40)
  have w6 := w5.app g6
  have f6 := f5.app g6
  have k6 := at_app (g := g6) k5
  generalize H5 ++ g6 = H6 at *
  obtain ⟨g7, e7⟩ := due_eq hb hs (wt_of w6 l1 l40)
  have w7 := w6.app g7
  have f7 := f6.app g7
  have k7 := at_app (g := g7) k6
  generalize H6 ++ g7 = H7 at *
  have n7 := fne (flo b ws) H7
  have n7' : gEq true (.ref s) (.ref q) H7 = .ok (.bl false) H7 := gEq_of (gEqB_lists w7.seq (sq k7) (ws_pl ws))
  refine seq_inv (I := fun ae h2 => ae = [some d, some (.ref p), some (bD b), some (.ref s), some (.ref q), none, none, none] ∧ H7 = h2) ⟨_, _, by simp! [e6, e7, n7, n7']; try rfl, rfl, rfl⟩ ?_
  rintro _ _ ⟨rfl, rfl⟩
  -- at
  have len7 : bLen [.ref s] H7 = .ok (.int (ws.length : Nat)) H7 := by
    unfold bLen itemsOf
    dsimp only
    rw [w7.seq]
    show R.ok (D.int ((ws.map D.int).length : Nat)) _ = _
    rw [List.length_map]
  obtain ⟨r8, o8, r80, r81, e8, f8⟩ := next_fd f7 (m := (ws.length : Nat)) (by omega) (sm8 (by omega))
  have w8 := w7.set (o := o8) hps
  generalize H7.set p o8 = H8 at *
  refine seq_inv (I := fun ae h2 => ae = [some d, some (.ref p), some (bD b), some (.ref s), some (.ref q), some (.int r8), none, none] ∧ H8 = h2) ⟨_, _, by simp! [len7, e8]; try rfl, rfl, rfl⟩ ?_
  rintro _ _ ⟨rfl, rfl⟩
  -- bad
  have cp8 : bList [.ref s] H8 = .ok (.ref H8.length) (H8 ++ [.lst (ws.map D.int)]) := by
    unfold bList itemsOf
    dsimp only
    rw [w8.seq]
  have w9 := w8.app [.lst (ws.map D.int)]
  have f9 := f8.app [.lst (ws.map D.int)]
  have t9 := at_new H8 (.lst (ws.map D.int))
  have hp8 := fdl f8
  have hs8 := (List.getElem?_eq_some_iff.mp w8.at_).1
  have l9 : (H8 ++ [Ob.lst (ws.map D.int)]).length = H8.length + 1 := by simp
  generalize ht : H8.length = t at *
  generalize H8 ++ [.lst (ws.map D.int)] = H9 at *
  refine seq_inv (I := fun ae h2 => ae = [some d, some (.ref p), some (bD b), some (.ref s), some (.ref q), some (.int r8), some (.ref t), none] ∧ H9 = h2) ⟨_, _, by simp! [cp8]; try rfl, rfl, rfl⟩ ?_
  rintro _ _ ⟨rfl, rfl⟩
  have hi : r8.toNat < ws.length := by omega
  obtain ⟨v, hv⟩ : ∃ v, ws[r8.toNat]? = some v := ⟨_, List.getElem?_eq_getElem hi⟩
  have v1 : 1 ≤ v := (w9.rng v (List.mem_of_getElem? hv)).1
  have ixv := ixS (x := .int v) w9.seq r80 (by rw [List.getElem?_map, hv]; rfl)
  refine seq_inv (I := fun ae h2 => ae = [some d, some (.ref p), some (bD b), some (.ref s), some (.ref q), some (.int r8), some (.ref t), none] ∧ Fd h2 p ∧ WsAt h2 s ws ∧ chkW h2 (.ref t) = .exc "NoWeights" h2) ?_ ?_
  · have m10 : mkLst [.int 1] H9 = .ok (.ref H9.length) (H9 ++ [.lst [.int 1]]) := rfl
    have w10 := w9.app [.lst [.int 1]]
    have f10 := f9.app [.lst [.int 1]]
    have t10 := at_app (g := [.lst [.int 1]]) t9
    have n10 := at_new H9 (.lst [.int 1])
    have l10 : (H9 ++ [Ob.lst [.int 1]]).length = t + 2 := by simp; omega
    generalize hn : H9.length = n at *
    generalize H9 ++ [.lst [.int 1]] = H10 at *
    have m11 : mkLst [.int 0, .int (0 - v), .bl true, .non, .str "1", .ref n] H10 = .ok (.ref H10.length) (H10 ++ [.lst [.int 0, .int (0 - v), .bl true, .non, .str "1", .ref n]]) := rfl
    have w11 := w10.app [.lst [.int 0, .int (0 - v), .bl true, .non, .str "1", .ref n]]
    have f11 := f10.app [.lst [.int 0, .int (0 - v), .bl true, .non, .str "1", .ref n]]
    have t11 := at_app (g := [.lst [.int 0, .int (0 - v), .bl true, .non, .str "1", .ref n]]) t10
    have n11 := at_app (g := [.lst [.int 0, .int (0 - v), .bl true, .non, .str "1", .ref n]]) n10
    have u11 := at_new H10 (.lst [.int 0, .int (0 - v), .bl true, .non, .str "1", .ref n])
    generalize hu : H10.length = u at *
    generalize H10 ++ [.lst [.int 0, .int (0 - v), .bl true, .non, .str "1", .ref n]] = H11 at *
    obtain ⟨r12, o12, r120, r121, e12, f12⟩ := next_fd f11 (m := 6) (by decide) (sm8 (by decide))
    have w12 := w11.set (o := o12) hps
    have t12 := at_ne (o' := o12) t11 (show p ≠ t by omega)
    have n12 := at_ne (o' := o12) n11 (show p ≠ n by omega)
    have u12 := at_ne (o' := o12) u11 (show p ≠ u by omega)
    generalize H11.set p o12 = H12 at *
    obtain ⟨V, eV, kV, bV⟩ : ∃ V, ([.int 0, .int (0 - v), .bl true, .non, .str "1", .ref n] : List D)[r12.toNat]? = some V ∧ (∀ h' : AH, h'[n]? = some (.lst [.int 1]) → kn h' V = true) ∧ isWt V = false := by
      have : r12 = 0 ∨ r12 = 1 ∨ r12 = 2 ∨ r12 = 3 ∨ r12 = 4 ∨ r12 = 5 := by omega
      rcases this with rfl | rfl | rfl | rfl | rfl | rfl
      · exact ⟨_, rfl, fun _ _ => rfl, rfl⟩
      · exact ⟨_, rfl, fun _ _ => rfl, decide_eq_false (by omega)⟩
      · exact ⟨_, rfl, fun _ _ => rfl, rfl⟩
      · exact ⟨_, rfl, fun _ _ => rfl, rfl⟩
      · exact ⟨_, rfl, fun _ _ => rfl, rfl⟩
      · refine ⟨_, rfl, fun h' e' => ?_, rfl⟩
        show (tyD h' (.ref n)).isSome = true
        unfold tyD
        dsimp only
        rw [e']; rfl
    have ixV := ixS (sq u12) r120 eV
    have st := stI (v := V) t12 r80 (by rw [List.length_map]; exact hi)
    have w13 := w12.set (p := t) (o := .lst ((ws.map D.int).set r8.toNat V)) (by omega)
    have f13 := f12.set (q := t) (o := .lst ((ws.map D.int).set r8.toNat V)) (by omega)
    have n13 := at_ne (o' := .lst ((ws.map D.int).set r8.toNat V)) n12 (show t ≠ n by omega)
    have t13 := set_at (List.getElem?_eq_some_iff.mp t12).1 (.lst ((ws.map D.int).set r8.toNat V))
    generalize H12.set t (.lst ((ws.map D.int).set r8.toNat V)) = H13 at *
    have mi : ∀ h', gMin (.int 0) (.int v) h' = .ok (.int (0 - v)) h' := fun _ => rfl
    exact ⟨[some d, some (.ref p), some (bD b), some (.ref s), some (.ref q), some (.int r8), some (.ref t), none], H13, by simp! [ixv, mi, m10, m11, e12, ixV, st]; try rfl, rfl, f13, w13, chk_bad (sq t13) hi (by omega) (kV _ n13) bV⟩
  rintro _ H13 ⟨rfl, f13, w13, c13⟩
  -- the classes
  obtain ⟨g14, e14⟩ := class_NoWeights (fl_wts hb c13)
  have f14 := f13.app g14
  have w14 := w13.app g14
  generalize H13 ++ g14 = H14 at *
  have s3 : ∀ h', gSl (bD b) none (some 3) h' = .ok (.tup [fD b.l, fD b.t, fD b.w]) h' := fun _ => rfl
  obtain ⟨g15, e15⟩ := class_NoBox (fl_box (h := H14) (X := .tup [fD b.l, fD b.t, fD b.w]) (W := .ref t) rfl rfl)
  have f15 := f14.app g15
  have w15 := w14.app g15
  generalize H14 ++ g15 = H15 at *
  have em := ev_lst0 H15
  have f16 := f15.app [.lst []]
  have w16 := w15.app [.lst []]
  have z16 := seqAt_new H15 []
  generalize H15 ++ [.lst []] = H16 at *
  obtain ⟨g17, e17⟩ := class_NoWeights (fl_wts hb (chk_empty z16))
  have f17 := f16.app g17
  have w17 := w16.app g17
  generalize H16 ++ g17 = H17 at *
  refine seq_inv (I := fun ae h2 => ae = [some d, some (.ref p), some (bD b), some (.ref s), some (.ref q), some (.int r8), some (.ref t), none] ∧ H17 = h2) ⟨_, _, by simp! [e14, L2.eSl, oNone, oSome, s3, e15, em, e17, beq_self_eq_true]; try rfl, rfl, rfl⟩ ?_
  rintro _ _ ⟨rfl, rfl⟩
  -- forty-one
  have m18 : mkLst [.int 1] H17 = .ok (.ref H17.length) (H17 ++ [.lst [.int 1]]) := rfl
  have f18 := f17.app [.lst [.int 1]]
  have w18 := w17.app [.lst [.int 1]]
  have z18 := at_new H17 (.lst [.int 1])
  generalize hz : H17.length = z at *
  generalize H17 ++ [.lst [.int 1]] = H18 at *
  have rp : gRep (.ref z) (.int 41) H18 = .ok (.ref H18.length) (H18 ++ [.lst ((List.replicate 41 (1 : Int)).map D.int)]) := by
    unfold gRep
    dsimp only
    rw [z18]
    dsimp only
    rw [if_pos ⟨by decide, by decide, by decide⟩]
    rfl
  have f19 := f18.app [.lst ((List.replicate 41 (1 : Int)).map D.int)]
  have w19 := w18.app [.lst ((List.replicate 41 (1 : Int)).map D.int)]
  have y19 := at_new H18 (.lst ((List.replicate 41 (1 : Int)).map D.int))
  have hp18 := fdl f18
  have hs18 := (List.getElem?_eq_some_iff.mp w18.at_).1
  generalize hy : H18.length = y at *
  generalize H18 ++ [.lst ((List.replicate 41 (1 : Int)).map D.int)] = H19 at *
  refine seq_inv (I := fun ae h2 => ae = [some d, some (.ref p), some (bD b), some (.ref s), some (.ref q), some (.int r8), some (.ref t), some (.ref y)] ∧ H19 = h2) ⟨_, _, by simp! [m18, rp]; try rfl, rfl, rfl⟩ ?_
  rintro _ _ ⟨rfl, rfl⟩
  obtain ⟨g20, e20⟩ := class_TooMany (fl_wts hb (chk_many (sq y19) (fun w hw => by rw [List.eq_of_mem_replicate hw]; decide) (by decide) (by decide)))
  have f20 := f19.app g20
  have w20 := w19.app g20
  have y20 := at_app (g := g20) y19
  generalize H19 ++ g20 = H20 at *
  obtain ⟨g21, e21⟩ := class_NoBox (fl_box (h := H20) (X := .non) (W := .ref y) rfl rfl)
  have f21 := f20.app g21
  have w21 := w20.app g21
  have y21 := at_app (g := g21) y20
  generalize H20 ++ g21 = H21 at *
  refine seq_inv (I := fun ae h2 => ae = [some d, some (.ref p), some (bD b), some (.ref s), some (.ref q), some (.int r8), some (.ref t), some (.ref y)] ∧ H21 = h2) ⟨_, _, by simp! [e20, e21, beq_self_eq_true]; try rfl, rfl, rfl⟩ ?_
  rintro _ _ ⟨rfl, rfl⟩
  refine seq_inv (I := fun ae h2 => ae = [some d, some (.ref p), some (bD b), some (.ref s), some (.ref q), some (.int r8), some (.ref t), some (.ref y)] ∧ WsAt h2 s ws ∧ chkW h2 (.ref y) = .exc "NoWeights" h2) ?_ ?_
  · obtain ⟨r22, o22, r220, r221, e22, f22⟩ := next_fd f21 (m := 41) (by decide) (sm8 (by decide))
    have w22 := w21.set (o := o22) hps
    have y22 := at_ne (o' := o22) y21 (show p ≠ y by omega)
    generalize H21.set p o22 = H22 at *
    have m23 : mkLst [.int 0, .int 40, .int r22] H22 = .ok (.ref H22.length) (H22 ++ [.lst [.int 0, .int 40, .int r22]]) := rfl
    have w23 := w22.app [.lst [.int 0, .int 40, .int r22]]
    have f23 := f22.app [.lst [.int 0, .int 40, .int r22]]
    have y23 := at_app (g := [.lst [.int 0, .int 40, .int r22]]) y22
    have x23 := at_new H22 (.lst [.int 0, .int 40, .int r22])
    have hp22 := fdl f22
    generalize hx : H22.length = x at *
    generalize H22 ++ [.lst [.int 0, .int 40, .int r22]] = H23 at *
    obtain ⟨r24, o24, r240, r241, e24, f24⟩ := next_fd f23 (m := 3) (by decide) (sm8 (by decide))
    have w24 := w23.set (o := o24) hps
    have y24 := at_ne (o' := o24) y23 (show p ≠ y by omega)
    have x24 := at_ne (o' := o24) x23 (show p ≠ x by omega)
    generalize H23.set p o24 = H24 at *
    obtain ⟨j, ej, j0, j1⟩ : ∃ j : Int, ([.int 0, .int 40, .int r22] : List D)[r24.toNat]? = some (.int j) ∧ 0 ≤ j ∧ j < 41 := by
      have : r24 = 0 ∨ r24 = 1 ∨ r24 = 2 := by omega
      rcases this with rfl | rfl | rfl
      · exact ⟨0, rfl, by decide, by decide⟩
      · exact ⟨40, rfl, by decide, by decide⟩
      · exact ⟨r22, rfl, r220, r221⟩
    have ixj := ixS (sq x24) r240 ej
    have st := stI (v := .int 0) y24 j0 (by rw [List.length_map, List.length_replicate]; omega)
    have w25 := w24.set (p := y) (o := .lst (((List.replicate 41 (1 : Int)).map D.int).set j.toNat (.int 0))) (by omega)
    have y25 := set_at (List.getElem?_eq_some_iff.mp y24).1 (.lst (((List.replicate 41 (1 : Int)).map D.int).set j.toNat (.int 0)))
    generalize H24.set y (.lst (((List.replicate 41 (1 : Int)).map D.int).set j.toNat (.int 0))) = H25 at *
    exact ⟨[some d, some (.ref p), some (bD b), some (.ref s), some (.ref q), some (.int r8), some (.ref t), some (.ref y)], H25, by simp! [e22, m23, e24, ixj, st]; try rfl, rfl, w25, chk_bad (sq y25) (by rw [List.length_replicate]; omega) (by rw [List.length_replicate]; decide) rfl rfl⟩
  rintro _ H25 ⟨rfl, w25, c25⟩
  obtain ⟨g26, e26⟩ := class_NoWeights (fl_wts hb c25)
  have w26 := w25.app g26
  generalize H25 ++ g26 = H26 at *
  obtain ⟨g27, e27⟩ := floor_eq hb hs (wt_of w26 l1 l40)
  have w27 := w26.app g27
  generalize H26 ++ g27 = H27 at *
  obtain ⟨g28, e28⟩ := due_eq hb hs (wt_of w27 l1 l40)
  have w28 := w27.app g28
  generalize H27 ++ g28 = H28 at *
  have n28 := fne (flo b ws) H28
  refine seq_inv (I := fun ae h2 => ae = [some d, some (.ref p), some (bD b), some (.ref s), some (.ref q), some (.int r8), some (.ref t), some (.ref y)] ∧ H28 = h2) ⟨_, _, by simp! [e26, e27, e28, n28, beq_self_eq_true]; try rfl, rfl, rfl⟩ ?_
  rintro _ _ ⟨rfl, rfl⟩
  -- the last weight
  obtain ⟨v0, hv0⟩ : ∃ v, ws[0]? = some v := ⟨_, List.getElem?_eq_getElem (by omega)⟩
  have ix0 := ixS (i := 0) (x := .int v0) w28.seq (by decide) (by rw [List.getElem?_map]; show Option.map D.int ws[0]? = _; rw [hv0]; rfl)
  have len28 : bLen [.ref s] H28 = .ok (.int (ws.length : Nat)) H28 := by
    unfold bLen itemsOf
    dsimp only
    rw [w28.seq]
    show R.ok (D.int ((ws.map D.int).length : Nat)) _ = _
    rw [List.length_map]
  have mi : ∀ h', gMin (.int (ws.length : Nat)) (.int 1) h' = .ok (.int ((ws.length : Nat) - 1)) h' := fun _ => rfl
  obtain ⟨u, hu, u1, u2⟩ : ∃ u : Int, 1 + v0.fmod 1000000 = u ∧ 1 ≤ u ∧ u ≤ 1000000 := ⟨_, rfl, by have := Int.fmod_nonneg_of_pos v0 (b := 1000000) (by decide); omega, by have := Int.fmod_lt_of_pos v0 (b := 1000000) (by decide); omega⟩
  have st := stI (i := (ws.length : Nat) - 1) (v := .int u) w28.at_ (by omega) (by rw [List.length_map]; omega)
  have w29 : WsAt (H28.set s (.lst ((ws.map D.int).set ((ws.length : Nat) - 1 : Int).toNat (.int u)))) s (ws.set ((ws.length : Nat) - 1 : Int).toNat u) := ⟨by
      rw [List.map_set]
      exact set_at (List.getElem?_eq_some_iff.mp w28.at_).1 _, by
      intro x hx
      rcases List.mem_or_eq_of_mem_set hx with hx | rfl
      · exact w28.rng x hx
      · omega⟩
  generalize H28.set s (.lst ((ws.map D.int).set ((ws.length : Nat) - 1 : Int).toNat (.int u))) = H29 at *
  have pw : ∀ h', gPow (.int 10) (.int 6) h' = .ok (.int 1000000) h' := fun h' => gPow_ok ⟨by decide, by decide, by decide⟩
  have md : ∀ h', gMod (.int v0) (.int 1000000) h' = .ok (.int (v0.fmod 1000000)) h' := fun h' => gMod_ok (by decide)
  have ad : ∀ h', gAdd (.int 1) (.int (v0.fmod 1000000)) h' = .ok (.int u) h' := fun h' => by rw [← hu]; rfl
  refine seq_inv (I := fun ae h2 => ae = [some d, some (.ref p), some (bD b), some (.ref s), some (.ref q), some (.int r8), some (.ref t), some (.ref y)] ∧ H29 = h2) ⟨_, _, by simp! [ix0, pw, md, ad, len28, mi, hu, st]; try rfl, rfl, rfl⟩ ?_
  rintro _ _ ⟨rfl, rfl⟩
  generalize hws : ws.set ((ws.length : Nat) - 1 : Int).toNat u = ws2 at *
  have q1 : 1 ≤ ws2.length := by rw [← hws, List.length_set]; exact l1
  have q2 : ws2.length ≤ 40 := by rw [← hws, List.length_set]; exact l40
  obtain ⟨g30, e30⟩ := floor_eq hb hs (wt_of w29 q1 q2)
  have w30 := w29.app g30
  generalize H29 ++ g30 = H30 at *
  obtain ⟨g31, e31⟩ := due_eq hb hs (wt_of w30 q1 q2)
  generalize H30 ++ g31 = H31 at *
  have n31 := feq (flo b ws2) H31
  refine ⟨H31, ?_⟩
  simp! [e30, e31, n31]
theorem law_eq (d : D) (h : AH) (ns : List Int) (hl : ns.length ≤ 63) (sc : Script h d ns) : ∃ h', G_law [d] h = .ok (.bl true) h' := by
  obtain ⟨h', e⟩ := law_run d h ns hl sc
  refine ⟨h', ?_⟩
  unfold G_law
  show (match F_law _ _ _ _ _ _ _ [some d, none, none, none, none, none, none, none] h with | SR.nx ae h' => R.ok D.non h' | SR.rt d h' => R.ok d h' | SR.exc c ae h' => R.exc c h' | x => R.stuck) = _
  rw [e]
theorem txt_mk {K : PySem.W.Frag} {h : Heap} {mg : Str → Option Value} {a_RoomError : Addr} {a_NoFraction : Addr} {a_NoBox : Addr} {a_NoWay : Addr} {a_NoWeights : Addr} {a_TooMany : Addr} {a_NoRule : Addr} {a_NoText : Addr} (X : K.In h) (G : h.Ns mainGlobals mg)
    (m_NoBox : PySem.W.nsIn K mainGlobals "NoBox" = some (some (.ref a_NoBox)))
    (m_NoFraction : PySem.W.nsIn K mainGlobals "NoFraction" = some (some (.ref a_NoFraction)))
    (m_NoRule : PySem.W.nsIn K mainGlobals "NoRule" = some (some (.ref a_NoRule)))
    (m_NoText : PySem.W.nsIn K mainGlobals "NoText" = some (some (.ref a_NoText)))
    (m_NoWay : PySem.W.nsIn K mainGlobals "NoWay" = some (some (.ref a_NoWay)))
    (m_NoWeights : PySem.W.nsIn K mainGlobals "NoWeights" = some (some (.ref a_NoWeights)))
    (m_RoomError : PySem.W.nsIn K mainGlobals "RoomError" = some (some (.ref a_RoomError)))
    (m_TooMany : PySem.W.nsIn K mainGlobals "TooMany" = some (some (.ref a_TooMany)))
    (n_abs : PySem.W.nsIn K mainGlobals "abs" = some none)
    (n_all : PySem.W.nsIn K mainGlobals "all" = some none)
    (n_bool : PySem.W.nsIn K mainGlobals "bool" = some none)
    (n_int : PySem.W.nsIn K mainGlobals "int" = some none)
    (n_isinstance : PySem.W.nsIn K mainGlobals "isinstance" = some none)
    (n_len : PySem.W.nsIn K mainGlobals "len" = some none)
    (n_list : PySem.W.nsIn K mainGlobals "list" = some none)
    (n_max : PySem.W.nsIn K mainGlobals "max" = some none)
    (n_min : PySem.W.nsIn K mainGlobals "min" = some none)
    (n_range : PySem.W.nsIn K mainGlobals "range" = some none)
    (n_sum : PySem.W.nsIn K mainGlobals "sum" = some none)
    (n_tuple : PySem.W.nsIn K mainGlobals "tuple" = some none)
    (g_MOST_WEIGHTS : GC K mg "MOST_WEIGHTS" c_MOST_WEIGHTS)
    (gs_ : PySem.W.specialIn K (.builtin "object.__class__") "__get__" = some (some (.builtin "getset_descriptor.__get__")))
    (tk_ : PySem.W.takesIn K (.builtin "object.__class__") = some true)
    (h_RoomError_ty : PySem.W.typeIn K (.ref a_RoomError) = some (.type "type"))
    (h_RoomError_cls : (PySem.W.clsIn K a_RoomError).isSome = true)
    (h_RoomError_mb : PySem.W.mroIn K a_RoomError (.type "BaseException") = some true)
    (x_NoFraction : PySem.W.excIn K a_NoFraction bmVE "ValueError.__new__" = true)
    (k_NoFraction_cls : (PySem.W.clsIn K a_NoFraction).isSome = true)
    (k_NoFraction_ga : PySem.W.findIn K (.ref a_NoFraction) "__getattribute__" = some (some (.builtin "BaseException.__getattribute__")))
    (k_NoFraction_gt : PySem.W.findIn K (.ref a_NoFraction) "__getattr__" = some none)
    (k_NoFraction_at : PySem.W.findIn K (.ref a_NoFraction) "__class__" = some (some (.builtin "object.__class__")))
    (k_NoFraction_mo : PySem.W.mroIn K a_NoFraction (.type "object") = some true)
    (k_NoFraction_mb : PySem.W.mroIn K a_NoFraction (.type "BaseException") = some true)
    (x_NoBox : PySem.W.excIn K a_NoBox bmVE "ValueError.__new__" = true)
    (k_NoBox_cls : (PySem.W.clsIn K a_NoBox).isSome = true)
    (k_NoBox_ga : PySem.W.findIn K (.ref a_NoBox) "__getattribute__" = some (some (.builtin "BaseException.__getattribute__")))
    (k_NoBox_gt : PySem.W.findIn K (.ref a_NoBox) "__getattr__" = some none)
    (k_NoBox_at : PySem.W.findIn K (.ref a_NoBox) "__class__" = some (some (.builtin "object.__class__")))
    (k_NoBox_mo : PySem.W.mroIn K a_NoBox (.type "object") = some true)
    (k_NoBox_mb : PySem.W.mroIn K a_NoBox (.type "BaseException") = some true)
    (x_NoWeights : PySem.W.excIn K a_NoWeights bmVE "ValueError.__new__" = true)
    (k_NoWeights_cls : (PySem.W.clsIn K a_NoWeights).isSome = true)
    (k_NoWeights_ga : PySem.W.findIn K (.ref a_NoWeights) "__getattribute__" = some (some (.builtin "BaseException.__getattribute__")))
    (k_NoWeights_gt : PySem.W.findIn K (.ref a_NoWeights) "__getattr__" = some none)
    (k_NoWeights_at : PySem.W.findIn K (.ref a_NoWeights) "__class__" = some (some (.builtin "object.__class__")))
    (k_NoWeights_mo : PySem.W.mroIn K a_NoWeights (.type "object") = some true)
    (k_NoWeights_mb : PySem.W.mroIn K a_NoWeights (.type "BaseException") = some true)
    (x_TooMany : PySem.W.excIn K a_TooMany bmVE "ValueError.__new__" = true)
    (k_TooMany_cls : (PySem.W.clsIn K a_TooMany).isSome = true)
    (k_TooMany_ga : PySem.W.findIn K (.ref a_TooMany) "__getattribute__" = some (some (.builtin "BaseException.__getattribute__")))
    (k_TooMany_gt : PySem.W.findIn K (.ref a_TooMany) "__getattr__" = some none)
    (k_TooMany_at : PySem.W.findIn K (.ref a_TooMany) "__class__" = some (some (.builtin "object.__class__")))
    (k_TooMany_mo : PySem.W.mroIn K a_TooMany (.type "object") = some true)
    (k_TooMany_mb : PySem.W.mroIn K a_TooMany (.type "BaseException") = some true)
    (r_NoFraction_RoomError : PySem.W.mroIn K a_NoFraction (.ref a_RoomError) = some true)
    (r_NoBox_RoomError : PySem.W.mroIn K a_NoBox (.ref a_RoomError) = some true)
    (r_NoWeights_RoomError : PySem.W.mroIn K a_NoWeights (.ref a_RoomError) = some true)
    (r_TooMany_RoomError : PySem.W.mroIn K a_TooMany (.ref a_RoomError) = some true)
    (i0 : PySem.W.kitOne K (.type "NoneType") (.ref a_NoBox) = some false)
    (i1 : PySem.W.kitOne K (.type "bool") (.ref a_NoBox) = some false)
    (i2 : PySem.W.kitOne K (.type "int") (.ref a_NoBox) = some false)
    (i3 : PySem.W.kitOne K (.type "str") (.ref a_NoBox) = some false)
    (i4 : PySem.W.kitOne K (.type "tuple") (.ref a_NoBox) = some false)
    (i5 : PySem.W.kitOne K (.type "list") (.ref a_NoBox) = some false)
    (i6 : PySem.W.kitOne K (.type "dict") (.ref a_NoBox) = some false)
    (i7 : PySem.W.kitOne K (.ref a_NoFraction) (.ref a_NoBox) = some false)
    (i8 : PySem.W.kitOne K (.ref a_NoBox) (.ref a_NoBox) = some true)
    (i9 : PySem.W.kitOne K (.ref a_NoWeights) (.ref a_NoBox) = some false)
    (i10 : PySem.W.kitOne K (.ref a_TooMany) (.ref a_NoBox) = some false)
    (i11 : PySem.W.kitOne K (.type "NoneType") (.ref a_NoFraction) = some false)
    (i12 : PySem.W.kitOne K (.type "bool") (.ref a_NoFraction) = some false)
    (i13 : PySem.W.kitOne K (.type "int") (.ref a_NoFraction) = some false)
    (i14 : PySem.W.kitOne K (.type "str") (.ref a_NoFraction) = some false)
    (i15 : PySem.W.kitOne K (.type "tuple") (.ref a_NoFraction) = some false)
    (i16 : PySem.W.kitOne K (.type "list") (.ref a_NoFraction) = some false)
    (i17 : PySem.W.kitOne K (.type "dict") (.ref a_NoFraction) = some false)
    (i18 : PySem.W.kitOne K (.ref a_NoFraction) (.ref a_NoFraction) = some true)
    (i19 : PySem.W.kitOne K (.ref a_NoBox) (.ref a_NoFraction) = some false)
    (i20 : PySem.W.kitOne K (.ref a_NoWeights) (.ref a_NoFraction) = some false)
    (i21 : PySem.W.kitOne K (.ref a_TooMany) (.ref a_NoFraction) = some false)
    (i22 : PySem.W.kitOne K (.type "NoneType") (.ref a_NoRule) = some false)
    (i23 : PySem.W.kitOne K (.type "bool") (.ref a_NoRule) = some false)
    (i24 : PySem.W.kitOne K (.type "int") (.ref a_NoRule) = some false)
    (i25 : PySem.W.kitOne K (.type "str") (.ref a_NoRule) = some false)
    (i26 : PySem.W.kitOne K (.type "tuple") (.ref a_NoRule) = some false)
    (i27 : PySem.W.kitOne K (.type "list") (.ref a_NoRule) = some false)
    (i28 : PySem.W.kitOne K (.type "dict") (.ref a_NoRule) = some false)
    (i29 : PySem.W.kitOne K (.ref a_NoFraction) (.ref a_NoRule) = some false)
    (i30 : PySem.W.kitOne K (.ref a_NoBox) (.ref a_NoRule) = some false)
    (i31 : PySem.W.kitOne K (.ref a_NoWeights) (.ref a_NoRule) = some false)
    (i32 : PySem.W.kitOne K (.ref a_TooMany) (.ref a_NoRule) = some false)
    (i33 : PySem.W.kitOne K (.type "NoneType") (.ref a_NoText) = some false)
    (i34 : PySem.W.kitOne K (.type "bool") (.ref a_NoText) = some false)
    (i35 : PySem.W.kitOne K (.type "int") (.ref a_NoText) = some false)
    (i36 : PySem.W.kitOne K (.type "str") (.ref a_NoText) = some false)
    (i37 : PySem.W.kitOne K (.type "tuple") (.ref a_NoText) = some false)
    (i38 : PySem.W.kitOne K (.type "list") (.ref a_NoText) = some false)
    (i39 : PySem.W.kitOne K (.type "dict") (.ref a_NoText) = some false)
    (i40 : PySem.W.kitOne K (.ref a_NoFraction) (.ref a_NoText) = some false)
    (i41 : PySem.W.kitOne K (.ref a_NoBox) (.ref a_NoText) = some false)
    (i42 : PySem.W.kitOne K (.ref a_NoWeights) (.ref a_NoText) = some false)
    (i43 : PySem.W.kitOne K (.ref a_TooMany) (.ref a_NoText) = some false)
    (i44 : PySem.W.kitOne K (.type "NoneType") (.ref a_NoWay) = some false)
    (i45 : PySem.W.kitOne K (.type "bool") (.ref a_NoWay) = some false)
    (i46 : PySem.W.kitOne K (.type "int") (.ref a_NoWay) = some false)
    (i47 : PySem.W.kitOne K (.type "str") (.ref a_NoWay) = some false)
    (i48 : PySem.W.kitOne K (.type "tuple") (.ref a_NoWay) = some false)
    (i49 : PySem.W.kitOne K (.type "list") (.ref a_NoWay) = some false)
    (i50 : PySem.W.kitOne K (.type "dict") (.ref a_NoWay) = some false)
    (i51 : PySem.W.kitOne K (.ref a_NoFraction) (.ref a_NoWay) = some false)
    (i52 : PySem.W.kitOne K (.ref a_NoBox) (.ref a_NoWay) = some false)
    (i53 : PySem.W.kitOne K (.ref a_NoWeights) (.ref a_NoWay) = some false)
    (i54 : PySem.W.kitOne K (.ref a_TooMany) (.ref a_NoWay) = some false)
    (i55 : PySem.W.kitOne K (.type "NoneType") (.ref a_NoWeights) = some false)
    (i56 : PySem.W.kitOne K (.type "bool") (.ref a_NoWeights) = some false)
    (i57 : PySem.W.kitOne K (.type "int") (.ref a_NoWeights) = some false)
    (i58 : PySem.W.kitOne K (.type "str") (.ref a_NoWeights) = some false)
    (i59 : PySem.W.kitOne K (.type "tuple") (.ref a_NoWeights) = some false)
    (i60 : PySem.W.kitOne K (.type "list") (.ref a_NoWeights) = some false)
    (i61 : PySem.W.kitOne K (.type "dict") (.ref a_NoWeights) = some false)
    (i62 : PySem.W.kitOne K (.ref a_NoFraction) (.ref a_NoWeights) = some false)
    (i63 : PySem.W.kitOne K (.ref a_NoBox) (.ref a_NoWeights) = some false)
    (i64 : PySem.W.kitOne K (.ref a_NoWeights) (.ref a_NoWeights) = some true)
    (i65 : PySem.W.kitOne K (.ref a_TooMany) (.ref a_NoWeights) = some false)
    (i66 : PySem.W.kitOne K (.type "NoneType") (.ref a_TooMany) = some false)
    (i67 : PySem.W.kitOne K (.type "bool") (.ref a_TooMany) = some false)
    (i68 : PySem.W.kitOne K (.type "int") (.ref a_TooMany) = some false)
    (i69 : PySem.W.kitOne K (.type "str") (.ref a_TooMany) = some false)
    (i70 : PySem.W.kitOne K (.type "tuple") (.ref a_TooMany) = some false)
    (i71 : PySem.W.kitOne K (.type "list") (.ref a_TooMany) = some false)
    (i72 : PySem.W.kitOne K (.type "dict") (.ref a_TooMany) = some false)
    (i73 : PySem.W.kitOne K (.ref a_NoFraction) (.ref a_TooMany) = some false)
    (i74 : PySem.W.kitOne K (.ref a_NoBox) (.ref a_TooMany) = some false)
    (i75 : PySem.W.kitOne K (.ref a_NoWeights) (.ref a_TooMany) = some false)
    (i76 : PySem.W.kitOne K (.ref a_TooMany) (.ref a_TooMany) = some true)
    (i77 : PySem.W.kitOne K (.type "NoneType") (.type "bool") = some false)
    (i78 : PySem.W.kitOne K (.type "bool") (.type "bool") = some true)
    (i79 : PySem.W.kitOne K (.type "int") (.type "bool") = some false)
    (i80 : PySem.W.kitOne K (.type "str") (.type "bool") = some false)
    (i81 : PySem.W.kitOne K (.type "tuple") (.type "bool") = some false)
    (i82 : PySem.W.kitOne K (.type "list") (.type "bool") = some false)
    (i83 : PySem.W.kitOne K (.type "dict") (.type "bool") = some false)
    (i84 : PySem.W.kitOne K (.ref a_NoFraction) (.type "bool") = some false)
    (i85 : PySem.W.kitOne K (.ref a_NoBox) (.type "bool") = some false)
    (i86 : PySem.W.kitOne K (.ref a_NoWeights) (.type "bool") = some false)
    (i87 : PySem.W.kitOne K (.ref a_TooMany) (.type "bool") = some false)
    (i88 : PySem.W.kitOne K (.type "NoneType") (.type "int") = some false)
    (i89 : PySem.W.kitOne K (.type "bool") (.type "int") = some true)
    (i90 : PySem.W.kitOne K (.type "int") (.type "int") = some true)
    (i91 : PySem.W.kitOne K (.type "str") (.type "int") = some false)
    (i92 : PySem.W.kitOne K (.type "tuple") (.type "int") = some false)
    (i93 : PySem.W.kitOne K (.type "list") (.type "int") = some false)
    (i94 : PySem.W.kitOne K (.type "dict") (.type "int") = some false)
    (i95 : PySem.W.kitOne K (.ref a_NoFraction) (.type "int") = some false)
    (i96 : PySem.W.kitOne K (.ref a_NoBox) (.type "int") = some false)
    (i97 : PySem.W.kitOne K (.ref a_NoWeights) (.type "int") = some false)
    (i98 : PySem.W.kitOne K (.ref a_TooMany) (.type "int") = some false)
    (i99 : PySem.W.kitOne K (.type "NoneType") (.type "list") = some false)
    (i100 : PySem.W.kitOne K (.type "bool") (.type "list") = some false)
    (i101 : PySem.W.kitOne K (.type "int") (.type "list") = some false)
    (i102 : PySem.W.kitOne K (.type "str") (.type "list") = some false)
    (i103 : PySem.W.kitOne K (.type "tuple") (.type "list") = some false)
    (i104 : PySem.W.kitOne K (.type "list") (.type "list") = some true)
    (i105 : PySem.W.kitOne K (.type "dict") (.type "list") = some false)
    (i106 : PySem.W.kitOne K (.ref a_NoFraction) (.type "list") = some false)
    (i107 : PySem.W.kitOne K (.ref a_NoBox) (.type "list") = some false)
    (i108 : PySem.W.kitOne K (.ref a_NoWeights) (.type "list") = some false)
    (i109 : PySem.W.kitOne K (.ref a_TooMany) (.type "list") = some false)
    (i110 : PySem.W.kitOne K (.type "NoneType") (.type "tuple") = some false)
    (i111 : PySem.W.kitOne K (.type "bool") (.type "tuple") = some false)
    (i112 : PySem.W.kitOne K (.type "int") (.type "tuple") = some false)
    (i113 : PySem.W.kitOne K (.type "str") (.type "tuple") = some false)
    (i114 : PySem.W.kitOne K (.type "tuple") (.type "tuple") = some true)
    (i115 : PySem.W.kitOne K (.type "list") (.type "tuple") = some false)
    (i116 : PySem.W.kitOne K (.type "dict") (.type "tuple") = some false)
    (i117 : PySem.W.kitOne K (.ref a_NoFraction) (.type "tuple") = some false)
    (i118 : PySem.W.kitOne K (.ref a_NoBox) (.type "tuple") = some false)
    (i119 : PySem.W.kitOne K (.ref a_NoWeights) (.type "tuple") = some false)
    (i120 : PySem.W.kitOne K (.ref a_TooMany) (.type "tuple") = some false)
    : Txt K mg a_RoomError a_NoFraction a_NoBox a_NoWay a_NoWeights a_TooMany a_NoRule a_NoText := by
  have mNoBox := PySem.W.mg_of X G m_NoBox
  have mNoFraction := PySem.W.mg_of X G m_NoFraction
  have mNoRule := PySem.W.mg_of X G m_NoRule
  have mNoText := PySem.W.mg_of X G m_NoText
  have mNoWay := PySem.W.mg_of X G m_NoWay
  have mNoWeights := PySem.W.mg_of X G m_NoWeights
  have mRoomError := PySem.W.mg_of X G m_RoomError
  have mTooMany := PySem.W.mg_of X G m_TooMany
  exact {
  g_MOST_WEIGHTS := g_MOST_WEIGHTS,
  m_NoBox := mNoBox,
  m_NoFraction := mNoFraction,
  m_NoRule := mNoRule,
  m_NoText := mNoText,
  m_NoWay := mNoWay,
  m_NoWeights := mNoWeights,
  m_RoomError := mRoomError,
  m_TooMany := mTooMany,
  n_abs := PySem.W.mg_none_of X G n_abs,
  n_all := PySem.W.mg_none_of X G n_all,
  n_bool := PySem.W.mg_none_of X G n_bool,
  n_int := PySem.W.mg_none_of X G n_int,
  n_isinstance := PySem.W.mg_none_of X G n_isinstance,
  n_len := PySem.W.mg_none_of X G n_len,
  n_list := PySem.W.mg_none_of X G n_list,
  n_max := PySem.W.mg_none_of X G n_max,
  n_min := PySem.W.mg_none_of X G n_min,
  n_range := PySem.W.mg_none_of X G n_range,
  n_sum := PySem.W.mg_none_of X G n_sum,
  n_tuple := PySem.W.mg_none_of X G n_tuple,
  h_RoomError := ⟨h_RoomError_ty, h_RoomError_cls, h_RoomError_mb⟩,
  r_RoomError := by
      intro c hc Ce e
      simp only [mro_RoomError, List.mem_cons, List.not_mem_nil, or_false] at hc
      rcases hc with rfl | rfl | rfl | rfl
      · rw [mNoFraction] at e; cases e; exact r_NoFraction_RoomError
      · rw [mNoBox] at e; cases e; exact r_NoBox_RoomError
      · rw [mNoWeights] at e; cases e; exact r_NoWeights_RoomError
      · rw [mTooMany] at e; cases e; exact r_TooMany_RoomError,
  x_NoFraction := x_NoFraction,
  x_NoBox := x_NoBox,
  x_NoWeights := x_NoWeights,
  x_TooMany := x_TooMany,
  kits := (kits_cons i0 rfl mNoBox noOwn
      (kits_cons i1 rfl mNoBox noOwn
      (kits_cons i2 rfl mNoBox noOwn
      (kits_cons i3 rfl mNoBox noOwn
      (kits_cons i4 rfl mNoBox noOwn
      (kits_cons i5 rfl mNoBox noOwn
      (kits_cons i6 rfl mNoBox noOwn
      (kits_cons i7 mNoFraction mNoBox (isOwn mNoFraction ⟨k_NoFraction_cls, k_NoFraction_ga, k_NoFraction_gt, k_NoFraction_at, gs_, tk_, k_NoFraction_mo, k_NoFraction_mb⟩)
      (kits_cons i8 mNoBox mNoBox (isOwn mNoBox ⟨k_NoBox_cls, k_NoBox_ga, k_NoBox_gt, k_NoBox_at, gs_, tk_, k_NoBox_mo, k_NoBox_mb⟩)
      (kits_cons i9 mNoWeights mNoBox (isOwn mNoWeights ⟨k_NoWeights_cls, k_NoWeights_ga, k_NoWeights_gt, k_NoWeights_at, gs_, tk_, k_NoWeights_mo, k_NoWeights_mb⟩)
      (kits_cons i10 mTooMany mNoBox (isOwn mTooMany ⟨k_TooMany_cls, k_TooMany_ga, k_TooMany_gt, k_TooMany_at, gs_, tk_, k_TooMany_mo, k_TooMany_mb⟩)
      (kits_cons i11 rfl mNoFraction noOwn
      (kits_cons i12 rfl mNoFraction noOwn
      (kits_cons i13 rfl mNoFraction noOwn
      (kits_cons i14 rfl mNoFraction noOwn
      (kits_cons i15 rfl mNoFraction noOwn
      (kits_cons i16 rfl mNoFraction noOwn
      (kits_cons i17 rfl mNoFraction noOwn
      (kits_cons i18 mNoFraction mNoFraction (isOwn mNoFraction ⟨k_NoFraction_cls, k_NoFraction_ga, k_NoFraction_gt, k_NoFraction_at, gs_, tk_, k_NoFraction_mo, k_NoFraction_mb⟩)
      (kits_cons i19 mNoBox mNoFraction (isOwn mNoBox ⟨k_NoBox_cls, k_NoBox_ga, k_NoBox_gt, k_NoBox_at, gs_, tk_, k_NoBox_mo, k_NoBox_mb⟩)
      (kits_cons i20 mNoWeights mNoFraction (isOwn mNoWeights ⟨k_NoWeights_cls, k_NoWeights_ga, k_NoWeights_gt, k_NoWeights_at, gs_, tk_, k_NoWeights_mo, k_NoWeights_mb⟩)
      (kits_cons i21 mTooMany mNoFraction (isOwn mTooMany ⟨k_TooMany_cls, k_TooMany_ga, k_TooMany_gt, k_TooMany_at, gs_, tk_, k_TooMany_mo, k_TooMany_mb⟩)
      (kits_cons i22 rfl mNoRule noOwn
      (kits_cons i23 rfl mNoRule noOwn
      (kits_cons i24 rfl mNoRule noOwn
      (kits_cons i25 rfl mNoRule noOwn
      (kits_cons i26 rfl mNoRule noOwn
      (kits_cons i27 rfl mNoRule noOwn
      (kits_cons i28 rfl mNoRule noOwn
      (kits_cons i29 mNoFraction mNoRule (isOwn mNoFraction ⟨k_NoFraction_cls, k_NoFraction_ga, k_NoFraction_gt, k_NoFraction_at, gs_, tk_, k_NoFraction_mo, k_NoFraction_mb⟩)
      (kits_cons i30 mNoBox mNoRule (isOwn mNoBox ⟨k_NoBox_cls, k_NoBox_ga, k_NoBox_gt, k_NoBox_at, gs_, tk_, k_NoBox_mo, k_NoBox_mb⟩)
      (kits_cons i31 mNoWeights mNoRule (isOwn mNoWeights ⟨k_NoWeights_cls, k_NoWeights_ga, k_NoWeights_gt, k_NoWeights_at, gs_, tk_, k_NoWeights_mo, k_NoWeights_mb⟩)
      (kits_cons i32 mTooMany mNoRule (isOwn mTooMany ⟨k_TooMany_cls, k_TooMany_ga, k_TooMany_gt, k_TooMany_at, gs_, tk_, k_TooMany_mo, k_TooMany_mb⟩)
      (kits_cons i33 rfl mNoText noOwn
      (kits_cons i34 rfl mNoText noOwn
      (kits_cons i35 rfl mNoText noOwn
      (kits_cons i36 rfl mNoText noOwn
      (kits_cons i37 rfl mNoText noOwn
      (kits_cons i38 rfl mNoText noOwn
      (kits_cons i39 rfl mNoText noOwn
      (kits_cons i40 mNoFraction mNoText (isOwn mNoFraction ⟨k_NoFraction_cls, k_NoFraction_ga, k_NoFraction_gt, k_NoFraction_at, gs_, tk_, k_NoFraction_mo, k_NoFraction_mb⟩)
      (kits_cons i41 mNoBox mNoText (isOwn mNoBox ⟨k_NoBox_cls, k_NoBox_ga, k_NoBox_gt, k_NoBox_at, gs_, tk_, k_NoBox_mo, k_NoBox_mb⟩)
      (kits_cons i42 mNoWeights mNoText (isOwn mNoWeights ⟨k_NoWeights_cls, k_NoWeights_ga, k_NoWeights_gt, k_NoWeights_at, gs_, tk_, k_NoWeights_mo, k_NoWeights_mb⟩)
      (kits_cons i43 mTooMany mNoText (isOwn mTooMany ⟨k_TooMany_cls, k_TooMany_ga, k_TooMany_gt, k_TooMany_at, gs_, tk_, k_TooMany_mo, k_TooMany_mb⟩)
      (kits_cons i44 rfl mNoWay noOwn
      (kits_cons i45 rfl mNoWay noOwn
      (kits_cons i46 rfl mNoWay noOwn
      (kits_cons i47 rfl mNoWay noOwn
      (kits_cons i48 rfl mNoWay noOwn
      (kits_cons i49 rfl mNoWay noOwn
      (kits_cons i50 rfl mNoWay noOwn
      (kits_cons i51 mNoFraction mNoWay (isOwn mNoFraction ⟨k_NoFraction_cls, k_NoFraction_ga, k_NoFraction_gt, k_NoFraction_at, gs_, tk_, k_NoFraction_mo, k_NoFraction_mb⟩)
      (kits_cons i52 mNoBox mNoWay (isOwn mNoBox ⟨k_NoBox_cls, k_NoBox_ga, k_NoBox_gt, k_NoBox_at, gs_, tk_, k_NoBox_mo, k_NoBox_mb⟩)
      (kits_cons i53 mNoWeights mNoWay (isOwn mNoWeights ⟨k_NoWeights_cls, k_NoWeights_ga, k_NoWeights_gt, k_NoWeights_at, gs_, tk_, k_NoWeights_mo, k_NoWeights_mb⟩)
      (kits_cons i54 mTooMany mNoWay (isOwn mTooMany ⟨k_TooMany_cls, k_TooMany_ga, k_TooMany_gt, k_TooMany_at, gs_, tk_, k_TooMany_mo, k_TooMany_mb⟩)
      (kits_cons i55 rfl mNoWeights noOwn
      (kits_cons i56 rfl mNoWeights noOwn
      (kits_cons i57 rfl mNoWeights noOwn
      (kits_cons i58 rfl mNoWeights noOwn
      (kits_cons i59 rfl mNoWeights noOwn
      (kits_cons i60 rfl mNoWeights noOwn
      (kits_cons i61 rfl mNoWeights noOwn
      (kits_cons i62 mNoFraction mNoWeights (isOwn mNoFraction ⟨k_NoFraction_cls, k_NoFraction_ga, k_NoFraction_gt, k_NoFraction_at, gs_, tk_, k_NoFraction_mo, k_NoFraction_mb⟩)
      (kits_cons i63 mNoBox mNoWeights (isOwn mNoBox ⟨k_NoBox_cls, k_NoBox_ga, k_NoBox_gt, k_NoBox_at, gs_, tk_, k_NoBox_mo, k_NoBox_mb⟩)
      (kits_cons i64 mNoWeights mNoWeights (isOwn mNoWeights ⟨k_NoWeights_cls, k_NoWeights_ga, k_NoWeights_gt, k_NoWeights_at, gs_, tk_, k_NoWeights_mo, k_NoWeights_mb⟩)
      (kits_cons i65 mTooMany mNoWeights (isOwn mTooMany ⟨k_TooMany_cls, k_TooMany_ga, k_TooMany_gt, k_TooMany_at, gs_, tk_, k_TooMany_mo, k_TooMany_mb⟩)
      (kits_cons i66 rfl mTooMany noOwn
      (kits_cons i67 rfl mTooMany noOwn
      (kits_cons i68 rfl mTooMany noOwn
      (kits_cons i69 rfl mTooMany noOwn
      (kits_cons i70 rfl mTooMany noOwn
      (kits_cons i71 rfl mTooMany noOwn
      (kits_cons i72 rfl mTooMany noOwn
      (kits_cons i73 mNoFraction mTooMany (isOwn mNoFraction ⟨k_NoFraction_cls, k_NoFraction_ga, k_NoFraction_gt, k_NoFraction_at, gs_, tk_, k_NoFraction_mo, k_NoFraction_mb⟩)
      (kits_cons i74 mNoBox mTooMany (isOwn mNoBox ⟨k_NoBox_cls, k_NoBox_ga, k_NoBox_gt, k_NoBox_at, gs_, tk_, k_NoBox_mo, k_NoBox_mb⟩)
      (kits_cons i75 mNoWeights mTooMany (isOwn mNoWeights ⟨k_NoWeights_cls, k_NoWeights_ga, k_NoWeights_gt, k_NoWeights_at, gs_, tk_, k_NoWeights_mo, k_NoWeights_mb⟩)
      (kits_cons i76 mTooMany mTooMany (isOwn mTooMany ⟨k_TooMany_cls, k_TooMany_ga, k_TooMany_gt, k_TooMany_at, gs_, tk_, k_TooMany_mo, k_TooMany_mb⟩)
      (kits_cons i77 rfl rfl noOwn
      (kits_cons i78 rfl rfl noOwn
      (kits_cons i79 rfl rfl noOwn
      (kits_cons i80 rfl rfl noOwn
      (kits_cons i81 rfl rfl noOwn
      (kits_cons i82 rfl rfl noOwn
      (kits_cons i83 rfl rfl noOwn
      (kits_cons i84 mNoFraction rfl (isOwn mNoFraction ⟨k_NoFraction_cls, k_NoFraction_ga, k_NoFraction_gt, k_NoFraction_at, gs_, tk_, k_NoFraction_mo, k_NoFraction_mb⟩)
      (kits_cons i85 mNoBox rfl (isOwn mNoBox ⟨k_NoBox_cls, k_NoBox_ga, k_NoBox_gt, k_NoBox_at, gs_, tk_, k_NoBox_mo, k_NoBox_mb⟩)
      (kits_cons i86 mNoWeights rfl (isOwn mNoWeights ⟨k_NoWeights_cls, k_NoWeights_ga, k_NoWeights_gt, k_NoWeights_at, gs_, tk_, k_NoWeights_mo, k_NoWeights_mb⟩)
      (kits_cons i87 mTooMany rfl (isOwn mTooMany ⟨k_TooMany_cls, k_TooMany_ga, k_TooMany_gt, k_TooMany_at, gs_, tk_, k_TooMany_mo, k_TooMany_mb⟩)
      (kits_cons i88 rfl rfl noOwn
      (kits_cons i89 rfl rfl noOwn
      (kits_cons i90 rfl rfl noOwn
      (kits_cons i91 rfl rfl noOwn
      (kits_cons i92 rfl rfl noOwn
      (kits_cons i93 rfl rfl noOwn
      (kits_cons i94 rfl rfl noOwn
      (kits_cons i95 mNoFraction rfl (isOwn mNoFraction ⟨k_NoFraction_cls, k_NoFraction_ga, k_NoFraction_gt, k_NoFraction_at, gs_, tk_, k_NoFraction_mo, k_NoFraction_mb⟩)
      (kits_cons i96 mNoBox rfl (isOwn mNoBox ⟨k_NoBox_cls, k_NoBox_ga, k_NoBox_gt, k_NoBox_at, gs_, tk_, k_NoBox_mo, k_NoBox_mb⟩)
      (kits_cons i97 mNoWeights rfl (isOwn mNoWeights ⟨k_NoWeights_cls, k_NoWeights_ga, k_NoWeights_gt, k_NoWeights_at, gs_, tk_, k_NoWeights_mo, k_NoWeights_mb⟩)
      (kits_cons i98 mTooMany rfl (isOwn mTooMany ⟨k_TooMany_cls, k_TooMany_ga, k_TooMany_gt, k_TooMany_at, gs_, tk_, k_TooMany_mo, k_TooMany_mb⟩)
      (kits_cons i99 rfl rfl noOwn
      (kits_cons i100 rfl rfl noOwn
      (kits_cons i101 rfl rfl noOwn
      (kits_cons i102 rfl rfl noOwn
      (kits_cons i103 rfl rfl noOwn
      (kits_cons i104 rfl rfl noOwn
      (kits_cons i105 rfl rfl noOwn
      (kits_cons i106 mNoFraction rfl (isOwn mNoFraction ⟨k_NoFraction_cls, k_NoFraction_ga, k_NoFraction_gt, k_NoFraction_at, gs_, tk_, k_NoFraction_mo, k_NoFraction_mb⟩)
      (kits_cons i107 mNoBox rfl (isOwn mNoBox ⟨k_NoBox_cls, k_NoBox_ga, k_NoBox_gt, k_NoBox_at, gs_, tk_, k_NoBox_mo, k_NoBox_mb⟩)
      (kits_cons i108 mNoWeights rfl (isOwn mNoWeights ⟨k_NoWeights_cls, k_NoWeights_ga, k_NoWeights_gt, k_NoWeights_at, gs_, tk_, k_NoWeights_mo, k_NoWeights_mb⟩)
      (kits_cons i109 mTooMany rfl (isOwn mTooMany ⟨k_TooMany_cls, k_TooMany_ga, k_TooMany_gt, k_TooMany_at, gs_, tk_, k_TooMany_mo, k_TooMany_mb⟩)
      (kits_cons i110 rfl rfl noOwn
      (kits_cons i111 rfl rfl noOwn
      (kits_cons i112 rfl rfl noOwn
      (kits_cons i113 rfl rfl noOwn
      (kits_cons i114 rfl rfl noOwn
      (kits_cons i115 rfl rfl noOwn
      (kits_cons i116 rfl rfl noOwn
      (kits_cons i117 mNoFraction rfl (isOwn mNoFraction ⟨k_NoFraction_cls, k_NoFraction_ga, k_NoFraction_gt, k_NoFraction_at, gs_, tk_, k_NoFraction_mo, k_NoFraction_mb⟩)
      (kits_cons i118 mNoBox rfl (isOwn mNoBox ⟨k_NoBox_cls, k_NoBox_ga, k_NoBox_gt, k_NoBox_at, gs_, tk_, k_NoBox_mo, k_NoBox_mb⟩)
      (kits_cons i119 mNoWeights rfl (isOwn mNoWeights ⟨k_NoWeights_cls, k_NoWeights_ga, k_NoWeights_gt, k_NoWeights_at, gs_, tk_, k_NoWeights_mo, k_NoWeights_mb⟩)
      (kits_cons i120 mTooMany rfl (isOwn mTooMany ⟨k_TooMany_cls, k_TooMany_ga, k_TooMany_gt, k_TooMany_at, gs_, tk_, k_TooMany_mo, k_TooMany_mb⟩)
      kits_nil)))))))))))))))))))))))))))))))))))))))))))))))))))))))))))))))))))))))))))))))))))))))))))))))))))))))))))))))))))))))))
  }
end KK
open PySem PySem.W PyProof.Rows L2 KK
set_option maxRecDepth 100000 in
set_option maxHeartbeats 0 in
theorem PySem.Challenge.cw_weightrooms_k27_floors_holds : PySem.Challenge.rw_weightrooms_k27_floors.Holds := by
  w_on; o_law; k_head; (case hw => w_witness2)
  k_fill
  refine L2.walk_lawD (l := PySem.Challenge.rw_weightrooms_k27_floors) (x := "_law_script") (k := 10) rfl rfl ⟨rfl, by decide, by decide⟩ (fun w h Y => PySem.W.kIn_of Y) ?F ?D
  case F =>
    intro w mg h KX G base kb nb
    have TT := by
      refine' txt_mk KX G ?m_NoBox ?m_NoFraction ?m_NoRule ?m_NoText ?m_NoWay ?m_NoWeights ?m_RoomError ?m_TooMany ?n_abs ?n_all ?n_bool ?n_int ?n_isinstance ?n_len ?n_list ?n_max ?n_min ?n_range ?n_sum ?n_tuple ?g_MOST_WEIGHTS ?gs_ ?tk_ ?h_RoomError_ty ?h_RoomError_cls ?h_RoomError_mb ?x_NoFraction ?k_NoFraction_cls ?k_NoFraction_ga ?k_NoFraction_gt ?k_NoFraction_at ?k_NoFraction_mo ?k_NoFraction_mb ?x_NoBox ?k_NoBox_cls ?k_NoBox_ga ?k_NoBox_gt ?k_NoBox_at ?k_NoBox_mo ?k_NoBox_mb ?x_NoWeights ?k_NoWeights_cls ?k_NoWeights_ga ?k_NoWeights_gt ?k_NoWeights_at ?k_NoWeights_mo ?k_NoWeights_mb ?x_TooMany ?k_TooMany_cls ?k_TooMany_ga ?k_TooMany_gt ?k_TooMany_at ?k_TooMany_mo ?k_TooMany_mb ?r_NoFraction_RoomError ?r_NoBox_RoomError ?r_NoWeights_RoomError ?r_TooMany_RoomError ?i0 ?i1 ?i2 ?i3 ?i4 ?i5 ?i6 ?i7 ?i8 ?i9 ?i10 ?i11 ?i12 ?i13 ?i14 ?i15 ?i16 ?i17 ?i18 ?i19 ?i20 ?i21 ?i22 ?i23 ?i24 ?i25 ?i26 ?i27 ?i28 ?i29 ?i30 ?i31 ?i32 ?i33 ?i34 ?i35 ?i36 ?i37 ?i38 ?i39 ?i40 ?i41 ?i42 ?i43 ?i44 ?i45 ?i46 ?i47 ?i48 ?i49 ?i50 ?i51 ?i52 ?i53 ?i54 ?i55 ?i56 ?i57 ?i58 ?i59 ?i60 ?i61 ?i62 ?i63 ?i64 ?i65 ?i66 ?i67 ?i68 ?i69 ?i70 ?i71 ?i72 ?i73 ?i74 ?i75 ?i76 ?i77 ?i78 ?i79 ?i80 ?i81 ?i82 ?i83 ?i84 ?i85 ?i86 ?i87 ?i88 ?i89 ?i90 ?i91 ?i92 ?i93 ?i94 ?i95 ?i96 ?i97 ?i98 ?i99 ?i100 ?i101 ?i102 ?i103 ?i104 ?i105 ?i106 ?i107 ?i108 ?i109 ?i110 ?i111 ?i112 ?i113 ?i114 ?i115 ?i116 ?i117 ?i118 ?i119 ?i120
      (case m_NoBox => k_is)
      (case m_NoFraction => k_is)
      (case m_NoRule => k_is)
      (case m_NoText => k_is)
      (case m_NoWay => k_is)
      (case m_NoWeights => k_is)
      (case m_RoomError => k_is)
      (case m_TooMany => k_is)
      (case n_abs => k_is)
      (case n_all => k_is)
      (case n_bool => k_is)
      (case n_int => k_is)
      (case n_isinstance => k_is)
      (case n_len => k_is)
      (case n_list => k_is)
      (case n_max => k_is)
      (case n_min => k_is)
      (case n_range => k_is)
      (case n_sum => k_is)
      (case n_tuple => k_is)
      (case g_MOST_WEIGHTS => exact (by refine' gc_int KX G ?a; (case a => k_is)))
      (case gs_ => k_is)
      (case tk_ => k_is)
      (case h_RoomError_ty => k_is)
      (case h_RoomError_cls => exact Option.isSome_iff_exists.mpr ⟨_, by k_is⟩)
      (case h_RoomError_mb => k_is)
      (case x_NoFraction => k_exc)
      (case k_NoFraction_cls => exact Option.isSome_iff_exists.mpr ⟨_, by k_is⟩)
      (case k_NoFraction_ga => k_is)
      (case k_NoFraction_gt => k_is)
      (case k_NoFraction_at => k_is)
      (case k_NoFraction_mo => k_is)
      (case k_NoFraction_mb => k_is)
      (case x_NoBox => k_exc)
      (case k_NoBox_cls => exact Option.isSome_iff_exists.mpr ⟨_, by k_is⟩)
      (case k_NoBox_ga => k_is)
      (case k_NoBox_gt => k_is)
      (case k_NoBox_at => k_is)
      (case k_NoBox_mo => k_is)
      (case k_NoBox_mb => k_is)
      (case x_NoWeights => k_exc)
      (case k_NoWeights_cls => exact Option.isSome_iff_exists.mpr ⟨_, by k_is⟩)
      (case k_NoWeights_ga => k_is)
      (case k_NoWeights_gt => k_is)
      (case k_NoWeights_at => k_is)
      (case k_NoWeights_mo => k_is)
      (case k_NoWeights_mb => k_is)
      (case x_TooMany => k_exc)
      (case k_TooMany_cls => exact Option.isSome_iff_exists.mpr ⟨_, by k_is⟩)
      (case k_TooMany_ga => k_is)
      (case k_TooMany_gt => k_is)
      (case k_TooMany_at => k_is)
      (case k_TooMany_mo => k_is)
      (case k_TooMany_mb => k_is)
      (case r_NoFraction_RoomError => k_is)
      (case r_NoBox_RoomError => k_is)
      (case r_NoWeights_RoomError => k_is)
      (case r_TooMany_RoomError => k_is)
      (case i0 => kit_is)
      (case i1 => kit_is)
      (case i2 => kit_is)
      (case i3 => kit_is)
      (case i4 => kit_is)
      (case i5 => kit_is)
      (case i6 => kit_is)
      (case i7 => kit_is)
      (case i8 => kit_is)
      (case i9 => kit_is)
      (case i10 => kit_is)
      (case i11 => kit_is)
      (case i12 => kit_is)
      (case i13 => kit_is)
      (case i14 => kit_is)
      (case i15 => kit_is)
      (case i16 => kit_is)
      (case i17 => kit_is)
      (case i18 => kit_is)
      (case i19 => kit_is)
      (case i20 => kit_is)
      (case i21 => kit_is)
      (case i22 => kit_is)
      (case i23 => kit_is)
      (case i24 => kit_is)
      (case i25 => kit_is)
      (case i26 => kit_is)
      (case i27 => kit_is)
      (case i28 => kit_is)
      (case i29 => kit_is)
      (case i30 => kit_is)
      (case i31 => kit_is)
      (case i32 => kit_is)
      (case i33 => kit_is)
      (case i34 => kit_is)
      (case i35 => kit_is)
      (case i36 => kit_is)
      (case i37 => kit_is)
      (case i38 => kit_is)
      (case i39 => kit_is)
      (case i40 => kit_is)
      (case i41 => kit_is)
      (case i42 => kit_is)
      (case i43 => kit_is)
      (case i44 => kit_is)
      (case i45 => kit_is)
      (case i46 => kit_is)
      (case i47 => kit_is)
      (case i48 => kit_is)
      (case i49 => kit_is)
      (case i50 => kit_is)
      (case i51 => kit_is)
      (case i52 => kit_is)
      (case i53 => kit_is)
      (case i54 => kit_is)
      (case i55 => kit_is)
      (case i56 => kit_is)
      (case i57 => kit_is)
      (case i58 => kit_is)
      (case i59 => kit_is)
      (case i60 => kit_is)
      (case i61 => kit_is)
      (case i62 => kit_is)
      (case i63 => kit_is)
      (case i64 => kit_is)
      (case i65 => kit_is)
      (case i66 => kit_is)
      (case i67 => kit_is)
      (case i68 => kit_is)
      (case i69 => kit_is)
      (case i70 => kit_is)
      (case i71 => kit_is)
      (case i72 => kit_is)
      (case i73 => kit_is)
      (case i74 => kit_is)
      (case i75 => kit_is)
      (case i76 => kit_is)
      (case i77 => kit_is)
      (case i78 => kit_is)
      (case i79 => kit_is)
      (case i80 => kit_is)
      (case i81 => kit_is)
      (case i82 => kit_is)
      (case i83 => kit_is)
      (case i84 => kit_is)
      (case i85 => kit_is)
      (case i86 => kit_is)
      (case i87 => kit_is)
      (case i88 => kit_is)
      (case i89 => kit_is)
      (case i90 => kit_is)
      (case i91 => kit_is)
      (case i92 => kit_is)
      (case i93 => kit_is)
      (case i94 => kit_is)
      (case i95 => kit_is)
      (case i96 => kit_is)
      (case i97 => kit_is)
      (case i98 => kit_is)
      (case i99 => kit_is)
      (case i100 => kit_is)
      (case i101 => kit_is)
      (case i102 => kit_is)
      (case i103 => kit_is)
      (case i104 => kit_is)
      (case i105 => kit_is)
      (case i106 => kit_is)
      (case i107 => kit_is)
      (case i108 => kit_is)
      (case i109 => kit_is)
      (case i110 => kit_is)
      (case i111 => kit_is)
      (case i112 => kit_is)
      (case i113 => kit_is)
      (case i114 => kit_is)
      (case i115 => kit_is)
      (case i116 => kit_is)
      (case i117 => kit_is)
      (case i118 => kit_is)
      (case i119 => kit_is)
      (case i120 => kit_is)
    have D_law_feed := by
      refine' def_mk (x := "_law_feed") (st := s_law_feed) KX G ?a ?l ?c ?k
      (case a => k_is); (case l => k_is); (case c => k_is); (case k => k_is)
    have D_law_next := by
      refine' def_mk (x := "_law_next") (st := s_law_next) KX G ?a ?l ?c ?k
      (case a => k_is); (case l => k_is); (case c => k_is); (case k => k_is)
    have D_law_low := by
      refine' def_mk (x := "_law_low") (st := s_law_low) KX G ?a ?l ?c ?k
      (case a => k_is); (case l => k_is); (case c => k_is); (case k => k_is)
    have D_law_great := by
      refine' def_mk (x := "_law_great") (st := s_law_great) KX G ?a ?l ?c ?k
      (case a => k_is); (case l => k_is); (case c => k_is); (case k => k_is)
    have D_law_room := by
      refine' def_mk (x := "_law_room") (st := s_law_room) KX G ?a ?l ?c ?k
      (case a => k_is); (case l => k_is); (case c => k_is); (case k => k_is)
    have D_law_weights := by
      refine' def_mk (x := "_law_weights") (st := s_law_weights) KX G ?a ?l ?c ?k
      (case a => k_is); (case l => k_is); (case c => k_is); (case k => k_is)
    have D_is_whole := by
      refine' def_mk (x := "is_whole") (st := s_is_whole) KX G ?a ?l ?c ?k
      (case a => k_is); (case l => k_is); (case c => k_is); (case k => k_is)
    have D_common_divisor := by
      refine' def_mk (x := "common_divisor") (st := s_common_divisor) KX G ?a ?l ?c ?k
      (case a => k_is); (case l => k_is); (case c => k_is); (case k => k_is)
    have D_is_fraction := by
      refine' def_mk (x := "is_fraction") (st := s_is_fraction) KX G ?a ?l ?c ?k
      (case a => k_is); (case l => k_is); (case c => k_is); (case k => k_is)
    have D_is_box := by
      refine' def_mk (x := "is_box") (st := s_is_box) KX G ?a ?l ?c ?k
      (case a => k_is); (case l => k_is); (case c => k_is); (case k => k_is)
    have D_check_box := by
      refine' def_mk (x := "check_box") (st := s_check_box) KX G ?a ?l ?c ?k
      (case a => k_is); (case l => k_is); (case c => k_is); (case k => k_is)
    have D_is_weight := by
      refine' def_mk (x := "is_weight") (st := s_is_weight) KX G ?a ?l ?c ?k
      (case a => k_is); (case l => k_is); (case c => k_is); (case k => k_is)
    have D_check_weights := by
      refine' def_mk (x := "check_weights") (st := s_check_weights) KX G ?a ?l ?c ?k
      (case a => k_is); (case l => k_is); (case c => k_is); (case k => k_is)
    have D_is_less := by
      refine' def_mk (x := "is_less") (st := s_is_less) KX G ?a ?l ?c ?k
      (case a => k_is); (case l => k_is); (case c => k_is); (case k => k_is)
    have D_greatest_of := by
      refine' def_mk (x := "greatest_of") (st := s_greatest_of) KX G ?a ?l ?c ?k
      (case a => k_is); (case l => k_is); (case c => k_is); (case k => k_is)
    have D_fraction := by
      refine' def_mk (x := "fraction") (st := s_fraction) KX G ?a ?l ?c ?k
      (case a => k_is); (case l => k_is); (case c => k_is); (case k => k_is)
    have D_times := by
      refine' def_mk (x := "times") (st := s_times) KX G ?a ?l ?c ?k
      (case a => k_is); (case l => k_is); (case c => k_is); (case k => k_is)
    have D_long_way := by
      refine' def_mk (x := "long_way") (st := s_long_way) KX G ?a ?l ?c ?k
      (case a => k_is); (case l => k_is); (case c => k_is); (case k => k_is)
    have D_over := by
      refine' def_mk (x := "over") (st := s_over) KX G ?a ?l ?c ?k
      (case a => k_is); (case l => k_is); (case c => k_is); (case k => k_is)
    have D_shape := by
      refine' def_mk (x := "shape") (st := s_shape) KX G ?a ?l ?c ?k
      (case a => k_is); (case l => k_is); (case c => k_is); (case k => k_is)
    have D_thinness := by
      refine' def_mk (x := "thinness") (st := s_thinness) KX G ?a ?l ?c ?k
      (case a => k_is); (case l => k_is); (case c => k_is); (case k => k_is)
    have D_floor_of := by
      refine' def_mk (x := "floor_of") (st := s_floor_of) KX G ?a ?l ?c ?k
      (case a => k_is); (case l => k_is); (case c => k_is); (case k => k_is)
    have D_law_long := by
      refine' def_mk (x := "_law_long") (st := s_law_long) KX G ?a ?l ?c ?k
      (case a => k_is); (case l => k_is); (case c => k_is); (case k => k_is)
    have D_law_most := by
      refine' def_mk (x := "_law_most") (st := s_law_most) KX G ?a ?l ?c ?k
      (case a => k_is); (case l => k_is); (case c => k_is); (case k => k_is)
    have D_law_due := by
      refine' def_mk (x := "_law_due") (st := s_law_due) KX G ?a ?l ?c ?k
      (case a => k_is); (case l => k_is); (case c => k_is); (case k => k_is)
    have D_law_class := by
      refine' def_mk (x := "_law_class") (st := s_law_class) KX G ?a ?l ?c ?k
      (case a => k_is); (case l => k_is); (case c => k_is); (case k => k_is)
    have D_law := by
      refine' def_mk (x := "law") (st := s_law) KX G ?a ?l ?c ?k
      (case a => k_is); (case l => k_is); (case c => k_is); (case k => k_is)
    have c_law_feed := den_law_feed (P := PySem.Challenge.rw_weightrooms_k27_floors.prog) (w := w) (base := base) TT D_law_feed
    have c_law_next := den_law_next (P := PySem.Challenge.rw_weightrooms_k27_floors.prog) (w := w) (base := base) TT D_law_next
    have c_law_low := den_law_low (P := PySem.Challenge.rw_weightrooms_k27_floors.prog) (w := w) (base := base) TT D_law_low
    have c_law_great := den_law_great (P := PySem.Challenge.rw_weightrooms_k27_floors.prog) (w := w) (base := base) TT D_law_great c_law_next
    have c_law_room := den_law_room (P := PySem.Challenge.rw_weightrooms_k27_floors.prog) (w := w) (base := base) TT D_law_room c_law_next c_law_low c_law_great
    have c_law_weights := den_law_weights (P := PySem.Challenge.rw_weightrooms_k27_floors.prog) (w := w) (base := base) TT D_law_weights c_law_feed c_law_next c_law_great
    have c_is_whole := den_is_whole (P := PySem.Challenge.rw_weightrooms_k27_floors.prog) (w := w) (base := base) TT D_is_whole
    have c_common_divisor := den_common_divisor (P := PySem.Challenge.rw_weightrooms_k27_floors.prog) (w := w) (base := base) TT D_common_divisor
    have c_is_fraction := den_is_fraction (P := PySem.Challenge.rw_weightrooms_k27_floors.prog) (w := w) (base := base) TT D_is_fraction c_is_whole c_common_divisor
    have c_is_box := (den_is_box (P := PySem.Challenge.rw_weightrooms_k27_floors.prog) (w := w) (base := base) TT D_is_box c_is_fraction).spec rf_is_box
    have c_check_box := (den_check_box (P := PySem.Challenge.rw_weightrooms_k27_floors.prog) (w := w) (base := base) TT D_check_box c_is_box).spec rf_check_box
    have c_is_weight := den_is_weight (P := PySem.Challenge.rw_weightrooms_k27_floors.prog) (w := w) (base := base) TT D_is_weight c_is_whole
    have c_check_weights := (den_check_weights (P := PySem.Challenge.rw_weightrooms_k27_floors.prog) (w := w) (base := base) TT D_check_weights c_is_weight).spec rf_check_weights
    have c_is_less := den_is_less (P := PySem.Challenge.rw_weightrooms_k27_floors.prog) (w := w) (base := base) TT D_is_less
    have c_greatest_of := den_greatest_of (P := PySem.Challenge.rw_weightrooms_k27_floors.prog) (w := w) (base := base) TT D_greatest_of c_is_less
    have c_fraction := den_fraction (P := PySem.Challenge.rw_weightrooms_k27_floors.prog) (w := w) (base := base) TT D_fraction c_common_divisor
    have c_times := den_times (P := PySem.Challenge.rw_weightrooms_k27_floors.prog) (w := w) (base := base) TT D_times c_fraction
    have c_long_way := den_long_way (P := PySem.Challenge.rw_weightrooms_k27_floors.prog) (w := w) (base := base) TT D_long_way c_check_box c_is_less
    have c_over := den_over (P := PySem.Challenge.rw_weightrooms_k27_floors.prog) (w := w) (base := base) TT D_over c_fraction
    have c_shape := den_shape (P := PySem.Challenge.rw_weightrooms_k27_floors.prog) (w := w) (base := base) TT D_shape c_long_way c_over
    have c_thinness := den_thinness (P := PySem.Challenge.rw_weightrooms_k27_floors.prog) (w := w) (base := base) TT D_thinness c_times c_shape c_fraction
    have c_floor_of := den_floor_of (P := PySem.Challenge.rw_weightrooms_k27_floors.prog) (w := w) (base := base) TT D_floor_of c_check_box c_check_weights c_greatest_of c_thinness
    have c_law_long := den_law_long (P := PySem.Challenge.rw_weightrooms_k27_floors.prog) (w := w) (base := base) TT D_law_long
    have c_law_most := den_law_most (P := PySem.Challenge.rw_weightrooms_k27_floors.prog) (w := w) (base := base) TT D_law_most
    have c_law_due := den_law_due (P := PySem.Challenge.rw_weightrooms_k27_floors.prog) (w := w) (base := base) TT D_law_due c_law_long c_law_low c_law_most
    have c_law_class := den_law_class (P := PySem.Challenge.rw_weightrooms_k27_floors.prog) (w := w) (base := base) TT D_law_class c_floor_of
    have c_law := den_law (P := PySem.Challenge.rw_weightrooms_k27_floors.prog) (w := w) (base := base) TT D_law c_law_feed c_law_room c_law_weights c_law_next c_floor_of c_law_due c_law_class
    exact law_spec c_law law_eq
  case D =>
    intro w mg h KX G
    refine ⟨s_law, ?_, (fun _ _ _ _ _ _ us hl => match us, hl with | [_], _ => rfl)⟩
    refine' def_mk KX G ?a ?l ?c ?k
    (case a => k_is); (case l => k_is); (case c => k_is); (case k => k_is)
