import PyProof.Rows.All
import Wide.All
import OpenK.AllK
import Wide.FinOn
import Lean
import PyProof.EqAt
import PyProof.EqKinds
import PyProof.TupleCall
import PyProof.Rows.SumAny
import PyProof.EnumMake
import PyProof.Draws
import PyProof.ZipIter
import PySem.Challenge.RW_weightrooms_k09_looked_at_refused
set_option genSizeOf false
set_option genInjectivity false
set_option bootstrap.genMatcherCode false
noncomputable section
set_option Elab.async false
set_option linter.all false
set_option maxRecDepth 100000
namespace L2
open PySem PySem.Spec PyProof.Rows
abbrev Key := Sum Int Str
noncomputable def xy : Key -> Value -> Bool
 | .inl k, v => Value.isInt k v
 | .inr x, v => Value.isStrOf x v
noncomputable def keyH (w : World) : Key -> Int
 | .inl k => hashInt k
 | .inr x => hashStr w x
theorem bS : ∀ {k : Key} {v : Value}, xy k v = true -> (∃ i t, k = Sum.inl i /\ v = Value.int i t) \/ (∃ x t, k = Sum.inr x /\ v = Value.str x t)
 |
  .inl i, v, h => by
  obtain ⟨t, e⟩ := Value.isInt_shape (k := i) (v := v) h
  exact .inl ⟨i, t, rfl, e⟩
 |
  .inr x, v, h => by
  obtain ⟨t, e⟩ := Value.isStrOf_shape (x := x) (v := v) h
  exact .inr ⟨x, t, rfl, e⟩
theorem AN (a b : Int) : decide ((Sum.inl a : Key) = Sum.inl b) = (a == b) := by
 by_cases e : a = b
 ·subst e; simp
 ·have h : ¬ (Sum.inl a : Key) = Sum.inl b := fun q => e (Sum.inl.inj q)
  rw [decide_eq_false h]
  exact (beq_eq_false_iff_ne.mpr e).symm
theorem Cf (a b : Str) : decide ((Sum.inr a : Key) = Sum.inr b) = decide (a = b) := by
 by_cases e : a = b
 ·subst e; simp
 ·have h : ¬ (Sum.inr a : Key) = Sum.inr b := fun q => e (Sum.inr.inj q)
  rw [decide_eq_false h, decide_eq_false e]
theorem AU (a : Int) (b : Str) : decide ((Sum.inl a : Key) = Sum.inr b) = false := decide_eq_false (fun q => nomatch q)
theorem Ay (a : Str) (b : Int) : decide ((Sum.inr a : Key) = Sum.inl b) = false := decide_eq_false (fun q => nomatch q)
noncomputable def lX (prog : Program) (w : World) : PySem.KeyKind prog w Key where
 is := xy
 hash := keyH w
 inj
   := fun v a b ha hb => by
  rcases bS ha with ⟨i, t, rfl, rfl⟩ | ⟨x, t, rfl, rfl⟩
  ·rcases bS hb with ⟨j, u, rfl, e⟩ | ⟨y, u, rfl, e⟩
   ·injection e with e1 _; rw [e1]
   ·exact nomatch e
  ·rcases bS hb with ⟨j, u, rfl, e⟩ | ⟨y, u, rfl, e⟩
   ·exact nomatch e
   ·injection e with e1 _; rw [e1]
 byValue := fun k v h => by
  rcases bS h with ⟨i, t, rfl, rfl⟩ | ⟨x, t, rfl, rfl⟩ <;> rfl
 pyHash := fun hv h => by
  rcases bS hv with ⟨i, t, rfl, rfl⟩ | ⟨x, t, rfl, rfl⟩
  ·exact wpAny_pyHash_int h
  ·exact wpAny_pyHash_str h
 eqBool := fun hu hv h => by
  rcases bS hu with ⟨i, t, rfl, rfl⟩ | ⟨x, t, rfl, rfl⟩
  ·rcases bS hv with ⟨j, u, rfl, rfl⟩ | ⟨y, u, rfl, rfl⟩
   ·rw [AN] at h; exact wpAny_eqBool_int h
   ·rw [AU] at h; exact SeqAt.EqAt.int_str i t y u _ _ _ _ h
  ·rcases bS hv with ⟨j, u, rfl, rfl⟩ | ⟨y, u, rfl, rfl⟩
   ·rw [Ay] at h; exact SeqAt.EqAt.str_int x t j u _ _ _ _ h
   ·rw [Cf] at h; exact wpAny_eqBool_str h
 «strs» := fun k x t v h => by
  rcases bS h with ⟨i, u, rfl, e⟩ | ⟨y, u, rfl, e⟩
  ·exact nomatch e
  ·injection e with e1 _
   subst e1
   cases v <;> rfl
end L2
namespace L2
open PySem PySem.Spec PyProof.Rows
inductive V where
 | non | bl (b : Bool) | int (i : Int) | str (x : Str) | byt (b : Array UInt8) | flt (b : UInt64) | ref (a : Addr) | ty (n : String)
 deriving DecidableEq
noncomputable def RelV : V -> Value -> Prop
 | .non, u => u = Value.none
 | .bl b, u => u = Value.bool b
 | .int i, u => ∃ t, u = Value.int i t
 | .str x, u => ∃ t, u = Value.str x t
 | .byt b, u => ∃ t, u = Value.bytes b t
 | .flt b, u => ∃ t, u = Value.float b t
 | .ref a, u => u = Value.ref a
 | .ty n, u => u = Value.type n
abbrev Vals : List V -> List Value -> Prop := Paired RelV
theorem Vals.length {xs : List V} {us : List Value} (r : Vals xs us) : xs.length = us.length := Paired.length r
theorem Vals.get {xs : List V} {us : List Value} {i : Nat} {x : V} (r : Vals xs us) (e : xs[i]? = some x) : ∃ u, us[i]? = some u /\ RelV x u := by
 induction r generalizing i with
 | nil => rw [List.getElem?_nil] at e; cases e
 |
  cons r t ih =>
  cases i with
  | zero => cases e; exact ⟨_, rfl, r⟩
  | succ i => exact ih (i := i) e
theorem Vals.set {x : V} {u : Value} (r : RelV x u) {xs : List V} {us : List Value} (i : Nat) (q : Vals xs us) : Vals (xs.set i x) (us.set i u) := by
 induction q generalizing i with
 | nil => exact .nil
 |
  cons q t ih =>
  cases i with
  | zero => exact .cons r t
  | succ i => exact .cons q (ih i)
theorem Vals.append {xs ys : List V} {us ws : List Value} (r : Vals xs us) (s : Vals ys ws) : Vals (xs ++ ys) (us ++ ws) := by
 induction r with
 | nil => exact s
 | cons r t ih => exact .cons r ih
theorem Vals.take {xs : List V} {us : List Value} (n : Nat) (r : Vals xs us) : Vals (xs.take n) (us.take n) := by
 induction r generalizing n with
 | nil => rw [List.take_nil, List.take_nil]; exact .nil
 |
  cons r t ih =>
  cases n with
  | zero => exact .nil
  | succ n => exact .cons r (ih n)
theorem Vals.drop {xs : List V} {us : List Value} (n : Nat) (r : Vals xs us) : Vals (xs.drop n) (us.drop n) := by
 induction r generalizing n with
 | nil => rw [List.drop_nil, List.drop_nil]; exact .nil
 |
  cons r t ih =>
  cases n with
  | zero => exact .cons r t
  | succ n => exact ih n
noncomputable def vt : Option V -> Option Value -> Prop
 | some v, some u => RelV v u
 | none, none => True
 | _, _ => False
noncomputable def KV {κ : Type} : List (κ × V) -> List (κ × Value) -> Prop := Paired fun (p : κ × V) (q : κ × Value) => p.1 = q.1 /\ RelV p.2 q.2
noncomputable def kV : Key -> V
 | .inl i => .int i
 | .inr x => .str x
inductive HO where
 | lst (xs : List V)
 | tup (xs : List V)
 | dK (kvs : List (Key × V)) | dT (kvs : List (List Key × V))
 | set (S : Int -> Bool) (n : Nat)
 | ins (C dx : Addr) (fs : List (Str × V))
 | own (x : Addr)
 | xd (fs : List (Str × V))
 | met (f x : Addr)
 | rng (lo hi : Int)
 | frz (o : Obj) (u : HO)
 | tbl (ps : Array Value)
 | ext (φ : Heap -> Prop)
abbrev Hp := Addr -> Option HO
noncomputable def upd (H : Hp) (a : Addr) (o : HO) : Hp := fun b => if b = a then some o else H b
theorem cK {H : Hp} {a : Addr} {o : HO} : upd H a o a = some o := by unfold upd; rw [if_pos rfl]
theorem aR {H : Hp} {a b : Addr} {o : HO} (h : b ≠ a) : upd H a o b = H b := by unfold upd; rw [if_neg h]
theorem bP {H : Hp} {a b : Addr} {o : HO} (h : H a = some o) (h' : H b = none) : a ≠ b := by
 intro e; subst e; rw [h] at h'; cases h'
section
variable (P : Program) (w : World)
noncomputable def ObjOk (H : Hp) (h : Heap) (a : Addr) : HO -> Prop
 | .lst xs => xs.length <= sizeLine /\ ∃ (its : List Value) (n : Nat), Vals xs its /\ h.get? a = some { cls := .type "list", data := .seq its.toArray n }
 | .tup xs => xs.length <= sizeLine /\ ∃ its : List Value, Vals xs its /\ IsTup h a its.toArray
 | .dK kvs => kvs.length <= sizeLine /\ (a == sysModules) = false /\ ∃ vs, KV kvs vs /\ h.DictOf (lX P w) a vs
 | .dT kvs => kvs.length <= sizeLine /\ (a == sysModules) = false /\ ∃ xs : List (List Key × Addr × Value),
   Paired (fun (p : List Key × V) (q : List Key × Addr × Value) => p.1 = q.1 /\ H q.2.1 = some (.tup (p.1.map kV)) /\ RelV p.2 q.2.2) kvs xs /\
   ∃ o es ep, h.get? a = some o /\ o.ExactDict /\ o.data = .dict es ep /\ es.toList = xs.map (entryOfKey (tupleKind (lX P w))) /\ (xs.map (·.1)).Nodup
 | .set S n => h.SetOf (intKind P w) a S n
 | .ins C dx fs => H dx = some (.own a) /\ fs.length <= 1000 /\ dx ≠ a /\ h.get? a = some (PySem.W.instObj C dx) /\
   ∃ mA, h.Ns1 dx mA /\ (∀ f, vt (fs.lookup f) (mA f)) /\ PySem.Within mA (fs.map (·.1))
 | .own _ => ∃ o, h.get? a = some o
 | .xd fs => ∃ mA, h.Ns1 a mA /\ ∀ f, vt (fs.lookup f) (mA f)
 | .rng lo hi => ∃ t u v, h.get? a = some { cls := .type "range", data := .fields #[.int lo t, .int hi u, .int 1 v] }
 | .frz o u => h.get? a = some o /\ ObjOk H h a u
 | .tbl ps => h.get? a = some { cls := .none, data := .fields ps }
 | .met f x => h.get? a = some (PySem.W.methodObj (.ref f) (.ref x))
 | .ext φ => φ h /\ (∃ o, h.get? a = some o) /\ ∀ h1 h2 : Heap, φ h1 -> (∀ o, h1.get? a = some o -> h2.get? a = some o) -> φ h2
noncomputable def HOk (H : Hp) (h : Heap) : Prop := ∀ a o, H a = some o -> ObjOk P w H h a o
end
section
variable {P : Program} {w : World} {H H' : Hp} {h h' : Heap} {a : Addr} {o : HO}
theorem ObjOk.lt (x : ObjOk P w H h a o) : a < h.objs.size := by
 cases o with
 | lst xs => obtain ⟨_, _, _, _, e⟩ := x; exact Heap.lt_size e
 | tup xs => obtain ⟨_, _, _, p⟩ := x; exact p.lt
 | dK kvs => obtain ⟨_, _, _, _, o, _, _, e, _⟩ := x; exact Heap.lt_size e
 | dT kvs => obtain ⟨_, _, _, _, o, _, _, e, _⟩ := x; exact Heap.lt_size e
 | set S n => obtain ⟨o, _, _, _, e, _⟩ := x; exact Heap.lt_size e
 | ins C dx fs => obtain ⟨_, _, _, e, _⟩ := x; exact Heap.lt_size e
 | own y => obtain ⟨_, e⟩ := x; exact Heap.lt_size e
 | xd fs => obtain ⟨_, ⟨_, _, _, e, _⟩, _⟩ := x; exact Heap.lt_size e
 | rng lo hi => obtain ⟨_, _, _, e⟩ := x; exact Heap.lt_size e
 | frz ob u => obtain ⟨e, _⟩ := x; exact Heap.lt_size e
 | tbl ps => exact Heap.lt_size (show h.get? a = some _ from x)
 | met f y => exact Heap.lt_size (show h.get? a = some _ from x)
 | ext φ => obtain ⟨_, ⟨_, e⟩, _⟩ := x; exact Heap.lt_size e
theorem Paired.mapP {α β : Type} {F G : α -> β -> Prop} {l₁ : List α} {l₂ : List β} (r : Paired F l₁ l₂) (f : ∀ a b, F a b -> G a b) : Paired G l₁ l₂ := by
 induction r with
 | nil => exact .nil
 | cons r t ih => exact .cons (f _ _ r) ih
theorem ObjOk.stay (x : ObjOk P w H h a o) (k : ∀ b u, (b = a \/ H b = some (.own a)) -> h.get? b = some u -> h'.get? b = some u)
  (ho : ∀ b, H b = some (.own a) -> H' b = some (.own a)) (ht : ∀ b xs, H b = some (.tup xs) -> H' b = some (.tup xs)) : ObjOk P w H' h' a o := by
 induction o with
 | lst xs => obtain ⟨z, its, n, r, e⟩ := x; exact ⟨z, its, n, r, k _ _ (.inl rfl) e⟩
 | tup xs => obtain ⟨z, its, r, ob, e, c⟩ := x; exact ⟨z, its, r, ob, k _ _ (.inl rfl) e, c⟩
 | dK kvs => obtain ⟨z, y, vs, r, ob, es, ep, e, c⟩ := x; exact ⟨z, y, vs, r, ob, es, ep, k _ _ (.inl rfl) e, c⟩
 |
  dT kvs =>
  obtain ⟨z, y, xs, r, ob, es, ep, e, c⟩ := x
  exact ⟨z, y, xs, Paired.mapP r fun p q z => ⟨z.1, ht _ _ z.2.1, z.2.2⟩, ob, es, ep, k _ _ (.inl rfl) e, c⟩
 | set S n => obtain ⟨ob, es, ep, t, e, c⟩ := x; exact ⟨ob, es, ep, t, k _ _ (.inl rfl) e, c⟩
 |
  ins C dx fs =>
  obtain ⟨d, z, ne, e, mA, ⟨od, es, ep, e2, c⟩, r⟩ := x
  exact ⟨ho _ d, z, ne, k _ _ (.inl rfl) e, mA, ⟨od, es, ep, k _ _ (.inr d) e2, c⟩, r⟩
 | own y => obtain ⟨ob, e⟩ := x; exact ⟨ob, k _ _ (.inl rfl) e⟩
 | xd fs => obtain ⟨mA, ⟨od, es, ep, e, c⟩, r⟩ := x; exact ⟨mA, ⟨od, es, ep, k _ _ (.inl rfl) e, c⟩, r⟩
 | rng lo hi => obtain ⟨t, u, v, e⟩ := x; exact ⟨t, u, v, k _ _ (.inl rfl) e⟩
 | frz ob u ih => obtain ⟨e, q⟩ := x; exact ⟨k _ _ (.inl rfl) e, ih q⟩
 |
  tbl ps =>
  have e : h.get? a = some { cls := .none, data := .fields ps } := x
  show h'.get? a = some { cls := .none, data := .fields ps }
  exact k a _ (.inl rfl) e
 |
  met f y =>
  have e : h.get? a = some (PySem.W.methodObj (.ref f) (.ref y)) := x
  show h'.get? a = some (PySem.W.methodObj (.ref f) (.ref y))
  exact k a _ (.inl rfl) e
 | ext φ => obtain ⟨p, ⟨o, e⟩, st⟩ := x; exact ⟨st _ _ p fun o q => k _ _ (.inl rfl) q, ⟨o, k _ _ (.inl rfl) e⟩, st⟩
theorem HOk.lt (x : HOk P w H h) (e : H a = some o) : a < h.objs.size := (x a o e).lt
theorem HOk.fresh (x : HOk P w H h) (e : h.objs.size <= a) : H a = none := by
 cases q : H a with
 | none => rfl
 | some u => exact absurd (Nat.lt_of_lt_of_le (x.lt q) e) (Nat.lt_irrefl _)
theorem HOk.kept (x : HOk P w H h) (k : ∀ b u, h.get? b = some u -> h'.get? b = some u) : HOk P w H h' := fun a o e =>
 (x a o e).stay (fun b u _ q => k b u q) (fun _ q => q) fun _ _ q => q
theorem HOk.laid (x : HOk P w H h) (k : ∀ b u, h.get? b = some u -> h'.get? b = some u) (hp : h.objs.size <= a) (new : ObjOk P w (upd H a o) h' a o) : HOk P w (upd H a o) h' := fun b u e => by
 have hn := x.fresh hp
 by_cases hb : b = a
 ·subst hb; rw [cK] at e; cases e; exact new
 ·rw [aR hb] at e
  exact (x b u e).stay (fun c v _ q => k c v q) (fun c q => by rw [aR (bP q hn)]; exact q) fun c xs q => by rw [aR (bP q hn)]; exact q
end
noncomputable def Rd (H : Hp) (a : Addr) (u : HO) : Prop := H a = some u \/ ∃ o, H a = some (.frz o u)
theorem Rd.ok {P : Program} {w : World} {H : Hp} {h : Heap} {a : Addr} {u : HO} (r : Rd H a u) (x : HOk P w H h) : ObjOk P w H h a u := by
 rcases r with r | ⟨o, r⟩
 ·exact x a u r
 ·obtain ⟨_, q⟩ := x a _ r
  exact q
noncomputable def Mut : Option HO -> Prop
 | some (.lst _) => True
 | some (.dK _) => True
 | some (.dT _) => True
 | some (.set _ _) => True
 | some (.ins _ _ _) => True
 | some (.ext _) => True
 | _ => False
section
variable {P : Program} {w : World} {H : Hp} {h h' : Heap} {x e : Addr} {o' : HO}
theorem
    HOk.write (ok : HOk P w H h) (mu : Mut (H x)) (he : e = x \/ H e = some (.own x)) (k : ∀ b u, b ≠ e -> h.get? b = some u -> h'.get? b = some u) (heo : ∃ u, h'.get? e = some u)
  (new : ObjOk P w (upd H x o') h' x o') : HOk P w (upd H x o') h' := fun b u q => by
 have nown : ∀ c y, H c = some (.own y) -> c ≠ x := fun c y r z => by subst z; rw [r] at mu; exact mu
 have ntup : ∀ c xs, H c = some (.tup xs) -> c ≠ x := fun c xs r z => by subst z; rw [r] at mu; exact mu
 by_cases hb : b = x
 ·subst hb; rw [cK] at q; cases q; exact new
 ·rw [aR hb] at q
  by_cases hbe : b = e
  ·have q' : H b = some (.own x) := by
    rcases he with z | z
    ·exact absurd (hbe.trans z) hb
    ·rw [hbe]; exact z
   rw [q] at q'; cases q'
   obtain ⟨v, hv⟩ := heo
   exact ⟨v, by rw [hbe]; exact hv⟩
  ·refine (ok b u q).stay (fun c v hc r => k c v ?_ r) (fun c r => by rw [aR (nown c b r)]; exact r) fun c xs r => by rw [aR (ntup c xs r)]; exact r
   rcases hc with rfl | hc
   ·exact hbe
   ·rintro rfl
    rcases he with z | z
    ·exact nown c b hc z
    ·rw [hc] at z; cases z; exact hb rfl
end
structure Un (fs ex : List Addr) (H H' : Hp) (h h' : Heap) : Prop where
 keep : ∀ b o, h.get? b = some o -> H b = none -> b ∉ fs -> b ∉ ex -> h'.get? b = some o
 slot : ∀ b o, h.get? b = some o -> H b = none -> b ∈ fs -> b ∉ ex -> ∃ sl, h'.get? b = some { o with slots := sl }
 free : ∀ b o, h.get? b = some o -> H b = none -> b ∉ ex -> H' b = none
 there : ∀ b o, h.get? b = some o -> b ∉ ex -> ∃ o', h'.get? b = some o'
 tups : ∀ b xs, H b = some (.tup xs) -> H' b = some (.tup xs)
 frzs : ∀ b o u, H b = some (.frz o u) -> H' b = some (.frz o u)
 tbls : ∀ b ps, H b = some (.tbl ps) -> ∃ more, H' b = some (.tbl (ps ++ more))
section
variable {fs fs' ex ex' : List Addr} {H H1 H2 : Hp} {h h1 h2 h' : Heap} {a x e : Addr} {o : HO}
theorem Un.any (u : Un fs ex H H1 h h1) {b : Addr} {ob : Obj} (q : h.get? b = some ob) (n : H b = none) (hx : b ∉ ex) : ∃ sl, h1.get? b = some { ob with slots := sl } := by
 by_cases hb : b ∈ fs
 ·exact u.slot b ob q n hb hx
 ·exact ⟨ob.slots, u.keep b ob q n hb hx⟩
theorem Un.kept (k : ∀ b u, h.get? b = some u -> h'.get? b = some u) : Un fs ex H H h h' :=
 ⟨fun b ob q _ _ _ => k b ob q, fun b ob q _ _ _ => ⟨ob.slots, k b ob q⟩, fun _ _ _ n _ => n, fun b ob q _ => ⟨ob, k b ob q⟩, fun _ _ q => q, fun _ _ _ q => q, fun _ ps q => ⟨#[], by rw [q]; simp⟩⟩
theorem Un.refl : Un fs ex H H h h := Un.kept fun _ _ q => q
theorem Un.laid (k : ∀ b u, h.get? b = some u -> h'.get? b = some u) (hp : h.objs.size <= a) (hn : H a = none) : Un fs ex H (upd H a o) h h' where
 keep := fun b u q _ _ _ => k b u q
 slot := fun b u q _ _ _ => ⟨u.slots, k b u q⟩
 free := fun b u q n _ => by rw [aR (Nat.ne_of_lt (Nat.lt_of_lt_of_le (Heap.lt_size q) hp))]; exact n
 there := fun b u q _ => ⟨u, k b u q⟩
 tups := fun b xs q => by rw [aR (bP q hn)]; exact q
 frzs := fun b u xs q => by rw [aR (bP q hn)]; exact q
 tbls := fun b ps q => ⟨#[], by rw [aR (bP q hn), q]; simp⟩
theorem Un.write (mu : Mut (H x)) (he : e = x \/ H e = some (.own x)) (k : ∀ b u, b ≠ e -> h.get? b = some u -> h'.get? b = some u) (heo : ∃ u, h'.get? e = some u) : Un fs ex H (upd H x o) h h' := by
 have hx : ∀ b, H b = none -> b ≠ x := fun b n z => by subst z; rw [n] at mu; exact mu
 have hb : ∀ b, H b = none -> b ≠ e := fun b n z => by
  subst z
  rcases he with r | r
  ·exact hx b n r
  ·rw [n] at r; cases r
 have hm : ∀ b u, H b = some u -> ¬ Mut (some u) -> b ≠ x := fun b u q nm z => by subst z; rw [q] at mu; exact nm mu
 refine ⟨fun b u q n _ _ => k b u (hb b n) q, fun b u q n _ _ => ⟨u.slots, k b u (hb b n) q⟩, fun b u q n _ => by rw [aR (hx b n)]; exact n, fun b u q _ => ?_,
  fun b xs q => by rw [aR (hm b _ q fun z => z)]; exact q, fun b u xs q => by rw [aR (hm b _ q fun z => z)]; exact q, fun b ps q => ⟨#[], by rw [aR (hm b _ q fun z => z), q]; simp⟩⟩
 by_cases hbe : b = e
 ·subst hbe; exact heo
 ·exact ⟨u, k b u hbe q⟩
end
noncomputable def trk (h : Heap) (H : Hp) : List Addr := (List.range h.objs.size).filter fun a => (H a).isSome
noncomputable def jd (h : Heap) (H : Hp) : Heap := PySem.W.hideAll h (trk h H)
theorem sP (h : Heap) (H : Hp) : (jd h H).objs.size = h.objs.size := PySem.W.hideAll_size _ _
theorem vA {h : Heap} {H : Hp} {b : Addr} {o : Obj} (e : h.get? b = some o) (n : H b = none) : (jd h H).get? b = some o :=
 PySem.W.hideAll_get _ e fun hm => by
  have q : (H b).isSome = true := (List.mem_filter.mp hm).2
  rw [n] at q; simp at q
theorem yS {h : Heap} {H : Hp} {b : Addr} {o : Obj} (e : (jd h H).get? b = some o) : h.get? b = some o /\ H b = none := by
 have e' : h.get? b = some o := PySem.W.of_hideAll (trk h H) e
 refine ⟨e', ?_⟩
 cases q : H b with
 | none => rfl
 |
  some x =>
  have hm : b ∈ trk h H := List.mem_filter.mpr ⟨List.mem_range.mpr (Heap.lt_size e'), by simp [q]⟩
  have z : (jd h H).get? b = none := PySem.W.hideAll_none (trk h H) hm
  rw [z] at e; cases e
noncomputable def zq (g h : Heap) (L : Addr) : List (Addr × Obj) := (List.range h.objs.size).filterMap fun a => if a = L \/ (g.get? a).isSome = true then none else (h.get? a).map fun o => (a, o)
noncomputable def gx (g h : Heap) (L d : Addr) : List (Addr × Obj) := (zq g h L).filter fun p => decide (p.1 ≠ d)
end L2
namespace L2
open PySem PySem.Spec PyProof.Rows
structure Mod (K : PySem.W.Frag) (mg : Str -> Option Value) (base : Heap) : Prop where
 kin : K.In base
 glob : base.Ns mainGlobals mg
 blt : ∃ mb, base.Ns builtinsNs mb /\ ∀ x : Str, x ≠ "__name__" -> mb x = bootBuiltins x
 nolimit : base.NoLimit
structure Cx where
 prog : Program
 w : World
 K : PySem.W.Frag
 mg : Str -> Option Value
 base : Heap
 A : Around
 N : List Str
 s₀ : Shared
 H₀ : Hp
 env : Env
 outer : List Env
 stack : List Env
 ex : List Addr
 fn : Str -> Bool
 calm : Bool
 pn : List (Addr × Obj)
 xe : Value -> Shared -> Prop
noncomputable def frs (l : List Env) : List Addr := l.filterMap (·.frame)
abbrev Cx.fs (X : Cx) : List Addr := frs X.outer
noncomputable def Vis (sc : Scope) (x : Str) : Prop := sc.names.lookup x = some .local \/ sc.names.lookup x = some .cell \/ sc.names.lookup x = some .free
noncomputable def Loc (sc : Scope) (x : Str) : Prop := sc.names.lookup x = some .local \/ sc.names.lookup x = some .cell
noncomputable def rY (env : Env) (h : Heap) (m : Str -> Option Value) (x : Str) (u : Value) : Prop :=
 (env.kindOf x = some .local /\ m x = some u) \/ ((env.kindOf x = some .cell \/ env.kindOf x = some .free) /\ ∃ c, env.cells.lookup x = some c /\ h.IsCell c (some u))
structure Cx.Ok (X : Cx) : Prop where
 mod : Mod X.K X.mg X.base
 kind : X.env.scope.kind = .function
 glob : X.env.globals = mainGlobals
 blt : X.env.builtins = builtinsNs
 above : X.s₀.heap.objs.size <= X.env.locals
 inj : ∀ x y c, X.env.cells.lookup x = some c -> X.env.cells.lookup y = some c -> x = y
 has : ∀ x, (X.env.kindOf x = some .cell \/ X.env.kindOf x = some .free) -> ∃ c, X.env.cells.lookup x = some c
 cab : ∀ x c, X.fn x = true -> X.env.cells.lookup x = some c -> X.s₀.heap.objs.size <= c
 hd : X.calm = true -> X.A.handled = none
 frames : X.A.frames = some X.stack
 stk : X.stack = X.outer \/ (X.stack = X.env :: X.outer /\ X.env.frame = some X.env.locals)
 exf : ∀ b ∈ X.ex, b ≠ X.env.locals /\ ∀ x c, X.env.cells.lookup x = some c -> c ≠ b
 bs : ∀ b o, X.base.get? b = some o -> X.s₀.heap.get? b = some o /\ X.H₀ b = none
 bsz : X.base.objs.size <= X.s₀.heap.objs.size
 noex : ∀ b o, X.base.get? b = some o -> b ∉ X.ex
 exfs : ∀ b ∈ X.ex, b ∉ X.fs
 funs : X.s₀.heap.FunFrames X.base X.outer
 frf : ∀ b ∈ X.fs, X.H₀ b = none
structure Inv (X : Cx) (pins : List (Addr × Obj)) (σ : List (Option V)) (H : Hp) (s : Shared) : Prop where
 ok : X.Ok
 os : s.os = X.s₀.os
 bare : AllBare s.gens
 base : Un X.fs X.ex X.H₀ H X.s₀.heap s.heap
 loc : ∃ m, s.heap.Ns X.env.locals m /\ ∀ (i : Nat) (x : Str) (v : V), X.N[i]? = some x -> σ[i]? = some (some v) -> Vis X.env.scope x -> ∃ u, RelV v u /\ rY X.env s.heap m x u
 cell : ∀ x c, X.env.cells.lookup x = some c -> ∃ v, s.heap.IsCell c v
 free : H X.env.locals = none
 freeC : ∀ x c, X.env.cells.lookup x = some c -> H c = none
 pin : ∀ p ∈ X.pn ++ pins, s.heap.get? p.1 = some p.2 /\ H p.1 = none /\ p.1 ≠ X.env.locals /\ p.1 ∉ X.fs /\ ∀ v, p.2.data ≠ .cell v
 hok : HOk X.prog X.w H s.heap
 len : σ.length = X.N.length
section
variable {X : Cx} {pins : List (Addr × Obj)} {σ : List (Option V)} {H H' : Hp} {s : Shared} {h' : Heap}
theorem Cx.Ok.nofr (ok : X.Ok) {b : Addr} {o : Obj} (e : X.base.get? b = some o) : b ∉ X.fs := fun hb => by
 have := (ok.funs.mem hb).1
 rw [e] at this; cases this
theorem Inv.bs (I : Inv X pins σ H s) : ∀ b o, X.base.get? b = some o -> s.heap.get? b = some o /\ H b = none := fun b o e =>
 ⟨I.base.keep b o (I.ok.bs b o e).1 (I.ok.bs b o e).2 (I.ok.nofr e) (I.ok.noex b o e), I.base.free b o (I.ok.bs b o e).1 (I.ok.bs b o e).2 (I.ok.noex b o e)⟩
theorem Inv.bk (I : Inv X pins σ H s) : ∀ b o, X.base.get? b = some o -> s.heap.get? b = some o := fun b o e => (I.bs b o e).1
theorem Inv.mod (I : Inv X pins σ H s) : Mod X.K X.mg X.base := I.ok.mod
theorem Inv.kIn (I : Inv X pins σ H s) : X.K.In s.heap := I.ok.mod.kin.keeps I.bk
theorem Inv.lt (I : Inv X pins σ H s) : X.env.locals < s.heap.objs.size := let ⟨_, hn, _⟩ := I.loc; hn.lt
theorem Inv.sz (I : Inv X pins σ H s) : X.s₀.heap.objs.size <= s.heap.objs.size := Nat.le_trans I.ok.above (Nat.le_of_lt I.lt)
theorem Inv.nofs (I : Inv X pins σ H s) {a : Addr} (h : s.heap.objs.size <= a) : a ∉ X.fs := fun hb => by
 obtain ⟨_, o, ho, _⟩ := I.ok.funs.mem hb
 exact absurd (Nat.lt_of_lt_of_le (Heap.lt_size ho) (Nat.le_trans I.sz h)) (Nat.lt_irrefl _)
theorem Inv.cne (I : Inv X pins σ H s) : ∀ x c, X.env.cells.lookup x = some c -> c ≠ X.env.locals := fun x c e z => by
 obtain ⟨v, o, ho, hd⟩ := I.cell x c e
 obtain ⟨m, ⟨o', es, ep, ho', hd', _⟩, _⟩ := I.loc
 rw [z, ho'] at ho; cases ho; rw [hd'] at hd; cases hd
theorem Inv.funs (I : Inv X pins σ H s) : s.heap.FunFrames X.base X.outer := by
 have all : ∀ (l : List Env), (∀ b ∈ frs l, b ∈ X.fs) -> X.s₀.heap.FunFrames X.base l -> s.heap.FunFrames X.base l := by
  intro l
  induction l with
  | nil => intro _ _; trivial
  |
   cons env r ih =>
   intro hs hl
   obtain ⟨hk, ⟨L, o, hf, hn, ho, hd⟩, hr⟩ := hl
   have hL : L ∈ X.fs := hs L (by unfold frs; rw [List.filterMap_cons, hf]; exact List.mem_cons_self)
   obtain ⟨sl, e⟩ := I.base.slot L o ho (I.ok.frf L hL) hL fun z => I.ok.exfs L z hL
   exact ⟨hk, ⟨L, _, hf, hn, e, hd⟩, ih (fun b hb => hs b (by unfold frs; rw [List.filterMap_cons, hf]; exact List.mem_cons_of_mem _ hb)) hr⟩
 exact all X.outer (fun _ hb => hb) I.ok.funs
theorem Inv.stack (I : Inv X pins σ H s) : s.heap.FunFrames X.base X.stack := by
 rcases I.ok.stk with e | ⟨e, hf⟩
 ·rw [e]; exact I.funs
 ·rw [e]
  obtain ⟨m, hn, _⟩ := I.loc
  refine .cons (by rw [I.ok.kind]; decide) hf hn ?_ I.funs
  exact Heap.get?_none_of_le (Nat.le_trans I.ok.bsz I.ok.above)
theorem Inv.stkSub (I : Inv X pins σ H s) : ∀ b ∈ frs X.stack, b ∈ X.env.locals :: X.fs := fun b hb => by
 rcases I.ok.stk with e | ⟨e, hf⟩
 ·rw [e] at hb; exact List.mem_cons_of_mem _ hb
 ·rw [e] at hb
  unfold frs at hb
  rw [List.filterMap_cons, hf] at hb
  exact hb
theorem Inv.stkFree (I : Inv X pins σ H s) : ∀ b ∈ frs X.stack, H b = none := fun b hb => by
 rcases List.mem_cons.mp (I.stkSub b hb) with e | hb
 ·rw [e]; exact I.free
 ·obtain ⟨_, o, ho, _⟩ := I.ok.funs.mem hb
  exact I.base.free b o ho (I.ok.frf b hb) fun z => I.ok.exfs b z hb
theorem Inv.step {g' : Array GenState} {t' : Nat} {d' : Drawn} {ch : List Addr} (I : Inv X pins σ H s)
  (hch : ∀ b ∈ ch, (b ∈ X.ex \/ X.s₀.heap.objs.size <= b) /\ b ≠ X.env.locals /\ (∀ x c, X.env.cells.lookup x = some c -> c ≠ b) /\ ∀ p ∈ X.pn ++ pins, p.1 ≠ b)
  (keep : ∀ b o, b ≠ X.env.locals -> b ∉ X.fs -> b ∉ ch -> s.heap.get? b = some o -> H b = none -> h'.get? b = some o)
  (slot : ∀ b o, b ≠ X.env.locals -> b ∈ X.fs -> b ∉ ch -> s.heap.get? b = some o -> H b = none -> ∃ sl, h'.get? b = some { o with slots := sl }) (free : ∀ b o, b ∉ ch -> s.heap.get? b = some o -> H b = none -> H' b = none)
  (there : ∀ b o, b ∉ ch -> s.heap.get? b = some o -> ∃ o', h'.get? b = some o')
  (tups : ∀ b xs, H b = some (.tup xs) -> H' b = some (.tup xs)) (frzs : ∀ b o u, H b = some (.frz o u) -> H' b = some (.frz o u)) (tbls : ∀ b ps, H b = some (.tbl ps) -> ∃ more, H' b = some (.tbl (ps ++ more)))
  (ns : ∀ m, s.heap.Ns X.env.locals m -> h'.Ns X.env.locals m) (hok : HOk X.prog X.w H' h') (hg : AllBare g') :
  Inv X pins σ H' { s with heap := h', gens := g', drawn := d', toks := t' } := by
 have neL : ∀ b o, X.s₀.heap.get? b = some o -> b ≠ X.env.locals := fun b o e => Nat.ne_of_lt (Nat.lt_of_lt_of_le (Heap.lt_size e) I.ok.above)
 have neC : ∀ b o, X.s₀.heap.get? b = some o -> b ∉ X.ex -> b ∉ ch := fun b o e hx hb => by
  rcases (hch b hb).1 with z | z
  ·exact hx z
  ·exact absurd (Nat.lt_of_lt_of_le (Heap.lt_size e) z) (Nat.lt_irrefl _)
 have cellK : ∀ x c, X.env.cells.lookup x = some c -> ∀ v, s.heap.IsCell c v -> h'.IsCell c v := fun x c e v ⟨o, ho, hd⟩ => by
  have nch : c ∉ ch := fun z => (hch c z).2.2.1 x c e rfl
  by_cases hc : c ∈ X.fs
  ·obtain ⟨sl, q⟩ := slot c o (I.cne x c e) hc nch ho (I.freeC x c e)
   exact ⟨_, q, hd⟩
  ·exact ⟨o, keep c o (I.cne x c e) hc nch ho (I.freeC x c e), hd⟩
 refine ⟨I.ok, I.os, hg, ⟨fun b o e n hb hx => ?_, fun b o e n hb hx => ?_, fun b o e n hx => ?_, fun b o e hx => ?_, fun b xs e => tups b xs (I.base.tups b xs e), fun b o xs e => frzs b o xs (I.base.frzs b o xs e), fun b ps e => ?_⟩, ?_, fun x c e => ?_, ?_, fun x c e => ?_, fun p hp => ?_, hok, I.len⟩
 ·exact keep b o (neL b o e) hb (neC b o e hx) (I.base.keep b o e n hb hx) (I.base.free b o e n hx)
 ·obtain ⟨sl, e1⟩ := I.base.slot b o e n hb hx
  obtain ⟨sl', e2⟩ := slot b _ (neL b o e) hb (neC b o e hx) e1 (I.base.free b o e n hx)
  exact ⟨sl', e2⟩
 ·obtain ⟨o', e1⟩ := I.base.there b o e hx
  exact free b o' (neC b o e hx) e1 (I.base.free b o e n hx)
 ·obtain ⟨o', e1⟩ := I.base.there b o e hx
  exact there b o' (neC b o e hx) e1
 ·obtain ⟨m1, e1⟩ := I.base.tbls b ps e
  obtain ⟨m2, e2⟩ := tbls b _ e1
  exact ⟨m1 ++ m2, by rw [e2, Array.append_assoc]⟩
 ·obtain ⟨m, hn, hl⟩ := I.loc
  refine ⟨m, ns m hn, fun i x v e1 e2 e3 => ?_⟩
  obtain ⟨u, r, l⟩ := hl i x v e1 e2 e3
  refine ⟨u, r, ?_⟩
  rcases l with l | ⟨k, c, e, z⟩
  ·exact .inl l
  ·exact .inr ⟨k, c, e, cellK x c e _ z⟩
 ·obtain ⟨v, z⟩ := I.cell x c e
  exact ⟨v, cellK x c e v z⟩
 ·obtain ⟨m, ⟨o, _, _, ho, _⟩, _⟩ := I.loc
  exact free _ o (fun z => (hch _ z).2.1 rfl) ho I.free
 ·obtain ⟨v, o, ho, hd⟩ := I.cell x c e
  exact free c o (fun z => (hch c z).2.2.1 x c e rfl) ho (I.freeC x c e)
 ·obtain ⟨e, n, ne, nf, d⟩ := I.pin p hp
  have nch : p.1 ∉ ch := fun z => (hch p.1 z).2.2.2 p hp rfl
  exact ⟨keep p.1 p.2 ne nf nch e n, free p.1 p.2 nch e n, ne, nf, d⟩
theorem Inv.un {t' : Nat} (I : Inv X pins σ H s) (u : Un X.fs [] H H' s.heap h') (hok : HOk X.prog X.w H' h') : Inv X pins σ H' { s with heap := h', toks := t' } := by
 obtain ⟨m, ⟨o, es, ep, ho, r⟩, _⟩ := id I.loc
 obtain ⟨sl, hL⟩ := u.any ho I.free (by simp)
 exact I.step (g' := s.gens) (d' := s.drawn) (ch := []) (fun _ z => nomatch z) (fun b o _ hb _ e n => u.keep b o e n hb (by simp)) (fun b o _ hb _ e n => u.slot b o e n hb (by simp)) (fun b o _ e n => u.free b o e n (by simp)) (fun b o _ e => u.there b o e (by simp)) u.tups u.frzs u.tbls (fun m' hm => by
  obtain ⟨o', es', ep', ho', r'⟩ := hm
  rw [ho] at ho'; cases ho'
  exact ⟨_, es', ep', hL, r'⟩) hok I.bare
theorem Inv.call {g' : Array GenState} {t' : Nat} {d' : Drawn} {ch : List Addr} (I : Inv X pins σ H s) (u : Un (frs X.stack) ch H H' s.heap h') (hok : HOk X.prog X.w H' h') (hg : AllBare g')
  (hch : ∀ b ∈ ch, (b ∈ X.ex \/ X.s₀.heap.objs.size <= b) /\ b ≠ X.env.locals /\ (∀ x c, X.env.cells.lookup x = some c -> c ≠ b) /\ ∀ p ∈ X.pn ++ pins, p.1 ≠ b) :
  Inv X pins σ H' { s with heap := h', gens := g', drawn := d', toks := t' } := by
 obtain ⟨m, ⟨o, es, ep, ho, r⟩, _⟩ := id I.loc
 obtain ⟨sl, hL⟩ := u.any ho I.free fun z => (hch _ z).2.1 rfl
 exact I.step (ch := ch) hch (fun b o hL hb hc e n => u.keep b o e n (fun z => (List.mem_cons.mp (I.stkSub b z)).elim hL hb) hc) (fun b o _ _ hc e n => u.any e n hc) (fun b o hc e n => u.free b o e n hc) (fun b o hc e => u.there b o e hc) u.tups u.frzs u.tbls (fun m' hm => by
  obtain ⟨o', es', ep', ho', r'⟩ := hm
  rw [ho] at ho'; cases ho'
  exact ⟨_, es', ep', hL, r'⟩) hok hg
theorem Inv.turned {t' : Nat} {it : Addr} (I : Inv X pins σ H s) (k : ∀ b o, b ≠ it -> s.heap.get? b = some o -> h'.get? b = some o) (hn : H it = none) (hL : it ≠ X.env.locals)
  (h1 : it ∈ X.ex \/ X.s₀.heap.objs.size <= it) (h2 : ∀ x c, X.env.cells.lookup x = some c -> c ≠ it) (h3 : ∀ p ∈ X.pn ++ pins, p.1 ≠ it) : Inv X pins σ H { s with heap := h', toks := t' } := by
 have nit : ∀ b u, H b = some u -> b ≠ it := fun b u e z => by rw [z, hn] at e; cases e
 refine I.step (g' := s.gens) (d' := s.drawn) (ch := [it]) (fun b hb => ?_) (fun b o _ _ hc e _ => k b o (fun z => hc (by simp [z])) e) (fun b o _ _ hc e _ => ⟨o.slots, k b o (fun z => hc (by simp [z])) e⟩) (fun _ _ _ _ n => n)
  (fun b o hc e => ⟨o, k b o (fun z => hc (by simp [z])) e⟩) (fun _ _ e => e) (fun _ _ _ e => e) (fun b ps e => ⟨#[], by rw [e]; simp⟩) (fun m hm => ?_) (fun b u e => ?_) I.bare
 ·have e : b = it := by simpa using hb
  subst e
  exact ⟨h1, hL, h2, h3⟩
 ·obtain ⟨o, es, ep, ho, r⟩ := hm
  exact ⟨o, es, ep, k _ o (Ne.symm hL) ho, r⟩
 ·refine (I.hok b u e).stay (fun c v hc q => k c v ?_ q) (fun _ q => q) fun _ _ q => q
  rcases hc with z | z
  ·rw [z]; exact nit b u e
  ·exact nit c _ z
theorem Inv.tok (I : Inv X pins σ H s) (t : Nat) : Inv X pins σ H { s with toks := t } := I.un (h' := s.heap) (t' := t) Un.refl I.hok
theorem Inv.kept {t' : Nat} (I : Inv X pins σ H s) (k : ∀ b u, s.heap.get? b = some u -> h'.get? b = some u) : Inv X pins σ H { s with heap := h', toks := t' } := I.un (Un.kept k) (I.hok.kept k)
theorem Inv.laid {a : Addr} {o : HO} {t' : Nat} (I : Inv X pins σ H s) (k : ∀ b u, s.heap.get? b = some u -> h'.get? b = some u) (hp : s.heap.objs.size <= a) (new : ObjOk X.prog X.w (upd H a o) h' a o) :
  Inv X pins σ (upd H a o) { s with heap := h', toks := t' } := I.un (Un.laid k hp (I.hok.fresh hp)) (I.hok.laid k hp new)
theorem Inv.write {x e : Addr} {o : HO} {t' : Nat} (I : Inv X pins σ H s) (mu : Mut (H x)) (he : e = x \/ H e = some (.own x)) (k : ∀ b u, b ≠ e -> s.heap.get? b = some u -> h'.get? b = some u) (heo : ∃ u, h'.get? e = some u)
  (new : ObjOk X.prog X.w (upd H x o) h' x o) : Inv X pins σ (upd H x o) { s with heap := h', toks := t' } := I.un (Un.write mu he k heo) (I.hok.write mu he k heo new)
theorem Inv.pins_of {pins' : List (Addr × Obj)} (I : Inv X pins σ H s) (h : ∀ p ∈ pins', s.heap.get? p.1 = some p.2 /\ H p.1 = none /\ p.1 ≠ X.env.locals /\ p.1 ∉ X.fs /\ ∀ v, p.2.data ≠ .cell v) : Inv X pins' σ H s :=
 ⟨I.ok, I.os, I.bare, I.base, I.loc, I.cell, I.free, I.freeC, fun p hp => (List.mem_append.mp hp).elim (fun z => I.pin p (List.mem_append_left _ z)) (h p), I.hok, I.len⟩
theorem kR {N : List Str} (hN : N.Nodup) {i j : Nat} {x : Str} (a : N[i]? = some x) (b : N[j]? = some x) : i = j := by
 obtain ⟨h1, e1⟩ := List.getElem?_eq_some_iff.mp a
 obtain ⟨h2, e2⟩ := List.getElem?_eq_some_iff.mp b
 exact (List.getElem_inj hN).mp (e1.trans e2.symm)
theorem
    nc {M : Model} {A : Around} {E : Value -> Shared -> Prop} {i : Nat} {x : Str} {v : V} {u : Value} {Q : Unit -> Shared -> Prop} (I : Inv X pins σ H s) (hN : X.N.Nodup) (hi : X.N[i]? = some x) (hx : Loc X.env.scope x) (r : RelV v u)
  (h : ∀ s', Inv X pins (σ.set i (some v)) H s' -> (∃ a, Heap.SameBut a s.heap s'.heap /\ (a = X.env.locals \/ X.env.cells.lookup x = some a)) -> Q () s') (hf : X.fn x = true \/ X.env.scope.names.lookup x = some .local := by first | exact .inl rfl | exact .inr rfl | assumption) : wpAny M A (storeName X.env x u) Q E s := by
 obtain ⟨m, hn, hl⟩ := id I.loc
 have hcls : (X.env.scope.kind == .class || (X.env.scope.kind == .module && X.env.locals != X.env.globals)) = false := by rw [I.ok.kind]; rfl
 have hiσ : i < σ.length := by rw [I.len]; exact (List.getElem?_eq_some_iff.mp hi).1
 have cne := I.cne
 have tracked : ∀ {a : Addr} {h' : Heap}, (∃ o, s.heap.get? a = some o /\ H a = none) -> Heap.SameBut a s.heap h' -> HOk X.prog X.w H h' := fun {a h'} ha hs b ob e => by
  obtain ⟨_, _, hfree⟩ := ha
  refine (I.hok b ob e).stay (fun c w' hc q => (hs.2 c ?_).trans q) (fun _ q => q) fun _ _ q => q
  rintro rfl
  rcases hc with rfl | hc
  ·rw [hfree] at e; cases e
  ·rw [hfree] at hc; cases hc
 rcases hx with hk | hk
 ·refine wpAny_storeName_local hk hn (fun h' hn' hs => ?_) hcls
  obtain ⟨oL, _, _, hoL, _⟩ := id hn
  refine h _ ⟨I.ok, I.os, I.bare, ⟨fun b o e n hb hx => ?_, fun b o e n hb hx => ?_, I.base.free, fun b o e hx => ?_, I.base.tups, I.base.frzs, I.base.tbls⟩, ⟨_, hn', fun j y v' e1 e2 e3 => ?_⟩, fun y c e => ?_, I.free, I.freeC, fun p hp => ?_, tracked ⟨oL, hoL, I.free⟩ hs, by simpa using I.len⟩ ⟨_, hs, .inl rfl⟩
  ·exact (hs.2 b (Nat.ne_of_lt (Nat.lt_of_lt_of_le (Heap.lt_size e) I.ok.above))).trans (I.base.keep b o e n hb hx)
  ·obtain ⟨sl, e1⟩ := I.base.slot b o e n hb hx
   exact ⟨sl, (hs.2 b (Nat.ne_of_lt (Nat.lt_of_lt_of_le (Heap.lt_size e) I.ok.above))).trans e1⟩
  ·obtain ⟨o', e1⟩ := I.base.there b o e hx
   exact ⟨o', (hs.2 b (Nat.ne_of_lt (Nat.lt_of_lt_of_le (Heap.lt_size e) I.ok.above))).trans e1⟩
  ·by_cases hj : j = i
   ·subst hj
    rw [hi] at e1; cases e1
    rw [List.getElem?_set_self hiσ] at e2
    cases e2
    exact ⟨u, r, .inl ⟨hk, by simp⟩⟩
   ·rw [List.getElem?_set_ne (Ne.symm hj)] at e2
    obtain ⟨u', r', q⟩ := hl j y v' e1 e2 e3
    refine ⟨u', r', ?_⟩
    rcases q with ⟨k, e⟩ | ⟨k, c, e, z⟩
    ·refine .inl ⟨k, ?_⟩
     have : y ≠ x := fun e => hj (kR hN e1 (e ▸ hi))
     simp [this, e]
    ·exact .inr ⟨k, c, e, z.sameBut hs (cne y c e)⟩
  ·obtain ⟨w', z⟩ := I.cell y c e
   exact ⟨w', z.sameBut hs (cne y c e)⟩
  ·obtain ⟨e, n, ne, nf, d⟩ := I.pin p hp
   exact ⟨(hs.2 p.1 ne).trans e, n, ne, nf, d⟩
 ·have hfn : X.fn x = true := by
   rcases hf with z | z
   ·exact z
   ·rw [z] at hk; cases hk
  obtain ⟨c, hc⟩ := I.ok.has x (.inl hk)
  obtain ⟨w', z⟩ := I.cell x c hc
  refine wpAny_storeName_cell I.ok.kind hk hc z (fun h' hc' hs => ?_)
  obtain ⟨oc, hoc, hocd⟩ := id z
  refine h { s with heap := h' } ⟨I.ok, I.os, I.bare, ⟨fun b o e n hb hx => ?_, fun b o e n hb hx => ?_, I.base.free, fun b o e hx => ?_, I.base.tups, I.base.frzs, I.base.tbls⟩, ⟨m, hn.sameBut hs (Ne.symm (cne x c hc)), fun j y v' e1 e2 e3 => ?_⟩, fun y c' e => ?_, I.free, I.freeC, fun p hp => ?_, tracked ⟨oc, hoc, I.freeC x c hc⟩ hs, by simpa using I.len⟩ ⟨c, hs, .inr hc⟩
  ·exact (hs.2 b (Nat.ne_of_lt (Nat.lt_of_lt_of_le (Heap.lt_size e) (I.ok.cab x c hfn hc)))).trans (I.base.keep b o e n hb hx)
  ·obtain ⟨sl, e1⟩ := I.base.slot b o e n hb hx
   exact ⟨sl, (hs.2 b (Nat.ne_of_lt (Nat.lt_of_lt_of_le (Heap.lt_size e) (I.ok.cab x c hfn hc)))).trans e1⟩
  ·obtain ⟨o', e1⟩ := I.base.there b o e hx
   exact ⟨o', (hs.2 b (Nat.ne_of_lt (Nat.lt_of_lt_of_le (Heap.lt_size e) (I.ok.cab x c hfn hc)))).trans e1⟩
  ·by_cases hj : j = i
   ·subst hj
    rw [hi] at e1; cases e1
    rw [List.getElem?_set_self hiσ] at e2
    cases e2
    exact ⟨u, r, .inr ⟨.inl hk, c, hc, hc'⟩⟩
   ·rw [List.getElem?_set_ne (Ne.symm hj)] at e2
    obtain ⟨u', r', q⟩ := hl j y v' e1 e2 e3
    refine ⟨u', r', ?_⟩
    rcases q with q | ⟨k, c', e, z'⟩
    ·exact .inl q
    ·refine .inr ⟨k, c', e, z'.sameBut hs ?_⟩
     rintro rfl
     exact hj (kR hN e1 (I.ok.inj _ _ _ e hc ▸ hi))
  ·by_cases hcc : c' = c
   ·subst hcc; exact ⟨_, hc'⟩
   ·obtain ⟨w2, z2⟩ := I.cell y c' e
    exact ⟨w2, z2.sameBut hs hcc⟩
  ·obtain ⟨e, n, ne, nf, d⟩ := I.pin p hp
   refine ⟨(hs.2 p.1 ?_).trans e, n, ne, nf, d⟩
   intro q
   rw [q, hoc] at e
   have q' : oc = p.2 := Option.some.inj e
   exact d w' (by rw [<- q']; exact hocd)
theorem gJ {M : Model} {A : Around} {E : Value -> Shared -> Prop} {i : Nat} {x : Str} {v : V} {u : Value} {Q : Unit -> Shared -> Prop} (I : Inv X pins σ H s) (hN : X.N.Nodup) (hi : X.N[i]? = some x) (hx : Loc X.env.scope x) (r : RelV v u)
  (h : ∀ s', Inv X pins (σ.set i (some v)) H s' -> Q () s') (hf : X.fn x = true \/ X.env.scope.names.lookup x = some .local := by first | exact .inl rfl | exact .inr rfl | assumption) : wpAny M A (storeName X.env x u) Q E s :=
 nc I hN hi hx r (fun s' I' _ => h s' I') hf
theorem Inv.call' {s' : Shared} {ch : List Addr} (I : Inv X pins σ H s) (ho : s'.os = s.os) (u : Un (frs X.stack) ch H H' s.heap s'.heap) (hok : HOk X.prog X.w H' s'.heap) (hg : AllBare s'.gens)
  (hch : ∀ b ∈ ch, (b ∈ X.ex \/ X.s₀.heap.objs.size <= b) /\ b ≠ X.env.locals /\ (∀ x c, X.env.cells.lookup x = some c -> c ≠ b) /\ ∀ p ∈ X.pn ++ pins, p.1 ≠ b) : Inv X pins σ H' s' := by
 obtain ⟨h', g', d', t', o'⟩ := s'
 have e : o' = s.os := ho
 subst e
 exact I.call (g' := g') (t' := t') (d' := d') u hok hg hch
end
abbrev XK := Value -> Option Addr -> Hp -> Prop
abbrev St := List (Option V)
abbrev VK := V -> Hp -> Prop
abbrev TE := St -> Hp -> VK -> Prop
abbrev TT := St -> Hp -> (Bool -> Hp -> Prop) -> Prop
abbrev TA := St -> Hp -> (List V -> Hp -> Prop) -> Prop
structure Ends where
 nx : St -> Hp -> Prop
 rt : VK
 bk : St -> Hp -> Prop := fun _ _ => False
 ct : St -> Hp -> Prop := fun _ _ => False
abbrev TS := Ends -> St -> Hp -> Prop
noncomputable def EP (X : Cx) (pins : List (Addr × Obj)) (σ : St) (Q : VK) (u : Value) (s' : Shared) : Prop := ∃ v H', Inv X pins σ H' s' /\ RelV v u /\ Q v H'
noncomputable def TP (X : Cx) (pins : List (Addr × Obj)) (σ : St) (Q : Bool -> Hp -> Prop) (b : Bool) (s' : Shared) : Prop := ∃ H', Inv X pins σ H' s' /\ Q b H'
noncomputable def AP (X : Cx) (pins : List (Addr × Obj)) (σ : St) (Q : List V -> Hp -> Prop) (us : List Value) (s' : Shared) : Prop := ∃ vs H', Inv X pins σ H' s' /\ Vals vs us /\ Q vs H'
noncomputable def SP (X : Cx) (pins : List (Addr × Obj)) (D : Ends) (f : Flow) (s' : Shared) : Prop :=
 match f with
 | .next => ∃ σ' H', Inv X pins σ' H' s' /\ D.nx σ' H'
 | .brk => ∃ σ' H', Inv X pins σ' H' s' /\ D.bk σ' H'
 | .cont => ∃ σ' H', Inv X pins σ' H' s' /\ D.ct σ' H'
 | .ret u => ∃ v σ' H', Inv X pins σ' H' s' /\ RelV v u /\ D.rt v H'
noncomputable def PE (X : Cx) (e : Expr) (t : TE) : Prop :=
 ∀ (pins : List (Addr × Obj)) (s : Shared) (σ : St) (H : Hp) (Q : VK), Inv X pins σ H s -> t σ H Q -> wpAny (model X.prog X.w) X.A (eval e X.env) (EP X pins σ Q) X.xe s
noncomputable def PT (X : Cx) (e : Expr) (t : TT) : Prop :=
 ∀ (pins : List (Addr × Obj)) (s : Shared) (σ : St) (H : Hp) (Q : Bool -> Hp -> Prop), Inv X pins σ H s -> t σ H Q -> wpAny (model X.prog X.w) X.A (isTrue e X.env (eval e X.env)) (TP X pins σ Q) X.xe s
noncomputable def PW (X : Cx) (e : Expr) (t : TT) : Prop :=
 ∀ (whole : Sem Value) (pins : List (Addr × Obj)) (s : Shared) (σ : St) (H : Hp) (Q : Bool -> Hp -> Prop), Inv X pins σ H s -> t σ H Q -> wpAny (model X.prog X.w) X.A (isTrue e X.env whole) (TP X pins σ Q) X.xe s
theorem PW.pt {X : Cx} {e : Expr} {t : TT} (h : PW X e t) : PT X e t := h _
noncomputable def PA (X : Cx) (es : List Expr) (t : TA) : Prop :=
 ∀ (pos : Pos) (pins : List (Addr × Obj)) (s : Shared) (σ : St) (H : Hp) (Q : List V -> Hp -> Prop), Inv X pins σ H s -> t σ H Q -> wpAny (model X.prog X.w) X.A (spliced (backTo pos (starEach es X.env))) (AP X pins σ Q) X.xe s
noncomputable def PS (X : Cx) (st : Stmt) (t : TS) : Prop :=
 ∀ (pins : List (Addr × Obj)) (s : Shared) (σ : St) (H : Hp) (D : Ends), Inv X pins σ H s -> t D σ H -> wpAny (model X.prog X.w) X.A (exec st X.env) (SP X pins D) X.xe s
noncomputable def PSs (X : Cx) (st : List Stmt) (t : TS) : Prop :=
 ∀ (pins : List (Addr × Obj)) (s : Shared) (σ : St) (H : Hp) (D : Ends), Inv X pins σ H s -> t D σ H -> wpAny (model X.prog X.w) X.A (execs st X.env) (SP X pins D) X.xe s
theorem thn {α : Type} {t : Sem α} {Q Q' : α -> Shared -> Prop} {M : Model} {A : Around} {E : Value -> Shared -> Prop} {s : Shared} (h : wpAny M A t Q E s) (hQ : ∀ a s, Q a s -> Q' a s) : wpAny M A t Q' E s := wpAny_mono h hQ fun _ _ x => x
end L2
namespace L2
open PySem PySem.Spec PyProof.Rows
section
variable {X : Cx}
noncomputable def tVar (i : Nat) : TE := fun σ H Q => ∃ v, σ[i]? = some (some v) /\ Q v H
noncomputable def tC (v : V) : TE := fun _ H Q => Q v H
theorem zJ {i : Nat} {x : Str} {pos : Pos} (hN : X.N[i]? = some x) (hv : Vis X.env.scope x) (hd : (x == ("__debug__" : Str)) = false := by decide) (hcd : (x == ("__classdict__" : Str)) = false := by decide) : PE X (.Name x pos) (tVar i) := by
 intro pins s σ H Q I h
 obtain ⟨v, e, h⟩ := h
 obtain ⟨m, hn, hl⟩ := I.loc
 obtain ⟨u, r, l⟩ := hl i x v hN e hv
 have fin : EP X pins σ Q u s := ⟨v, H, I, r, h⟩
 rcases l with ⟨hk, hm⟩ | ⟨hk, c, hc, hcell⟩
 ·exact wpAny_Name (wpAny_loadName_local I.ok.kind hk hn hm fin) hd
 ·rcases hk with hk | hk
  ·exact wpAny_Name (wpAny_loadName_cell I.ok.kind hk hc hcell fin) hd
  ·exact wpAny_Name (wpAny_loadName_free I.ok.kind hk hc hcell fin hcd) hd
theorem AM {i j pos} : PE X (.Constant (.int i) j pos) (tC (.int i)) := fun _ _ _ H _ I h => wpAny_Constant_int ⟨.int i, H, I.tok _, ⟨_, rfl⟩, h⟩
theorem Es {b j pos} : PE X (.Constant (.bool b) j pos) (tC (.bl b)) := fun _ _ _ H _ I h => Constant_bool ⟨.bl b, H, I, rfl, h⟩
theorem AR {j pos} : PE X (.Constant .none j pos) (tC .non) := fun _ _ _ H _ I h => Constant_none ⟨.non, H, I, rfl, h⟩
theorem A2 {x j pos} : PE X (.Constant (.str x) j pos) (tC (.str x)) := fun _ _ _ H _ I h => Calls.Constant_str ⟨.str x, H, I.tok _, ⟨_, rfl⟩, h⟩
noncomputable def Gl (X : Cx) (x : Str) : Prop := X.env.kindOf x = some .globalImplicit
theorem mz {E : Value -> Shared -> Prop} {pins : List (Addr × Obj)} {s : Shared} {σ : St} {H : Hp} {x : Str} {u : Value} {pos : Pos} {Q : Value -> Shared -> Prop} (I : Inv X pins σ H s) (hg : Gl X x) (hm : X.mg x = some u) (h : Q u s)
  (hd : (x == ("__debug__" : Str)) = false := by decide) : wpAny (model X.prog X.w) X.A (eval (.Name x pos) X.env) Q E s :=
 Calls.Name_function_global I.ok.kind hg (Calls.loadGlobal_global (by rw [I.ok.glob]; exact I.mod.glob.keeps I.bk) hm h) hd
theorem jT {E : Value -> Shared -> Prop} {pins : List (Addr × Obj)} {s : Shared} {σ : St} {H : Hp} {x : Str} {u : Value} {pos : Pos} {Q : Value -> Shared -> Prop} (I : Inv X pins σ H s) (hg : Gl X x) (hm : X.mg x = none) (hv : bootBuiltins x = some u) (h : Q u s)
  (hn : x ≠ "__name__" := by decide) (hd : (x == ("__debug__" : Str)) = false := by decide) : wpAny (model X.prog X.w) X.A (eval (.Name x pos) X.env) Q E s := by
 obtain ⟨mb, h1, h2⟩ := I.mod.blt
 exact Calls.Name_function_global I.ok.kind hg (Calls.loadGlobal_builtin (by rw [I.ok.glob]; exact I.mod.glob.keeps I.bk) hm (by rw [I.ok.blt]; exact h1.keeps I.bk) ((h2 x hn).trans hv) h) hd
theorem p8 {x : Str} {v : V} {u : Value} {pos : Pos} (hg : Gl X x) (hm : X.mg x = some u) (r : RelV v u) (hd : (x == ("__debug__" : Str)) = false := by decide) : PE X (.Name x pos) (tC v) :=
 fun _ _ _ H _ I h => mz I hg hm ⟨v, H, I, r, h⟩ hd
theorem zl {x : Str} {v : V} {u : Value} {pos : Pos} (hg : Gl X x) (hm : X.mg x = none) (hv : bootBuiltins x = some u) (r : RelV v u) (hn : x ≠ "__name__" := by decide) (hd : (x == ("__debug__" : Str)) = false := by decide) : PE X (.Name x pos) (tC v) :=
 fun _ _ _ H _ I h => jT I hg hm hv ⟨v, H, I, r, h⟩ hn hd
variable {a b : Expr} {ta tb : TE} {pos : Pos}
noncomputable def tB (t : TE) : TT := fun σ H Q => t σ H fun x H1 => ∃ c, x = .bl c /\ Q c H1
theorem B9 {e : Expr} {t : TE} (h : PE X e t) (he : ∀ whole, isTrue e X.env whole = (do let v <- whole; standAt e.pos; holding [v] (truthy v)) := by intro _; rfl) : PT X e (tB t) := by
 intro pins s σ H Q I hw
 refine isTrue_plain (thn (h pins s σ H _ I hw) fun v s1 ⟨x, H1, I1, r1, q1⟩ => ?_) (he _)
 obtain ⟨d, rfl, q⟩ := q1
 cases r1
 exact wpAny_truthy_bool ⟨H1, I1, q⟩
variable {tA tB' : TT} {gx : List Expr}
noncomputable def tOr (t u : TT) : TT := fun σ H Q => t σ H fun c H1 => if c = true then Q true H1 else u σ H1 Q
noncomputable def tNot (t : TT) : TT := fun σ H Q => t σ H fun c H1 => Q (!c) H1
theorem zP (ha : PT X a tA) : PW X (.BoolOp .Or [a] pos) tA := by
 intro wh pins s σ H Q I h
 refine isTrue_or (thn (ha pins s σ H Q I h) fun c s1 e => ?_)
 cases c with
 | false => exact isTrue_or_nil e
 | true => exact e
theorem Dn (ha : PT X a tA) (hb : PW X (.BoolOp .Or (b :: gx) pos) tB') : PW X (.BoolOp .Or (a :: b :: gx) pos) (tOr tA tB') := by
 intro wh pins s σ H Q I h
 refine isTrue_or (thn (ha pins s σ H _ I h) fun c s1 ⟨H1, I1, q1⟩ => ?_)
 cases c with
 | true => exact ⟨H1, I1, q1⟩
 | false => exact hb wh pins s1 σ H1 Q I1 q1
theorem Ba (ha : PT X a tA) : PT X (.UnaryOp .Not a pos) (tNot tA) := by
 intro pins s σ H Q I h
 exact isTrue_not (ha pins s σ H (fun c H1 => Q (!c) H1) I h)
noncomputable def Fc (ta tb : TE) : TE := fun σ H Q => ta σ H fun x H1 => ∃ c, x = .bl c /\ if c = true then tb σ H1 Q else Q (.bl false) H1
noncomputable def tOrV (ta tb : TE) : TE := fun σ H Q => ta σ H fun x H1 => ∃ c, x = .bl c /\ if c = true then Q (.bl true) H1 else tb σ H1 Q
noncomputable def DH (ta : TE) : TE := fun σ H Q => ta σ H fun x H1 => ∃ c, x = .bl c /\ Q (.bl (!c)) H1
theorem Au {op} {t : TE} (h : PE X a t) : PE X (.BoolOp op [a] pos) t := fun pins s σ H Q I hw => BoolOp_one (h pins s σ H Q I hw)
theorem zY (ha : PE X a ta) (hb : PE X (.BoolOp .And (b :: gx) pos) tb) : PE X (.BoolOp .And (a :: b :: gx) pos) (Fc ta tb) := by
 intro pins s σ H Q I h
 refine BoolOp_and (thn (ha pins s σ H _ I h) fun v s1 ⟨x, H1, I1, r1, q1⟩ => ?_)
 obtain ⟨c, rfl, q1⟩ := q1
 cases r1
 refine wpAny_truthy_bool ?_
 cases c with
 | true => exact hb pins s1 σ H1 Q I1 q1
 | false => exact ⟨.bl false, H1, I1, rfl, q1⟩
theorem E5 (ha : PE X a ta) (hb : PE X (.BoolOp .Or (b :: gx) pos) tb) : PE X (.BoolOp .Or (a :: b :: gx) pos) (tOrV ta tb) := by
 intro pins s σ H Q I h
 refine BoolOp_or (thn (ha pins s σ H _ I h) fun v s1 ⟨x, H1, I1, r1, q1⟩ => ?_)
 obtain ⟨c, rfl, q1⟩ := q1
 cases r1
 refine wpAny_truthy_bool ?_
 cases c with
 | false => exact hb pins s1 σ H1 Q I1 q1
 | true => exact ⟨.bl true, H1, I1, rfl, q1⟩
theorem BO (ha : PE X a ta) : PE X (.UnaryOp .Not a pos) (DH ta) := by
 intro pins s σ H Q I h
 refine UnaryOp_ (thn (ha pins s σ H _ I h) fun v s1 ⟨x, H1, I1, r1, q1⟩ => ?_)
 obtain ⟨c, rfl, q1⟩ := q1
 cases r1
 exact not_of (wpAny_truthy_bool ⟨.bl (!c), H1, I1, rfl, q1⟩)
end
end L2
namespace L2
open PySem PySem.Spec PyProof.Rows
noncomputable def SqL (K : PySem.W.Frag) (H : Hp) (a : Addr) (xs : List V) : Prop :=
 Rd H a (.lst xs) \/
  ∃ (o : Obj) (its : Array Value) (n : Nat), K.lookup a = some o /\ o.cls = .type "list" /\ o.dict = none /\ o.data = .seq its n /\ its.size <= sizeLine /\ Vals xs its.toList
noncomputable def SqT (K : PySem.W.Frag) (H : Hp) (a : Addr) (xs : List V) : Prop :=
 Rd H a (.tup xs) \/
  ∃ (o : Obj) (its : Array Value) (n : Nat), K.lookup a = some o /\ o.cls = .type "tuple" /\ o.data = .seq its n /\ its.size <= sizeLine /\ Vals xs its.toList
noncomputable def absV : Value -> Option V
 | .none => some .non
 | .bool b => some (.bl b)
 | .int i _ => some (.int i)
 | .str x _ => some (.str x)
 | .bytes b _ => some (.byt b)
 | .float b _ => some (.flt b)
 | .ref a => some (.ref a)
 | .type n => some (.ty n)
 | _ => none
theorem RelV.abs {x : V} {u : Value} (r : RelV x u) : absV u = some x := by
 cases x with
 | non => cases r; rfl
 | bl _ => cases r; rfl
 | int _ => obtain ⟨t, rfl⟩ := r; rfl
 | str _ => obtain ⟨t, rfl⟩ := r; rfl
 | byt _ => obtain ⟨t, rfl⟩ := r; rfl
 | flt _ => obtain ⟨t, rfl⟩ := r; rfl
 | ref _ => cases r; rfl
 | ty _ => cases r; rfl
theorem RelV.inj {x y : V} {u : Value} (r : RelV x u) (q : RelV y u) : x = y := Option.some.inj (r.abs.symm.trans q.abs)
theorem Vals.inj {xs ys : List V} {us : List Value} (r : Vals xs us) (q : Vals ys us) : xs = ys := by
 induction r generalizing ys with
 | nil => cases q; rfl
 |
  cons r t ih =>
  cases q with
  | cons q t' => rw [r.inj q, ih t']
section
variable {X : Cx} {pins : List (Addr × Obj)} {σ : St} {H : Hp} {s : Shared} {a : Addr} {xs ys : List V}
theorem SqL.of {K : PySem.W.Frag} (h : H a = some (.lst xs)) : SqL K H a xs := .inl (.inl h)
theorem SqT.of {K : PySem.W.Frag} (h : H a = some (.tup xs)) : SqT K H a xs := .inl (.inl h)
theorem Inv.list (I : Inv X pins σ H s) (h : SqL X.K H a xs) : ∃ its : List Value, Vals xs its /\ PlainL s.heap a its.toArray /\ xs.length <= sizeLine := by
 rcases h with h | ⟨o, its, n, hk, hc, hd, hs, hz, r⟩
 ·obtain ⟨z, its, n, r, e⟩ := h.ok I.hok
  exact ⟨its, r, ⟨_, n, e, rfl, rfl, rfl⟩, z⟩
 ·refine ⟨its.toList, r, ⟨o, n, I.kIn a o hk, hc, hd, by simpa using hs⟩, ?_⟩
  have e := r.length
  simp only [Array.length_toList] at e
  omega
theorem Inv.tuple (I : Inv X pins σ H s) (h : SqT X.K H a xs) : ∃ its : List Value, Vals xs its /\ IsTup s.heap a its.toArray /\ xs.length <= sizeLine := by
 rcases h with h | ⟨o, its, n, hk, hc, hs, hz, r⟩
 ·obtain ⟨z, its, r, p⟩ := h.ok I.hok
  exact ⟨its, r, p, z⟩
 ·refine ⟨its.toList, r, ⟨o, I.kIn a o hk, hc, n, by simpa using hs⟩, ?_⟩
  have e := r.length
  simp only [Array.length_toList] at e
  omega
theorem Inv.list_inj (I : Inv X pins σ H s) (h : SqL X.K H a xs) (h' : SqL X.K H a ys) : xs = ys := by
 obtain ⟨its, r, ⟨o, n, e, _, _, d⟩, _⟩ := I.list h
 obtain ⟨its', r', ⟨o', n', e', _, _, d'⟩, _⟩ := I.list h'
 rw [e] at e'; cases e'
 rw [d] at d'
 injection d' with d1 _
 have : its = its' := by simpa using congrArg Array.toList d1
 subst this
 exact r.inj r'
theorem Inv.tuple_inj (I : Inv X pins σ H s) (h : SqT X.K H a xs) (h' : SqT X.K H a ys) : xs = ys := by
 obtain ⟨its, r, ⟨o, e, _, n, d⟩, _⟩ := I.tuple h
 obtain ⟨its', r', ⟨o', e', _, n', d'⟩, _⟩ := I.tuple h'
 rw [e] at e'; cases e'
 rw [d] at d'
 injection d' with d1 _
 have : its = its' := by simpa using congrArg Array.toList d1
 subst this
 exact r.inj r'
end
section
variable {X : Cx} {pins : List (Addr × Obj)} {σ : St} {H : Hp} {s : Shared} {E : Value -> Shared -> Prop}
end
section
variable {X : Cx} {st : Stmt} {gx : List Stmt} {t u : TS} {e : Expr} {te : TE} {pos : Pos}
noncomputable def CW : TS := fun D σ H => D.nx σ H
noncomputable def tSeq (t u : TS) : TS := fun D σ H => t { D with nx := u D } σ H
theorem yD : PSs X [] CW := fun _ _ σ H _ I h => wpAny_execs_nil ⟨σ, H, I, h⟩
theorem wx (h1 : PS X st t) (h2 : PSs X gx u) : PSs X (st :: gx) (tSeq t u) := by
 intro pins s σ H D I h
 refine wpAny_execs_cons (thn (h1 pins s σ H { D with nx := u D } I h) fun f s1 q => ?_)
 cases f with
 |
  next =>
  obtain ⟨σ', H', I', q⟩ := q
  exact h2 pins s1 σ' H' D I' q
 | ret v => exact q
 | brk => exact q
 | cont => exact q
theorem y7 (h1 : PS X st t) : PSs X [st] t := by
 intro pins s σ H D I h
 refine wpAny_execs_cons (thn (h1 pins s σ H D I h) fun f s1 q => ?_)
 cases f with
 | next => exact wpAny_execs_nil q
 | ret v => exact q
 | brk => exact q
 | cont => exact q
theorem Inv.quiet {pins : List (Addr × Obj)} {σ : St} {H : Hp} {s : Shared} (I : Inv X pins σ H s) : interactive X.env = false := by simp [interactive, I.ok.kind]
noncomputable def Ee (te : TE) : TS := fun D σ H => te σ H fun _ H1 => D.nx σ H1
theorem yq (he : PE X e te) (hs : swapsWith e none pos.line X.env = pure false := by rfl) : PS X (.Expr e pos) (Ee te) := by
 intro pins s σ H D I h
 exact wpAny_Expr_any (thn (he pins s σ H _ I h) fun v s1 ⟨x, H1, I1, r1, q1⟩ => ⟨σ, H1, I1, q1⟩) I.quiet hs
noncomputable def tRet (te : TE) : TS := fun D σ H => te σ H D.rt
theorem Ci (he : PE X e te) : PS X (.Return (some e) pos) (tRet te) := by
 intro pins s σ H D I h
 exact wpAny_Return_some (thn (he pins s σ H _ I h) fun v s1 ⟨x, H1, I1, r1, q1⟩ => ⟨x, σ, H1, I1, r1, q1⟩)
noncomputable def tIfS (c : TT) (t u : TS) : TS := fun D σ H => c σ H fun b H1 => if b = true then t D σ H1 else u D σ H1
theorem DF {c : Expr} {a b : List Stmt} {tc : TT} (hc : PT X c tc) (ha : PSs X a t) (hb : PSs X b u) : PS X (.If c a b pos) (tIfS tc t u) := by
 intro pins s σ H D I h
 refine wpAny_If (thn (hc pins s σ H _ I h) fun d s1 ⟨H1, I1, q1⟩ => ?_)
 cases d with
 | true => exact ha pins s1 σ H1 D I1 q1
 | false => exact hb pins s1 σ H1 D I1 q1
end
abbrev TG := V -> St -> Hp -> (St -> Hp -> Prop) -> Prop
abbrev TGs := List V -> St -> Hp -> (St -> Hp -> Prop) -> Prop
noncomputable def PG (X : Cx) (target : Expr) (t : TG) : Prop :=
 ∀
  (pins : List (Addr × Obj)) (s : Shared) (σ : St) (H : Hp) (v : V) (u : Value) (Q : St -> Hp -> Prop), Inv X pins σ H s -> RelV v u -> t v σ H Q ->
  wpAny (model X.prog X.w) X.A (assign target X.env u) (fun _ s' => ∃ σ' H', Inv X pins σ' H' s' /\ Q σ' H') X.xe s
noncomputable def PGs (X : Cx) (ts : List Expr) (t : TGs) : Prop :=
 ∀
  (pins : List (Addr × Obj)) (s : Shared) (σ : St) (H : Hp) (vs : List V) (us : List Value) (Q : St -> Hp -> Prop), Inv X pins σ H s -> Vals vs us -> t vs σ H Q ->
  wpAny (model X.prog X.w) X.A (assignInOrder ((assignEach ts X.env).map (·.2)) us) (fun _ s' => ∃ σ' H', Inv X pins σ' H' s' /\ Q σ' H') X.xe s
abbrev lZ := V -> V -> V -> Hp -> (Hp -> Prop) -> Prop
noncomputable def so (X : Cx) (t : lZ) : Prop :=
 ∀
  (pins : List (Addr × Obj)) (s : Shared) (σ : St) (H : Hp) (o i v : V) (ov iv u : Value) (Q : Hp -> Prop), Inv X pins σ H s -> RelV o ov -> RelV i iv -> RelV v u -> t o i v H Q ->
  wpAny (model X.prog X.w) X.A (setItem ov iv u) (fun _ s' => ∃ H', Inv X pins σ H' s' /\ Q H') X.xe s
section
variable {X : Cx} {pos : Pos}
noncomputable def lQ (i : Nat) : TG := fun v σ H Q => Q (σ.set i (some v)) H
theorem yt {i : Nat} {x : Str} (hN : X.N.Nodup) (hi : X.N[i]? = some x) (hx : Loc X.env.scope x) (hf : X.fn x = true \/ X.env.scope.names.lookup x = some .local := by first | exact .inl rfl | exact .inr rfl | assumption) : PG X (.Name x pos) (lQ i) := by
 intro pins s σ H v u Q I r h
 exact wpAny_assign_Name (gJ I hN hi hx r (fun s' I' => ⟨_, H, I', h⟩) hf)
noncomputable def gNil : TGs := fun vs σ H Q => vs = [] /\ Q σ H
noncomputable def C7 (t : TG) (u : TGs) : TGs := fun vs σ H Q => ∃ v r, vs = v :: r /\ t v σ H fun σ' H' => u r σ' H' Q
theorem zh : PGs X [] gNil := by
 intro pins s σ H vs us Q I r h
 obtain ⟨e, h⟩ := h
 subst e
 cases r
 exact assignInOrder_nil ⟨σ, H, I, h⟩
theorem wV {e : Expr} {es : List Expr} {t : TG} {u : TGs} (h1 : PG X e t) (h2 : PGs X es u)
  (hs : (assignEach (e :: es) X.env).map (·.2) = assign e X.env :: (assignEach es X.env).map (·.2) := by rfl) : PGs X (e :: es) (C7 t u) := by
 intro pins s σ H vs us Q I r h
 obtain ⟨v, vr, e1, h⟩ := h
 subst e1
 cases r with
 |
  cons r rr =>
  rw [hs]
  refine assignInOrder_cons (thn (h1 pins s σ H _ _ _ I r h) fun _ s1 ⟨σ1, H1, I1, q1⟩ => ?_)
  exact h2 pins s1 σ1 H1 _ _ Q I1 rr q1
noncomputable def gTup (K : PySem.W.Frag) (n : Nat) (t : TGs) : TG := fun v σ H Q => ∃ a xs, v = .ref a /\ SqT K H a xs /\ xs.length = n /\ t xs σ H Q
theorem BP {es : List Expr} {k : Nat} {t : TGs} {n : Nat} (hc : X.calm = true) (h : PGs X es t)
  (hn : (assignEach es X.env).length = n := by rfl) (hst : (assignEach es X.env).findIdx? (·.1) = none := by rfl) : PG X (.Tuple es k pos) (gTup X.K n t) := by
 intro pins s σ H v u Q I r hw
 obtain ⟨a, xs, e1, hq, hl, hw⟩ := hw
 subst e1
 cases r
 obtain ⟨its, rv, ht, hz⟩ := I.tuple hq
 refine assign_Tuple_tuple (I.ok.hd hc) ht (by simp [hn, <- hl, rv.length]) hst fun h' hx => ?_
 have I1 : Inv X pins σ H { s with heap := h' } := I.kept (t' := s.toks) fun b o e => hx b o (Nat.ne_of_lt (Heap.lt_size e)) e
 exact h pins _ σ H xs _ Q I1 (by simpa using rv) hw
noncomputable def gSub (to ti : TE) (t : lZ) : TG := fun v σ H Q => to σ H fun o H1 => ti σ H1 fun i H2 => t o i v H2 fun H3 => Q σ H3
theorem Ap {o i : Expr} {to ti : TE} {t : lZ} (ho : PE X o to) (hi : PE X i ti) (hs : so X t)
  (ha : ∀ v, assign (.Subscript o i pos) X.env v = (do
   let ov <- holding [v] (eval o X.env)
   let iv <- holding [v, ov] (eval i X.env)
   standAt pos
   holding [v, ov, iv] (setItem ov iv v)
   release [v, ov, iv] []) := by intro _; rfl) : PG X (.Subscript o i pos) (gSub to ti t) := by
 intro pins s σ H v u Q I r h
 rw [ha]
 refine wpAny_bind (wpAny_holding (thn (ho pins s σ H _ I h) fun ov s1 ⟨x, H1, I1, r1, q1⟩ => ?_))
 refine wpAny_bind (wpAny_holding (thn (hi pins s1 σ H1 _ I1 q1) fun iv s2 ⟨y, H2, I2, r2, q2⟩ => ?_))
 refine wpAny_bind (wpAny_standAt (wpAny_bind (wpAny_holding (thn (hs pins s2 σ H2 x y v ov iv u _ I2 r1 r2 r q2) fun _ s3 ⟨H3, I3, q3⟩ => ?_))))
 exact wpAny_release ⟨σ, H3, I3, q3⟩
noncomputable def nY (te : TE) (g : TG) : TS := fun D σ H => te σ H fun x H1 => g x σ H1 D.nx
theorem Bg {tg e : Expr} {te : TE} {g : TG} (he : PE X e te) (hg : PG X tg g) (hs : swapsWithSole [tg] e pos.line X.env = pure false := by rfl) (hw : swappedStores [tg] e X.env = pure none := by rfl)
  (h1 : (assignEach [tg] X.env).map (·.2) = [assign tg X.env] := by rfl) : PS X (.Assign [tg] e pos) (nY te g) := by
 intro pins s σ H D I h
 refine wpAny_Assign_stores (thn (he pins s σ H _ I h) fun v s1 ⟨x, H1, I1, r1, q1⟩ => ?_) hs hw
 rw [h1]
 exact thn (hg pins s1 σ H1 x v _ I1 r1 q1) fun _ s2 q => q
theorem AF {i : Nat} {x : Str} {e : Expr} {te : TE} {pos' : Pos} (hN : X.N.Nodup) (hi : X.N[i]? = some x) (hx : Loc X.env.scope x) (he : PE X e te) (hs : swapsWith e (some (.Name x pos')) pos.line X.env = pure false := by rfl) (hf : X.fn x = true \/ X.env.scope.names.lookup x = some .local := by first | exact .inl rfl | exact .inr rfl | assumption) :
  PS X (.Assign [.Name x pos'] e pos) (nY te (lQ i)) := by
 intro pins s σ H D I h
 refine wpAny_Assign_Name (thn (he pins s σ H _ I h) fun v s1 ⟨y, H1, I1, r1, q1⟩ => ?_) hs
 exact gJ I1 hN hi hx r1 (fun s2 I2 => ⟨_, H1, I2, q1⟩) hf
noncomputable def tPar (i j : Nat) (ta : TA) : TS := fun D σ H => ta σ H fun vs H1 => ∃ v w, vs = [v, w] /\ D.nx ((σ.set i (some v)).set j (some w)) H1
theorem
    BK {i j : Nat} {x y : Str} {a b : Expr} {ta : TA} {px py pt : Pos} {kt k2 pt2} (hc : X.calm = true) (hN : X.N.Nodup) (hi : X.N[i]? = some x) (hj : X.N[j]? = some y) (hij : i ≠ j)
  (hx : X.env.scope.names.lookup x = some .local) (hy : X.env.scope.names.lookup y = some .local) (ha : PA X [a, b] ta)
  (hw : swappedStores [.Tuple [.Name x px, .Name y py] kt pt] (.Tuple [a, b] k2 pt2) X.env = pure (some [x, y]))
  (hs : swapsWithSole [.Tuple [.Name x px, .Name y py] kt pt] (.Tuple [a, b] k2 pt2) pos.line X.env = pure false := by rfl) :
  PS X (.Assign [.Tuple [.Name x px, .Name y py] kt pt] (.Tuple [a, b] k2 pt2) pos) (tPar i j ta) := by
 intro pins s σ H D I h
 rw [exec_Assign_arm]
 refine wpAny_bind (wpAny_standAt ?_)
 rw [hs]
 refine wpAny_bind (wpAny_pure ?_)
 rw [if_neg (by decide)]
 refine wpAny_bind (Tuple_ (thn (ha _ pins s σ H _ I h) fun us s1 ⟨vs, H1, I1, r1, q1⟩ => ?_))
 obtain ⟨v, w, e1, q1⟩ := q1
 subst e1
 obtain ⟨u1, u2, rfl, rv, rw'⟩ : ∃ u1 u2, us = [u1, u2] /\ RelV v u1 /\ RelV w u2 := by
  cases r1 with
  |
   cons p q =>
   cases q with
   |
    cons p' q' =>
    cases q'
    exact ⟨_, _, rfl, p, p'⟩
 refine wpAny_newObj_type ?_ (by show 2 <= sizeLine; decide)
 have I2 : Inv X pins σ H1 { s1 with heap := s1.heap.push { cls := .type "tuple", data := .seq [u1, u2].toArray } } := I1.kept (t' := s1.toks) fun b o e => Heap.get?_push_of_some _ e
 rw [hw]
 refine wpAny_bind (wpAny_pure ?_)
 show wpAny (model X.prog X.w) X.A (do rule "assign.swapped-stores"; let items <- unpackItems (.ref s1.heap.objs.size) 2 none; assignInOrder [fun v => bindName X.env y v, fun v => bindName X.env x v] items.reverse; pure Flow.next) _ _ _
 refine wpAny_bind (wpAny_rule (wpAny_bind (unpackItems_tuple (items := #[u1, u2]) (I.ok.hd hc) (IsTup.new s1.heap _) fun h' hx' => ?_)))
 have I3 := I2.kept (h' := h') (t' := s1.toks) fun b o e => hx' b o (Nat.ne_of_lt (Heap.lt_size e)) e
 show wpAny _ _ (assignInOrder [fun v => bindName X.env y v, fun v => bindName X.env x v] [u2, u1] >>= fun _ => pure Flow.next) _ _ _
 refine wpAny_bind (assignInOrder_cons (wpAny_bindName (gJ I3 hN hj (.inl hy) rw' (fun s2 I4 => ?_) (.inr hy))))
 refine assignInOrder_cons (wpAny_bindName (gJ I4 hN hi (.inl hx) rv (fun s3 I5 => assignInOrder_nil (wpAny_pure ?_)) (.inr hx)))
 rw [List.set_comm _ _ (Ne.symm hij)] at I5
 exact ⟨_, H1, I5, q1⟩
end
section
variable {X : Cx} {pos : Pos}
noncomputable def CF (c : TT) (tb : TS) : TS := fun D σ H => ∃ W : Nat -> St -> Hp -> Prop, (∃ m, W m σ H) /\ ∀ m σ H, W m σ H ->
 c σ H fun b H1 => if b = true then ∃ N : St -> Hp -> Prop, (∀ σ' H', N σ' H' -> ∃ m', m' < m /\ W m' σ' H') /\ tb { D with nx := N, ct := N, bk := D.nx } σ H1 else D.nx σ H1
theorem vv {c : Expr} {body : List Stmt} {tc : TT} {tb : TS} (hp : PassesOwn (model X.prog X.w) X.A X.env X.xe) (hc : PT X c tc) (hb : PSs X body tb) : PS X (.While c body [] pos) (CF tc tb) := by
 intro pins s σ H D I h
 obtain ⟨W, ⟨m0, w0⟩, turn⟩ := h
 refine wpAny_While (codeAny_whileLoop (fun n s' => ∃ σ' H', Inv X pins σ' H' s' /\ W n σ' H') ?_ m0 ⟨σ, H, I, w0⟩)
 rintro n s1 ⟨σ1, H1, I1, w1⟩
 refine wpAny_passesOwn hp (thn (hc pins s1 σ1 H1 _ I1 (turn n σ1 H1 w1)) fun b s2 ⟨H2, I2, q2⟩ => ?_)
 cases b with
 |
  true =>
  obtain ⟨N, hN, q2⟩ := q2
  rw [if_pos rfl]
  refine wpAny_passesOwn hp (thn (hb pins s2 σ1 H2 _ I2 q2) fun f s3 q3 => ?_)
  cases f with
  |
   next =>
   obtain ⟨σ3, H3, I3, n3⟩ := q3
   obtain ⟨m', hm, w3⟩ := hN σ3 H3 n3
   exact ⟨m', hm, σ3, H3, I3, w3⟩
  |
   cont =>
   obtain ⟨σ3, H3, I3, n3⟩ := q3
   obtain ⟨m', hm, w3⟩ := hN σ3 H3 n3
   exact ⟨m', hm, σ3, H3, I3, w3⟩
  | brk => exact q3
  | ret v => exact q3
 |
  false =>
  rw [if_neg Bool.false_ne_true]
  exact wpAny_execs_nil ⟨σ1, H2, I2, q2⟩
end
structure It where
 go : Nat -> Hp -> Prop
 yld : Nat -> Hp -> V -> Hp -> Prop
 stop : Nat -> Hp -> Prop
noncomputable def FpOk (X : Cx) (pins : List (Addr × Obj)) (H : Hp) (b : Addr) : Prop :=
 H b = none /\ b ≠ X.env.locals /\ b ∉ X.fs /\ (b ∈ X.ex \/ X.s₀.heap.objs.size <= b) /\ (∀ x c, X.env.cells.lookup x = some c -> c ≠ b) /\ ∀ p ∈ X.pn ++ pins, p.1 ≠ b
theorem Inv.fpOk {X : Cx} {pins : List (Addr × Obj)} {σ : St} {H H' : Hp} {s : Shared} {b : Addr} (I : Inv X pins σ H s) (hb : s.heap.objs.size <= b) (hn : H' b = none) : FpOk X pins H' b := by
 refine ⟨hn, Nat.ne_of_gt (Nat.lt_of_lt_of_le I.lt hb), I.nofs hb, .inr (Nat.le_trans I.sz hb), fun x c e z => ?_, fun p hp z => ?_⟩
 ·obtain ⟨v, q⟩ := I.cell x c e
  exact absurd (Nat.lt_of_lt_of_le q.lt (by rw [z]; exact hb)) (Nat.lt_irrefl _)
 ·exact absurd (Nat.lt_of_lt_of_le (Heap.lt_size (I.pin p hp).1) (by rw [z]; exact hb)) (Nat.lt_irrefl _)
structure Turn (P : Program) (w : World) (K : PySem.W.Frag) (tg : Expr) (J : It) (fp : List Addr) (it : Addr) (tn : Nat -> Heap -> Prop) : Prop where
 mem : it ∈ fp
 obj : ∀ i h, tn i h -> ∀ b ∈ fp, ∃ o, h.get? b = some o /\ ∀ v, o.data ≠ .cell v
 keep : ∀ i h h', tn i h -> (∀ b ∈ fp, ∀ o, h.get? b = some o -> h'.get? b = some o) -> tn i h'
 item : ∀ (X : Cx), X.prog = P -> X.w = w -> X.K = K -> X.calm = true -> ∀ (i : Nat) (pins : List (Addr × Obj)) (s : Shared) (σ : St) (H : Hp) (E : Value -> Shared -> Prop), Inv X pins σ H s -> (∀ b ∈ fp, FpOk X pins H b) -> tn i s.heap -> J.go i H ->
  wpAny (model P w) X.A (pyNext (.ref it)) (fun r s1 => ∃ u, r = some u /\
   wpAny (model P w) X.A (letOwnedTupleGo tg (.ref it) u) (fun _ s2 => ∃ x H', Inv X pins σ H' s2 /\ RelV x u /\ J.yld i H x H' /\ tn (i + 1) s2.heap /\ ∀ b ∈ fp, H' b = none) E s1) E s
 done : ∀ (X : Cx), X.prog = P -> X.w = w -> X.K = K -> X.calm = true -> ∀ (i : Nat) (pins : List (Addr × Obj)) (s : Shared) (σ : St) (H : Hp) (E : Value -> Shared -> Prop), Inv X pins σ H s -> (∀ b ∈ fp, FpOk X pins H b) -> tn i s.heap -> J.stop i H ->
  wpAny (model P w) X.A (pyNext (.ref it)) (fun r s1 => r = none /\ Inv X pins σ H s1) E s
 self : ∀ (A : Around) (i : Nat) (s : Shared) (Q : Value -> Shared -> Prop) (E : Value -> Shared -> Prop), tn i s.heap -> Q (.ref it) s -> wpAny (model P w) A (pyIter (.ref it)) Q E s
abbrev TI := St -> Hp -> (It -> Hp -> Prop) -> Prop
noncomputable def PIE (X : Cx) (pins : List (Addr × Obj)) (σ : St) (tg : Expr) (R : It -> Hp -> Prop) (itv : Value) (s2 : Shared) : Prop :=
 ∃ (it : Addr) (fp : List Addr) (tn : Nat -> Heap -> Prop) (J : It) (H' : Hp), itv = .ref it /\ Inv X pins σ H' s2 /\ Turn X.prog X.w X.K tg J fp it tn /\ tn 0 s2.heap /\ (∀ b ∈ fp, FpOk X pins H' b) /\ R J H'
noncomputable def PI (X : Cx) (tg iter : Expr) (wi : TI) : Prop :=
 ∀
  (pins : List (Addr × Obj)) (s : Shared) (σ : St) (H : Hp) (R : It -> Hp -> Prop), Inv X pins σ H s -> wi σ H R ->
  wpAny (model X.prog X.w) X.A (eval iter X.env) (fun v s1 => wpAny (model X.prog X.w) X.A (pyIter v) (PIE X pins σ tg R) X.xe s1) X.xe s
theorem rk {M : Model} {A : Around} {E : Value -> Shared -> Prop} {s : Shared} {tg : Expr} {it : Addr} {u : Value} {o : Obj} {n : String} {vs : Array Value} {Q : Unit -> Shared -> Prop} (ho : s.heap.get? it = some o) (hc : o.cls = .type n) (hd : o.data = .fields vs)
  (hn : ["enumerate", "zip", "dict_itemiterator", "dict_reverseitemiterator", "odict_iterator", "itertools.zip_longest", "itertools.pairwise"].contains n = false) (hQ : Q () s) : wpAny M A (letOwnedTupleGo tg (.ref it) u) Q E s := by
 unfold letOwnedTupleGo
 cases tg
      <;> first
  | exact wpAny_pure hQ
  | (cases u <;> first
    | exact wpAny_pure hQ
    | (
      refine wpAny_bind (wpAny_load ho ?_)
      rw [hc, hd]
      show wpAny M A (if (["enumerate", "zip", "dict_itemiterator", "dict_reverseitemiterator", "odict_iterator", "itertools.zip_longest", "itertools.pairwise"].contains n && vs[0]? == some (rawInt _)) = true then _ else _) Q E s
      rw [if_neg (by intro h; rw [hn, Bool.false_and] at h; cases h)]
      exact wpAny_pure hQ))
noncomputable def Itl (K : PySem.W.Frag) (a : Addr) : It :=
 ⟨fun i H => ∃ xs x, SqL K H a xs /\ xs[i]? = some x, fun i H x H' => H' = H /\ ∀ xs, SqL K H a xs -> xs[i]? = some x, fun i H => ∃ xs, SqL K H a xs /\ xs.length <= i⟩
noncomputable def Itt (K : PySem.W.Frag) (a : Addr) : It :=
 ⟨fun i H => ∃ xs x, SqT K H a xs /\ xs[i]? = some x, fun i H x H' => H' = H /\ ∀ xs, SqT K H a xs -> xs[i]? = some x, fun i H => ∃ xs, SqT K H a xs /\ xs.length <= i⟩
noncomputable def Itr (lo : Int) (n : Nat) : It := ⟨fun i _ => i < n, fun i H x H' => H' = H /\ x = .int (lo + i), fun i _ => n <= i⟩
theorem uk {P : Program} {w : World} {K : PySem.W.Frag} {tg : Expr} (a it : Addr) : Turn P w K tg (Itl K a) [it] it (fun i h => h.IsListIter it a i) where
 mem := by simp
 obj := fun i h st b hb => by
  have e : b = it := by simpa using hb
  subst e
  obtain ⟨o, e, c, d⟩ := st
  exact ⟨o, e, fun v z => by rw [d] at z; cases z⟩
 keep := fun i h h' st k => st.at fun o e => k it (by simp) o e
 item := by
  intro X hP hw hK hc i pins s σ H E I hf st hg
  subst hP hw hK
  obtain ⟨xs, x, hq, hx⟩ := hg
  obtain ⟨its, rv, p, hz⟩ := I.list hq
  obtain ⟨u, hu, ru⟩ := rv.get hx
  obtain ⟨f0, f1, f2, f3, f4, f5⟩ := hf it (by simp)
  refine wpAny_pyNext_list_item st p.isList (x := u) (by simpa using hu) fun h' st' sb => ?_
  have I1 : Inv X pins σ H { s with heap := h' } := I.turned (t' := s.toks) (fun b o hb e => (sb.2 b hb).trans e) f0 f1 f3 f4 f5
  obtain ⟨o, e, c, d⟩ := id st'
  exact ⟨u, rfl, rk (s := { s with heap := h' }) e c d (by decide) ⟨x, H, I1, ru, ⟨rfl, fun ys hy => by rw [I.list_inj hy hq]; exact hx⟩, st', fun b hb => (hf b hb).1⟩⟩
 done := by
  intro X hP hw hK hc i pins s σ H E I hf st hg
  subst hP hw hK
  obtain ⟨xs, hq, hx⟩ := hg
  obtain ⟨its, rv, p, hz⟩ := I.list hq
  obtain ⟨f0, f1, f2, f3, f4, f5⟩ := hf it (by simp)
  have hl := rv.length
  exact wpAny_pyNext_list_end (I.ok.hd hc) st p.isList (by simp; omega) fun h' eb => ⟨rfl, I.turned (t' := s.toks) (fun b o hb e => eb b o hb e) f0 f1 f3 f4 f5⟩
 self := fun _ _ _ _ _ st h => wpAny_pyIter_listiter st h
theorem sg {P : Program} {w : World} {K : PySem.W.Frag} {tg : Expr} (a it : Addr) : Turn P w K tg (Itt K a) [it] it (fun i h => h.IsTupleIter it a i) where
 mem := by simp
 obj := fun i h st b hb => by
  have e : b = it := by simpa using hb
  subst e
  obtain ⟨o, e, c, d⟩ := st
  exact ⟨o, e, fun v z => by rw [d] at z; cases z⟩
 keep := fun i h h' st k => st.at fun o e => k it (by simp) o e
 item := by
  intro X hP hw hK hc i pins s σ H E I hf st hg
  subst hP hw hK
  obtain ⟨xs, x, hq, hx⟩ := hg
  obtain ⟨its, rv, p, hz⟩ := I.tuple hq
  obtain ⟨u, hu, ru⟩ := rv.get hx
  obtain ⟨f0, f1, f2, f3, f4, f5⟩ := hf it (by simp)
  refine wpAny_pyNext_tuple_item st (show s.heap.IsTuple a its.toArray from p) (x := u) (by simpa using hu) fun h' st' sb => ?_
  have I1 : Inv X pins σ H { s with heap := h' } := I.turned (t' := s.toks) (fun b o hb e => (sb.2 b hb).trans e) f0 f1 f3 f4 f5
  obtain ⟨o, e, c, d⟩ := id st'
  exact ⟨u, rfl, rk (s := { s with heap := h' }) e c d (by decide) ⟨x, H, I1, ru, ⟨rfl, fun ys hy => by rw [I.tuple_inj hy hq]; exact hx⟩, st', fun b hb => (hf b hb).1⟩⟩
 done := by
  intro X hP hw hK hc i pins s σ H E I hf st hg
  subst hP hw hK
  obtain ⟨xs, hq, hx⟩ := hg
  obtain ⟨its, rv, p, hz⟩ := I.tuple hq
  obtain ⟨f0, f1, f2, f3, f4, f5⟩ := hf it (by simp)
  have hl := rv.length
  exact wpAny_pyNext_tuple_end (I.ok.hd hc) st (show s.heap.IsTuple a its.toArray from p) (by simp; omega) fun h' eb => ⟨rfl, I.turned (t' := s.toks) (fun b o hb e => eb b o hb e) f0 f1 f3 f4 f5⟩
 self := fun _ _ _ _ _ st h => wpAny_pyIter_tupleiter st h
theorem rR {P : Program} {w : World} {K : PySem.W.Frag} {tg : Expr} (it : Addr) (lo : Int) (n : Nat) : Turn P w K tg (Itr lo n) [it] it (fun i h => IsRangeIter h it (lo + (i : Nat) * 1) ((n : Int) - (i : Nat)) 1) where
 mem := by simp
 obj
   := fun i h st b hb => by
  have e : b = it := by simpa using hb
  subst e
  exact ⟨_, st, fun v z => by
   have z' : Data.fields _ = Data.cell v := z
   cases z'⟩
 keep := fun i h h' st k => k it (by simp) _ st
 item := by
  intro X hP hw hK hc i pins s σ H E I hf st hg
  subst hP hw hK
  obtain ⟨f0, f1, f2, f3, f4, f5⟩ := hf it (by simp)
  have W := Walks.range (prog := X.prog) (w := X.w) (I.ok.hd hc) it lo 1 n
  refine W.item i s _ _ hg st fun v h' tk hv st' kk => ?_
  obtain ⟨t, rfl⟩ := hv
  have I1 : Inv X pins σ H { s with heap := h', toks := tk } := I.turned (fun b o hb e => kk b o (by simpa using hb) e) f0 f1 f3 f4 f5
  refine ⟨_, rfl, rk (s := { s with heap := h', toks := tk }) (n := "range_iterator") st' rfl rfl (by decide) ⟨.int (lo + i), H, I1, ⟨t, ?_⟩, ⟨rfl, rfl⟩, st', fun b hb => (hf b hb).1⟩⟩
  rw [Int.mul_one]
 done := by
  intro X hP hw hK hc i pins s σ H E I hf st hg
  subst hP hw hK
  obtain ⟨f0, f1, f2, f3, f4, f5⟩ := hf it (by simp)
  exact wpAny_pyNext_range_end (I.ok.hd hc) st (by have : n <= i := hg; omega) fun h' eb => ⟨rfl, I.turned (t' := s.toks) (fun b o hb e => eb b o hb e) f0 f1 f3 f4 f5⟩
 self := fun _ _ _ _ _ st h => wpAny_pyIter_rangeiter st h
end L2
namespace L2
open PySem PySem.Spec PyProof.Rows
section
variable {X : Cx} {tg : Expr}
theorem uJ {pins : List (Addr × Obj)} {σ : St} {H : Hp} {s : Shared} {R : It -> Hp -> Prop} {E : Value -> Shared -> Prop} {lo hi : Int} {t u v : Tok} {tk : Nat} (I : Inv X pins σ H s) (h1 : -(2 ^ 62) <= lo) (h2 : lo < 2 ^ 62) (h3 : -(2 ^ 62) <= hi) (h4 : hi < 2 ^ 62)
  (q : R (Itr lo (hi - lo).toNat) H) : wpAny (model X.prog X.w) X.A (pyIter (.ref s.heap.objs.size)) (PIE X pins σ tg R) E { s with heap := s.heap.push { cls := .type "range", data := .fields #[.int lo t, .int hi u, .int 1 v] }, toks := tk } := by
 refine wpAny_pyIter_range (IsRange.new ..) (small_one h1 h2 h3 h4) ?_
 have I1 : Inv X pins σ H { s with heap := s.heap.push { cls := .type "range", data := .fields #[.int lo t, .int hi u, .int 1 v] }, toks := tk } := I.kept fun b o e => Heap.get?_push_of_some _ e
 refine ⟨(s.heap.push { cls := .type "range", data := .fields #[.int lo t, .int hi u, .int 1 v] }).objs.size, [(s.heap.push { cls := .type "range", data := .fields #[.int lo t, .int hi u, .int 1 v] }).objs.size], _, _, H, rfl,
  I1.kept (t' := tk) fun b o e => Heap.get?_push_of_some _ e, rR _ lo (hi - lo).toNat, ?_, fun b hb => ?_, q⟩
 ·have e1 : lo + ((0 : Nat) : Int) * 1 = lo := by simp
  have e2 : (((hi - lo).toNat : Nat) : Int) - ((0 : Nat) : Int) = Builtin.Range.rangeSize lo hi 1 := by rw [rangeSize_one]; split <;> omega
  show IsRangeIter _ _ (lo + ((0 : Nat) : Int) * 1) ((((hi - lo).toNat : Nat) : Int) - ((0 : Nat) : Int)) 1
  rw [e1, e2]
  exact Heap.get?_push_size _ rfl
 ·have e : b = (s.heap.push { cls := .type "range", data := .fields #[.int lo t, .int hi u, .int 1 v] }).objs.size := by simpa using hb
  subst e
  exact I1.fpOk (Nat.le_refl _) (I1.hok.fresh (Nat.le_refl _))
noncomputable def EG (ta : TA) : TI := fun σ H R => ta σ H fun vs H1 => ∃ j : Int, vs = [.int j] /\ -(2 ^ 62) <= j /\ j < 2 ^ 62 /\ R (Itr 0 j.toNat) H1
theorem uv {a : Expr} {ta : TA} {p pos : Pos} (hg : Gl X "range") (hm : X.mg "range" = none) (ha : PA X [a] ta) (hs : starEach [a] X.env = [(false, eval a X.env)] := by rfl) : PI X tg (.Call (.Name "range" p) [a] [] pos) (EG ta) := by
 intro pins s σ H R I h
 refine Call_ (jT I hg hm boot_range (PyProof.Rows.callWith_type1 (thn (ha pos pins s σ H _ I h) fun us s1 ⟨vs, H1, I1, r1, q1⟩ => ?_) hs rfl))
 obtain ⟨j, e, q1, q2, q⟩ := q1
 subst e
 cases r1 with
 |
  cons r rr =>
  cases rr
  obtain ⟨t, rfl⟩ := r
  exact call_range_1 (uJ I1 (by omega) (by omega) q1 q2 (by simpa using q))
noncomputable def tFor (wi : TI) (g : TG) (tb : TS) : TS := fun D σ H => wi σ H fun J H1 => ∃ W : Nat -> Nat -> St -> Hp -> Prop, (∃ m, W 0 m σ H1) /\ ∀ i m σ H, W i m σ H ->
 (J.stop i H /\ D.nx σ H) \/ (J.go i H /\ ∃ N : St -> Hp -> Prop, (∀ σ' H', N σ' H' -> ∃ m', m' < m /\ W (i + 1) m' σ' H') /\ ∀ x H', J.yld i H x H' -> g x σ H' fun σ2 H2 => tb { D with nx := N, ct := N, bk := D.nx } σ2 H2)
noncomputable def iL (fp : List Addr) (h : Heap) : List (Addr × Obj) := fp.filterMap fun b => (h.get? b).map fun o => (b, o)
theorem dM {fp : List Addr} {h : Heap} {b : Addr} {o : Obj} (hb : b ∈ fp) (e : h.get? b = some o) : (b, o) ∈ iL fp h := List.mem_filterMap.mpr ⟨b, hb, by rw [e]; rfl⟩
theorem tP {fp : List Addr} {h : Heap} {p : Addr × Obj} (hp : p ∈ iL fp h) : p.1 ∈ fp /\ h.get? p.1 = some p.2 := by
 obtain ⟨b, hb, e⟩ := List.mem_filterMap.mp hp
 cases q : h.get? b with
 | none => rw [q] at e; cases e
 |
  some o =>
  rw [q] at e
  have e' : (b, o) = p := Option.some.inj e
  subst e'
  exact ⟨hb, q⟩
theorem Inv.pinned {pins : List (Addr × Obj)} {σ : St} {H : Hp} {s : Shared} {fp : List Addr} (I : Inv X pins σ H s) (hf : ∀ b ∈ fp, FpOk X pins H b) (ho : ∀ b ∈ fp, ∃ o, s.heap.get? b = some o /\ ∀ v, o.data ≠ .cell v) : Inv X (pins ++ iL fp s.heap) σ H s :=
 I.pins_of fun p hp => (List.mem_append.mp hp).elim (fun z => I.pin p (List.mem_append_right _ z)) fun z => by
  obtain ⟨hb, e⟩ := tP z
  obtain ⟨f0, f1, f2, _⟩ := hf p.1 hb
  obtain ⟨o, e', d⟩ := ho p.1 hb
  rw [e] at e'; cases e'
  exact ⟨e, f0, f1, f2, d⟩
theorem Inv.unpinned {pins pl : List (Addr × Obj)} {σ : St} {H : Hp} {s : Shared} (I : Inv X (pins ++ pl) σ H s) : Inv X pins σ H s := I.pins_of fun p hp => I.pin p (List.mem_append_right _ (List.mem_append_left _ hp))
theorem A8 {iter : Expr} {body : List Stmt} {wi : TI} {g : TG} {tb : TS} {pos : Pos} (hp : PassesOwn (model X.prog X.w) X.A X.env X.xe) (hc : X.calm = true) (hi : PI X tg iter wi) (hg : PG X tg g) (hb : PSs X body tb)
  (hs : ∀ x, foldedSetIterable iter X.env x = pure x := by intro _; rfl) : PS X (.For tg iter body [] pos) (tFor wi g tb) := by
 intro pins s σ H D I h
 refine wpAny_For (thn (hi pins s σ H _ I h) fun v s1 h1 => thn h1 fun itv s2 h2 => ?_) hs
 obtain ⟨it, fp, tn, J, H2, e, I2, T, st2, f2, W, ⟨m0, w0⟩, turn⟩ := h2
 subst e
 have stat : ∀ {H' : Hp}, (∀ b ∈ fp, H' b = none) -> ∀ b ∈ fp, FpOk X pins H' b := fun hn b hb => ⟨hn b hb, (f2 b hb).2⟩
 refine codeAny_forLoop_any (fun n s' => ∃ i σ' H', Inv X pins σ' H' s' /\ tn i s'.heap /\ (∀ b ∈ fp, H' b = none) /\ W i n σ' H') ?_ m0 ⟨0, σ, H2, I2, st2, fun b hb => (f2 b hb).1, w0⟩
 rintro n s3 ⟨i, σ3, H3, I3, st3, fr3, w3⟩
 rcases turn i n σ3 H3 w3 with ⟨stop, qn⟩ | ⟨go, N, hN, step⟩
 ·refine wpAny_passesOwn hp (thn (T.done X rfl rfl rfl hc i pins s3 σ3 H3 X.xe I3 (stat fr3) st3 stop) fun r s4 ⟨hr, I4⟩ => ?_)
  subst hr
  exact wpAny_execs_nil ⟨σ3, H3, I4, qn⟩
 ·refine wpAny_passesOwn hp (thn (T.item X rfl rfl rfl hc i pins s3 σ3 H3 X.xe I3 (stat fr3) st3 go) fun r s4 ⟨u, hr, h4⟩ => ?_)
  subst hr
  refine wpAny_passesOwn hp (thn h4 fun _ s5 ⟨x, H5, I5, r5, y5, st5, fr5⟩ => ?_)
  have I5' := I5.pinned (stat fr5) (T.obj _ _ st5)
  refine wpAny_passesOwn hp (thn (hg _ s5 σ3 H5 x u _ I5' r5 (step x H5 y5)) fun _ s6 ⟨σ6, H6, I6, q6⟩ => ?_)
  refine wpAny_passesOwn hp (thn (hb _ s6 σ6 H6 _ I6 q6) fun f s7 q7 => ?_)
  have again : ∀ {σ7 : St} {H7 : Hp}, Inv X (pins ++ iL fp s5.heap) σ7 H7 s7 -> N σ7 H7 -> ∃ m, m < n /\ ∃ i σ' H', Inv X pins σ' H' s7 /\ tn i s7.heap /\ (∀ b ∈ fp, H' b = none) /\ W i m σ' H' := fun {σ7 H7} I7 n7 => by
   obtain ⟨m', hm, w7⟩ := hN σ7 H7 n7
   refine ⟨m', hm, i + 1, σ7, H7, I7.unpinned, T.keep _ _ _ st5 fun b hb o e => (I7.pin (b, o) (List.mem_append_right _ (List.mem_append_right _ (dM hb e)))).1, fun b hb => ?_, w7⟩
   obtain ⟨o, e, d⟩ := T.obj _ _ st5 b hb
   exact (I7.pin (b, o) (List.mem_append_right _ (List.mem_append_right _ (dM hb e)))).2.1
  cases f with
  | next => obtain ⟨σ7, H7, I7, n7⟩ := q7; exact again I7 n7
  | cont => obtain ⟨σ7, H7, I7, n7⟩ := q7; exact again I7 n7
  | brk => obtain ⟨σ7, H7, I7, q7⟩ := q7; exact ⟨σ7, H7, I7.unpinned, q7⟩
  | ret v => obtain ⟨x7, σ7, H7, I7, r7, q7⟩ := q7; exact ⟨x7, σ7, H7, I7.unpinned, r7, q7⟩
end
end L2
namespace L2
open PySem PySem.Spec PyProof.Rows
abbrev R2 := V -> V -> Hp -> VK -> Prop
noncomputable def OpR (X : Cx) (f : Value -> Value -> Sem Value) (r : R2) : Prop :=
 ∀
  (pins : List (Addr × Obj)) (s : Shared) (σ : St) (H : Hp) (x y : V) (v u : Value) (Q : VK), Inv X pins σ H s -> RelV x v -> RelV y u -> r x y H Q ->
  wpAny (model X.prog X.w) X.A (f v u) (EP X pins σ Q) X.xe s
noncomputable def UnR (X : Cx) (f : Value -> Sem Value) (r : V -> Hp -> VK -> Prop) : Prop :=
 ∀
  (pins : List (Addr × Obj)) (s : Shared) (σ : St) (H : Hp) (x : V) (v : Value) (Q : VK), Inv X pins σ H s -> RelV x v -> r x H Q ->
  wpAny (model X.prog X.w) X.A (f v) (EP X pins σ Q) X.xe s
noncomputable def CallR (X : Cx) (f : Value) (r : List V -> Hp -> VK -> Prop) : Prop :=
 ∀
  (pins : List (Addr × Obj)) (s : Shared) (σ : St) (H : Hp) (xs : List V) (us : List Value) (Q : VK), Inv X pins σ H s -> Vals xs us -> r xs H Q ->
  wpAny (model X.prog X.w) X.A (call f us) (EP X pins σ Q) X.xe s
noncomputable def TruR (X : Cx) (r : V -> Hp -> (Bool -> Hp -> Prop) -> Prop) : Prop :=
 ∀
  (pins : List (Addr × Obj)) (s : Shared) (σ : St) (H : Hp) (x : V) (v : Value) (Q : Bool -> Hp -> Prop), Inv X pins σ H s -> RelV x v -> r x H Q ->
  wpAny (model X.prog X.w) X.A (truthy v) (TP X pins σ Q) X.xe s
noncomputable def tOp (r : R2) (ta tb : TE) : TE := fun σ H Q => ta σ H fun x H1 => tb σ H1 fun y H2 => r x y H2 Q
noncomputable def tUn (r : V -> Hp -> VK -> Prop) (ta : TE) : TE := fun σ H Q => ta σ H fun x H1 => r x H1 Q
noncomputable def rI (C : Int -> Int -> Prop) (g : Int -> Int -> V) : R2 := fun x y H Q => ∃ i j, x = .int i /\ y = .int j /\ C i j /\ Q (g i j) H
noncomputable def rI0 (g : Int -> Int -> V) : R2 := fun x y H Q => ∃ i j, x = .int i /\ y = .int j /\ Q (g i j) H
noncomputable def rU (g : Int -> V) : V -> Hp -> VK -> Prop := fun x H Q => ∃ i, x = .int i /\ Q (g i) H
section
variable {X : Cx} {a b c : Expr} {ta tb tc : TE} {pos : Pos}
theorem u5 (ha : PE X a ta) (hb : PE X b tb) {pins : List (Addr × Obj)} {s : Shared} {σ : St} {H : Hp} {R : V -> V -> Hp -> Prop} (I : Inv X pins σ H s)
  (h : ta σ H fun x H1 => tb σ H1 fun y H2 => R x y H2) {Q : Value -> Shared -> Prop} {f : Value -> Value -> Sem Value}
  (hf : ∀ v u s2 x y H2, Inv X pins σ H2 s2 -> RelV x v -> RelV y u -> R x y H2 -> wpAny (model X.prog X.w) X.A (f v u) Q X.xe s2) :
  wpAny (model X.prog X.w) X.A (eval a X.env) (fun v s₁ => wpAny (model X.prog X.w) X.A (eval b X.env) (fun u s₂ => wpAny (model X.prog X.w) X.A (f v u) Q X.xe s₂) X.xe s₁) X.xe s := by
 refine thn (ha pins s σ H _ I h) fun v s1 ⟨x, H1, I1, r1, q1⟩ => ?_
 refine thn (hb pins s1 σ H1 _ I1 q1) fun u s2 ⟨y, H2, I2, r2, q2⟩ => ?_
 exact hf v u s2 x y H2 I2 r1 r2 q2
theorem Dk {op : Operator} {r : R2} (ho : OpR X (binaryOp op) r) (ha : PE X a ta) (hb : PE X b tb) : PE X (.BinOp a op b pos) (tOp r ta tb) := by
 intro pins s σ H Q I h
 exact wpAny_BinOp (u5 ha hb I h fun v u s2 x y H2 I2 rx ry q => ho pins s2 σ H2 x y v u Q I2 rx ry q)
theorem ED {op : UnaryOp} {r : V -> Hp -> VK -> Prop} (ho : UnR X (unaryOp op) r) (ha : PE X a ta) : PE X (.UnaryOp op a pos) (tUn r ta) := by
 intro pins s σ H Q I h
 exact UnaryOp_ (thn (ha pins s σ H _ I h) fun v s1 ⟨x, H1, I1, r1, q1⟩ => ho pins s1 σ H1 x v Q I1 r1 q1)
theorem opI {f : Value -> Value -> Sem Value} {C : Int -> Int -> Prop} {g : Int -> Int -> Int}
  (rule : ∀ (i j : Int) (t u : Tok) (s : Shared) (Q : Value -> Shared -> Prop) (E : Value -> Shared -> Prop), C i j -> Q (.int (g i j) s.toks) { s with toks := s.toks + 1 } -> wpAny (model X.prog X.w) X.A (f (.int i t) (.int j u)) Q E s) :
  OpR X f (rI C fun i j => .int (g i j)) := by
 intro pins s σ H x y v u Q I rx ry h
 obtain ⟨i, j, rfl, rfl, hc, q⟩ := h
 obtain ⟨t, rfl⟩ := rx
 obtain ⟨t', rfl⟩ := ry
 exact rule i j t t' s _ _ hc ⟨.int (g i j), H, I.tok _, ⟨_, rfl⟩, q⟩
theorem opI0 {f : Value -> Value -> Sem Value} {g : Int -> Int -> Int}
  (rule : ∀ (i j : Int) (t u : Tok) (s : Shared) (Q : Value -> Shared -> Prop) (E : Value -> Shared -> Prop), Q (.int (g i j) s.toks) { s with toks := s.toks + 1 } -> wpAny (model X.prog X.w) X.A (f (.int i t) (.int j u)) Q E s) :
  OpR X f (rI0 fun i j => .int (g i j)) := by
 intro pins s σ H x y v u Q I rx ry h
 obtain ⟨i, j, rfl, rfl, q⟩ := h
 obtain ⟨t, rfl⟩ := rx
 obtain ⟨t', rfl⟩ := ry
 exact rule i j t t' s _ _ ⟨.int (g i j), H, I.tok _, ⟨_, rfl⟩, q⟩
theorem vp {f : Value -> Value -> Sem Value} {g : Int -> Int -> Bool}
  (rule : ∀ (i j : Int) (t u : Tok) (s : Shared) (Q : Value -> Shared -> Prop) (E : Value -> Shared -> Prop), Q (.bool (g i j)) s -> wpAny (model X.prog X.w) X.A (f (.int i t) (.int j u)) Q E s) :
  OpR X f (rI0 fun i j => .bl (g i j)) := by
 intro pins s σ H x y v u Q I rx ry h
 obtain ⟨i, j, rfl, rfl, q⟩ := h
 obtain ⟨t, rfl⟩ := rx
 obtain ⟨t', rfl⟩ := ry
 exact rule i j t t' s _ _ ⟨.bl (g i j), H, I, rfl, q⟩
noncomputable def lU (i j : Int) : Prop := 0 <= j /\ j <= 1000000 /\ i.natAbs < 2 ^ 64
noncomputable def CMul (i j : Int) : Prop := (-(2 ^ 64) < i /\ i < 2 ^ 64) \/ (-(2 ^ 64) < j /\ j < 2 ^ 64)
theorem CMul.ok {i j : Int} (h : CMul i j) : IntMulOk i j := by
 rcases h with ⟨h1, h2⟩ | ⟨h1, h2⟩
 ·exact .of_left (intBits_le_64 h1 h2)
 ·exact .of_right (intBits_le_64 h1 h2)
theorem B4 : OpR X (binaryOp .Add) (rI0 fun i j => .int (i + j)) := opI0 fun _ _ _ _ _ _ _ q => add_int q
theorem dw : OpR X (binaryOp .Sub) (rI0 fun i j => .int (i - j)) := opI0 fun _ _ _ _ _ _ _ q => sub_int q
theorem Am : OpR X (binaryOp .Mult) (rI CMul fun i j => .int (i * j)) := opI fun _ _ _ _ _ _ _ hc q => mul_int q hc.ok
theorem dz : OpR X (binaryOp .Mod) (rI (fun _ j => j ≠ 0) fun i j => .int (i.fmod j)) := opI fun _ _ _ _ _ _ _ hc q => mod_int' hc q
theorem ll : OpR X (binaryOp .Pow) (rI lU fun i j => .int (i ^ j.toNat)) := opI fun _ _ _ _ _ _ _ hc q => pow_int_small hc.1 hc.2.1 hc.2.2 q
theorem unI {f : Value -> Sem Value} {g : Int -> Int}
  (rule : ∀ (i : Int) (t : Tok) (s : Shared) (Q : Value -> Shared -> Prop) (E : Value -> Shared -> Prop), Q (.int (g i) s.toks) { s with toks := s.toks + 1 } -> wpAny (model X.prog X.w) X.A (f (.int i t)) Q E s) :
  UnR X f (rU fun i => .int (g i)) := by
 intro pins s σ H x v Q I rx h
 obtain ⟨i, rfl, q⟩ := h
 obtain ⟨t, rfl⟩ := rx
 exact rule i t s _ _ ⟨.int (g i), H, I.tok _, ⟨_, rfl⟩, q⟩
theorem Bl : UnR X (unaryOp .USub) (rU fun i => .int (-i)) := unI fun _ _ _ _ _ q => neg_int q
end
section
variable {X : Cx} {a b c : Expr} {ta tb tc : TE} {pos : Pos}
theorem oh {pins : List (Addr × Obj)} {σ : St} {H : Hp} {s : Shared} {Q : VK} {k k' : Bool} (I : Inv X pins σ H s) (q : Q (.bl k) H) (e : k = k') : EP X pins σ Q (.bool k') s := by
 subst e
 exact ⟨.bl k, H, I, rfl, q⟩
theorem nI : OpR X (compareOp .Lt) (rI0 fun i j => .bl (decide (i < j))) := vp fun _ _ _ _ _ _ _ q => lt_int q
theorem jf : OpR X (compareOp .Gt) (rI0 fun i j => .bl (decide (j < i))) := vp fun _ _ _ _ _ _ _ q => gt_int q
theorem rV : OpR X (compareOp .GtE) (rI0 fun i j => .bl (decide (j <= i))) := vp fun _ _ _ _ _ _ _ q => ge_int q
theorem t4 : OpR X (compareOp .Is) (fun x y H Q => y = .non /\ Q (.bl (decide (x = .non))) H) := by
 intro pins s σ H x y v u Q I rx ry h
 obtain ⟨rfl, q⟩ := h
 cases ry
 refine is_none_gen (oh I q ?_)
 cases x <;> first
  | (cases rx; rfl)
  | (obtain ⟨t, rfl⟩ := rx; rfl)
theorem OpR.or {f : Value -> Value -> Sem Value} {r r' : R2} (h : OpR X f r) (h' : OpR X f r') : OpR X f (fun x y H Q => r x y H Q \/ r' x y H Q) := by
 intro pins s σ H x y v u Q I rx ry q
 rcases q with q | q
 ·exact h pins s σ H x y v u Q I rx ry q
 ·exact h' pins s σ H x y v u Q I rx ry q
theorem aP (b : Expr) {op : CmpOp} (h : op ≠ .In := by decide) (h2 : op ≠ .NotIn := by decide) : behindInMarks op b = false := by
 have e1 : (op == CmpOp.In) = false := by cases op <;> first | rfl | exact absurd rfl h
 have e2 : (op == CmpOp.NotIn) = false := by cases op <;> first | rfl | exact absurd rfl h2
 cases b <;> simp [behindInMarks, e1, e2]
theorem xZ {op : CmpOp} {r : R2} (ho : OpR X (compareOp op) r) (ha : PE X a ta) (hb : PE X b tb) (hm : behindInMarks op b = false) : PE X (.Compare a [op] [b] pos) (tOp r ta tb) := by
 intro pins s σ H Q I h
 exact wpAny_Compare1 (u5 ha hb I h fun v u s2 x y H2 I2 rx ry q => ho pins s2 σ H2 x y v u Q I2 rx ry q) hm
noncomputable def D8 (t : TE) : TT := fun σ H Q => t σ H fun x H' => ∃ k, x = .bl k /\ Q k H'
theorem xX {op : CmpOp} {r : R2} (ho : OpR X (compareOp op) r) (ha : PE X a ta) (hb : PE X b tb) (hm : behindInMarks op b = false) : PT X (.Compare a [op] [b] pos) (D8 (tOp r ta tb)) := by
 intro pins s σ H Q I h
 refine wpAny_isTrue_Compare1 (thn (ha pins s σ H _ I h) fun v s1 ⟨x, H1, I1, r1, q1⟩ => thn (hb pins s1 σ H1 _ I1 q1) fun u s2 ⟨y, H2, I2, r2, q2⟩ =>
  thn (ho pins s2 σ H2 x y v u _ I2 r1 r2 q2) fun c s3 ⟨z, H3, I3, r3, k, e, q3⟩ => ?_) hm
 subst e
 cases r3
 exact wpAny_truthy_bool ⟨H3, I3, q3⟩
noncomputable def vL (K : PySem.W.Frag) (x : V) (H : Hp) (k : Bool) : Prop :=
 match x with
 | .non => k = false
 | .bl b => k = b
 | .int i => k = (i != 0)
 | .str y => y.length <= sizeLine /\ k = ((y.length : Int) != 0)
 | .byt y => y.size <= sizeLine /\ k = ((y.size : Int) != 0)
 | .ref p => (∃ xs, SqL K H p xs /\ k = !xs.isEmpty) \/ (∃ xs, SqT K H p xs /\ k = !xs.isEmpty) \/ ∃ kvs, H p = some (.dK kvs) /\ k = !kvs.isEmpty
 | _ => False
theorem rn {κ : Type} {kvs : List (κ × V)} {vs : List (κ × Value)} (r : KV kvs vs) : (!vs.isEmpty) = !kvs.isEmpty := by
 cases r <;> rfl
theorem la {xs : List V} {its : List Value} (r : Vals xs its) : (!its.toArray.isEmpty) = !xs.isEmpty := by
 cases r <;> simp
theorem gw : (sizeLine : Nat) < 2 ^ 63 := by rw [sizeLine_eq]; decide
theorem BG : TruR X (fun x H Q => ∃ k, vL X.K x H k /\ Q k H) := by
 intro pins s σ H x v Q I rx h
 obtain ⟨k, e, q⟩ := h
 have hl := gw
 have hs : sizeLine = 16777216 := sizeLine_eq
 cases x with
 |
  non =>
  cases rx
  have e' : k = false := e
  subst e'
  exact truthy_none ⟨H, I, q⟩
 |
  bl b =>
  cases rx
  have e' : k = b := e
  subst e'
  exact wpAny_truthy_bool ⟨H, I, q⟩
 |
  int i =>
  obtain ⟨t, rfl⟩ := rx
  have e' : k = (i != 0) := e
  subst e'
  exact PySem.P.truthy_int ⟨H, I, q⟩
 |
  str y =>
  obtain ⟨t, rfl⟩ := rx
  obtain ⟨hy, e'⟩ : y.length <= sizeLine /\ k = ((y.length : Int) != 0) := e
  subst e'
  exact PySem.P.truthy_str (by omega) ⟨H, I.tok _, q⟩
 |
  byt y =>
  obtain ⟨t, rfl⟩ := rx
  obtain ⟨hy, e'⟩ : y.size <= sizeLine /\ k = ((y.size : Int) != 0) := e
  subst e'
  exact PySem.W.truthy_bytes (by omega) ⟨H, I.tok _, q⟩
 |
  ref p =>
  cases rx
  have e' : (∃ xs, SqL X.K H p xs /\ k = !xs.isEmpty) \/ (∃ xs, SqT X.K H p xs /\ k = !xs.isEmpty) \/ ∃ kvs, H p = some (.dK kvs) /\ k = !kvs.isEmpty := e
  rcases e' with ⟨xs, hx, e'⟩ | ⟨xs, hx, e'⟩ | ⟨kvs, hx, e'⟩
  ·subst e'
   obtain ⟨its, r, pl, hz⟩ := I.list hx
   have hlen := r.length
   exact wpAny_truthy_list pl.isList (by simp only [List.size_toArray]; omega) ⟨H, I.tok _, by rw [la r]; exact q⟩
  ·subst e'
   obtain ⟨its, r, pl, hz⟩ := I.tuple hx
   have hlen := r.length
   exact truthy_tuple pl (by simp only [List.size_toArray]; omega) ⟨H, I.tok _, by rw [la r]; exact q⟩
  ·subst e'
   obtain ⟨hz, hS, vs, r, m⟩ : kvs.length <= sizeLine /\ (p == sysModules) = false /\ ∃ vs, KV kvs vs /\ s.heap.DictOf (lX X.prog X.w) p vs := I.hok p _ hx
   have hlen : kvs.length = vs.length := Paired.length r
   exact wpAny_truthy_dict hS m (by omega) ⟨H, I.tok _, by rw [rn r]; exact q⟩
 | _ => exact (show False from e).elim
theorem wz (ha : PE X a ta) (he : ∀ whole, isTrue a X.env whole = (do let v <- whole; standAt a.pos; holding [v] (truthy v))) :
  PT X a (fun σ H Q => ta σ H fun x H' => ∃ k, vL X.K x H' k /\ Q k H') := by
 intro pins s σ H Q I h
 exact isTrue_plain (thn (ha pins s σ H _ I h) fun v s1 ⟨x, H1, I1, r1, q1⟩ => BG pins s1 σ H1 x v Q I1 r1 q1) (he _)
theorem gi {x : V} {us : List Value} (r : Vals [x] us) : ∃ u, us = [u] /\ RelV x u := by
 cases r with
 | cons r1 r2 => cases r2; exact ⟨_, rfl, r1⟩
theorem nH {x y : V} {us : List Value} (r : Vals [x, y] us) : ∃ u w', us = [u, w'] /\ RelV x u /\ RelV y w' := by
 cases r with
 |
  cons r1 r2 =>
  cases r2 with
  | cons r3 r4 => cases r4; exact ⟨_, _, rfl, r1, r3⟩
theorem eh : CallR X (.builtin "abs") (fun xs H Q => ∃ i, xs = [.int i] /\ Q (.int (if i < 0 then -i else i)) H) := by
 intro pins s σ H xs us Q I r h
 obtain ⟨i, rfl, q⟩ := h
 obtain ⟨u, rfl, t, rfl⟩ := gi r
 exact call_abs_int fun u tk => ⟨.int (if i < 0 then -i else i), H, I.tok _, ⟨_, rfl⟩, q⟩
theorem sZ (hc : X.calm = true) : CallR X (.builtin "max") (fun xs H Q => ∃ i j, xs = [.int i, .int j] /\ Q (.int (if j > i then j else i)) H) := by
 intro pins s σ H xs us Q I r h
 obtain ⟨i, j, rfl, q⟩ := h
 obtain ⟨u, w', rfl, ⟨t, rfl⟩, ⟨t', rfl⟩⟩ := nH r
 refine max_two_ints (I.ok.hd hc) fun h' tk k => ⟨_, H, I.kept k, ?_, q⟩
 by_cases hj : j > i
 ·rw [if_pos hj, if_pos hj]; exact ⟨_, rfl⟩
 ·rw [if_neg hj, if_neg hj]; exact ⟨_, rfl⟩
theorem tL (hc : X.calm = true) : CallR X (.builtin "min") (fun xs H Q => ∃ i j, xs = [.int i, .int j] /\ Q (.int (if j < i then j else i)) H) := by
 intro pins s σ H xs us Q I r h
 obtain ⟨i, j, rfl, q⟩ := h
 obtain ⟨u, w', rfl, ⟨t, rfl⟩, ⟨t', rfl⟩⟩ := nH r
 refine min_two_ints (I.ok.hd hc) fun h' tk k => ⟨_, H, I.kept k, ?_, q⟩
 by_cases hj : j < i
 ·rw [if_pos hj, if_pos hj]; exact ⟨_, rfl⟩
 ·rw [if_neg hj, if_neg hj]; exact ⟨_, rfl⟩
theorem ub : CallR X (.type "int") (fun xs H Q => (∃ i, xs = [.int i] /\ Q (.int i) H) \/ ∃ k, xs = [.bl k] /\ Q (.int (if k then 1 else 0)) H) := by
 intro pins s σ H xs us Q I r h
 rcases h with ⟨i, rfl, q⟩ | ⟨k, rfl, q⟩
 ·obtain ⟨u, rfl, t, rfl⟩ := gi r
  exact call_int_int ⟨.int i, H, I, ⟨_, rfl⟩, q⟩
 ·obtain ⟨u, rfl, r1⟩ := gi r
  cases r1
  exact call_int_bool ⟨.int (if k then 1 else 0), H, I.tok _, ⟨_, rfl⟩, q⟩
end
end L2
namespace L2
open PySem PySem.Spec PyProof.Rows
structure ObjM (h : Heap) (x dx C : Addr) (mA : Str -> Option Value) : Prop where
 obj : h.get? x = some (PySem.W.instObj C dx)
 ns : h.Ns1 dx mA
 ne : dx ≠ x
theorem tN {h : Heap} {dx : Addr} {mA : Str -> Option Value} (n : h.Ns1 dx mA) : ∃ od, h.get? dx = some od /\ ∀ name, PySem.W.lookIn name od = some (mA name) := by
 obtain ⟨o, es, ep, ho, hd, hk, _, hm⟩ := n
 refine ⟨o, ho, fun name => ?_⟩
 have e := hm name
 unfold nsFind findBy at e
 rw [<- Array.find?_toList] at e
 unfold PySem.W.lookIn
 rw [hd]
 dsimp only
 split
 ·rename_i y q
  rw [q] at e
  exact congrArg some e
 ·rename_i q
  rw [q] at e
  have a : es.toList.any (·.refKey) = false := by
   rw [List.any_eq_false]
   intro y hy
   obtain ⟨z, t, hkey⟩ := hk y (Array.mem_toList_iff.mp hy)
   simp [DictEntry.refKey, hkey]
  have a' : ¬ es.toList.any (·.refKey) = true := by rw [a]; exact Bool.false_ne_true
  rw [if_neg a']
  exact congrArg some e
theorem ObjM.look {h : Heap} {x dx C : Addr} {mA : Str -> Option Value} (I : ObjM h x dx C mA) : ∃ od, PySem.W.InstAt h x (PySem.W.instObj C dx) C (some od) /\ ∀ name, PySem.W.lookIn name od = some (mA name) :=
 let ⟨od, ho, hl⟩ := tN I.ns
 ⟨od, ⟨I.obj, rfl, rfl, ho⟩, hl⟩
section
variable {prog : Program} {w : World} {A : Around} {E : Value -> Shared -> Prop} {s : Shared} {K : PySem.W.Frag} {x dx C f : Addr} {mA : Str -> Option Value} {name : Str} {v : Value}
end
section
variable {P : Program} {w : World} {H H' : Hp} {h h' : Heap} {a C dx : Addr} {fs fs' : List (Str × V)}
theorem yM (hok : HOk P w H h) (e : H a = some (.ins C dx fs)) : ∃ mA, ObjM h a dx C mA /\ (∀ f, vt (fs.lookup f) (mA f)) /\ PySem.Within mA (fs.map (·.1)) /\ fs.length <= 1000 /\ H dx = some (.own a) := by
 obtain ⟨d, z, ne, ob, mA, n, r, q⟩ := (show ObjOk P w H h a (.ins C dx fs) from hok a _ e)
 exact ⟨mA, ⟨ob, n, ne⟩, r, q, z, d⟩
end
structure Cls (K : PySem.W.Frag) (C : Addr) : Prop where
 pg : PySem.W.plainGet K C Str.empty = true
 hd : PySem.W.hasDictIn K C = true
 po : PySem.W.plainOver K C = true
 sa : PySem.W.findIn K (.ref C) "__setattr__" = some (some (.builtin "object.__setattr__"))
theorem Cls.get {K : PySem.W.Frag} {C : Addr} (c : Cls K C) (f : Str) : PySem.W.plainGet K C f = true := c.pg
structure Con (K : PySem.W.Frag) (C : Addr) (f : Str) (v : V) (u : Value) : Prop where
 at_ : PySem.W.findIn K (.ref C) f = some (some u)
 rel : RelV v u
 get : PySem.W.specialIn K u "__get__" = some none
 cp : PySem.W.copiedNames.contains f = false
structure Meth (K : PySem.W.Frag) (C : Addr) (m : Str) (f : Addr) : Prop where
 at_ : PySem.W.findIn K (.ref C) m = some (some (.ref f))
 fn : PySem.W.isFn K (.ref f) = true
 kp : PySem.W.keepIn K (.ref f) = true
section
variable {X : Cx} {pins : List (Addr × Obj)} {σ : St} {H : Hp} {s : Shared} {a C dx : Addr} {fs : List (Str × V)} {f : Str} {v : V} {A : Around} {E : Value -> Shared -> Prop}
end
section
variable {X : Cx} {o e value : Expr} {f : Str} {pos pos' tpos : Pos} {ta tv : TE}
end
section
variable {X : Cx} {pins : List (Addr × Obj)} {σ : St} {H : Hp} {s : Shared} {A : Around} {E : Value -> Shared -> Prop} {Q : Value -> Shared -> Prop} {c : Value} {b : Bool}
inductive TyOf (K : PySem.W.Frag) (H : Hp) : V -> Value -> Prop where
 | non : TyOf K H .non (.type "NoneType")
 | bl (x : Bool) : TyOf K H (.bl x) (.type "bool")
 | int (i : Int) : TyOf K H (.int i) (.type "int")
 | str (x : Str) : TyOf K H (.str x) (.type "str")
 | flt (x : UInt64) : TyOf K H (.flt x) (.type "float")
 | lst {a : Addr} {xs : List V} (e : H a = some (.lst xs)) : TyOf K H (.ref a) (.type "list")
 | frz {a : Addr} {o : Obj} {xs : List V} (e : H a = some (.frz o (.lst xs))) : TyOf K H (.ref a) (.type "list")
 | tup {a : Addr} {xs : List V} (e : H a = some (.tup xs)) : TyOf K H (.ref a) (.type "tuple")
 | dK {a : Addr} {kvs : List (Key × V)} (e : H a = some (.dK kvs)) : TyOf K H (.ref a) (.type "dict")
 | dT {a : Addr} {kvs : List (List Key × V)} (e : H a = some (.dT kvs)) : TyOf K H (.ref a) (.type "dict")
 | ins {a C dx : Addr} {fs : List (Str × V)} (e : H a = some (.ins C dx fs)) (cl : Cls K C) (ha : PySem.W.findIn K (.ref C) "__class__" = some (some (.builtin "object.__class__")))
   (hn : PySem.W.specialIn K (.builtin "object.__class__") "__get__" = some (some (.builtin "getset_descriptor.__get__"))) (htk : PySem.W.takesIn K (.builtin "object.__class__") = some true)
   (hm : PySem.W.mroIn K C (.type "object") = some true) : TyOf K H (.ref a) (.ref C)
end
end L2
namespace L2
open PySem PySem.Spec PyProof.Rows
structure Room (k : Nat) (A : Around) : Prop where
 hd : A.handled = none
 dp : A.depth + 3 * k + 5 < recursionLimit
 un : A.units + 16 * k + 200 < cLine
theorem Room.mono {j k : Nat} {A : Around} (r : Room k A) (h : j <= k) : Room j A := ⟨r.hd, by have := r.dp; omega, by have := r.un; omega⟩
theorem Room.deeper {k : Nat} {A : Around} (r : Room (k + 1) A) (env : Env) : Room k (A.deeper env) :=
 ⟨r.hd, by have := r.dp; show A.depth + 1 + 3 * k + 5 < _; omega, by have := r.un; show A.units + 3 + 16 * k + 200 < _; omega⟩
theorem Room.depth {k : Nat} {A : Around} (r : Room k A) : A.depth < recursionLimit := by have := r.dp; omega
theorem Room.units {k : Nat} {A : Around} (r : Room k A) : A.units + 64 < cLine := by have := r.un; omega
noncomputable def tNil : TA := fun _ H Q => Q [] H
noncomputable def CY (ta : TE) (tr : TA) : TA := fun σ H Q => ta σ H fun x H1 => tr σ H1 fun xs H2 => Q (x :: xs) H2
section
variable {X : Cx} {e : Expr} {es : List Expr} {te : TE} {t : TA} {pos : Pos}
theorem Ag : PA X [] tNil := fun _ _ _ _ H Q I h => Calls.spliced_nil ⟨[], H, I, .nil, h⟩
theorem yQ (ha : PE X e te) (hr : PA X es t) (hs : starEach (e :: es) X.env = (false, eval e X.env) :: starEach es X.env := by rfl) : PA X (e :: es) (CY te t) := by
 intro pos pins s σ H Q I h
 rw [hs]
 show wpAny _ _ (spliced ((false, eval e X.env) :: backTo pos (starEach es X.env))) _ _ s
 refine Calls.spliced_cons (thn (ha pins s σ H _ I h) fun u s1 ⟨x, H1, I1, r1, q1⟩ => ?_)
 exact thn (hr pos pins s1 σ H1 _ I1 q1) fun us s2 ⟨xs, H2, I2, r2, q2⟩ => ⟨x :: xs, H2, I2, .cons r1 r2, q2⟩
noncomputable def tTup (t : TA) : TE := fun σ H Q => t σ H fun xs H1 => xs.length <= sizeLine /\ ∀ p, H1 p = none -> Q (.ref p) (upd H1 p (.tup xs))
noncomputable def tLst (t : TA) : TE := fun σ H Q => t σ H fun xs H1 => xs.length <= sizeLine /\ ∀ p, H1 p = none -> Q (.ref p) (upd H1 p (.lst xs))
theorem Cn {x1} (h : PA X es t) : PE X (.Tuple es x1 pos) (tTup t) := by
 intro pins s σ H Q I hq
 refine wpAny_Tuple_spliced (thn (h pos pins s σ H _ I hq) fun us s1 ⟨xs, H1, I1, r, z, q⟩ => ⟨by rw [<- r.length]; exact z, ?_⟩)
 have hf : H1 s1.heap.objs.size = none := I1.hok.fresh (Nat.le_refl _)
 refine ⟨.ref s1.heap.objs.size, upd H1 s1.heap.objs.size (.tup xs), I1.laid (t' := s1.toks) (fun b u e => Heap.get?_push_of_some _ e) (Nat.le_refl _) ?_, rfl, q _ hf⟩
 exact ⟨z, us, r, ⟨_, Heap.get?_push_size _ rfl, rfl, _, rfl⟩⟩
theorem CN (h : PA X es t) : PE X (.List es pos) (tLst t) := by
 intro pins s σ H Q I hq
 refine wpAny_List_spliced (thn (h pos pins s σ H _ I hq) fun us s1 ⟨xs, H1, I1, r, z, q⟩ => ⟨by rw [<- r.length]; exact z, ?_⟩)
 have hf : H1 s1.heap.objs.size = none := I1.hok.fresh (Nat.le_refl _)
 refine ⟨.ref s1.heap.objs.size, upd H1 s1.heap.objs.size (.lst xs), I1.laid (t' := s1.toks) (fun b u e => Heap.get?_push_of_some _ e) (Nat.le_refl _) ?_, rfl, q _ hf⟩
 exact ⟨z, us, 0, r, Heap.get?_push_size _ rfl⟩
end
abbrev Sp := List V -> Hp -> VK -> XK -> Prop
abbrev CXT := List Env -> Hp -> Shared -> XK -> Value -> Shared -> Prop
structure Env0 (P : Program) (w : World) (K : PySem.W.Frag) (mg : Str -> Option Value) (base : Heap) (A : Around) (outer : List Env) (s : Shared) (H : Hp) : Prop where
 frames : A.frames = some outer
 mod : Mod K mg base
 bs : ∀ b o, base.get? b = some o -> s.heap.get? b = some o /\ H b = none
 bsz : base.objs.size <= s.heap.objs.size
 funs : s.heap.FunFrames base outer
 frf : ∀ b ∈ frs outer, H b = none
 hok : HOk P w H s.heap
 bare : AllBare s.gens
noncomputable def CE (outer : List Env) (P : Program) (w : World) (H : Hp) (s : Shared) (Q : VK) (u : Value) (s' : Shared) : Prop :=
 ∃ v H', s'.os = s.os /\ AllBare s'.gens /\ Un (frs outer) [] H H' s.heap s'.heap /\ HOk P w H' s'.heap /\ RelV v u /\ Q v H'
noncomputable def CR (CX : CXT) (outer : List Env) (P : Program) (w : World) (H : Hp) (s : Shared) (Q : VK) (E : XK) (r : Result) (s' : Shared) : Prop :=
 match r with
 | .ok (.ret u) => CE outer P w H s Q u s'
 | .ok _ => False
 | .error e => CX outer H s E e s'
structure FnOk (P : Program) (w : World) (K : PySem.W.Frag) (mg : Str -> Option Value) (base : Heap) (CX : CXT) (k : Nat) (f : Addr) (fd : FuncData) (ps : List Str) (sp : Sp) : Prop where
 len : ∀ vs H Q E, sp vs H Q E -> vs.length = ps.length
 run : ∀ (A : Around) (outer : List Env) (s : Shared) (H : Hp) (args : Args) (us : List Value) (vs : List V) (Q : VK) (E : XK), Room k A -> Env0 P w K mg base A outer s H -> BindsTo s fd args (ps.zip us) -> Vals vs us -> sp vs H Q E ->
  codeAny (model P w) A (.call (.ref f) args) (CR CX outer P w H s Q E) s
theorem FnOk.imp {P : Program} {w : World} {K : PySem.W.Frag} {mg : Str -> Option Value} {base : Heap} {CX : CXT} {k : Nat} {f : Addr} {fd : FuncData} {ps : List Str} {sp sp' : Sp} (F : FnOk P w K mg base CX k f fd ps sp)
  (h : ∀ vs H Q E, sp' vs H Q E -> sp vs H Q E) : FnOk P w K mg base CX k f fd ps sp' :=
 ⟨fun vs H Q E q => F.len vs H Q E (h _ _ _ _ q), fun A outer s H args us vs Q E hr he hb hv hs => F.run A outer s H args us vs Q E hr he hb hv (h _ _ _ _ hs)⟩
section
variable {X : Cx} {pins : List (Addr × Obj)} {σ : St} {H : Hp} {s s' : Shared}
theorem Inv.env0 (I : Inv X pins σ H s) : Env0 X.prog X.w X.K X.mg X.base X.A X.stack s H :=
 ⟨I.ok.frames, I.ok.mod, I.bs, Nat.le_trans I.ok.bsz I.sz, I.stack, I.stkFree, I.hok, I.bare⟩
theorem Inv.after {Q : VK} {u : Value} (I : Inv X pins σ H s) (h : CE X.stack X.prog X.w H s Q u s') : EP X pins σ Q u s' := by
 obtain ⟨v, H', os, bare, un, hok, r, q⟩ := h
 obtain ⟨hh, g, d, t, os'⟩ := s'
 obtain rfl : os' = s.os := os
 exact ⟨v, H', I.call (h' := hh) (g' := g) (d' := d) (t' := t) (ch := []) un hok bare (fun b z => absurd z (by simp)), r, q⟩
end
noncomputable def Binds (K : PySem.W.Frag) (fd : FuncData) (ps : List Str) (ds : List Value) : Prop :=
 ∀ (s : Shared) (us : List Value), K.In s.heap -> (us ++ ds).length = ps.length -> BindsTo s fd ⟨us, []⟩ (ps.zip (us ++ ds))
theorem Binds.all {K : PySem.W.Frag} {fd : FuncData} {ps : List Str} (h : ∀ us : List Value, us.length = ps.length -> bindArgs fd ⟨us, []⟩ = pure (ps.zip us)) : Binds K fd ps [] := fun s us _ hl => by
 rw [List.append_nil] at hl ⊢
 exact .of_eq (h us hl)
noncomputable def oo (CX : CXT) (X : Cx) (E : XK) : Prop := ∀ (pins : List (Addr × Obj)) (σ : St) (H : Hp) (s : Shared) (e : Value) (s' : Shared), Inv X pins σ H s -> CX X.stack H s E e s' -> X.xe e s'
section
variable {X : Cx} {CX : CXT} {k : Nat} {f C : Addr} {fd : FuncData} {ps : List Str} {sp : Sp} {dvs : List V} {ds : List Value} {E : XK} {x m : Str} {p pos apos : Pos} {e o : Expr} {es : List Expr} {ta : TE} {t : TA}
structure Mk (K : PySem.W.Frag) (C f : Addr) : Prop where
 makes : PySem.W.makesIn K C = true
 init : PySem.W.findIn K (.ref C) "__init__" = some (some (.ref f))
 fn : PySem.W.isFn K (.ref f) = true
 kp : PySem.W.keepIn K (.ref C) = true
end
section
variable {X : Cx} {CX : CXT} {k : Nat} {f C : Addr} {fd : FuncData} {ps ks : List Str} {sp : Sp} {E : XK} {x m : Str} {p pos apos kpos : Pos} {e o : Expr} {es : List Expr} {kws : List Keyword} {te ta : TE} {t tk : TA} {nm : Option Str}
structure KBinds (K : PySem.W.Frag) (fd : FuncData) (ps ks : List Str) (g : List Value -> List Value -> List Value) (gV : List V -> List V -> List V) : Prop where
 to : ∀ (s : Shared) (us ws : List Value), K.In s.heap -> (g us ws).length = ps.length -> BindsTo s fd ⟨us, ks.zip ws⟩ (ps.zip (g us ws))
 rel : ∀ {vs : List V} {us : List Value} {zs : List V} {ws : List Value}, Vals vs us -> Vals zs ws -> Vals (gV vs zs) (g us ws)
variable {g : List Value -> List Value -> List Value} {gV : List V -> List V -> List V}
end
structure FnScope (N P : List Str) (sc : Scope) : Prop where
 kind : sc.kind = .function
 co : sc.isCoroutine = false
 gen : sc.isGenerator = false
 nd : N.Nodup
 pre : N.take P.length = P
 par : ∀ x ∈ P, sc.names.lookup x = some .local \/ sc.names.lookup x = some .cell
 nofree : ∀ y ∈ sc.names, y.2 ≠ .free
theorem m7 {kindOf : Str -> Option NameKind} {x : Str} : ∀ {binds : List (Str × Value)} {m : Str -> Option Value}, (∀ v, (x, v) ∉ binds) -> bindL kindOf binds m x = m x
 | [], _, _ => rfl
 |
  (n, v) :: r, m, h => by
  unfold bindL
  rw [m7 fun w hw => h w (List.mem_cons_of_mem _ hw)]
  split
  ·have : x ≠ n := by rintro rfl; exact h v List.mem_cons_self
   simp [this]
  ·rfl
theorem mX {kindOf : Str -> Option NameKind} {x : Str} : ∀ {binds : List (Str × Value)} {m : Str -> Option Value}, (∀ v, (x, v) ∉ binds) -> bindC kindOf binds m x = m x
 | [], _, _ => rfl
 |
  (n, v) :: r, m, h => by
  unfold bindC
  rw [mX fun w hw => h w (List.mem_cons_of_mem _ hw)]
  split
  ·rfl
  ·have : x ≠ n := by rintro rfl; exact h v List.mem_cons_self
   simp [this]
theorem mU {kindOf : Str -> Option NameKind} {x : Str} {v : Value} : ∀ {P : List Str} {vs : List Value} {i : Nat} {m : Str -> Option Value}, P.Nodup -> P[i]? = some x -> vs[i]? = some v -> kindOf x = some .local ->
  bindL kindOf (P.zip vs) m x = some v
 | [], _, _, _, _, h, _, _ => by simp at h
 | _ :: _, [], _, _, _, _, h, _ => by simp at h
 |
  p :: P, w :: vs, 0, m, nd, h1, h2, hk => by
  simp at h1 h2; subst h1; subst h2
  show bindL kindOf ((p, w) :: P.zip vs) m p = _
  unfold bindL
  rw [m7 fun v hv => (List.nodup_cons.mp nd).1 (List.of_mem_zip hv).1, if_pos hk]
  simp
 |
  p :: P, w :: vs, i + 1, m, nd, h1, h2, hk => by
  show bindL kindOf ((p, w) :: P.zip vs) m x = _
  unfold bindL
  exact mU (i := i) (List.nodup_cons.mp nd).2 (by simpa using h1) (by simpa using h2) hk
theorem mY {kindOf : Str -> Option NameKind} {x : Str} {v : Value} : ∀ {P : List Str} {vs : List Value} {i : Nat} {m : Str -> Option Value}, P.Nodup -> P[i]? = some x -> vs[i]? = some v -> kindOf x ≠ some .local ->
  bindC kindOf (P.zip vs) m x = some v
 | [], _, _, _, _, h, _, _ => by simp at h
 | _ :: _, [], _, _, _, _, h, _ => by simp at h
 |
  p :: P, w :: vs, 0, m, nd, h1, h2, hk => by
  simp at h1 h2; subst h1; subst h2
  show bindC kindOf ((p, w) :: P.zip vs) m p = _
  unfold bindC
  rw [mX fun v hv => (List.nodup_cons.mp nd).1 (List.of_mem_zip hv).1, if_neg hk]
  simp
 |
  p :: P, w :: vs, i + 1, m, nd, h1, h2, hk => by
  show bindC kindOf ((p, w) :: P.zip vs) m x = _
  unfold bindC
  exact mY (i := i) (List.nodup_cons.mp nd).2 (by simpa using h1) (by simpa using h2) hk
noncomputable def eS (N : List Str) (vs : List V) : St := vs.map some ++ List.replicate (N.length - vs.length) none
noncomputable def ef (CX : CXT) (P : Program) (w : World) (K : PySem.W.Frag) (mg : Str -> Option Value) (base : Heap) (N : List Str) (qual : Str) (scope : Scope) (f : Addr) (cd : Value) (A : Around) (outer : List Env) (s : Shared) (H : Hp) (E : XK) : Cx where
 prog := P
 w := w
 K := K
 mg := mg
 base := base
 A := A.deeper (envOfC qual scope s.heap.objs.size f cd)
 N := N
 s₀ := s
 H₀ := H
 env := envOfC qual scope s.heap.objs.size f cd
 outer := outer
 stack := envOfC qual scope s.heap.objs.size f cd :: outer
 ex := []
 calm := true
 fn := fun _ => true
 pn := []
 xe := fun e s' => wpAny (model P w) (A.deeper (envOfC qual scope s.heap.objs.size f cd)) (leaving (envOfC qual scope s.heap.objs.size f cd) e) (fun _ s'' => CX outer H s E e s'') (fun e' s'' => CX outer H s E e' s'') s'
theorem oG {sc : Scope} {n : Nat} {x : Str} (h : sc.names.lookup x = some .cell) : ∃ c, (cellsFrom n sc.names []).lookup x = some c := by
 have q := PySem.W.cellsFrom_some sc.names n [] (.inl h)
 exact Option.isSome_iff_exists.mp q
theorem
    sT {CX : CXT} {P : Program} {w : World} {K : PySem.W.Frag} {mg : Str -> Option Value} {base : Heap} {N ps : List Str} {qual : Str} {scope : Scope} {f : Addr} {cd : Value} {A : Around} {outer : List Env} {s s1 : Shared} {H : Hp} {E : XK} {us : List Value} {vs : List V}
  (S : FnScope N ps scope) (hd : A.handled = none) (e0 : Env0 P w K mg base A outer s H) (hl : vs.length = ps.length) (r : Vals vs us)
  (x : InCallC s s.heap.objs.size (bindL (envOfC qual scope s.heap.objs.size f cd).kindOf (ps.zip us) fun _ => none) (cellsFrom (s.heap.objs.size + 1) scope.names []) (bindC (envOfC qual scope s.heap.objs.size f cd).kindOf (ps.zip us) fun _ => none) s1) :
  Inv (ef CX P w K mg base N qual scope f cd A outer s H E) [] (eS N vs) H s1 := by
 have hpl : ps.length <= N.length := by have := congrArg List.length S.pre; rw [List.length_take] at this; omega
 obtain ⟨h1, tk, rfl, hk⟩ := x.done
 have noA : ∀ b : Addr, b ∉ (ef CX P w K mg base N qual scope f cd A outer s H E).ex := fun b z => absurd (show b ∈ ([] : List Addr) from z) (by simp)
 refine ⟨⟨e0.mod, S.kind, rfl, rfl, Nat.le_refl _, fun y z c h1 h2 => ?_, fun y hy => ?_, fun y c _ h => ?_, fun _ => hd, Around.frames_deeper e0.frames, .inr ⟨rfl, rfl⟩, fun b z => absurd z (noA b), e0.bs, e0.bsz, fun b _ _ => noA b, fun b z => absurd z (noA b), e0.funs, e0.frf⟩,
  rfl, e0.bare, Un.kept hk, ⟨_, x.toInCall.ns, fun i y v h1 h2 h3 => ?_⟩, fun y c h => ⟨_, x.cell y c h⟩, e0.hok.fresh (Nat.le_refl _), fun y c h => ?_, fun p hp => absurd (show p ∈ ([] : List (Addr × Obj)) from hp) (by simp), e0.hok.kept hk, ?_⟩
 ·exact name_of_addr x.apart (PySem.mem_of_lookup h1) (PySem.mem_of_lookup h2)
 ·have hy : scope.names.lookup y = some .cell \/ scope.names.lookup y = some .free := hy
  rcases hy with hy | hy
  ·exact oG hy
  ·exact absurd rfl (S.nofree _ (PySem.mem_of_lookup hy))
 ·exact Nat.le_of_lt (x.above y c (PySem.mem_of_lookup h))
 ·have hi : i < vs.length := by
   unfold eS at h2
   by_cases hi : i < vs.length
   ·exact hi
   ·rw [List.getElem?_append_right (by simpa using hi)] at h2
    rw [List.getElem?_replicate] at h2
    split at h2 <;> cases h2
  have ha : vs[i]? = some v := by
   unfold eS at h2
   rw [List.getElem?_append_left (by simpa using hi), List.getElem?_map] at h2
   cases e : vs[i]? with
   | none => rw [e] at h2; cases h2
   | some a => rw [e] at h2; cases h2; rfl
  obtain ⟨u, hu, rv⟩ := r.get ha
  have hp : ps[i]? = some y := by
   rw [<- S.pre, List.getElem?_take_of_lt (by omega)]; exact h1
  have ndP : ps.Nodup := by rw [<- S.pre]; exact S.nd.sublist (List.take_sublist _ _)
  refine ⟨u, rv, ?_⟩
  rcases S.par y (List.mem_of_getElem? hp) with k | k
  ·exact .inl ⟨k, mU ndP hp hu k⟩
  ·obtain ⟨c, e⟩ := oG (n := s.heap.objs.size + 1) k
   refine .inr ⟨.inl k, c, e, ?_⟩
   have q := x.cell y c e
   rw [mY ndP hp hu (by show scope.names.lookup y ≠ _; rw [k]; decide)] at q
   exact q
 ·exact e0.hok.fresh (Nat.le_of_lt (x.above y c (PySem.mem_of_lookup h)))
 ·unfold eS
  show _ = N.length
  rw [List.length_append, List.length_map, List.length_replicate]
  omega
theorem ET {CX : CXT} {P : Program} {w : World} {K : PySem.W.Frag} {mg : Str -> Option Value} {base : Heap} {k : Nat} {f : Addr} {name qual : Str} {params : Arguments} {body : List Stmt} {scope : Scope} {dV kV doc pm cdv ct oc : Value} {an od : Option Addr}
  {osl : Array (Option Value)} {N ps : List Str} {sp : Sp} (lk : K.lookup f = some ⟨oc, od, .func (PySem.W.fnOf name qual params body scope dV kV doc pm an cdv ct), osl⟩) (hcd : PySem.W.codeIn K cdv qual = true) (S : FnScope N ps scope)
  (len : ∀ vs H Q E, sp vs H Q E -> vs.length = ps.length)
  (hbody : ∀ (A : Around) (outer : List Env) (s : Shared) (H : Hp) (vs : List V) (Q : VK) (E : XK), Room k (A.deeper (envOfC qual scope s.heap.objs.size f cdv)) -> sp vs H Q E ->
   ∃ t, PSs (ef CX P w K mg base N qual scope f cdv A outer s H E) body t /\ t { nx := fun _ H' => Q .non H', rt := Q } (eS N vs) H) :
  FnOk P w K mg base CX (k + 1) f (PySem.W.fnOf name qual params body scope dV kV doc pm an cdv ct) ps sp := by
 refine ⟨len, fun A outer s H args us vs Q E hr e0 hb r hsp => ?_⟩
 have hl := len _ _ _ _ hsp
 have KX : K.In s.heap := e0.mod.kin.keeps fun b o e => (e0.bs b o e).1
 have lim : s.heap.NoLimit := e0.mod.nolimit.keeps fun b o e => (e0.bs b o e).1
 have hkind : ∀ y ∈ ps.zip us, scope.names.lookup y.1 = some .local \/ (scope.names.lookup y.1 = some .cell /\ ((cellsFrom (s.heap.objs.size + 1) scope.names []).lookup y.1).isSome = true) := fun ⟨n, v⟩ hy => by
  rcases S.par n (List.of_mem_zip hy).1 with q | q
  ·exact .inl q
  ·exact .inr ⟨q, PySem.W.cellsFrom_some _ _ _ (.inl q)⟩
 refine codeAny_call_function hr.depth (KX _ _ lk) rfl S.co S.gen rfl (PySem.W.codeRec_of KX hcd) (hb _ _ _ _ ?_)
 refine wpAny_newFunctionEnv_cells S.kind hkind fun env he s1 x => ?_
 subst he
 refine ⟨lim.keeps x.toInCall.keep, codeAny_func ?_⟩
 obtain ⟨t, ht, hq⟩ := hbody A outer s H vs Q E (hr.deeper _) hsp
 have I : Inv (ef CX P w K mg base N qual scope f cdv A outer s H E) [] (eS N vs) H s1 := sT S hr.hd e0 hl r x
 refine wpAny_mono (ht [] s1 (eS N vs) H _ I hq) (fun fl s' hs => ?_) fun e s' hs => hs
 have fin : ∀ {σ' : St} {H' : Hp} {v : V} {u : Value}, Inv (ef CX P w K mg base N qual scope f cdv A outer s H E) [] σ' H' s' -> RelV v u -> Q v H' -> CE outer P w H s Q u s' :=
  fun {σ' H' v u} J rv q => ⟨v, H', J.os, J.bare, J.base, J.hok, rv, q⟩
 cases fl with
 |
  ret u =>
  obtain ⟨v, σ', H', J, rv, q⟩ := hs
  exact fin J rv q
 |
  next =>
  obtain ⟨σ', H', J, q⟩ := hs
  exact fin (v := V.non) (u := Value.none) J rfl q
 |
  brk =>
  obtain ⟨_, _, _, q⟩ := hs
  exact False.elim q
 |
  cont =>
  obtain ⟨_, _, _, q⟩ := hs
  exact False.elim q
end L2
namespace L2
open PySem PySem.Spec PyProof.Rows
section
variable {X : Cx} {x : Str} {p pos : Pos} {e : Expr} {es : List Expr} {t : TA} {id T : String} {r : List V -> Hp -> VK -> Prop}
noncomputable def tCB (r : List V -> Hp -> VK -> Prop) (t : TA) : TE := fun σ H Q => t σ H fun vs H1 => r vs H1 Q
theorem vE (hc : CallR X (.builtin id) r) (hg : Gl X x) (hm : X.mg x = none) (hv : bootBuiltins x = some (.builtin id)) (ha : PA X (e :: es) t) (hn : x ≠ "__name__" := by decide) (hdb : (x == ("__debug__" : Str)) = false := by decide)
  (he : starEach (e :: es) X.env = (false, eval e X.env) :: starEach es X.env := by rfl) (hpl : (backTo pos (starEach es X.env)).any (·.1) = false := by rfl) : PE X (.Call (.Name x p) (e :: es) [] pos) (tCB r t) := by
 intro pins s σ H Q I h
 refine wpAny_Call_Name_kw (jT I hg hm hv ?_ hn hdb)
 exact PyProof.Rows.callWith_builtin1 (thn (ha pos pins s σ H _ I h) fun us s1 ⟨vs, H1, I1, r1, q1⟩ => hc pins s1 σ H1 vs us Q I1 r1 q1) he hpl
theorem tq (hc : CallR X (.type T) r) (hg : Gl X x) (hm : X.mg x = none) (hv : bootBuiltins x = some (.type T)) (ha : PA X (e :: es) t) (hn : x ≠ "__name__" := by decide) (hdb : (x == ("__debug__" : Str)) = false := by decide)
  (he : starEach (e :: es) X.env = (false, eval e X.env) :: starEach es X.env := by rfl) (hpl : (backTo pos (starEach es X.env)).any (·.1) = false := by rfl) : PE X (.Call (.Name x p) (e :: es) [] pos) (tCB r t) := by
 intro pins s σ H Q I h
 refine wpAny_Call_Name_kw (jT I hg hm hv ?_ hn hdb)
 exact PyProof.Rows.callWith_type1 (thn (ha pos pins s σ H _ I h) fun us s1 ⟨vs, H1, I1, r1, q1⟩ => hc pins s1 σ H1 vs us Q I1 r1 q1) he hpl
end
end L2
namespace HT
open PySem PyProof.Rows
section
open PySem.SeqAt
open PySem.AutoSeq1 (wpAny_loadPart')
open PySem.MeetsSeq PySem.MeetsSeq2 PySem.MeetsSeq3
end
section
variable {prog : Program} {w : World} {A : Around} {E : Value -> Shared -> Prop} {s : Shared}
theorem cat_tup {t b : Addr} {vs ws : List Value} {Q : Value -> Shared -> Prop} (ht : IsTup s.heap t vs.toArray) (hb : IsTup s.heap b ws.toArray) (hv : vs ≠ [])
  (h1 : ws = [] -> Q (.ref t) s) (h2 : ws ≠ [] -> Q (.ref s.heap.objs.size) { s with heap := s.heap.push { cls := .type "tuple", data := .seq (vs ++ ws).toArray } })
  (hsz : vs.length + ws.length <= sizeLine) : wpAny (model prog w) A (binaryOp .Add (.ref t) (.ref b)) Q E s := by
 obtain ⟨⟨cls, dd, data, sl⟩, ho, hc, n, hd⟩ := id ht
 obtain ⟨⟨cls2, dd2, data2, sl2⟩, ho2, hc2, n2, hd2⟩ := id hb
 simp only at hc hd hc2 hd2
 subst hc hd hc2 hd2
 have e : vs.toArray ++ ws.toArray = (vs ++ ws).toArray := by simp
 by_cases hw : ws = []
 ·exact concat_meets ⟨_, ho, rfl⟩ ⟨_, ho2, rfl⟩ noFill_tuple_add seq_tuple_add PySem.F.slot_tuple_add PySem.F.entry_tuple_add (PySem.F.args_tuple_add_2 _ _)
   (tuple_addW1 t b vs.toArray ws.toArray n n2 dd dd2 sl sl2 (by simpa using hv) (by simp [hw])) ⟨ho, ho2, h1 hw⟩
 ·refine concat_meets ⟨_, ho, rfl⟩ ⟨_, ho2, rfl⟩ noFill_tuple_add seq_tuple_add PySem.F.slot_tuple_add PySem.F.entry_tuple_add (PySem.F.args_tuple_add_2 _ _)
   (tuple_addW2 t b vs.toArray ws.toArray n n2 dd dd2 sl sl2 (by simpa using hv) (by simpa using hw) (by rw [List.size_toArray, List.size_toArray]; exact hsz)) ⟨ho, ho2, ?_⟩
  rw [e]
  exact h2 hw
noncomputable def sIx (n d : Nat) : Option Int -> Nat
 | none => d
 | some v => if v < 0 then (v + (n : Int)).toNat else min v.toNat n
theorem BZ (n d : Nat) (hd : d <= n) (o : Option Int) : sIx n d o <= n := by
 cases o with
 | none => exact hd
 |
  some v =>
  show (if v < 0 then (v + (n : Int)).toNat else min v.toNat n) <= n
  by_cases hv : v < 0
  ·rw [if_pos hv]; omega
  ·rw [if_neg hv]; exact Nat.min_le_right _ _
theorem qz (v : Int) (n d : Nat) : (if v < 0 then max (v + (n : Int)) 0 else min v (n : Int)) = ((sIx n d (some v) : Nat) : Int) := by
 show (if v < 0 then max (v + (n : Int)) 0 else min v (n : Int)) = (((if v < 0 then (v + (n : Int)).toNat else min v.toNat n) : Nat) : Int)
 by_cases hv : v < 0
 ·simp only [if_pos hv]; omega
 ·simp only [if_neg hv]; omega
theorem sv (lo hi : Option Int) (n : Nat) : Builtin.Slice.sliceAdjust lo hi 1 (n : Int) = (((sIx n 0 lo : Nat) : Int), ((sIx n n hi : Nat) : Int)) := by
 have h1 : ¬ ((1 : Int) < 0) := by omega
 unfold Builtin.Slice.sliceAdjust
 simp only [h1, if_false]
 refine Prod.ext ?_ ?_
 ·cases lo with
  | none => rfl
  | some v => exact qz v n 0
 ·cases hi with
  | none => rfl
  | some v => exact qz v n n
theorem rH (i j : Nat) : Builtin.Slice.slicePlaces (i : Int) (j : Int) 1 = j - i := by
 unfold Builtin.Slice.slicePlaces
 have h1 : (1 : Int) > 0 := by omega
 simp only [h1, if_true, Int.ediv_one]
 split <;> omega
theorem lC {v : Value} {o : Option Int} {Q : Option Int -> Shared -> Prop} (p : IsPart v o) (h : Q o s) : wpAny (model prog w) A (Builtin.Slice.slicePartIndex v) Q E s := by
 cases p with
 | none => exact slicePart_none h
 | int i t => exact slicePart_int h
theorem kK {sl : Addr} {vl vu : Value} {lo hi : Option Int} {n : Nat} {Q : Int × Int × Nat -> Shared -> Prop} (hs : s.heap.IsSliceOf sl vl vu .none) (pl : IsPart vl lo) (pu : IsPart vu hi)
  (h : Q (((sIx n 0 lo : Nat) : Int), 1, sIx n n hi - sIx n 0 lo) s) : wpAny (model prog w) A (Builtin.Slice.sliceApplied (.ref sl) (pure (n : Int))) Q E s := by
 obtain ⟨os, hos, hcs, hds⟩ := id hs
 unfold Builtin.Slice.sliceApplied Builtin.Slice.sliceFields
 refine wpAny_bind (wpAny_bind (wpAny_field hos hds (x := vl) rfl (wpAny_bind (wpAny_field hos hds (x := vu) rfl (wpAny_bind (wpAny_field hos hds (x := .none) rfl (wpAny_pure ?_)))))))
 refine wpAny_bind (slicePart_none ?_)
 show wpAny _ _ (if ((1 : Int) == 0) = true then _ else _) _ _ s
 rw [if_neg (by decide)]
 refine wpAny_bind (lC pl (wpAny_bind (lC pu (wpAny_bind (wpAny_pure ?_)))))
 show wpAny _ _ (match Builtin.Slice.sliceAdjust lo hi 1 (n : Int) with | (lo, hi) => pure (lo, (1 : Int), Builtin.Slice.slicePlaces lo hi 1)) _ _ s
 rw [sv lo hi n]
 show wpAny _ _ (pure (((sIx n 0 lo : Nat) : Int), (1 : Int), Builtin.Slice.slicePlaces ((sIx n 0 lo : Nat) : Int) ((sIx n n hi : Nat) : Int) 1)) _ _ s
 rw [rH]
 exact wpAny_pure h
theorem uT (xs : Array Value) (i k : Nat) : ((List.range k).filterMap fun (m : Nat) => xs[((i : Int) + (m : Int) * 1).toNat]?).toArray = ((xs.toList.drop i).take k).toArray := by
 have e : (fun (m : Nat) => xs[((i : Int) + (m : Int) * 1).toNat]?) = fun m => xs[i + m]? := by
  funext m
  have : ((i : Int) + (m : Int) * 1).toNat = i + m := by omega
  rw [this]
 rw [e]
 have := pick_run xs i k
 rw [List.filterMap_map] at this
 have e2 : ((fun x => xs[x]?) ∘ fun x => i + x) = fun m => xs[i + m]? := rfl
 rw [e2] at this
 rw [this]
theorem getItem_tuple_cut {t sl : Addr} {items : Array Value} {vl vu : Value} {lo hi : Option Int} {Q : Value -> Shared -> Prop} (ht : IsTup s.heap t items) (hs : s.heap.IsSliceOf sl vl vu .none) (pl : IsPart vl lo) (pu : IsPart vu hi)
  (hw : ¬ (sIx items.size 0 lo = 0 /\ sIx items.size items.size hi = items.size))
  (h : Q (.ref s.heap.objs.size) { s with heap := s.heap.push { cls := .type "tuple", data := .seq ((items.toList.drop (sIx items.size 0 lo)).take (sIx items.size items.size hi - sIx items.size 0 lo)).toArray } })
  (hsz : items.size <= sizeLine) : wpAny (model prog w) A (getItem (.ref t) (.ref sl)) Q E s := by
 have htake : sizeOk (.seq ((items.toList.drop (sIx items.size 0 lo)).take (sIx items.size items.size hi - sIx items.size 0 lo)).toArray) := by
  show ((items.toList.drop (sIx items.size 0 lo)).take (sIx items.size items.size hi - sIx items.size 0 lo)).toArray.size <= sizeLine
  rw [List.size_toArray, List.length_take, List.length_drop, Array.length_toList]
  omega
 have hj : sIx items.size items.size hi <= items.size := BZ _ _ (Nat.le_refl _) hi
 obtain ⟨os, hos, hcs, hds⟩ := id hs
 have hTs : s.TypeIs (.ref sl) "slice" := ⟨os, hos, hcs⟩
 unfold getItem
 try with_reducible refine wpAny_holding ?_
 first | refine wpAny_bind (wpAny_pure ?_) | skip
 refine wpAny_bind (wpAny_sequenceKey ht.typeIs (by decide) ?_)
 refine wpAny_bind (wpAny_callSpecial?_slot (name := Str.ofString "__getitem__") ht.typeIs PyProof.Rows.slot_tuple_getitem
  (wpAny_call_entry PyProof.Rows.slot_tuple_getitem ht.typeIs entry_tuple_getitem ?_ (args_tuple_getitem _ _)))
 show wpAny _ _ (Builtin.Tuple.tupleItemsOf (.ref t) >>= _) _ _ s
 refine wpAny_bind (tupleItemsOf_ ht ?_)
 refine wpAny_bind (wpAny_typeOf hTs ?_)
 rw [if_pos (by decide)]
 refine wpAny_bind (kK hs pl pu ?_)
 have hno : ¬ ((((sIx items.size 0 lo : Nat) : Int) == 0 && (1 : Int) == 1 && (sIx items.size items.size hi - sIx items.size 0 lo) == items.size) = true) := by
  intro q
  rw [Bool.and_eq_true, Bool.and_eq_true] at q
  have q1 : ((sIx items.size 0 lo : Nat) : Int) = 0 := eq_of_beq q.1.1
  have q2 : sIx items.size items.size hi - sIx items.size 0 lo = items.size := eq_of_beq q.2
  exact hw ⟨by omega, by omega⟩
 show wpAny _ _ (if (((sIx items.size 0 lo : Nat) : Int) == 0 && (1 : Int) == 1 && (sIx items.size items.size hi - sIx items.size 0 lo) == items.size) = true then _ else _) _ _ s
 rw [if_neg hno, uT]
 first
  | exact wpAny_bind (m := Builtin.Tuple.tupleExact _) (wpAny_newObj_type (wpAny_pure ⟨_, rfl, wpAny_pure h⟩) htake)
  | exact wpAny_bind (m := Builtin.Tuple.tupleExact _) (wpAny_newObj_type (wpAny_bind (wpAny_pure (wpAny_pure ⟨_, rfl, wpAny_pure h⟩))) htake)
  | exact wpAny_bind (wpAny_bind (m := Builtin.Tuple.tupleExact _) (wpAny_newObj_type (wpAny_pure (wpAny_pure ⟨_, rfl, wpAny_pure h⟩)) htake))
  | exact wpAny_bind (wpAny_bind (m := Builtin.Tuple.tupleExact _) (wpAny_newObj_type (wpAny_pure ⟨_, rfl, wpAny_pure h⟩) htake))
end
end HT
namespace L2
open PySem PySem.Spec PyProof.Rows
abbrev TO := St -> Hp -> (Option Int -> Hp -> Prop) -> Prop
noncomputable def PO (X : Cx) (e : Option Expr) (t : TO) : Prop :=
 ∀
  (pins : List (Addr × Obj)) (s : Shared) (σ : St) (H : Hp) (Q : Option Int -> Hp -> Prop), Inv X pins σ H s -> t σ H Q ->
  wpAny (model X.prog X.w) X.A (evalPart e X.env) (fun u s' => ∃ o H', Inv X pins σ H' s' /\ IsPart u o /\ Q o H') X.xe s
noncomputable def ze : TO := fun _ H Q => Q none H
noncomputable def E6 (t : TE) : TO := fun σ H Q => t σ H fun x H1 => ∃ i, x = .int i /\ Q (some i) H1
section
variable {X : Cx} {e : Expr} {te : TE} {lo hi : Option Expr} {tl th : TO} {pos p2 : Pos}
theorem zp : PO X none ze := by
 intro pins s σ H Q I h
 rw [evalPart_none]
 exact wpAny_pure ⟨none, H, I, .none, h⟩
theorem yX (h : PE X e te) : PO X (some e) (E6 te) := by
 intro pins s σ H Q I hw
 rw [evalPart_some]
 refine thn (h pins s σ H _ I hw) fun u s1 ⟨x, H1, I1, r1, q1⟩ => ?_
 obtain ⟨i, rfl, q⟩ := q1
 obtain ⟨t, rfl⟩ := r1
 exact ⟨some i, H1, I1, .int i t, q⟩
noncomputable def SlR (X : Cx) (r : V -> Option Int -> Option Int -> Hp -> VK -> Prop) : Prop :=
 ∀
  (pins : List (Addr × Obj)) (s : Shared) (σ : St) (H : Hp) (x : V) (v vl vu : Value) (lo hi : Option Int) (sl : Addr) (Q : VK), Inv X pins σ H s -> RelV x v -> s.heap.IsSliceOf sl vl vu .none -> IsPart vl lo -> IsPart vu hi -> r x lo hi H Q ->
  ∃ T id, typeLookup (.type T) "__getitem__" = pure (some (.builtin id)) /\ s.TypeIs v T /\ wpAny (model X.prog X.w) X.A (getItem v (.ref sl)) (EP X pins σ Q) X.xe s
theorem SlR.or {r r' : V -> Option Int -> Option Int -> Hp -> VK -> Prop} (h : SlR X r) (h' : SlR X r') : SlR X (fun x lo hi H Q => r x lo hi H Q \/ r' x lo hi H Q) := by
 intro pins s σ H x v vl vu lo hi sl Q I rx hs pl pu q
 rcases q with q | q
 ·exact h pins s σ H x v vl vu lo hi sl Q I rx hs pl pu q
 ·exact h' pins s σ H x v vl vu lo hi sl Q I rx hs pl pu q
noncomputable def tSl (r : V -> Option Int -> Option Int -> Hp -> VK -> Prop) (te : TE) (tl th : TO) : TE := fun σ H Q => te σ H fun x H1 => tl σ H1 fun l H2 => th σ H2 fun u H3 => r x l u H3 Q
theorem vP {r : V -> Option Int -> Option Int -> Hp -> VK -> Prop} (hr : SlR X r) (he : PE X e te) (hl : PO X lo tl) (hu : PO X hi th) : PE X (.Subscript e (.Slice lo hi none p2) pos) (tSl r te tl th) := by
 intro pins s σ H Q I h
 refine Subscript_ (thn (he pins s σ H _ I h) fun v s1 ⟨x, H1, I1, r1, q1⟩ => ?_)
 refine wpAny_Slice (thn (hl pins s1 σ H1 _ I1 q1) fun vl s2 ⟨l, H2, I2, pl, q2⟩ => thn (hu pins s2 σ H2 _ I2 q2) fun vu s3 ⟨u, H3, I3, pu, q3⟩ => ?_)
 rw [evalPart_none]
 refine wpAny_pure ?_
 have I4 : Inv X pins σ H3 { s3 with heap := s3.heap.push { cls := .type "slice", data := .fields #[vl, vu, .none] } } := I3.kept (t' := s3.toks) fun b ob q => Heap.get?_push_of_some _ q
 obtain ⟨T, id, hT, ht, hg⟩ := hr pins { s3 with heap := s3.heap.push { cls := .type "slice", data := .fields #[vl, vu, .none] } } σ H3 x v vl vu l u s3.heap.objs.size Q I4 r1 (Heap.IsSliceOf.new ..) pl pu q3
 show wpAny (model X.prog X.w) X.A (subscriptTail e (.Slice lo hi none p2) v (.ref s3.heap.objs.size)) (EP X pins σ Q) X.xe { s3 with heap := s3.heap.push { cls := .type "slice", data := .fields #[vl, vu, .none] } }
 exact tail_any (ops := [.ref s3.heap.objs.size, v]) ht hT hg (by with_unfolding_all rfl)
noncomputable def jO (xs : List V) (lo hi : Option Int) : List V := (xs.drop (HT.sIx xs.length 0 lo)).take (HT.sIx xs.length xs.length hi - HT.sIx xs.length 0 lo)
theorem kA (xs : List V) (lo hi : Option Int) : (jO xs lo hi).length <= xs.length := by
 unfold jO
 rw [List.length_take, List.length_drop]
 omega
noncomputable def rSlT (K : PySem.W.Frag) : V -> Option Int -> Option Int -> Hp -> VK -> Prop := fun x lo hi H Q => ∃ a xs, x = .ref a /\ SqT K H a xs /\
 ¬ (HT.sIx xs.length 0 lo = 0 /\ HT.sIx xs.length xs.length hi = xs.length) /\ ∀ p, H p = none -> Q (.ref p) (upd H p (.tup (jO xs lo hi)))
theorem zr : SlR X (rSlT X.K) := by
 intro pins s σ H x v vl vu lo hi sl Q I rx hs pl pu h
 obtain ⟨a, xs, rfl, hx, hw, q⟩ := h
 cases rx
 obtain ⟨its, r, ht, hz⟩ := I.tuple hx
 have hlen : its.toArray.size = xs.length := by rw [List.size_toArray]; exact r.length.symm
 refine ⟨"tuple", _, PyProof.Rows.slot_tuple_getitem.lookup, ht.typeIs, ?_⟩
 refine HT.getItem_tuple_cut ht hs pl pu (by rw [hlen]; exact hw) ?_ (by rw [hlen]; exact hz)
 rw [hlen]
 refine ⟨.ref s.heap.objs.size, _, I.laid (t' := s.toks) (o := .tup (jO xs lo hi)) (fun b ob q => Heap.get?_push_of_some _ q) (Nat.le_refl _) ?_, rfl, q _ (I.hok.fresh (Nat.le_refl _))⟩
 exact ⟨Nat.le_trans (kA xs lo hi) hz, _, (r.drop (HT.sIx xs.length 0 lo)).take (HT.sIx xs.length xs.length hi - HT.sIx xs.length 0 lo), IsTup.new _ _⟩
noncomputable def ka (K : PySem.W.Frag) : R2 := fun x y H Q => ∃ a b xs ys, x = .ref a /\ y = .ref b /\ SqT K H a xs /\ SqT K H b ys /\ xs ≠ [] /\ xs.length + ys.length <= sizeLine /\
 (ys = [] -> Q (.ref a) H) /\ (ys ≠ [] -> ∀ p, H p = none -> Q (.ref p) (upd H p (.tup (xs ++ ys))))
theorem Vals.nil_iff {xs : List V} {us : List Value} (r : Vals xs us) : us = [] ↔ xs = [] := by
 cases r with
 | nil => simp
 | cons _ _ => simp
theorem xU : OpR X (binaryOp .Add) (ka X.K) := by
 intro pins s σ H x y v u Q I rx ry h
 obtain ⟨a, b, xs, ys, rfl, rfl, ha, hb, hx, hz, q1, q2⟩ := h
 cases rx
 cases ry
 obtain ⟨its, r1, p1, _⟩ := I.tuple ha
 obtain ⟨its2, r2, p2, _⟩ := I.tuple hb
 refine HT.cat_tup p1 p2 (fun z => hx (r1.nil_iff.mp z)) (fun z => ⟨.ref a, H, I, rfl, q1 (r2.nil_iff.mp z)⟩) (fun z => ?_) (by rw [<- r1.length, <- r2.length]; exact hz)
 refine ⟨.ref s.heap.objs.size, _, I.laid (t' := s.toks) (o := .tup (xs ++ ys)) (fun b ob q => Heap.get?_push_of_some _ q) (Nat.le_refl _) ?_, rfl, q2 (fun w => z (r2.nil_iff.mpr w)) _ (I.hok.fresh (Nat.le_refl _))⟩
 exact ⟨by rw [List.length_append]; exact hz, _, r1.append r2, IsTup.new _ _⟩
end
end L2
namespace L2
open PySem PySem.Spec PyProof.Rows
noncomputable def ixN (n : Nat) (i : Int) : Option Nat := if 0 <= i then (if i < n then some i.toNat else none) else if -(n : Int) <= i then some (i + n).toNat else none
noncomputable def atI {α : Type} (xs : List α) (i : Int) : Option α := (ixN xs.length i).bind fun j => xs[j]?
theorem qh {n : Nat} {i : Int} {j : Nat} (h : ixN n i = some j) : seqIndex? i n = some j /\ j < n /\ -(n : Int) <= i /\ i < n := by
 unfold ixN at h
 by_cases h0 : 0 <= i
 ·rw [if_pos h0] at h
  by_cases h1 : i < n
  ·rw [if_pos h1] at h
   have e : i.toNat = j := Option.some.inj h
   exact ⟨by rw [seqIndex_of h0 h1, e], by omega, by omega, h1⟩
  ·rw [if_neg h1] at h; cases h
 ·rw [if_neg h0] at h
  by_cases h1 : -(n : Int) <= i
  ·rw [if_pos h1] at h
   have e : (i + n).toNat = j := Option.some.inj h
   exact ⟨by rw [seqIndex_neg (by omega) h1, e], by omega, h1, by omega⟩
  ·rw [if_neg h1] at h; cases h
theorem qr {α : Type} {xs : List α} {i : Int} {v : α} (h : atI xs i = some v) : ∃ j, seqIndex? i xs.length = some j /\ xs[j]? = some v /\ j < xs.length /\ -(xs.length : Int) <= i /\ i < xs.length := by
 unfold atI at h
 cases e : ixN xs.length i with
 | none => rw [e] at h; cases h
 |
  some j =>
  rw [e] at h
  obtain ⟨h1, h2, h3, h4⟩ := qh e
  exact ⟨j, h1, h, h2, h3, h4⟩
noncomputable def mj (b : Expr) : Prop := ∀ o i, subscripted b false o i = operate [o, i] (getItem o i)
noncomputable def IxR (X : Cx) (r : R2) : Prop :=
 ∀
  (value slice : Expr) (pins : List (Addr × Obj)) (s : Shared) (σ : St) (H : Hp) (x y : V) (v u : Value) (Q : VK), Inv X pins σ H s -> RelV x v -> RelV y u -> r x y H Q ->
  subscripted slice false v u = operate [v, u] (getItem v u) -> wpAny (model X.prog X.w) X.A (subscriptTail value slice v u) (EP X pins σ Q) X.xe s
noncomputable def MtR (X : Cx) (id : String) (r : V -> List V -> Hp -> VK -> Prop) : Prop :=
 ∀
  (pins : List (Addr × Obj)) (s : Shared) (σ : St) (H : Hp) (x : V) (xs : List V) (v : Value) (us : List Value) (Q : VK), Inv X pins σ H s -> RelV x v -> Vals xs us -> r x xs H Q ->
  wpAny (model X.prog X.w) X.A (call (.builtin id) (v :: us)) (EP X pins σ Q) X.xe s
section
variable {X : Cx} {a b : Expr} {ta tb : TE} {pos : Pos}
theorem IxR.or {r r' : R2} (h : IxR X r) (h' : IxR X r') : IxR X (fun x y H Q => r x y H Q \/ r' x y H Q) := by
 intro value slice pins s σ H x y v u Q I rx ry q hs
 rcases q with q | q
 ·exact h value slice pins s σ H x y v u Q I rx ry q hs
 ·exact h' value slice pins s σ H x y v u Q I rx ry q hs
theorem Dm {r : R2} (hr : IxR X r) (ha : PE X a ta) (hb : PE X b tb) (hs : mj b) : PE X (.Subscript a b pos) (tOp r ta tb) := by
 intro pins s σ H Q I h
 exact Subscript_ (u5 ha hb I h fun v u s2 x y H2 I2 rx ry q => hr a b pins s2 σ H2 x y v u Q I2 rx ry q (hs _ _))
noncomputable def sq (K : PySem.W.Frag) : R2 := fun x y H Q => ∃ p xs i v, x = .ref p /\ y = .int i /\ SqL K H p xs /\ atI xs i = some v /\ Q v H
noncomputable def sf (K : PySem.W.Frag) : R2 := fun x y H Q => ∃ p xs i v, x = .ref p /\ y = .int i /\ SqT K H p xs /\ atI xs i = some v /\ Q v H
theorem zc : IxR X (sq X.K) := by
 intro value slice pins s σ H x y v u Q I rx ry h hs
 obtain ⟨p, xs, i, z, rfl, rfl, hq, he, q⟩ := h
 cases rx
 obtain ⟨t, rfl⟩ := ry
 obtain ⟨its, r, pl, hz⟩ := I.list hq
 obtain ⟨j, h1, h2, h3, h4, h5⟩ := qr he
 obtain ⟨w, ew, rw'⟩ := r.get h2
 have hl := r.length
 have hn := gw
 have fin : EP X pins σ Q w s := ⟨z, H, I, rw', q⟩
 by_cases h0 : 0 <= i
 ·have hj : i.toNat = j := by
   rw [seqIndex_of h0 h5] at h1
   exact Option.some.inj h1
  exact item_listR pl.isList h0 (by omega) (by rw [hj]; simpa using ew) fin hs
 ·have hj : (i + (its.toArray.size : Int)).toNat = j := by
   rw [seqIndex_neg (by omega) h4] at h1
   rw [List.size_toArray, <- hl]
   exact Option.some.inj h1
  exact subscriptTail_builtinR (x := w) pl.isList.typeIs slot_list_getitem.lookup
   (wpAny_getItem_list_neg (Q := fun r s' => r = w /\ EP X pins σ Q r s') pl.isList (by omega) (by rw [List.size_toArray] <;> omega) (by omega) (by rw [hj]; simpa using ew) ⟨rfl, fin⟩) hs
theorem BX : IxR X (sf X.K) := by
 intro value slice pins s σ H x y v u Q I rx ry h hs
 obtain ⟨p, xs, i, z, rfl, rfl, hq, he, q⟩ := h
 cases rx
 obtain ⟨t, rfl⟩ := ry
 obtain ⟨its, r, pl, hz⟩ := I.tuple hq
 obtain ⟨j, h1, h2, h3, h4, h5⟩ := qr he
 obtain ⟨w, ew, rw'⟩ := r.get h2
 have hl := r.length
 have hn := gw
 have fin : EP X pins σ Q w s := ⟨z, H, I, rw', q⟩
 exact subscriptTail_builtinR (x := w) pl.typeIs slot_tuple_getitem.lookup
  (getItem_tuple (j := j) (Q := fun r s' => r = w /\ EP X pins σ Q r s') pl (by omega) (by omega) (by rw [List.size_toArray, <- hl]; exact h1) (by simpa using ew) ⟨rfl, fin⟩) hs
theorem rO (its : List Value) (n j : Nat) (u : Value) : Obj.mapSeq (·.setIfInBounds j u) { cls := .type "list", data := .seq its.toArray n } = { cls := .type "list", data := .seq (its.set j u).toArray n } := by
 simp [Obj.mapSeq]
theorem Inv.lst {pins : List (Addr × Obj)} {σ : St} {H : Hp} {s : Shared} {p : Addr} {xs : List V} (I : Inv X pins σ H s) (h : H p = some (.lst xs)) :
  ∃ (its : List Value) (n : Nat), Vals xs its /\ s.heap.get? p = some { cls := .type "list", data := .seq its.toArray n } /\ xs.length <= sizeLine := by
 obtain ⟨z, its, n, r, e⟩ := I.hok p _ h
 exact ⟨its, n, r, e, z⟩
theorem Inv.lstUpd {pins : List (Addr × Obj)} {σ : St} {H : Hp} {s : Shared} {p : Addr} {xs ys : List V} {its its' : List Value} {n n' : Nat} {f : Obj -> Obj} (I : Inv X pins σ H s) (h : H p = some (.lst xs))
  (ho : s.heap.get? p = some { cls := .type "list", data := .seq its.toArray n }) (hf : f { cls := .type "list", data := .seq its.toArray n } = { cls := .type "list", data := .seq its'.toArray n' }) (r : Vals ys its') (hz : ys.length <= sizeLine) (t : Nat) :
  Inv X pins σ (upd H p (.lst ys)) { s with heap := s.heap.update p f, toks := t } := by
 have e : (s.heap.update p f).get? p = some { cls := .type "list", data := .seq its'.toArray n' } := by
  rw [Heap.get?_update_self f ho (by rw [hf] <;> rfl), hf]
 refine I.write (x := p) (e := p) (by rw [h]; trivial) (.inl rfl) (fun b u hb q => (Heap.get?_update_other _ _ (Ne.symm hb)).trans q) ⟨_, e⟩ ?_
 exact ⟨hz, its', n', r, e⟩
noncomputable def qU : V -> V -> V -> Hp -> (Hp -> Prop) -> Prop := fun o i v H Q => ∃ p xs k j, o = .ref p /\ i = .int k /\ H p = some (.lst xs) /\ ixN xs.length k = some j /\ Q (upd H p (.lst (xs.set j v)))
theorem kB : so X qU := by
 intro pins s σ H o i v ov iv u Q I ro ri rv h
 obtain ⟨p, xs, k, j, rfl, rfl, hp, hj, q⟩ := h
 cases ro
 obtain ⟨t, rfl⟩ := ri
 obtain ⟨its, n, r, ho, hz⟩ := I.lst hp
 obtain ⟨h1, h2, h3, h4⟩ := qh hj
 have hl := r.length
 have hn := gw
 have I' : Inv X pins σ (upd H p (.lst (xs.set j v))) { s with heap := s.heap.update p (Obj.mapSeq (·.setIfInBounds j u)) } :=
  I.lstUpd hp ho (rO its n j u) (r.set rv j) (by rw [List.length_set]; exact hz) s.toks
 by_cases h0 : 0 <= k
 ·have hk : k.toNat = j := by
   rw [seqIndex_of h0 h4] at h1
   exact Option.some.inj h1
  exact PySem.W.ki_setAt ho h0 (by omega) (by rw [List.size_toArray, <- hl]; exact h4) (by rw [hk]; exact ⟨_, I', q⟩)
 ·have hk : (k + (its.toArray.size : Int)).toNat = j := by
   rw [seqIndex_neg (by omega) h3] at h1
   rw [List.size_toArray, <- hl]
   exact Option.some.inj h1
  exact PySem.W.ki_setBack ho (by omega) (by rw [List.size_toArray, <- hl]; exact h3) (by omega) (by rw [hk]; exact ⟨_, I', q⟩)
theorem pD (lo hi : Option Int) (n : Nat) : (sliceBounds lo hi none n).1 = ((HT.sIx n 0 lo : Nat) : Int) /\ (sliceBounds lo hi none n).2.1 = ((HT.sIx n n hi : Nat) : Int) /\ (sliceBounds lo hi none n).2.2 = 1 := by
 refine ⟨?_, ?_, rfl⟩
 ·cases lo with
  | none => simp [sliceBounds, HT.sIx]
  |
   some i =>
   simp only [sliceBounds, HT.sIx, Option.getD_none, show (1 : Int) > 0 by decide, if_true]
   by_cases h : i < 0
   ·simp only [h, if_true] <;> omega
   ·simp only [h, if_false] <;> omega
 ·cases hi with
  | none => simp [sliceBounds, HT.sIx]
  |
   some i =>
   simp only [sliceBounds, HT.sIx, Option.getD_none, show (1 : Int) > 0 by decide, if_true]
   by_cases h : i < 0
   ·simp only [h, if_true] <;> omega
   ·simp only [h, if_false] <;> omega
theorem nh (its : List Value) (lo hi : Option Int) : slicePick its.toArray lo hi none = ((its.drop (HT.sIx its.length 0 lo)).take (HT.sIx its.length its.length hi - HT.sIx its.length 0 lo)).toArray := by
 obtain ⟨h1, h2, h3⟩ := pD lo hi its.toArray.size
 unfold slicePick
 rw [h1, h2, h3]
 simp only [sliceRange_one, pick_run, List.size_toArray] <;> rfl
noncomputable def rSlL (K : PySem.W.Frag) : V -> Option Int -> Option Int -> Hp -> VK -> Prop := fun x lo hi H Q => ∃ a xs, x = .ref a /\ SqL K H a xs /\ ∀ p, H p = none -> Q (.ref p) (upd H p (.lst (jO xs lo hi)))
theorem zm : SlR X (rSlL X.K) := by
 intro pins s σ H x v vl vu lo hi sl Q I rx hs pl pu h
 obtain ⟨a, xs, rfl, hx, q⟩ := h
 cases rx
 obtain ⟨its, r, ht, hz⟩ := I.list hx
 have hlen := r.length
 refine ⟨"list", _, slot_list_getitem.lookup, ht.isList.typeIs, ?_⟩
 refine wpAny_getItem_list_slice ht.isList hs pl pu .none (by simp) ?_ (by rw [List.size_toArray] <;> omega)
 rw [nh, <- hlen]
 refine ⟨.ref s.heap.objs.size, _, I.laid (t' := s.toks) (o := .lst (jO xs lo hi)) (fun b ob q => Heap.get?_push_of_some _ q) (Nat.le_refl _) ?_, rfl, q _ (I.hok.fresh (Nat.le_refl _))⟩
 exact ⟨Nat.le_trans (kA xs lo hi) hz, _, 0, (r.drop (HT.sIx xs.length 0 lo)).take (HT.sIx xs.length xs.length hi - HT.sIx xs.length 0 lo), Heap.get?_push_size _ rfl⟩
noncomputable def cH : V -> Bool
 | .non => true
 | .bl _ => true
 | .int _ => true
 | .str _ => true
 | _ => false
theorem oO : CallR X (.builtin "len") (fun xs H Q => ∃ p ys, xs = [.ref p] /\ (SqL X.K H p ys \/ SqT X.K H p ys) /\ Q (.int ys.length) H) := by
 intro pins s σ H xs us Q I r h
 obtain ⟨p, ys, rfl, hq, q⟩ := h
 obtain ⟨u, rfl, rx⟩ := gi r
 cases rx
 have hn := gw
 rcases hq with hq | hq
 ·obtain ⟨its, r', pl, hz⟩ := I.list hq
  have hlen := r'.length
  exact Calls.call_len_list pl.isList (by simp only [List.size_toArray] <;> omega) ⟨.int ys.length, H, I.tok _, ⟨s.toks + 1, by rw [List.size_toArray, hlen]⟩, q⟩
 ·obtain ⟨its, r', pl, hz⟩ := I.tuple hq
  have hlen := r'.length
  exact len_tuple pl (by simp only [List.size_toArray] <;> omega) ⟨.int ys.length, H, I.tok _, ⟨s.toks + 1, by rw [List.size_toArray, hlen]⟩, q⟩
theorem o8 : CallR X (.builtin "len") (fun xs H Q => ∃ z, xs = [.str z] /\ z.length <= sizeLine /\ Q (.int z.length) H) := by
 intro pins s σ H xs us Q I r h
 obtain ⟨z, rfl, hz, q⟩ := h
 obtain ⟨u, rfl, t, rfl⟩ := gi r
 have hn := gw
 exact len_str (by omega) ⟨.int z.length, H, I.tok _, ⟨_, rfl⟩, q⟩
theorem CallR.or {f : Value} {r r' : List V -> Hp -> VK -> Prop} (h : CallR X f r) (h' : CallR X f r') : CallR X f (fun xs H Q => r xs H Q \/ r' xs H Q) := by
 intro pins s σ H xs us Q I rs q
 rcases q with q | q
 ·exact h pins s σ H xs us Q I rs q
 ·exact h' pins s σ H xs us Q I rs q
theorem nU : CallR X (.type "list") (fun xs H Q => ∃ p ys, xs = [.ref p] /\ (SqL X.K H p ys \/ SqT X.K H p ys) /\ ∀ l, H l = none -> Q (.ref l) (upd H l (.lst ys))) := by
 intro pins s σ H xs us Q I r h
 obtain ⟨p, ys, rfl, hq, q⟩ := h
 obtain ⟨u, rfl, rx⟩ := gi r
 cases rx
 have fin : ∀ (its : List Value), Vals ys its -> ys.length <= sizeLine -> ∀ (h' : Heap) (c' : Nat), (∀ b o', s.heap.get? b = some o' -> h'.get? b = some o') ->
   h'.get? s.heap.objs.size = some { cls := .type "list", dict := none, data := .seq its.toArray c', slots := #[] } -> EP X pins σ Q (.ref s.heap.objs.size) { s with heap := h' } := fun its r' hz h' c' kp e =>
  ⟨.ref s.heap.objs.size, _, I.laid (t' := s.toks) kp (Nat.le_refl _) (show ObjOk X.prog X.w _ h' _ (.lst ys) from ⟨hz, its, c', r', e⟩), rfl, q _ (I.hok.fresh (Nat.le_refl _))⟩
 rcases hq with hq | hq
 ·obtain ⟨its, r', pl, hz⟩ := I.list hq
  have hlen := r'.length
  obtain ⟨o, ho, hc, n, hd⟩ := pl.isList
  exact call_list_seq p (.inl rfl) ho hc hd (fun h' c' kp e => fin its r' hz h' c' kp e) (by simp only [List.size_toArray] <;> omega)
 ·obtain ⟨its, r', pl, hz⟩ := I.tuple hq
  have hlen := r'.length
  obtain ⟨o, ho, hc, n, hd⟩ := pl
  exact call_list_seq p (.inr rfl) ho hc hd (fun h' c' kp e => fin its r' hz h' c' kp e) (by simp only [List.size_toArray] <;> omega)
theorem nj : CallR X (.type "tuple") (fun xs H Q => ∃ p ys, xs = [.ref p] /\ ((SqL X.K H p ys /\ ∀ l, H l = none -> Q (.ref l) (upd H l (.tup ys))) \/ (SqT X.K H p ys /\ Q (.ref p) H))) := by
 intro pins s σ H xs us Q I r h
 obtain ⟨p, ys, rfl, h⟩ := h
 obtain ⟨u, rfl, rx⟩ := gi r
 cases rx
 rcases h with ⟨hq, q⟩ | ⟨hq, q⟩
 ·obtain ⟨its, r', pl, hz⟩ := I.list hq
  have hlen := r'.length
  refine call_tuple_list pl.isList (fun h' kp => ?_) (by simp only [List.size_toArray] <;> omega)
  have I1 : Inv X pins σ H { s with heap := h' } := I.kept (t' := s.toks) kp
  have I2 : Inv X pins σ (upd H h'.objs.size (.tup ys)) { s with heap := h'.push { cls := .type "tuple", data := .seq its.toArray } } :=
   I1.laid (t' := s.toks) (fun b o e => Heap.get?_push_of_some _ e) (Nat.le_refl _) (show ObjOk X.prog X.w _ _ _ (.tup ys) from ⟨hz, its, r', IsTup.new _ _⟩)
  exact ⟨.ref h'.objs.size, _, I2, rfl, q _ (I1.hok.fresh (Nat.le_refl _))⟩
 ·obtain ⟨its, r', pl, hz⟩ := I.tuple hq
  exact call_tuple_same pl ⟨.ref p, H, I, rfl, q⟩
noncomputable def tyV (K : PySem.W.Frag) (T : String) (x : V) (H : Hp) : Prop := match x with
 | .str _ => T = "str"
 | .int _ => T = "int"
 | .ref p => (T = "list" /\ ∃ xs, SqL K H p xs) \/ (T = "tuple" /\ ∃ o, K.lookup p = some o /\ o.cls = .type "tuple" /\ o.dict = none) \/
   (T = "dict" /\ ((∃ kvs, H p = some (.dK kvs)) \/ ∃ kvs, H p = some (.dT kvs))) \/ (T = "set" /\ ∃ S n, H p = some (.set S n))
 | _ => False
theorem
    Az {pins : List (Addr × Obj)} {σ : St} {H : Hp} {s : Shared} {T : String} {x : V} {v : Value} (I : Inv X pins σ H s) (r : RelV x v) (ty : tyV X.K T x H) :
  s.TypeIs v T /\ ∀ a, v = .ref a -> ∃ ob, s.heap.get? a = some ob /\ ob.dict = none := by
 cases x with
 |
  str z =>
  obtain ⟨t, rfl⟩ := r
  cases (show T = "str" from ty)
  exact ⟨typeIs_str s z t, fun _ e => nomatch e⟩
 |
  int i =>
  obtain ⟨t, rfl⟩ := r
  cases (show T = "int" from ty)
  exact ⟨typeIs_int s i t, fun _ e => nomatch e⟩
 |
  ref p =>
  cases r
  rcases ty with ⟨rfl, xs, hq⟩ | ⟨rfl, o, hk, hc, hd⟩ | ⟨rfl, hk⟩ | ⟨rfl, S, n, hk⟩
  ·obtain ⟨its, _, pl, _⟩ := I.list hq
   refine ⟨pl.isList.typeIs, fun a e => ?_⟩
   cases e
   obtain ⟨o, n, e, c, hd, _⟩ := pl
   exact ⟨o, e, hd⟩
  ·refine ⟨⟨o, I.kIn p o hk, hc⟩, fun a e => ?_⟩
   cases e
   exact ⟨o, I.kIn _ o hk, hd⟩
  ·have z : ∃ o, s.heap.get? p = some o /\ o.ExactDict := by
    rcases hk with ⟨kvs, hk⟩ | ⟨kvs, hk⟩
    ·obtain ⟨_, _, _, _, o, _, _, e, ex, _⟩ := I.hok p _ hk
     exact ⟨o, e, ex⟩
    ·obtain ⟨_, _, _, _, o, _, _, e, ex, _⟩ := I.hok p _ hk
     exact ⟨o, e, ex⟩
   obtain ⟨o, e, ex⟩ := z
   refine ⟨⟨o, e, ex.1⟩, fun a e2 => ?_⟩
   cases e2
   exact ⟨o, e, ex.2.1⟩
  ·obtain ⟨o, _, _, _, e, ex, _⟩ := I.hok p _ hk
   refine ⟨⟨o, e, ex.1⟩, fun a e2 => ?_⟩
   cases e2
   exact ⟨o, e, ex.2.1⟩
 | _ => exact False.elim ty
noncomputable def tBM (K : PySem.W.Frag) (T : String) (r : V -> List V -> Hp -> VK -> Prop) (to : TE) (t : TA) : TE := fun σ H Q => to σ H fun x H1 => tyV K T x H1 /\ t σ H1 fun xs H2 => r x xs H2 Q
variable {o e : Expr} {es : List Expr} {to : TE} {t : TA} {name : Str} {apos cpos : Pos} {T id : String} {r : V -> List V -> Hp -> VK -> Prop}
theorem EK (pa : PlainAttrs T) (slot : Slot T name id) (hty : typeOf (.builtin id) = pure (.type "method_descriptor")) (hm : MtR X id r) (ho : PE X o to) (ha : PA X (e :: es) t)
  (hbase : attributeBase o name X.env (eval o X.env) = eval o X.env := by rfl)
  (hfew : ((backTo cpos (starEach (e :: es) X.env)).all (fun x => !x.1) && (backToKw cpos (keywordEach [] X.env)).all (fun x => x.1.isSome)
   && decide ((e :: es).length + ([] : List Keyword).length + (if ([] : List Keyword).isEmpty then 0 else 1) < 30)) = true := by rfl)
  (hline : (apos.endLine == cpos.line) = true := by rfl) (hs : starEach (e :: es) X.env = (false, eval e X.env) :: starEach es X.env := by rfl) (hplain : (backTo cpos (starEach es X.env)).any (·.1) = false := by rfl) :
  PE X (.Call (.Attribute o name apos) (e :: es) [] cpos) (tBM X.K T r to t) := by
 intro pins s σ H Q I h
 refine wpAny_Call_method_late hbase hfew hline rfl (thn (ho pins s σ H _ I h) fun v s1 ⟨x, H1, I1, r1, ty, q1⟩ => ?_)
 obtain ⟨h1, h2⟩ := Az I1 r1 ty
 refine ⟨T, id, pa, slot, hty, h1, h2, ?_⟩
 have hA := ha cpos pins s1 σ H1 _ I1 q1
 rw [hs] at hA ⊢
 refine Calls.callWith_builtin (by show (false || (backTo cpos (starEach es X.env)).any (·.1)) = false; rw [hplain] <;> rfl) (Calls.evalArgs_plain ?_)
 exact thn hA fun us s2 ⟨vs, H2, I2, r2, q2⟩ => hm pins s2 σ H2 x vs v us Q I2 r1 r2 q2
end
end L2
namespace L2
open PySem PySem.Spec PyProof.Rows
noncomputable def MtM (X : Cx) (id : String) (r : V -> List V -> Hp -> VK -> Prop) : Prop :=
 ∀
  (pins : List (Addr × Obj)) (s : Shared) (σ : St) (H : Hp) (x : V) (xs : List V) (v : Value) (us : List Value) (Q : VK), Inv X pins σ H s -> RelV x v -> Vals xs us -> r x xs H Q ->
  wpAny (model X.prog X.w) X.A (call (.builtin id) (v :: us)) (EP X pins σ Q) X.xe s
theorem Vals.one {x : V} {us : List Value} (r : Vals [x] us) : ∃ u, us = [u] /\ RelV x u := by
 cases r with
 | cons r t => cases t; exact ⟨_, rfl, r⟩
section
variable {X : Cx} {pins : List (Addr × Obj)} {σ : St} {H : Hp} {s : Shared} {l b : Addr} {xs ys zs : List V}
theorem Inv.lnew {its : List Value} {t' : Nat} (I : Inv X pins σ H s) (hv : Vals ys its) (hz : ys.length <= sizeLine) :
  Inv X pins σ (upd H s.heap.objs.size (.lst ys)) { s with heap := s.heap.push { cls := .type "list", data := .seq its.toArray }, toks := t' } :=
 I.laid (fun _ _ q => Heap.get?_push_of_some _ q) (Nat.le_refl _) ⟨hz, its, 0, hv, Heap.get?_push_size _ rfl⟩
theorem Inv.fresh (I : Inv X pins σ H s) : H s.heap.objs.size = none := I.hok.fresh (Nat.le_refl _)
theorem Inv.lstM (I : Inv X pins σ H s) (hH : H l = some (.lst xs)) : xs.length <= sizeLine /\ ∃ (its : List Value) (n : Nat), Vals xs its /\ xs.length = its.length /\ s.heap.get? l = some { cls := .type "list", data := .seq its.toArray n } := by
 obtain ⟨z, its, n, r, e⟩ := I.hok l _ hH
 exact ⟨z, its, n, r, r.length, e⟩
end
section
variable {X : Cx}
noncomputable def l6 : R2 := fun x y H Q => ∃ l b xs zs, x = .ref l /\ y = .ref b /\ H l = some (.lst xs) /\ H b = some (.lst zs) /\ xs.length + zs.length <= sizeLine /\ ∀ p, H p = none -> Q (.ref p) (upd H p (.lst (xs ++ zs)))
theorem CH : OpR X (binaryOp .Add) l6 := by
 intro pins s σ H x y v u Q I rx ry h
 obtain ⟨l, b, xs, zs, rfl, rfl, hH, hB, hz, q⟩ := h
 cases rx
 cases ry
 obtain ⟨z, its, n, r, hl, e⟩ := I.lstM hH
 obtain ⟨z2, its2, n2, r2, hl2, e2⟩ := I.lstM hB
 refine PySem.P.add_list e e2 ?_ (by rw [List.size_toArray, List.size_toArray]; omega)
 have ea : its.toArray ++ its2.toArray = (its ++ its2).toArray := by simp
 rw [ea]
 exact ⟨.ref _, _, I.lnew (t' := s.toks) (r.append r2) (by rw [List.length_append]; omega), rfl, q _ I.fresh⟩
end
section
variable {prog : Program} {w : World} {A : Around} {E : Value -> Shared -> Prop} {s : Shared}
set_option maxRecDepth 100000 in
end
section
variable {X : Cx}
end
end L2
namespace Att
open PySem PySem.W PySem.Calls PyProof.Rows
theorem lK {P : Params} {h : Heap} : ∀ (ns : List Int) (vs : List Value), WellAll P h vs (ns.map WData.int) -> IntsAre vs ns := by
 intro ns
 induction ns with
 |
  nil =>
  intro vs w
  rw [List.map_nil] at w
  cases w
  exact .nil
 |
  cons n ns ih =>
  intro vs w
  rw [List.map_cons] at w
  cases w with
  |
   cons a b =>
   cases a
   exact .cons _ _ (ih _ b)
theorem ua {l : OpenLaw} {n : Nat} (hn : l.most = some n) {P : Params} {h : Heap} {args : List WData} {vals : List Value}
  (hpre : l.row.toRowW.claim.pre args = true) (hwl : WellAll P h vals args) :
  ∃ a vs ns, vals = [Value.ref a] /\ args = [WData.list (ns.map WData.int)] /\ h.get? a = some { cls := .type "list", data := .seq vs.toArray } /\ IntsAre vs ns /\ ns.length <= n := by
 have hsh : WShape.hasAll [] args [.list .int] = true := (pre_splitW hpre).1
 have hc : l.pre.holds [] { args := args } = true := (pre_splitW hpre).2
 obtain ⟨d, r, rfl, h1, h2⟩ := hasAllW_cons hsh
 obtain rfl := hasAllW_nil h2
 obtain ⟨xs, rfl, h3⟩ := hasW_list h1
 obtain ⟨ns, rfl⟩ := items_int h3
 have hlen : ns.length <= n := by
  unfold OpenLaw.pre at hc
  have h4 : (WTm.not (.lt (.lit (.int (n : Int))) (.len (.arg 0)))).holds [] { args := [.list (ns.map .int)] } = true := by
   have h4 := (holds_andW hc).1
   rw [hn] at h4
   exact h4
  have h5 := condW_of h4 (w_not (w_lt w_lit (w_len_list (w_arg rfl))))
  rw [List.length_map] at h5
  refine Nat.le_of_not_lt fun q => ?_
  have q' : (n : Int) < ((ns.length : Nat) : Int) := by omega
  first
   | (rw [decide_eq_true q'] at h5; exact absurd h5 (by decide))
   | (simp at h5; omega)
 cases hwl with
 |
  cons w1 w2 =>
  cases w2
  cases w1 with
  | list ho hall => exact ⟨_, _, ns, rfl, rfl, ho, lK ns _ hall, hlen⟩
theorem sS (l : OpenLaw) (args : List WData) : l.row.toRowW.claim.post args (.bool true) args = true :=
 postW_of (r := l.row.toRowW) (X := (true == true))
  (show WShape.has [] (.bool true) .bool = true by first | rfl | decide | simp [WShape.has, WShape.arms, WShape.armsAll])
  (show (WTm.eq .res (.lit (.bool true))).value [] { args := args, res := some (.bool true), after := args } = some (.bool (true == true)) from w_eq_bool (w_res rfl) w_lit) rfl
theorem attach_call {l : OpenLaw} {n : Nat} {q : Program} {loose : List Str} {XP : (Str -> Option Value) -> Heap -> Prop} {YP : World -> Heap -> Prop} {d : DefRec}
  (hn : l.most = some n) (hdf : d.params.defaults = [])
  (call : ∀ (w : World) (s₀ s₁ : Shared) (mg mb : Str -> Option Value) (fa : Addr) (o : Obj) (pm cd doc : Value) (a : Addr) (vs : List Value) (ns : List Int),
   Ground q loose [] XP w s₀ mg mb s₁.heap -> YP w s₁.heap ->
   s₁.heap.get? fa = some o -> o.data = .func (docDef d.name d.params d.body d.scope pm cd doc) -> s₁.heap.CodeRec cd d.name -> mg d.name = some (.ref fa) ->
   s₁.heap.get? a = some { cls := .type "list", data := .seq vs.toArray } -> IntsAre vs ns -> ns.length <= n -> s₁.gens = #[] ->
   codeAny (model l.prog w) callerA (.call (.ref fa) ⟨[.ref a], []⟩) (fun r s' => r = .ok (.ret (.bool true)) /\ OldK s₁.heap s'.heap /\ s'.os = s₁.os /\ AllBare s'.gens) s₁) :
  WalkO q loose XP YP l.row.toRowW d [] (fun f vs => PySem.call f vs) := by
 intro w s₀ s₁ mg mb G Y fa o pm cd doc dV kV ho hd hcd hD hmg hg args vals as hpre hlay hrd hwl hlo
 obtain rfl : dV = .none := Dflts.none hD hdf
 obtain rfl : kV = .none := Dflts.noKw hD
 obtain ⟨a, vs, ns, rfl, rfl, hobj, hints, hlen⟩ := ua hn hpre hwl
 refine enter_call (codeAny_mono (call w s₀ s₁ mg mb fa o pm cd doc a vs ns G Y ho (fd_plain hd) hcd hmg hobj hints hlen hg) fun r s' hq => ?_)
 obtain ⟨rfl, h2, h3, h4⟩ := hq
 exact ⟨.inl ⟨.bool true, .bool true, [], rfl, fun _ => rfl, .bool true, sS l _, fun _ => ⟨List.Pairwise.nil, fun _ hm => (nomatch hm)⟩⟩, h2, h3, h4⟩
section
variable {prog : Program} {w : World} {A : Around} {E : Value -> Shared -> Prop} {s : Shared} {K : Frag}
noncomputable def ledger (h : Heap) (L d : Addr) : List (Addr × Obj) := (List.range h.objs.size).filterMap fun a => if a = L \/ a = d then none else (h.get? a).map fun o => (a, o)
end
end Att
namespace L2
open PySem PySem.Spec PyProof.Rows
theorem mW : ∀ {vs : List Value} {ns : List Int}, IntsAre vs ns -> Vals (ns.map V.int) vs
 | _, _, .nil => .nil
 | _, _, .cons n t h => .cons ⟨t, rfl⟩ (mW h)
noncomputable def mH (H : Hp) : Prop := ∀ b, H b = none \/ ∃ o xs, H b = some (.frz o (.lst xs))
theorem
    vU {P : Program} {w : World} {K : PySem.W.Frag} {mg mb : Str -> Option Value} {CX : CXT} {k : Nat} {fa a : Addr} {fd : FuncData} {x : Str} {sp : Sp} {s₁ : Shared} {vs : List Value} {ns : List Int}
  (KX : K.In s₁.heap) (hns : s₁.heap.Ns mainGlobals mg) (hb : s₁.heap.Ns builtinsNs mb) (hbb : ∀ x : Str, x ≠ "__name__" -> mb x = bootBuiltins x) (hlim : s₁.heap.NoLimit) (hg : s₁.gens = #[])
  (ha : s₁.heap.get? a = some { cls := .type "list", data := .seq vs.toArray }) (hi : IntsAre vs ns) (hl : ns.length <= sizeLine) (hr : Room k callerA)
  (F : ∀ base : Heap, K.In base -> base.Ns mainGlobals mg -> FnOk P w K mg base CX k fa fd [x] sp) (hbind : ∀ (s : Shared) (u : Value), BindsTo s fd ⟨[u], []⟩ [(x, u)])
  (hsp : ∀ H : Hp, mH H -> SqL K H a (ns.map V.int) -> sp [.ref a] H (fun v _ => v = .bl true) fun _ _ _ => False)
  (hCX : ∀ H e s', CX [] H s₁ (fun _ _ _ => False) e s' -> False) :
  codeAny (model P w) callerA (.call (.ref fa) ⟨[.ref a], []⟩) (fun r s' => r = .ok (.ret (.bool true)) /\ OldK s₁.heap s'.heap /\ s'.os = s₁.os /\ AllBare s'.gens) s₁ := by
 have rv := mW hi
 have lenV := hi.length
 have core
      : ∀ H : Hp, mH H -> SqL K H a (ns.map V.int) -> HOk P w H s₁.heap -> (∀ b, H b ≠ none -> b = a) -> (H a ≠ none -> K.lookup a = none) ->
   codeAny (model P w) callerA (.call (.ref fa) ⟨[.ref a], []⟩) (fun r s' => r = .ok (.ret (.bool true)) /\ OldK s₁.heap s'.heap /\ s'.os = s₁.os /\ AllBare s'.gens) s₁ := by
  intro H hO hS hok hA hK
  have base_of : ∀ {b : Addr} {o : Obj}, s₁.heap.get? b = some o -> H b = none -> (jd s₁.heap H).get? b = some o := fun e n => vA e n
  have noA : ∀ {b : Addr} {o : Obj} {es : Array DictEntry} {ep : Nat}, s₁.heap.get? b = some o -> o.data = .dict es ep -> H b = none := fun {b o es ep} e d => by
   cases q : H b with
   | none => rfl
   |
    some u =>
    have e' : b = a := hA b (by rw [q]; simp)
    subst e'
    rw [ha] at e; cases e
    have d' : Data.seq vs.toArray _ = Data.dict es ep := d
    cases d'
  have nsK : ∀ {b : Addr} {m : Str -> Option Value}, s₁.heap.Ns b m -> (jd s₁.heap H).Ns b m := fun {b m} ⟨o, es, ep, e, d, r⟩ => ⟨o, es, ep, base_of e (noA e d), d, r⟩
  have hKb : K.In (jd s₁.heap H) := fun b o e => base_of (KX b o e) (by
   cases q : H b with
   | none => rfl
   |
    some u =>
    have e' : b = a := hA b (by rw [q]; simp)
    subst e'
    rw [hK (by rw [q]; simp)] at e; cases e)
  have hM : Mod K mg (jd s₁.heap H) := ⟨hKb, nsK hns, ⟨mb, nsK hb, hbb⟩, let ⟨mc, h1, h2⟩ := hlim; ⟨mc, nsK h1, h2⟩⟩
  have e0 : Env0 P w K mg (jd s₁.heap H) callerA [] s₁ H := ⟨rfl, hM, fun b o e => yS e, Nat.le_of_eq (sP _ _), trivial, fun b hb => absurd (show b ∈ ([] : List Addr) from hb) (by simp), hok, .of_eq hg⟩
  refine codeAny_mono ((F _ hKb (nsK hns)).run callerA [] s₁ H ⟨[.ref a], []⟩ [.ref a] [.ref a] _ _ hr e0 (hbind s₁ (.ref a)) (.cons rfl .nil) (hsp H hO hS)) fun r s' h => ?_
  cases r with
  | error e => exact (hCX H e s' h).elim
  |
   ok fl =>
   cases fl with
   | next => exact False.elim h
   | brk => exact False.elim h
   | cont => exact False.elim h
   |
    ret u =>
    obtain ⟨v, H', os, bare, un, hok', r', q⟩ := h
    have q' : v = .bl true := q
    subst q'
    obtain rfl : u = Value.bool true := r'
    refine ⟨rfl, OldK.of_keep fun b o e => ?_, os, bare⟩
    cases q : H b with
    | none => exact un.keep b o e q (by intro z; exact absurd (show b ∈ ([] : List Addr) from z) (by simp)) (by simp)
    |
     some u =>
     rcases hO b with z | ⟨ob, xs, z⟩
     ·rw [q] at z; cases z
     ·have z2 := un.frzs b ob _ z
      obtain ⟨e1, _⟩ := hok b _ z
      obtain ⟨e2, _⟩ := hok' b _ z2
      rw [e] at e1; cases e1
      exact e2
 cases hk : K.lookup a with
 |
  some o =>
  have e := KX a o hk
  rw [ha] at e
  cases e
  refine core (fun _ => none) (fun _ => .inl rfl) (.inr ⟨_, vs.toArray, _, hk, rfl, rfl, rfl, by rw [List.size_toArray, lenV]; exact hl, by simpa using rv⟩) (fun b u z => by have z' : (none : Option HO) = some u := z; cases z') (fun b z => absurd rfl z) fun z => absurd rfl z
 |
  none =>
  refine core (fun b => if b = a then some (.frz { cls := .type "list", data := .seq vs.toArray } (.lst (ns.map V.int))) else none) (fun b => ?_) (.inl (.inr ⟨{ cls := .type "list", data := .seq vs.toArray }, if_pos rfl⟩)) (fun b u z => ?_) (fun b z => ?_) fun _ => hk
  ·by_cases hb : b = a
   ·exact .inr ⟨_, _, if_pos hb⟩
   ·exact .inl (if_neg hb)
  ·by_cases hb : b = a
   ·have z' := (if_pos hb).symm.trans z
    cases z'
    subst hb
    exact ⟨ha, by rw [List.length_map]; exact hl, vs, _, rv, ha⟩
   ·have z' := (if_neg hb).symm.trans z
    cases z'
  ·by_cases hb : b = a
   ·exact hb
   ·exact absurd (if_neg hb) z
end L2
namespace L2
open PySem PySem.Spec PyProof.Rows
abbrev KOf {K : PySem.W.Frag} {h : Heap} (_ : K.In h) : PySem.W.Frag := K
theorem
    walk_of {l : PySem.W.OpenLaw} {n k : Nat} {q : Program} {loose : List Str} {XP : (Str -> Option Value) -> Heap -> Prop} {YP : World -> Heap -> Prop} {d : DefRec} {K : Params -> PySem.W.Frag} {CX : World -> CXT} {sp : World -> Sp} {x : Str}
  (hn : l.most = some n) (hn2 : n <= sizeLine) (hdf : d.params.defaults = []) (hr : Room k callerA)
  (hY : ∀ (w : World) (h : Heap), YP w h -> (K w.params).In h)
  (F : ∀ (w : World) (mg : Str -> Option Value) (fa : Addr) (h : Heap), (K w.params).In h -> h.Ns mainGlobals mg -> mg d.name = some (.ref fa) ->
   ∃
    fd : FuncData, (∀ (s : Shared) (u : Value), BindsTo s fd ⟨[u], []⟩ [(x, u)]) /\
    ∀ base : Heap, (K w.params).In base -> base.Ns mainGlobals mg -> FnOk l.prog w (K w.params) mg base (CX w) k fa fd [x] (sp w))
  (hsp : ∀ (w : World) (H : Hp) (a : Addr) (ns : List Int), ns.length <= n -> mH H -> SqL (K w.params) H a (ns.map V.int) -> sp w [.ref a] H (fun v _ => v = .bl true) fun _ _ _ => False)
  (hCX : ∀ (w : World) (H : Hp) (s : Shared) (e : Value) (s' : Shared), CX w [] H s (fun _ _ _ => False) e s' -> False) :
  PySem.W.WalkO q loose XP YP l.row.toRowW d [] (fun f vs => PySem.call f vs) := by
 refine Att.attach_call hn hdf fun w s₀ s₁ mg mb fa o pm cd doc a vs ns G Y ho hd hcd hmg hobj hints hlen hg => ?_
 have KX := hY w _ Y
 obtain ⟨fd, hb, hF⟩ := F w mg fa _ KX G.T.g hmg
 exact vU KX G.T.g G.T.b G.T.builtins G.T.nolimit hg hobj hints (Nat.le_trans hlen hn2) hr hF hb (fun H hO hS => hsp w H a ns hlen hO hS) fun H e s' => hCX w H s₁ e s'
end L2
namespace L2
open PySem PySem.Spec PyProof.Rows
noncomputable def dI (s : Stmt) : Arguments := match s with
 | .FunctionDef _ a _ _ _ _ _ _ _ _ => a
 | _ => { posonlyargs := [], args := [], vararg := none, kwonlyargs := [], kw_defaults := [], kwarg := none, defaults := [] }
noncomputable def ck (s : Stmt) : List Stmt := match s with
 | .FunctionDef _ _ b _ _ _ _ _ _ _ => b
 | _ => []
noncomputable def ay (s : Stmt) : Scope := match s with
 | .FunctionDef _ _ _ _ _ _ sc _ _ _ => sc
 | _ => { kind := .function, names := [], isGenerator := false, isCoroutine := false }
abbrev E0 : XK := fun _ _ _ => False
structure Fun (K : PySem.W.Frag) (x qual : Str) (st : Stmt) (f : Addr) (fd : FuncData) : Prop where
 ex : ∃ (oc : Value) (od : Option Addr) (kV doc pm : Value) (an : Option Addr) (cdv ct : Value) (osl : Array (Option Value)),
  fd = PySem.W.fnOf x qual (dI st) (ck st) (ay st) .none kV doc pm an cdv ct /\ K.lookup f = some ⟨oc, od, .func fd, osl⟩ /\ PySem.W.codeIn K cdv qual = true
 kp : PySem.W.keepIn K (.ref f) = true
section
variable {P : Program} {w : World} {K : PySem.W.Frag} {mg : Str -> Option Value} {base : Heap}
theorem Fun.binds {x qual : Str} {st : Stmt} {f : Addr} {fd : FuncData} {ps : List Str} (F : Fun K x qual st f fd)
  (h : ∀ (kV doc pm : Value) (an : Option Addr) (cdv ct : Value) (us : List Value), us.length = ps.length -> bindArgs (PySem.W.fnOf x qual (dI st) (ck st) (ay st) .none kV doc pm an cdv ct) ⟨us, []⟩ = pure (ps.zip us)) : Binds K fd ps [] := by
 obtain ⟨oc, od, kV, doc, pm, an, cdv, ct, osl, rfl, lk, hcd⟩ := F.ex
 exact .all (h kV doc pm an cdv ct)
theorem Ca {x qual : Str} {st : Stmt} {f : Addr} {oc : Value} {od an : Option Addr} {osl : Array (Option Value)} {kV doc pm cdv ct : Value} (l : K.lookup f = some ⟨oc, od, .func (PySem.W.fnOf x qual (dI st) (ck st) (ay st) .none kV doc pm an cdv ct), osl⟩)
  (c : PySem.W.codeIn K cdv qual = true) (k : PySem.W.keepIn K (.ref f) = true) : Fun K x qual st f (PySem.W.fnOf x qual (dI st) (ck st) (ay st) .none kV doc pm an cdv ct) := ⟨⟨oc, od, kV, doc, pm, an, cdv, ct, osl, rfl, l, c⟩, k⟩
end
section
variable {X : Cx}
end
end L2
set_option Elab.async false
set_option linter.all false
set_option maxRecDepth 100000
namespace L2
open PySem PySem.Spec PyProof.Rows
section
variable {X : Cx} {pins : List (Addr × Obj)} {σ : St} {H : Hp} {s : Shared}
theorem Inv.track {a : Addr} {o : HO} (I : Inv X pins σ H s) (hn : H a = none) (h0 : X.s₀.heap.get? a = none) (hL : a ≠ X.env.locals) (hc : ∀ x c, X.env.cells.lookup x = some c -> c ≠ a)
  (hp : ∀ p ∈ X.pn ++ pins, p.1 ≠ a) (new : ObjOk X.prog X.w (upd H a o) s.heap a o) : Inv X pins σ (upd H a o) s := by
 have ne : ∀ b u, H b = some u -> b ≠ a := fun b u e z => by rw [z, hn] at e; cases e
 have ne0 : ∀ b u, X.s₀.heap.get? b = some u -> b ≠ a := fun b u e z => by rw [z, h0] at e; cases e
 refine ⟨I.ok, I.os, I.bare, ⟨I.base.keep, I.base.slot, fun b u e n hx => ?_, I.base.there, fun b xs e => ?_, fun b u xs e => ?_, fun b ps e => ?_⟩, I.loc, I.cell, ?_, fun x c e => ?_, fun p hp' => ?_, fun b u e => ?_, I.len⟩
 ·rw [aR (ne0 b u e)]; exact I.base.free b u e n hx
 ·have q := I.base.tups b xs e
  rw [aR (ne _ _ q)]; exact q
 ·have q := I.base.frzs b u xs e
  rw [aR (ne _ _ q)]; exact q
 ·obtain ⟨m, q⟩ := I.base.tbls b ps e
  exact ⟨m, by rw [aR (ne _ _ q)]; exact q⟩
 ·rw [aR (Ne.symm hL)]; exact I.free
 ·rw [aR (hc x c e)]; exact I.freeC x c e
 ·obtain ⟨e, n, r⟩ := I.pin p hp'
  exact ⟨e, by rw [aR (hp p hp')]; exact n, r⟩
 ·by_cases hb : b = a
  ·subst hb; rw [cK] at e; cases e; exact new
  ·rw [aR hb] at e
   exact (I.hok b u e).stay (fun c v _ q => q) (fun c q => by rw [aR (ne _ _ q)]; exact q) fun c xs q => by rw [aR (ne _ _ q)]; exact q
end
theorem
    jv {env : Env} : ∀ {names : List (Str × NameKind)} (cs : List (Str × Addr)), (∀ x ∈ names, x.2 = .free -> ∃ c, env.cells.lookup x.1 = some c) -> (∀ x c, cs.lookup x = some c -> env.cells.lookup x = some c) ->
  ∃
   cl, (forIn names cs fun (x : Str × NameKind) (r : List (Str × Addr)) => if (x.2 == NameKind.free) = true then do let a <- cellOf env x.1; pure (ForInStep.yield ((x.1, a) :: r)) else pure (ForInStep.yield r) : Sem (List (Str × Addr))) = pure cl /\
   (∀ x c, cl.lookup x = some c -> env.cells.lookup x = some c) /\ (∀ x c, cs.lookup x = some c -> ∃ c', cl.lookup x = some c') /\ ∀ x ∈ names, x.2 = .free -> ∃ c, cl.lookup x.1 = some c
 | [], cs, _, h => ⟨cs, by simp, h, fun x c e => ⟨c, e⟩, fun _ hx => nomatch hx⟩
 |
  (n, k) :: r, cs, hf, h => by
  rw [List.forIn_cons]
  by_cases hk : k = .free
  ·subst hk
   obtain ⟨c, hc⟩ := hf (n, .free) List.mem_cons_self rfl
   have hcell : cellOf env n = pure c := by unfold cellOf; rw [hc]
   have h' : ∀ x d, ((n, c) :: cs).lookup x = some d -> env.cells.lookup x = some d := fun x d e => by
    rw [List.lookup_cons] at e
    cases q : x == n with
    | true => rw [q] at e; cases e; rw [beq_iff_eq.mp q]; exact hc
    | false => rw [q] at e; exact h x d e
   obtain ⟨cl, e1, e2, e3, e4⟩ := jv (env := env) (names := r) ((n, c) :: cs) (fun x hx => hf x (List.mem_cons_of_mem _ hx)) h'
   have top : ∃ c', cl.lookup n = some c' := e3 n c (by rw [List.lookup_cons]; simp)
   refine ⟨cl, ?_, e2, fun x d e => ?_, fun x hx hfr => ?_⟩
   ·simp only [beq_self_eq_true, if_true, hcell]
    exact e1
   ·by_cases q : x = n
    ·rw [q]; exact top
    ·exact e3 x d (by rw [List.lookup_cons, (beq_eq_false_iff_ne.mpr q : (x == n) = false)]; exact e)
   ·rcases List.mem_cons.mp hx with rfl | hx
    ·exact top
    ·exact e4 x hx hfr
  ·have hb : (k == NameKind.free) = false := by simpa using hk
   obtain ⟨cl, e1, e2, e3, e4⟩ := jv (env := env) (names := r) cs (fun x hx => hf x (List.mem_cons_of_mem _ hx)) h
   refine ⟨cl, ?_, e2, e3, fun x hx hfr => ?_⟩
   ·simp only [hb, Bool.false_eq_true, if_false]
    exact e1
   ·rcases List.mem_cons.mp hx with rfl | hx
    ·exact absurd hfr hk
    ·exact e4 x hx hfr
theorem jF {env : Env} {scope : Scope} (hf : ∀ x ∈ scope.names, x.2 = .free -> ∃ c, env.cells.lookup x.1 = some c) :
  ∃ cl, closureFor scope env = pure cl /\ (∀ x c, cl.lookup x = some c -> env.cells.lookup x = some c) /\ ∀ x ∈ scope.names, x.2 = .free -> ∃ c, cl.lookup x.1 = some c := by
 obtain ⟨cl, e1, e2, _, e4⟩ := jv (env := env) (names := scope.names) [] hf (fun x c e => by simp at e)
 refine ⟨cl, ?_, e2, e4⟩
 unfold closureFor
 simp only [e1]
 rfl
noncomputable def bu (X : Cx) (N : List Str) (scope : Scope) (cl : List (Str × Addr)) (C : Addr) (s₂ : Shared) (H : Hp) (fp : List Addr) : Cx :=
 { X with N := N, s₀ := s₂, H₀ := H, env := compEnvC scope cl C X.env, outer := X.stack, stack := X.stack, ex := fp, fn := fun _ => false, pn := [], xe := fun _ _ => False }
noncomputable def cJ (sub : List (Option Nat)) (σ : St) : St := sub.map fun o => o.bind fun i => (σ[i]?).bind id
noncomputable def LcW (J : It) (sub : List (Option Nat)) (g : TG) (tc : TT) (te : TE) (σ : St) (H1 : Hp) (Q : VK) : Prop := ∃ W : Nat -> Nat -> List V -> St -> Hp -> Prop, (∃ m, W 0 m [] (cJ sub σ) H1) /\ ∀ i m ys σ H, W i m ys σ H ->
 (J.stop i H /\ ys.length <= sizeLine /\ ∀ D, H D = none -> Q (.ref D) (upd H D (.lst ys))) \/
 (J.go i H /\ ys.length < sizeLine /\ ∃ Nx : List V -> St -> Hp -> Prop, (∀ ys' σ' H', Nx ys' σ' H' -> ∃ m', m' < m /\ W (i + 1) m' ys' σ' H') /\
  ∀ x H', J.yld i H x H' -> g x σ H' fun σ2 H2 => tc σ2 H2 fun b H3 => if b = true then te σ2 H3 fun y H4 => Nx (ys ++ [y]) σ2 H4 else Nx ys σ2 H3)
noncomputable def kd (wi : TI) (sub : List (Option Nat)) (g : TG) (tc : TT) (te : TE) : TE := fun σ H Q => wi σ H fun J H1 => LcW J sub g tc te σ H1 Q
abbrev u3 : TT := fun _ H Q => Q true H
section
variable {prog : Program} {w : World} {A : Around} {R : Result -> Shared -> Prop} {s : Shared}
theorem jJ {elt target iter : Expr} {ifs : List Expr} {scope : Scope} {pos : Pos} {it acc : Value} {env : Env} (I : Nat -> Shared -> Prop)
  (turn
     : ∀ n s, I n s -> wpAny (model prog w) A (pyNext it) (fun r s₁ => match r with
   | none => R (.ok .next) s₁
   | some v => wpAny (model prog w) A (letOwnedTupleGo target it v) (fun _ s₁' => wpAny (model prog w) A (assign target env v) (fun _ s₂ =>
     wpAny (model prog w) A (forIn ifs true fun c r => if r = true then do let ok <- isTrue c env (eval c env); pure (ForInStep.yield ok) else pure (ForInStep.yield r))
      (fun ok s₃ => if ok = true then wpAny (model prog w) A (eval elt env) (fun x s₄ => wpAny (model prog w) A (call (.builtin "list.append") [acc, x]) (fun _ s₅ => ∃ m, m < n /\ I m s₅) (fun _ _ => False) s₄) (fun _ _ => False) s₃
       else ∃ m, m < n /\ I m s₃) (fun _ _ => False) s₂) (fun _ _ => False) s₁') (fun _ _ => False) s₁) (fun _ _ => False) s)
  (n : Nat) (h : I n s) :
  codeAny (model prog w) A (.compLoop (.ListComp elt [⟨target, iter, ifs, 0⟩] scope pos) 0 it acc env) R s := by
 refine codeAny_loop rfl I (fun n s hI => ?_) n h
 show wpAny _ _ ((compTurn (.ListComp elt [⟨target, iter, ifs, 0⟩] scope pos) 0 it acc env).onRaise (fun x => do noteFrame x env; theTreesLotGoes x)) _ _ s
 refine wpAny_noted ?_
 rw [compTurn_list]
 refine wpAny_mono (E := fun _ _ => False) ?_ (fun _ _ q => q) fun _ _ q => q.elim
 refine wpAny_bind (wpAny_standAt (wpAny_bind (wpAny_mono (turn n s hI) (fun r s₁ h₁ => ?_) fun _ _ h' => h')))
 cases r with
 | none => exact wpAny_pure h₁
 |
  some v =>
  refine wpAny_bind (wpAny_mono h₁ (fun _ s₁' h₁' => ?_) fun _ _ h' => h')
  refine wpAny_bind (wpAny_mono h₁' (fun _ s₂ h₂ => ?_) fun _ _ h' => h')
  refine wpAny_bind (wpAny_mono h₂ (fun ok s₃ h₃ => ?_) fun _ _ h' => h')
  cases ok with
  |
   true =>
   simp only [if_true] at h₃ ⊢
   refine wpAny_bind (wpAny_bind (wpAny_mono h₃ (fun x s₄ h₄ => ?_) fun _ _ h' => h'))
   refine wpAny_bind (wpAny_mono h₄ (fun _ s₅ h₅ => ?_) fun _ _ h' => h')
   exact wpAny_pure (wpAny_pure ⟨rfl, h₅⟩)
  |
   false =>
   simp only [Bool.false_eq_true, if_false] at h₃ ⊢
   first
    | exact wpAny_bind (wpAny_pure (wpAny_pure ⟨rfl, h₃⟩))
    | exact wpAny_pure ⟨rfl, h₃⟩
end
section
variable {X : Cx}
noncomputable def PTs (X : Cx) (ifs : List Expr) (t : TT) : Prop :=
 ∀
  (pins : List (Addr × Obj)) (s : Shared) (σ : St) (H : Hp) (Q : Bool -> Hp -> Prop), Inv X pins σ H s -> t σ H Q ->
  wpAny (model X.prog X.w) X.A (forIn ifs true fun c r => if r = true then do let ok <- isTrue c X.env (eval c X.env); pure (ForInStep.yield ok) else pure (ForInStep.yield r)) (TP X pins σ Q) X.xe s
theorem qG : PTs X [] (fun _ H Q => Q true H) := fun pins s σ H Q I h => by
 rw [List.forIn_nil]
 exact wpAny_pure ⟨H, I, h⟩
theorem
    AZ {elt iter tg : Expr} {ifs : List Expr} {scope : Scope} {pos : Pos} {wi : TI} {g : TG} {tc : TT} {te : TE} {N : List Str} {sub : List (Option Nat)}
  (hc : X.calm = true) (hi : PI X tg iter wi)
  (hk : scope.kind = .function) (hnc : ∀ x ∈ scope.names, x.2 ≠ .cell) (hnames : ∀ x ∈ scope.names, x.2 = .local -> scope.names.lookup x.1 = some .local)
  (hfr : ∀ x ∈ scope.names, x.2 = .free -> X.env.kindOf x.1 = some .cell \/ X.env.kindOf x.1 = some .free)
  (hsl : sub.length = N.length) (hsub : ∀ (j i : Nat) (x : Str), sub[j]? = some (some i) -> N[j]? = some x -> X.N[i]? = some x /\ scope.names.lookup x = some .free)
  (hg : ∀ cl C s₂ H fp, PG (bu X N scope cl C s₂ H fp) tg g) (ht : ∀ cl C s₂ H fp, PTs (bu X N scope cl C s₂ H fp) ifs tc) (he : ∀ cl C s₂ H fp, PE (bu X N scope cl C s₂ H fp) elt te)
  (hs : ∀ x, foldedSetIterable iter X.env x = pure x := by intro _; rfl) :
  PE X (.ListComp elt [⟨tg, iter, ifs, 0⟩] scope pos) (kd wi sub g tc te) := by
 intro pins s σ H Q I h
 obtain ⟨cl, hclos, hcl, hclf⟩ := jF (env := X.env) (scope := scope) fun x hx hf => I.ok.has x.1 (hfr x hx hf)
 rw [eval_ListComp]
 refine wpAny_comprehension_free (use := none) rfl hs hclos hk hnames ?_
 show wpAny _ _ (eval iter X.env) _ _ _
 refine thn (hi pins s σ H _ I h) fun v s1 h1 => thn h1 fun itv s2 h2 => ?_
 obtain ⟨it, fp, tn, J, H2, e, I2, T, st2, f2, W, ⟨m0, w0⟩, turn⟩ := h2
 subst e
 refine wpAny_newObj_type (wpAny_newFunctionEnv hnc (by intro y hy; simp at hy) (fun h₁ hns₁ hsb₁ => ?_) hk)
 dsimp only at hns₁ hsb₁ ⊢
 generalize hH2 : s2.heap.push { cls := .type "list", dict := none, data := .seq ([] : List Value).toArray } = G2 at hns₁ hsb₁ ⊢
 have hC : G2.objs.size = s2.heap.objs.size + 1 := by rw [<- hH2, Heap.size_push]
 have hDC : s2.heap.objs.size ≠ G2.objs.size := by omega
 have below : ∀ b, b < s2.heap.objs.size -> b ≠ G2.objs.size /\ b ≠ s2.heap.objs.size := fun b hb => ⟨by omega, by omega⟩
 have old : ∀ b o, s2.heap.get? b = some o -> h₁.get? b = some o := fun b o e => hsb₁.extBut b o (below b (Heap.lt_size e)).1 (Heap.get?_push_of_some _ (hH2 ▸ Heap.get?_push_of_some _ e))
 have hD₁ : h₁.get? s2.heap.objs.size = some { cls := .type "list", dict := none, data := .seq ([] : List Value).toArray } := hsb₁.extBut _ _ hDC (Heap.get?_push_of_some _ (hH2 ▸ Heap.get?_push_size _ rfl))
 have fresh : ∀ a, s2.heap.objs.size <= a -> s2.heap.get? a = none := fun a ha => Heap.get?_none_of_le ha
 have cellOld : ∀ x c, cl.lookup x = some c -> c < s2.heap.objs.size := fun x c e => by
  obtain ⟨v, z⟩ := I2.cell x c (hcl x c e)
  exact z.lt
 have fpOld : ∀ b ∈ fp, b < s2.heap.objs.size := fun b hb => by
  obtain ⟨o, e, _⟩ := T.obj _ _ st2 b hb
  exact Heap.lt_size e
 let Y : Cx := bu X N scope cl G2.objs.size s2 H2 fp
 have okY : Y.Ok
         := by
  refine ⟨I2.ok.mod, ?_, I2.ok.glob, I2.ok.blt, ?_, fun x y c e1 e2 => I2.ok.inj x y c (hcl x c e1) (hcl y c e2), fun x hx => ?_, fun x c hfn _ => absurd hfn Bool.false_ne_true, I2.ok.hd, I2.ok.frames, .inl rfl,
   fun b hb => ⟨?_, fun x c e z => ?_⟩, I2.bs, Nat.le_trans I2.ok.bsz I2.sz, fun b o e hb => ?_, fun b hb hf => ?_, I2.stack, I2.stkFree⟩
  ·show (relabel scope X.env).kind = .function
   exact hk
  ·show s2.heap.objs.size <= G2.objs.size
   omega
  ·have hx' : (
         relabel scope X.env).names.lookup x = some .cell \/ (relabel scope X.env).names.lookup x = some .free := hx
   have : ∃ k,
         (x, k) ∈ scope.names /\ k = .free := by
    have gen : ∀ (names : List (Str × NameKind)), (∀ y ∈ names, y.2 ≠ .cell) -> ∀ kk, (kk = NameKind.cell \/ kk = NameKind.free) -> (names.map fun (n, k) => if (k == NameKind.free && X.env.scope.kind == .function && X.env.kindOf n == some .cell) then (n, NameKind.cell) else (n, k)).lookup x = some kk -> ∃ k, (x, k) ∈ names /\ k = .free := by
     intro names
     induction names with
     | nil => intro _ kk _ e; simp at e
     |
      cons y r ih =>
      intro hn kk hkk e
      obtain ⟨n, k⟩ := y
      rw [List.map_cons, List.lookup_cons] at e
      by_cases hkf : k = .free
      ·subst hkf
       by_cases hxn : x = n
       ·exact ⟨.free, by rw [hxn]; exact List.mem_cons_self, rfl⟩
       ·have hb : (x == (if (NameKind.free == NameKind.free && X.env.scope.kind == .function && X.env.kindOf n == some .cell) = true then (n, NameKind.cell) else (n, NameKind.free)).1) = false := by
         split <;> exact beq_eq_false_iff_ne.mpr hxn
        rw [hb] at e
        obtain ⟨k', m, q⟩ := ih (fun z hz => hn z (List.mem_cons_of_mem _ hz)) kk hkk e
        exact ⟨k', List.mem_cons_of_mem _ m, q⟩
      ·have hb0 : (k == NameKind.free && X.env.scope.kind == .function && X.env.kindOf n == some .cell) = false := by
        have : (k == NameKind.free) = false := by simpa using hkf
        rw [this]; rfl
       rw [hb0] at e
       simp only [Bool.false_eq_true, if_false] at e
       cases q : x == n with
       |
        true =>
        rw [q] at e
        have e' : k = kk := Option.some.inj e
        subst e'
        rcases hkk with z | z
        ·exact absurd z (hn (n, k) List.mem_cons_self)
        ·exact absurd z hkf
       |
        false =>
        rw [q] at e
        obtain ⟨k', m, q⟩ := ih (fun z hz => hn z (List.mem_cons_of_mem _ hz)) kk hkk e
        exact ⟨k', List.mem_cons_of_mem _ m, q⟩
    rcases hx' with z | z
    ·exact gen scope.names hnc _ (.inl rfl) z
    ·exact gen scope.names hnc _ (.inr rfl) z
   obtain ⟨k, m, q⟩ := this
   exact hclf (x, k) m q
  ·show b ≠ G2.objs.size
   exact (below b (fpOld b hb)).1
  ·exact (f2 b hb).2.2.2.2.1 x c (hcl x c e) z
  ·rcases (f2 b hb).2.2.2.1 with z | z
   ·exact I2.ok.noex b o e z
   ·exact absurd (Nat.lt_of_lt_of_le (Heap.lt_size e) (Nat.le_trans I2.ok.bsz z)) (Nat.lt_irrefl _)
  ·have hf' : b ∈ frs X.stack := hf
   rcases List.mem_cons.mp (I2.stkSub b hf') with z | z
   ·exact (f2 b hb).2.1 z
   ·exact (f2 b hb).2.2.1 z
 have startLoc
        : ∃ m, h₁.Ns G2.objs.size m /\ ∀ (i : Nat) (x : Str) (v : V), N[i]? = some x -> (cJ sub σ)[i]? = some (some v) -> Vis (relabel scope X.env) x -> ∃ u, RelV v u /\ rY Y.env h₁ m x u := by
  refine ⟨_, hns₁, fun j x v e1 e2 e3 => ?_⟩
  unfold cJ at e2
  rw [List.getElem?_map] at e2
  cases q : sub[j]? with
  | none => rw [q] at e2; cases e2
  |
   some o =>
   rw [q] at e2
   cases o with
   | none => cases e2
   |
    some i =>
    obtain ⟨hNi, hfree⟩ := hsub j i x q e1
    have e2' : (σ[i]?).bind id = some v := Option.some.inj e2
    have e2'' : σ[i]? = some (some v) := by
     cases z : σ[i]? with
     | none => rw [z] at e2'; cases e2'
     | some y => rw [z] at e2'; rw [show y = some v from e2']
    obtain ⟨m2, hn2, hl2⟩ := I2.loc
    have hkx := hfr (x, .free) (PySem.mem_of_lookup hfree) rfl
    obtain ⟨u, r, l⟩ := hl2 i x v hNi e2'' (by rcases hkx with z | z; exact .inr (.inl z); exact .inr (.inr z))
    refine ⟨u, r, .inr ⟨?_, ?_⟩⟩
    ·rcases e3
          with z | z | z
     ·exfalso
      have gen : ∀ (names : List (Str × NameKind)), names.lookup x = some .free -> (names.map fun (n, k) => if (k == NameKind.free && X.env.scope.kind == .function && X.env.kindOf n == some .cell) then (n, NameKind.cell) else (n, k)).lookup x = some .local -> False := by
       intro names
       induction names with
       | nil => intro e _; simp at e
       |
        cons y r ih =>
        intro e1 e2
        obtain ⟨n, k⟩ := y
        rw [List.lookup_cons] at e1
        rw [List.map_cons, List.lookup_cons] at e2
        by_cases hxn : x = n
        ·have hb1 : (x == n) = true := beq_iff_eq.mpr hxn
         rw [hb1] at e1
         have : k = .free := Option.some.inj e1
         subst this
         split at e2
         ·rename_i hq
          split at e2 <;> cases e2
         ·rename_i hq
          split at hq <;> (rw [hb1] at hq; cases hq)
        ·have hb1 : (x == n) = false := beq_eq_false_iff_ne.mpr hxn
         rw [hb1] at e1
         refine ih e1 ?_
         split at e2
         ·rename_i hq
          split at hq <;> (rw [hb1] at hq; cases hq)
         ·exact e2
      exact gen scope.names hfree z
     ·exact .inl z
     ·exact .inr z
    ·obtain ⟨c, hc'⟩ := hclf (x, .free) (PySem.mem_of_lookup hfree) rfl
     refine ⟨c, hc', ?_⟩
     rcases l with ⟨k, _⟩ | ⟨_, c2, ec2, z⟩
     ·rcases hkx with z | z <;> (rw [k] at z; cases z)
     ·have := hcl x c hc'
      rw [ec2] at this
      cases this
      obtain ⟨oc, hoc, hd⟩ := z
      exact ⟨oc, old _ _ hoc, hd⟩
 have pinD : ∀ {σ' : St} {H' : Hp} {s' : Shared} {pl : List (Addr × Obj)} {o : Obj}, Inv Y pl σ' H' s' -> s'.heap.get? s2.heap.objs.size = some o -> (∀ v, o.data ≠ .cell v) -> H' s2.heap.objs.size = none -> Inv Y [(s2.heap.objs.size, o)] σ' H' s' := fun {σ' H' s' pl o} IY e d n =>
  IY.pins_of fun p hp => by
   have e' : p = (s2.heap.objs.size, o) := by simpa using hp
   subst e'
   refine ⟨e, n, ?_, ?_, d⟩
   ·show s2.heap.objs.size ≠ G2.objs.size
    omega
   ·intro hf
    have hf' : s2.heap.objs.size ∈ frs X.stack := hf
    obtain ⟨_, o', ho', _⟩ := I2.stack.mem hf'
    exact absurd (Heap.lt_size ho') (Nat.lt_irrefl _)
 have fpY : ∀ {H' : Hp} {pl : List (Addr × Obj)}, (∀ b ∈ fp, H' b = none) -> (∀ p ∈ pl, p.1 ∉ fp) -> ∀ b ∈ fp, FpOk Y pl H' b := fun {H' pl} hn hp b hb => by
  refine ⟨hn b hb, ?_, ?_, .inl hb, fun x c e => ?_, fun p hp' => ?_⟩
  ·exact (okY.exf b hb).1
  ·exact okY.exfs b hb
  ·exact (okY.exf b hb).2 x c e
  ·intro z
   have hp'' : p ∈ pl := by simpa [Y, bu] using hp'
   exact hp p hp'' (by rw [z]; exact hb)
 have hDfp : s2.heap.objs.size ∉ fp := fun z => Nat.lt_irrefl _ (fpOld _ z)
 have loop
      : ∀ s₃ : Shared, s₃ = { s2 with heap := h₁, toks := s2.toks + ([] : List (Str × Value)).length } ->
   codeAny (model X.prog X.w) X.A (.compLoop (.ListComp elt [⟨tg, iter, ifs, 0⟩] scope pos) 0 (.ref it) (.ref s2.heap.objs.size) (compEnvC scope cl G2.objs.size X.env))
    (compPost (model X.prog X.w) X.A X.xe none (EP X pins σ Q) (.ref s2.heap.objs.size) G2.objs.size) s₃ := by
  rintro s₃ rfl
  have IY0 : Inv Y [(s2.heap.objs.size, { cls := .type "list", dict := none, data := .seq ([] : List Value).toArray })] (cJ sub σ) H2 { s2 with heap := h₁, toks := s2.toks + ([] : List (Str × Value)).length } := by
   have J0 : Inv Y [] (cJ sub σ) H2 { s2 with heap := h₁, toks := s2.toks + ([] : List (Str × Value)).length } := by
    refine ⟨okY, rfl, I2.bare, Un.kept old, startLoc, fun x c e => ?_, I2.hok.fresh (by show s2.heap.objs.size <= G2.objs.size; omega), fun x c e => I2.freeC x c (hcl x c e), fun p hp => absurd (show p ∈ ([] : List (Addr × Obj)) from hp) (by simp), I2.hok.kept old, ?_⟩
    ·obtain ⟨v, oc, hoc, hd⟩ := I2.cell x c (hcl x c e)
     exact ⟨v, oc, old _ _ hoc, hd⟩
    ·show (cJ sub σ).length = N.length
     unfold cJ
     rw [List.length_map]; exact hsl
   exact pinD J0 hD₁ (fun v z => by cases z) I2.fresh
  refine jJ (fun n s' => ∃ (i : Nat) (ys : List V) (its : List Value) (k : Nat) (σ' : St) (H' : Hp), Inv Y [(s2.heap.objs.size, { cls := .type "list", dict := none, data := .seq its.toArray k })] σ' H' s' /\ Vals ys its /\ tn i s'.heap /\ (∀ b ∈ fp, H' b = none) /\ W i n ys σ' H') ?_ m0
   ⟨0, [], [], 0, cJ sub σ, H2, IY0, .nil, T.keep _ _ _ st2 (fun b hb o e => old b o e), fun b hb => (f2 b hb).1, w0⟩
  rintro n s3 ⟨i, ys, its, k, σ3, H3, I3, rv, st3, fr3, w3⟩
  have npl : ∀ (o : Obj), ∀ p ∈ [(s2.heap.objs.size, o)], p.1 ∉ fp := fun o p hp => by
   have e' : p = (s2.heap.objs.size, o) := by simpa using hp
   subst e'
   exact hDfp
  rcases turn i n ys σ3 H3 w3 with ⟨stop, hz, qn⟩ | ⟨go, hz, Nx, hNx, step⟩
  ·refine wpAny_mono (T.done Y rfl rfl rfl hc i _ s3 σ3 H3 (fun _ _ => False) I3 (fpY fr3 (npl _)) st3 stop) (fun r s4 ⟨hr, I4⟩ => ?_) fun _ _ z => z
   subst hr
   obtain ⟨m4, hn4, _⟩ := I4.loc
   refine ⟨m4, hn4, fun h' hs' => ?_⟩
   have hCfree : H3 G2.objs.size = none := I4.free
   have hD4 := I4.pin (s2.heap.objs.size, { cls := .type "list", dict := none, data := .seq its.toArray k }) (List.mem_append_right _ List.mem_cons_self)
   have un4 : Un (frs X.stack) fp H2 H3 s2.heap s4.heap := I4.base
   have up : ∀ b o, b ≠ G2.objs.size -> s4.heap.get? b = some o -> h'.get? b = some o := fun b o hb e => hs'.extBut b o hb e
   have ne2 : ∀ b o, s2.heap.get? b = some o -> b ≠ G2.objs.size := fun b o e => (below b (Heap.lt_size e)).1
   have un5 : Un (frs X.stack) fp H2 H3 s2.heap h' := by
    refine ⟨fun b o e n hb hx => up b o (ne2 b o e) (un4.keep b o e n hb hx), fun b o e n hb hx => ?_, un4.free, fun b o e hx => ?_, un4.tups, un4.frzs, un4.tbls⟩
    ·obtain ⟨sl, q⟩ := un4.slot b o e n hb hx
     exact ⟨sl, up b _ (ne2 b o e) q⟩
    ·obtain ⟨o', q⟩ := un4.there b o e hx
     exact ⟨o', up b _ (ne2 b o e) q⟩
   have hok5 : HOk X.prog X.w H3 h' := fun b u e => (I4.hok b u e).stay (fun c v hcc q => up c v (fun z => by
    rcases hcc with zz | zz
    ·rw [zz] at z; rw [z, hCfree] at e; cases e
    ·rw [z, hCfree] at zz; cases zz) q) (fun _ q => q) fun _ _ q => q
   have I5 : Inv X pins σ H3 { s4 with heap := h' } := I2.call' (s' := { s4 with heap := h' }) (ch := fp) I4.os un5 hok5 I4.bare fun b hb => by
    obtain ⟨_, g1, _, g3, g4, g5⟩ := f2 b hb
    exact ⟨g3, g1, g4, g5⟩
   have hDfree : H3 s2.heap.objs.size = none := hD4.2.1
   have sz0 : X.s₀.heap.objs.size <= s2.heap.objs.size := I2.sz
   refine ⟨.ref s2.heap.objs.size, _, I5.track (o := .lst ys) hDfree (Heap.get?_none_of_le sz0) (Nat.ne_of_gt I2.lt) (fun x c e z => ?_) (fun p hp z => ?_) ?_, rfl, qn _ hDfree⟩
   ·obtain ⟨v, q⟩ := I2.cell x c e
    exact absurd q.lt (by rw [z]; exact Nat.lt_irrefl _)
   ·exact absurd (Heap.lt_size (I2.pin p hp).1) (by rw [z]; exact Nat.lt_irrefl _)
   ·exact ⟨hz, its, k, rv, up _ _ hDC hD4.1⟩
  ·refine wpAny_mono (T.item Y rfl rfl rfl hc i _ s3 σ3 H3 (fun _ _ => False) I3 (fpY fr3 (npl _)) st3 go) (fun r s4 ⟨u, hr, h4⟩ => ?_) fun _ _ z => z
   subst hr
   refine wpAny_mono h4 (fun _ s5 ⟨x, H5, I5, r5, y5, st5, fr5⟩ => ?_) fun _ _ z => z
   have I5' := I5.pinned (fpY fr5 (npl _)) (T.obj _ _ st5)
   refine wpAny_mono (hg cl G2.objs.size s2 H2 fp _ s5 σ3 H5 x u _ I5' r5 (step x H5 y5)) (fun _ s6 ⟨σ6, H6, I6, q6⟩ => ?_) fun _ _ z => z
   refine wpAny_mono (ht cl G2.objs.size s2 H2 fp _ s6 σ6 H6 _ I6 q6) (fun ok s7 ⟨H7, I7, q7⟩ => ?_) fun _ _ z => z
   have back : ∀ {σ' : St} {H' : Hp} {s' : Shared}, Inv Y ([(s2.heap.objs.size, { cls := .type "list", dict := none, data := .seq its.toArray k })] ++ iL fp s5.heap) σ' H' s' -> tn (i + 1) s'.heap /\ ∀ b ∈ fp, H' b = none := fun {σ' H' s'} IB => by
    refine ⟨T.keep _ _ _ st5 fun b hb o e => (IB.pin (b, o) (List.mem_append_right _ (List.mem_append_right _ (dM hb e)))).1, fun b hb => ?_⟩
    obtain ⟨o, e, d⟩ := T.obj _ _ st5 b hb
    exact (IB.pin (b, o) (List.mem_append_right _ (List.mem_append_right _ (dM hb e)))).2.1
   cases ok with
   |
    false =>
    rw [if_neg Bool.false_ne_true] at q7
    obtain ⟨m', hm, w7⟩ := hNx _ _ _ q7
    rw [if_neg Bool.false_ne_true]
    obtain ⟨t7, f7⟩ := back I7
    exact ⟨m', hm, i + 1, ys, its, k, σ6, H7, I7.unpinned, rv, t7, f7, w7⟩
   |
    true =>
    rw [if_pos rfl] at q7
    rw [if_pos rfl]
    refine wpAny_mono (he cl G2.objs.size s2 H2 fp _ s7 σ6 H7 _ I7 q7) (fun y s8 ⟨yv, H8, I8, r8, q8⟩ => ?_) fun _ _ z => z
    obtain ⟨m', hm, w8⟩ := hNx _ _ _ q8
    obtain ⟨t8, f8⟩ := back I8
    have I9 := I8.unpinned
    have hD9 := I9.pin (s2.heap.objs.size, { cls := .type "list", dict := none, data := .seq its.toArray k }) (List.mem_append_right _ List.mem_cons_self)
    have e9 : s8.heap.get? s2.heap.objs.size = some { cls := .type "list", dict := none, data := .seq its.toArray k } := hD9.1
    have hlen := rv.length
    refine call_meets F.slot_list_append ⟨_, e9, rfl⟩ F.entry_list_append (F.args_list_append_2 _ _) (PySem.list_append _ its.toArray k y (by rw [List.size_toArray]; omega)) ⟨e9, ?_⟩
    have q9 := PySem.IsL.update e9 (fun xs => xs.push y)
    have ea : its.toArray.push y = (its ++ [y]).toArray := by simp
    rw [ea] at q9
    have k9 : ∀ b o, b ≠ s2.heap.objs.size -> s8.heap.get? b = some o -> (s8.heap.update s2.heap.objs.size (Obj.mapSeq fun xs => xs.push y)).get? b = some o := fun b o hb e => (Heap.get?_update_other _ _ (Ne.symm hb)).trans e
    have I10 : Inv Y [] σ6 H8 { s8 with heap := s8.heap.update s2.heap.objs.size (Obj.mapSeq fun xs => xs.push y) } :=
     (I9.pins_of (pins' := []) (fun p hp => nomatch hp)).turned (t' := s8.toks) k9 hD9.2.1 hD9.2.2.1 (.inr (Nat.le_refl _)) (fun x c e z => absurd (cellOld x c e) (by rw [z]; exact Nat.lt_irrefl _))
      (fun p hp => absurd (show p ∈ ([] : List (Addr × Obj)) from hp) (by simp))
    refine ⟨m', hm, i + 1, ys ++ [yv], its ++ [y], _, σ6, H8, pinD I10 q9 (fun v z => by cases z) hD9.2.1, rv.append (.cons r8 .nil), ?_, f8, w8⟩
    exact T.keep _ _ _ t8 fun b hb o e => k9 b o (fun z => hDfp (by rw [<- z]; exact hb)) e
 exact codeAny_compStart_list (loop _ rfl) (T.self _ 0 _ _ _ (T.keep _ _ _ st2 fun b hb o e => old b o e) (loop _ rfl))
noncomputable def hE (M : List Str) (names : List (Str × NameKind)) (sub : List (Option Nat)) (N : List Str) : Bool := (sub.zip N).all fun p => match p.1 with
 | none => true
 | some i => M[i]? == some p.2 && names.lookup p.2 == some .free
theorem oW {M : List Str} {names : List (Str × NameKind)} {sub : List (Option Nat)} {N : List Str} (h : hE M names sub N = true) (j i : Nat) (x : Str) (h1 : sub[j]? = some (some i)) (h2 : N[j]? = some x) :
  M[i]? = some x /\ names.lookup x = some .free := by
 unfold hE at h
 rw [List.all_eq_true] at h
 have hm : (some i, x) ∈ sub.zip N := by
  refine List.mem_of_getElem? (i := j) ?_
  rw [List.getElem?_zip_eq_some]
  exact ⟨h1, h2⟩
 have q := h _ hm
 simp only [Bool.and_eq_true, beq_iff_eq] at q
 exact q
noncomputable def jP (kn names : List (Str × NameKind)) : Bool := names.all fun x => x.2 != .free || kn.lookup x.1 == some .cell || kn.lookup x.1 == some .free
theorem qH {kn names : List (Str × NameKind)} (h : jP kn names = true) : ∀ x ∈ names, x.2 = .free -> kn.lookup x.1 = some .cell \/ kn.lookup x.1 = some .free := fun x hx hf => by
 unfold jP at h
 rw [List.all_eq_true] at h
 have q := h x hx
 rw [hf] at q
 simpa using q
theorem D4 {elt iter tg : Expr} {scope : Scope} {pos : Pos} {wi : TI} {g : TG} {te : TE} (M : List Str) (kn : List (Str × NameKind)) (N : List Str) (sub : List (Option Nat))
  (hc : X.calm = true) (hi : PI X tg iter wi)
  (hg : ∀ cl C s₂ H fp, PG (bu X N scope cl C s₂ H fp) tg g) (he : ∀ cl C s₂ H fp, PE (bu X N scope cl C s₂ H fp) elt te)
  (hM : X.N = M := by rfl) (hkn : X.env.scope.names = kn := by rfl) (hsub : hE M scope.names sub N = true := by decide +kernel)
  (hk : scope.kind = .function := by rfl) (hnc : ∀ x ∈ scope.names, x.2 ≠ .cell := by decide +kernel) (hnames : ∀ x ∈ scope.names, x.2 = .local -> scope.names.lookup x.1 = some .local := by decide +kernel)
  (hfr : jP kn scope.names = true := by decide +kernel)
  (hsl : sub.length = N.length := by rfl) (hs : ∀ x, foldedSetIterable iter X.env x = pure x := by intro _; rfl) :
  PE X (.ListComp elt [⟨tg, iter, [], 0⟩] scope pos) (kd wi sub g u3 te) :=
 AZ hc hi hk hnc hnames (by subst hkn; exact qH hfr) hsl (by subst hM; exact oW hsub) hg (fun cl C s₂ H fp => qG) he hs
end
end L2
set_option Elab.async false
set_option linter.all false
set_option maxRecDepth 100000
namespace L2
open PySem PySem.Spec PyProof.Rows PySem.W PySem.Builtin PySem.Builtin.ObjectAttr PySem.Builtin.Getset_descriptor
structure XCls (K : PySem.W.Frag) (C : Addr) : Prop where
 cls : (clsIn K C).isSome = true
 ga : findIn K (.ref C) "__getattribute__" = some (some (.builtin "BaseException.__getattribute__"))
 gt : findIn K (.ref C) "__getattr__" = some none
 at_ : findIn K (.ref C) "__class__" = some (some (.builtin "object.__class__"))
 gs : specialIn K (.builtin "object.__class__") "__get__" = some (some (.builtin "getset_descriptor.__get__"))
 tk : takesIn K (.builtin "object.__class__") = some true
 mo : mroIn K C (.type "object") = some true
 mb : mroIn K C (.type "BaseException") = some true
section
variable {prog : Program} {w : World} {A : Around} {E : Value -> Shared -> Prop} {K : PySem.W.Frag} {x C : Addr} {o : Obj}
theorem gK {M : Model} {h : Heap} (hx : h.get? x = some o) (hc : o.cls = .ref C) : Looks M h (typeOf (.ref x)) (.ref C) := hc ▸ (Looks.ld hx).andThen .now
theorem wJ {M : Model} {h : Heap} (X : K.In h) (T : XCls K C) : Looks M h (find (.ref x) (.ref C) "__class__") (.bind (.builtin "getset_descriptor.__get__") (.builtin "object.__class__")) := by
 have L1 := looks_findIn (M := M) X T.at_
 have L2 : Looks M h (getOf (some (.builtin "object.__class__"))) (some (.builtin "getset_descriptor.__get__")) := looks_specialIn X T.gs
 have L3 := looks_takesIn (M := M) X T.tk
 refine L1.andThen (L2.andThen ?_)
 exact (show Looks M h (dataDescriptor? (some (.builtin "object.__class__")) (some (.builtin "getset_descriptor.__get__"))) (some (.builtin "getset_descriptor.__get__", .builtin "object.__class__")) from L3.andThen .now).andThen (Looks.tag .now)
theorem nt {s : Shared} {tp : Value} {R : Result -> Shared -> Prop} (X : K.In s.heap) (hx : s.heap.get? x = some o) (hc : o.cls = .ref C) (T : XCls K C)
  (h : R (.ok (.ret (.ref C))) s) : codeAny (model prog w) A (.call (.builtin "getset_descriptor.__get__") ⟨[.builtin "object.__class__", .ref x, tp], []⟩) R s := by
 obtain ⟨hh, g, dr, t, os⟩ := s
 have L0 := gK (M := model prog w) hx hc
 have L1 := looks_mroIn (M := model prog w) X T.mo
 refine codeAny_call_builtin KF.slot_gs.plain KF.entry_gs (KF.slot_gs.check _ _ _ _ _ _ _ _ KF.type_class (KF.args_gs _ _ _) ?_)
 unfold Builtin.«getset_descriptor.__get__» descrGet
 rw [dga_obj]
 refine wpAny_bind (wpAny_pure ?_)
 unfold descrGetter descrCheckInstance descrNameAndClass isInstance
 simp only [KF.owner_class]
 repeat lk
 refine ⟨Code.quiet_builtin _ (by decide +kernel), codeAny_builtin KF.entry_class ?_⟩
 unfold Builtin.«object.__class__» shownTypeOf
 repeat lk
 exact h
theorem tD {M : Model} {nameV : Value} {s : Shared} {Q : Unit -> Shared -> Prop} (X : K.In s.heap) (hx : s.heap.get? x = some o) (hc : o.cls = .ref C) (T : XCls K C) (hq : Q () s) :
  wpAny M A (checkBuiltinCall "BaseException.__getattribute__" ⟨[.ref x, nameV], []⟩) Q E s := by
 obtain ⟨h, g, dr, t, os⟩ := s
 have hk : builtinKind "BaseException.__getattribute__" = some .slot := by decide +kernel
 have hsplit : splitId "BaseException.__getattribute__" = some ("BaseException", "__getattribute__") := by decide +kernel
 have ha := PySem.F.args_bexc_ga (.ref x) nameV
 have L0 := gK (M := M) hx hc
 have LM := looks_mroIn (M := M) X T.mb
 have LI : Looks M h (isInstance (.ref x) (.type "BaseException")) true := L0.andThen LM
 simp only [checkBuiltinCall, hk, hsplit]
 refine wpAny_bind ?_
 refine LI.at ?_
 repeat (first | wp_step)
 all_goals exact hq
theorem A9 {s : Shared} {Q : Option Value -> Shared -> Prop} (X : K.In s.heap) (hx : s.heap.get? x = some o) (hc : o.cls = .ref C) (T : XCls K C) (h : Q (some (.ref C)) { s with toks := s.toks + 1 }) :
  wpAny (model prog w) A (getAttr? (.ref x) "__class__") Q E s := by
 obtain ⟨hh, g, d, t, os⟩ := s
 have L0 := gK (M := model prog w) hx hc
 have L1 := looks_findIn (M := model prog w) X T.ga
 have L2 := looks_findIn (M := model prog w) X T.gt
 have LF := wJ (M := model prog w) (x := x) X T
 have f3 := PySem.F.excAttr_ValueError.ga.bind (.ref x)
 have hx2 : (Value.builtin "BaseException.__getattribute__" == Value.builtin "object.__getattribute__") = false := by decide +kernel
 unfold getAttr? getAttrBy? getAttrBy
 refine wpAny_bind (wpAny_mkText (wpAny_bind (wpAny_attempt (wpAny_holding (wpAny_bind (L0.at (wpAny_bind (L1.at ?_))))))))
 dsimp only
 rw [if_neg (by rw [hx2]; simp)]
 unfold getAttrByItsOwn hookBefore
 rw [if_pos (show onTheHeap (Value.ref C) = true from rfl)]
 refine wpAny_bind (L2.at ?_)
 unfold callGetattribute
 refine wpAny_bind (wpAny_attempt (wpAny_holding ?_))
 rw [if_neg (by simp)]
 unfold boundAndCalled
 refine wpAny_bind (wpAny_of_eq f3 ?_)
 refine wpAny_call (codeAny_call_builtin PySem.F.excAttr_ValueError.ga.plain PySem.F.entry_bexc_ga (tD X hx hc T ?_))
 unfold Builtin.«object.__getattribute__»
 repeat (first | (refine wpAny_bind (L0.at ?_)) | (refine wpAny_bind (LF.at ?_)) | wp_step)
 refine nt (s := ⟨hh, g, d, t + 1, os⟩) X hx hc T ?_
 repeat (first | exact h | wp_step)
noncomputable def mS (x : Addr) (C : Addr) (h : Heap) : Prop := ∃ o vs, h.get? x = some o /\ o.cls = .ref C /\ o.data = .fields vs
theorem vF (T : XCls K C) : KitX K (.ref x) (.ref C) (mS x C) where
 ty := fun M h _ ⟨o, _, hx, hc, _⟩ => gK hx hc
 it := fun M h X _ => by
  obtain ⟨cd, hcd⟩ := Option.isSome_iff_exists.mp T.cls
  unfold clsIn at hcd
  split at hcd
  ·rename_i c' d' cd' sl' ho
   intro A' Q' E' s' k q
   unfold isType loadHead
   exact wpAny_bind (wpAny_loadPart (k _ _ (X _ _ ho)) (wpAny_pure q))
  ·cases hcd
 ne := fun h tp dd its n sl X htp => by
  obtain ⟨cd, hcd⟩ := Option.isSome_iff_exists.mp T.cls
  refine Bool.eq_false_iff.mpr fun q => ?_
  have e : C = tp := Value.ref.inj (beq_iff_eq.mp q)
  subst e
  unfold clsIn at hcd
  split at hcd
  ·rename_i c' d' cd' sl' ho
   have z := (X _ _ ho).symm.trans htp
   cases z
  ·cases hcd
 ca := fun X ⟨o, _, hx, hc, _⟩ k => A9 X hx hc T k
end
inductive TyX (K : PySem.W.Frag) (H : Hp) : V -> Value -> Prop where
 | of {x : V} {t : Value} (h : TyOf K H x t) : TyX K H x t
 | exc {a C : Addr} (e : H a = some (.ext (mS a C))) (T : XCls K C) : TyX K H (.ref a) (.ref C)
 | sqT {a : Addr} {xs : List V} (h : SqT K H a xs) : TyX K H (.ref a) (.type "tuple")
 | sqL {a : Addr} {xs : List V} (h : SqL K H a xs) : TyX K H (.ref a) (.type "list")
section
variable {X : Cx} {pins : List (Addr × Obj)} {σ : St} {H : Hp} {s : Shared} {A : Around} {E : Value -> Shared -> Prop} {Q : Value -> Shared -> Prop} {c : Value} {b : Bool}
theorem qp {x : V} {u t : Value} (I : Inv X pins σ H s) (rx : RelV x u) (ty : TyX X.K H x t) : ∃ Hh : Heap -> Prop, KitX X.K u t Hh /\ Hh s.heap /\ u ≠ .builtin "__main__.__loader__#opaque" := by
 cases ty with
 |
  exc ea T =>
  cases (show u = Value.ref _ from rx)
  exact ⟨_, vF T, (I.hok _ _ ea).1, fun z => nomatch z⟩
 |
  sqT h =>
  cases (show u = Value.ref _ from rx)
  obtain ⟨its, rv, ⟨o, e, c, _⟩, _⟩ := I.tuple h
  exact ⟨_, kitx_tuple, ⟨o, e, c⟩, fun z => nomatch z⟩
 |
  sqL h =>
  cases (show u = Value.ref _ from rx)
  obtain ⟨its, rv, ⟨o, n, e, c, _⟩, _⟩ := I.list h
  exact ⟨_, kitx_list, ⟨o, e, c⟩, fun z => nomatch z⟩
 |
  of ty =>
  cases ty with
  | non => cases (show u = Value.none from rx); exact ⟨_, kitx_none, True.intro, fun z => nomatch z⟩
  | bl y => cases (show u = Value.bool y from rx); exact ⟨_, kitx_bool, True.intro, fun z => nomatch z⟩
  | int i => obtain ⟨t, q⟩ := (show ∃ t, u = Value.int i t from rx); cases q; exact ⟨_, kitx_int, True.intro, fun z => nomatch z⟩
  | str y => obtain ⟨t, q⟩ := (show ∃ t, u = Value.str y t from rx); cases q; exact ⟨_, kitx_str, True.intro, fun z => nomatch z⟩
  | flt y => obtain ⟨t, q⟩ := (show ∃ t, u = Value.float y t from rx); cases q; exact ⟨_, kitx_float, True.intro, fun z => nomatch z⟩
  |
   @lst a xs ea =>
   cases (show u = Value.ref a from rx)
   obtain ⟨_, _, n, _, h1⟩ := (show ObjOk X.prog X.w H s.heap a (.lst xs) from I.hok a _ ea)
   exact ⟨_, kitx_list, ⟨_, h1, rfl⟩, fun z => nomatch z⟩
  |
   @frz a ob xs ea =>
   cases (show u = Value.ref a from rx)
   obtain ⟨_, _, _, n, _, h1⟩ := (show ObjOk X.prog X.w H s.heap a (.frz ob (.lst xs)) from I.hok a _ ea)
   exact ⟨_, kitx_list, ⟨_, h1, rfl⟩, fun z => nomatch z⟩
  |
   @tup a xs ea =>
   cases (show u = Value.ref a from rx)
   obtain ⟨_, _, _, p⟩ := (show ObjOk X.prog X.w H s.heap a (.tup xs) from I.hok a _ ea)
   obtain ⟨o, h1, h2, _⟩ := p
   exact ⟨_, kitx_tuple, ⟨o, h1, h2⟩, fun z => nomatch z⟩
  |
   @dK a kvs ea =>
   cases (show u = Value.ref a from rx)
   obtain ⟨_, _, vs, _, p⟩ := (show ObjOk X.prog X.w H s.heap a (.dK kvs) from I.hok a _ ea)
   obtain ⟨o, es, ep, h1, h2, _⟩ := p
   exact ⟨_, kitx_dict, ⟨o, h1, h2.1⟩, fun z => nomatch z⟩
  |
   @dT a kvs ea =>
   cases (show u = Value.ref a from rx)
   obtain ⟨_, _, xs, _, o, es, ep, h1, h2, _⟩ := (show ObjOk X.prog X.w H s.heap a (.dT kvs) from I.hok a _ ea)
   exact ⟨_, kitx_dict, ⟨o, h1, h2.1⟩, fun z => nomatch z⟩
  |
   @ins a C dx fs ea cl ha hn htk hm =>
   cases (show u = Value.ref a from rx)
   obtain ⟨mA, O, _⟩ := yM I.hok ea
   obtain ⟨od, J, _⟩ := O.look
   exact ⟨_, kitx_own (cl.get _) cl.hd ha hn htk hm, J, fun z => nomatch z⟩
end
section
variable {X : Cx}
noncomputable def eW : V -> Option Value
 | .ref C => some (.ref C)
 | .ty T => some (.type T)
 | _ => none
theorem pw {c : V} {u v : Value} (h : eW c = some v) (r : RelV c u) : u = v := by
 cases c with
 | ref C => cases r; exact Option.some.inj h
 | ty T => cases r; exact Option.some.inj h
 | _ => cases h
theorem
    mT : ∀ {cs : List V} {us vs : List Value}, cs.mapM eW = some vs -> Vals cs us -> us = vs
 |
  [], _, vs, h, .nil => by
  have h' : some ([] : List Value) = some vs := h
  exact Option.some.inj h'
 |
  c :: cs, _, vs, h, .cons r rr => by
  rw [List.mapM_cons] at h
  cases q : eW c with
  | none => rw [q] at h; cases h
  |
   some v =>
   rw [q] at h
   cases q2 : cs.mapM eW with
   | none => rw [q2] at h; cases h
   |
    some vs' =>
    rw [q2] at h
    have h' : some (v :: vs') = some vs := h
    cases h'
    rw [pw q r, mT q2 rr]
theorem vD : CallR X (.builtin "isinstance") (fun xs H Q => ∃ x c t v b, xs = [x, c] /\ TyX X.K H x t /\ eW c = some v /\ kitOne X.K t v = some b /\ Q (.bl b) H) := by
 intro pins s σ H xs us Q I r h
 obtain ⟨x, c, t, v, b, rfl, ty, hc, hk, q⟩ := h
 obtain ⟨u, w', rfl, rx, rc⟩ := nH r
 obtain rfl := pw hc rc
 obtain ⟨Hh, Z, p, hne⟩ := qp I rx ty
 exact kia_one Z I.kIn p hk hne fun tk => ⟨.bl b, H, I.tok _, rfl, q⟩
end
end L2
set_option Elab.async false
set_option linter.all false
set_option maxRecDepth 100000
namespace L2
open PySem PySem.Spec PyProof.Rows
theorem ObjOk.there {P : Program} {w : World} {H : Hp} {h : Heap} {a : Addr} {o : HO} (x : ObjOk P w H h a o) : ∃ u, h.get? a = some u := by
 cases o with
 | lst xs => obtain ⟨_, _, _, _, e⟩ := x; exact ⟨_, e⟩
 | tup xs => obtain ⟨_, _, _, ob, e, _⟩ := x; exact ⟨_, e⟩
 | dK kvs => obtain ⟨_, _, _, _, o, _, _, e, _⟩ := x; exact ⟨_, e⟩
 | dT kvs => obtain ⟨_, _, _, _, o, _, _, e, _⟩ := x; exact ⟨_, e⟩
 | set S n => obtain ⟨o, _, _, _, e, _⟩ := x; exact ⟨_, e⟩
 | ins C dx fs => obtain ⟨_, _, _, e, _⟩ := x; exact ⟨_, e⟩
 | own y => exact x
 | xd fs => obtain ⟨_, ⟨_, _, _, e, _⟩, _⟩ := x; exact ⟨_, e⟩
 | rng lo hi => obtain ⟨_, _, _, e⟩ := x; exact ⟨_, e⟩
 | frz ob u => obtain ⟨e, _⟩ := x; exact ⟨_, e⟩
 | tbl ps => exact ⟨_, show h.get? a = some _ from x⟩
 | met f y => exact ⟨_, show h.get? a = some _ from x⟩
 | ext φ => obtain ⟨_, e, _⟩ := x; exact e
structure Fly (P : Program) (w : World) (outer : List Env) (H : Hp) (h₀ : Heap) (H' : Hp) (ea : Addr) (cls : Value) (h : Heap) (B : Heap) (t : Addr) : Prop where
 un : Un (frs outer) [] H H' h₀ h
 hok : HOk P w H' h
 fl : Heap.FlyingW B outer ea cls (.ref t) h
 old : ∀ b o, h₀.get? b = some o -> b ∉ frs outer -> ∃ o', B.get? b = some o'
 trk : ∀ b o, H' b = some o -> ∃ o', B.get? b = some o'
noncomputable def CX1 (P : Program) (w : World) : CXT := fun outer H s E e s' => ∃ (ea t : Addr) (cls : Value) (H' : Hp) (B : Heap), e = .ref ea /\ s'.os = s.os /\ AllBare s'.gens /\ Fly P w outer H s.heap H' ea cls s'.heap B t /\ E cls none H'
theorem oC {env : Env} {outer : List Env} {L : Addr} (h : env.frame = some L) : frs (env :: outer) = L :: frs outer := by
 unfold frs
 rw [List.filterMap_cons, h]
section
variable {P : Program} {w : World} {outer : List Env} {H H' : Hp} {h₀ h h' B : Heap} {ea t L : Addr} {cls : Value}
theorem Fly.step {outer' : List Env} (F : Fly P w outer H h₀ H' ea cls h B t) (fl' : Heap.FlyingW B outer' ea cls (.ref t) h') (up : h.UpToSlots h') :
  Un (frs outer) [] H H' h₀ h' /\ HOk P w H' h' := by
 have st := F.fl.1
 have qV : ∀ b o, (∃ o', B.get? b = some o') -> h.get? b = some o -> h'.get? b = some o := fun b o ⟨o', e⟩ q => by
  have z := st b o' e
  rw [q] at z; cases z
  exact fl'.1 b _ e
 have frame : ∀ b o, b ∈ frs outer -> h.get? b = some o -> ∃ sl, h'.get? b = some { o with slots := sl } := fun b o hb q => by
  obtain ⟨_, o', ho', hd⟩ := F.fl.2.2.1.mem hb
  rw [q] at ho'; cases ho'
  exact up b o q hd
 refine ⟨⟨fun b o e n hb hx => qV b o (F.old b o e hb) (F.un.keep b o e n hb hx), fun b o e n hb hx => ?_, F.un.free, fun b o e hx => ?_, F.un.tups, F.un.frzs, F.un.tbls⟩, fun a o e => ?_⟩
 ·obtain ⟨sl, q⟩ := F.un.slot b o e n hb hx
  obtain ⟨sl', q'⟩ := frame b _ hb q
  exact ⟨sl', q'⟩
 ·obtain ⟨o', q⟩ := F.un.there b o e hx
  by_cases hb : b ∈ frs outer
  ·obtain ⟨sl, q'⟩ := frame b _ hb q
   exact ⟨_, q'⟩
  ·exact ⟨o', qV b o' (F.old b o e hb) q⟩
 ·refine (F.hok a o e).stay (fun b u hb q => qV b u ?_ q) (fun _ q => q) fun _ _ q => q
  rcases hb with z | z
  ·rw [z]; exact F.trk a o e
  ·exact F.trk b _ z
end
structure Cx.Top (X : Cx) : Prop where
 ex : X.ex = []
 stk : X.stack = X.env :: X.outer
 fr : X.env.frame = some X.env.locals
section
variable {X : Cx} {pins : List (Addr × Obj)} {σ : St} {H : Hp} {s s' : Shared} {E : XK} {e : Value}
theorem uq {A : Around} {E' : Value -> Shared -> Prop} (T : X.Top) (hA : A.frames = some X.stack) (I : Inv X pins σ H s) (h : CX1 X.prog X.w X.stack H s E e s') :
  wpAny (model X.prog X.w) A (leaving X.env e) (fun _ s'' => CX1 X.prog X.w X.outer X.H₀ X.s₀ E e s'') E' s' := by
 obtain ⟨ea, t, cls, H', B, rfl, os, bare, F, q⟩ := h
 have F0 := F
 rw [T.stk] at F
 have hf := oC (outer := X.outer) T.fr
 refine wpAny_leaves_onW (by rw [hA, T.stk]) T.fr F.fl fun h'' fl'' up => ?_
 obtain ⟨un2, hok2⟩ := F.step fl'' up
 have exn : ∀ b, b ∉ X.ex := fun b z => by rw [T.ex] at z; cases z
 have neL : ∀ b o, X.s₀.heap.get? b = some o -> b ≠ X.env.locals := fun b o e => Nat.ne_of_lt (Nat.lt_of_lt_of_le (Heap.lt_size e) I.ok.above)
 have notin : ∀ b o, X.s₀.heap.get? b = some o -> b ∉ frs X.outer -> b ∉ frs (X.env :: X.outer) := fun b o e hb z => by
  rw [hf] at z
  rcases List.mem_cons.mp z with z | z
  ·exact neL b o e z
  ·exact hb z
 refine ⟨ea, t, cls, H', B, rfl, os.trans I.os, bare, ⟨⟨fun b o e n hb hx => ?_, fun b o e n hb hx => ?_, fun b o e n hx => ?_, fun b o e hx => ?_, fun b xs e => un2.tups b xs (I.base.tups b xs e), fun b o xs e => un2.frzs b o xs (I.base.frzs b o xs e), fun b ps e => ?_⟩, hok2, fl'', fun b o e hb => ?_, F.trk⟩, q⟩
 ·exact un2.keep b o (I.base.keep b o e n hb (exn b)) (I.base.free b o e n (exn b)) (notin b o e hb) (by simp)
 ·obtain ⟨sl, e1⟩ := I.base.slot b o e n hb (exn b)
  obtain ⟨sl', e2⟩ := un2.slot b _ e1 (I.base.free b o e n (exn b)) (by rw [hf]; exact List.mem_cons_of_mem _ hb) (by simp)
  exact ⟨sl', e2⟩
 ·obtain ⟨o', e1⟩ := I.base.there b o e (exn b)
  exact un2.free b o' e1 (I.base.free b o e n (exn b)) (by simp)
 ·obtain ⟨o', e1⟩ := I.base.there b o e (exn b)
  exact un2.there b o' e1 (by simp)
 ·obtain ⟨m1, e1⟩ := I.base.tbls b ps e
  obtain ⟨m2, e2⟩ := un2.tbls b _ e1
  exact ⟨m1 ++ m2, by rw [e2, Array.append_assoc]⟩
 ·obtain ⟨o', e1⟩ := I.base.there b o e (exn b)
  exact F.old b o' e1 (notin b o e hb)
theorem vK {A : Around} {E' : Value -> Shared -> Prop} {h' : Heap} {ea : Addr} {cls : Value} {args : List Value} (T : X.Top) (hA : A.frames = some X.stack) (I : Inv X pins σ H s) (hx : Heap.MadeExcOf s.heap h' ea cls args) (q : E cls none H) :
  wpAny (model X.prog X.w) A (leaving X.env (.ref ea)) (fun _ s'' => CX1 X.prog X.w X.outer X.H₀ X.s₀ E (.ref ea) s'') E' { s with heap := h' } := by
 have hf := oC (outer := X.outer) T.fr
 have stk := I.stack
 rw [T.stk] at stk
 have hin : ∀ env ∈ (X.env :: X.outer), ∀ b, env.frame = some b -> b ∈ frs (X.env :: X.outer) := fun env he b hb => List.mem_filterMap.mpr ⟨env, he, hb⟩
 refine wpAny_leaves_madeW (base := PySem.W.hideAll s.heap (frs (X.env :: X.outer))) (h := s.heap) (by rw [hA, T.stk]) T.fr (fun b o q => PySem.W.of_hideAll _ q) (PySem.W.funFrames_hide stk hin) hx fun h'' t fl tup tn up => ?_
 have inB : ∀ b o, s.heap.get? b = some o -> b ∉ frs (X.env :: X.outer) -> (PySem.W.hideAll s.heap (frs (X.env :: X.outer))).get? b = some o := fun b o e hb => PySem.W.hideAll_get _ e hb
 have free : ∀ b ∈ frs (X.env :: X.outer), H b = none := fun b hb => I.stkFree b (by rw [T.stk]; exact hb)
 have up2 : s.heap.UpToSlots h'' := (Heap.UpToSlots.of_keeps hx.keeps).trans up
 have exn : ∀ b, b ∉ X.ex := fun b z => by rw [T.ex] at z; cases z
 have neL : ∀ b o, X.s₀.heap.get? b = some o -> b ≠ X.env.locals := fun b o e => Nat.ne_of_lt (Nat.lt_of_lt_of_le (Heap.lt_size e) I.ok.above)
 have notin : ∀ b o, X.s₀.heap.get? b = some o -> b ∉ frs X.outer -> b ∉ frs (X.env :: X.outer) := fun b o e hb z => by
  rw [hf] at z
  rcases List.mem_cons.mp z with z | z
  ·exact neL b o e z
  ·exact hb z
 have trk : ∀ b o, H b = some o -> ∃ o', (PySem.W.hideAll s.heap (frs (X.env :: X.outer))).get? b = some o' := fun b o e => by
  obtain ⟨u, hu⟩ := (I.hok b o e).there
  exact ⟨u, inB b u hu fun z => by rw [free b z] at e; cases e⟩
 refine ⟨ea, t, cls, H, _, rfl, I.os, I.bare, ⟨⟨fun b o e n hb hx => ?_, fun b o e n hb hx => ?_, fun b o e n hx => ?_, fun b o e hx => ?_, I.base.tups, I.base.frzs, I.base.tbls⟩, fun a o e => ?_, fl, fun b o e hb => ?_, trk⟩, q⟩
 ·exact fl.1 b o (inB b o (I.base.keep b o e n hb (exn b)) (notin b o e hb))
 ·obtain ⟨sl, e1⟩ := I.base.slot b o e n hb (exn b)
  obtain ⟨_, o', ho', hd⟩ := I.ok.funs.mem hb
  rw [e] at ho'; cases ho'
  obtain ⟨sl', e2⟩ := up2 b _ e1 hd
  exact ⟨sl', e2⟩
 ·exact I.base.free b o e n (exn b)
 ·obtain ⟨o', e1⟩ := I.base.there b o e (exn b)
  by_cases hb : b ∈ frs X.outer
  ·obtain ⟨_, o2, ho2, hd⟩ := I.funs.mem hb
   rw [e1] at ho2; cases ho2
   obtain ⟨sl', e2⟩ := up2 b _ e1 hd
   exact ⟨_, e2⟩
  ·exact ⟨o', fl.1 b o' (inB b o' e1 (notin b o e hb))⟩
 ·refine (I.hok a o e).stay (fun b u hb q => ?_) (fun _ q => q) fun _ _ q => q
  refine fl.1 b u (inB b u q fun z => ?_)
  rcases hb with y | y
  ·rw [y] at z; rw [free a z] at e; cases e
  ·rw [free b z] at y; cases y
 ·obtain ⟨o', e1⟩ := I.base.there b o e (exn b)
  exact ⟨o', inB b o' e1 (notin b o e hb)⟩
theorem nQ {h6 : Heap} {ea t : Addr} {C : Addr} {H' : Hp} {B : Heap} {g' : Shared} (T : X.Top) (I : Inv X pins σ H s) (F : Fly X.prog X.w X.stack H s.heap H' ea (.ref C) s'.heap B t) (os : s'.os = s.os) (bare : AllBare s'.gens)
  (fl6 : Heap.FlyingW B X.stack ea (.ref C) (.ref t) h6) (up : s'.heap.UpToSlots h6) :
  H' ea = none /\ Inv X pins σ (upd H' ea (.ext (mS ea C))) { s' with heap := h6 } := by
 obtain ⟨un2, hok2⟩ := F.step fl6 up
 obtain ⟨oe, vs, he, hc, hd, _⟩ := fl6.first
 have hB : B.get? ea = none := fl6.2.1
 have hn : H' ea = none := by
  cases q : H' ea with
  | none => rfl
  |
   some o =>
   obtain ⟨o', z⟩ := F.trk ea o q
   rw [hB] at z; cases z
 have hnf : ea ∉ frs X.stack := fun z => by
  obtain ⟨_, o, ho, hdd⟩ := fl6.2.2.1.mem z
  rw [he] at ho; cases ho
  exact hdd vs hd
 have hs : s.heap.get? ea = none := by
  cases q : s.heap.get? ea with
  | none => rfl
  |
   some o =>
   obtain ⟨o', z⟩ := F.old ea o q hnf
   rw [hB] at z; cases z
 have I5 : Inv X pins σ H' { s' with heap := h6 } := I.call' (s' := { s' with heap := h6 }) (ch := []) os un2 hok2 bare fun b hb => nomatch hb
 refine ⟨hn, I5.track hn ?_ ?_ (fun x c e z => ?_) (fun p hp z => ?_) ⟨⟨oe, vs, he, hc, hd⟩, ⟨oe, he⟩, fun h1 h2 ⟨o1, v1, e1, r⟩ k => ⟨o1, v1, k o1 e1, r⟩⟩⟩
 ·cases q : X.s₀.heap.get? ea with
  | none => rfl
  |
   some o =>
   obtain ⟨o', z⟩ := I.base.there ea o q (by rw [T.ex]; simp)
   rw [hs] at z; cases z
 ·intro z
  obtain ⟨m, ⟨o, es, ep, ho, hdd, _⟩, _⟩ := I.loc
  rw [<- z, hs] at ho; cases ho
 ·obtain ⟨v, o, ho, _⟩ := I.cell x c e
  rw [z, hs] at ho; cases ho
 ·have := (I.pin p hp).1
  rw [z, hs] at this; cases this
end
end L2
set_option Elab.async false
set_option linter.all false
set_option maxRecDepth 100000
namespace L2
open PySem PySem.Spec PyProof.Rows
section
variable {P : Program} {w : World} {K : PySem.W.Frag} {mg : Str -> Option Value} {base : Heap} {N : List Str} {qual : Str} {scope : Scope} {f : Addr} {cd : Value} {A : Around} {outer : List Env} {s : Shared} {H : Hp} {E : XK}
theorem se : (ef (CX1 P w) P w K mg base N qual scope f cd A outer s H E).Top := ⟨rfl, rfl, rfl⟩
theorem aB : oo (CX1 P w) (ef (CX1 P w) P w K mg base N qual scope f cd A outer s H E) E := fun pins σ H s e s' I h => uq se I.ok.frames I h
theorem CT {X : Cx} : oo (CX1 P w) X E0 := fun pins σ H s e s' I ⟨_, _, _, _, _, _, _, _, _, q⟩ => q.elim
theorem iU : PassesOwn (model P w) (ef (CX1 P w) P w K mg base N qual scope f cd A outer s H E).A (ef (CX1 P w) P w K mg base N qual scope f cd A outer s H E).env (ef (CX1 P w) P w K mg base N qual scope f cd A outer s H E).xe := PassesOwn.leaving
noncomputable def Rz (X : Cx) (E : XK) : Prop := ∀ (pins : List (Addr × Obj)) (σ : St) (H : Hp) (s : Shared) (h' : Heap) (ea : Addr) (cls : Value) (args : List Value), Inv X pins σ H s -> Heap.MadeExcOf s.heap h' ea cls args -> E cls none H -> X.xe (.ref ea) { s with heap := h' }
theorem rz1 : Rz (ef (CX1 P w) P w K mg base N qual scope f cd A outer s H E) E := fun pins σ H s h' ea cls args I hx q => vK se I.ok.frames I hx q
theorem Fun.okR {x qual : Str} {st : Stmt} {f : Addr} {fd : FuncData} {N ps : List Str} {k : Nat} {sp : Sp} (F : Fun K x qual st f fd) (S : FnScope N ps (ay st)) (len : ∀ vs H Q E, sp vs H Q E -> vs.length = ps.length)
  (hbody : ∀ (cdv : Value) (A : Around) (outer : List Env) (s : Shared) (H : Hp) (vs : List V) (Q : VK) (E : XK), Room k (A.deeper (envOfC qual (ay st) s.heap.objs.size f cdv)) -> sp vs H Q E ->
   ∃ t, PSs (ef (CX1 P w) P w K mg base N qual (ay st) f cdv A outer s H E) (ck st) t /\ t { nx := fun _ H' => Q .non H', rt := Q } (eS N vs) H) : FnOk P w K mg base (CX1 P w) (k + 1) f fd ps sp := by
 obtain ⟨oc, od, kV, doc, pm, an, cdv, ct, osl, rfl, lk, hcd⟩ := F.ex
 exact ET lk hcd S len fun A outer s H vs Q E hr hsp => hbody cdv A outer s H vs Q E hr hsp
end
abbrev fk : List Value := [.type "ValueError", .type "Exception", .type "BaseException", .type "object"]
theorem
    tV {K : PySem.W.Frag} {h : Heap} {C : Addr} (X : K.In h) (q : PySem.W.excIn K C fk "ValueError.__new__" = true) :
  ∃ bm N nm q' bs hdct sn sub ab col dd k0 k1 k2 k3 k5 mN, h.get? C = some (excClassObj nm q' C N bs bm hdct sn sub ab col dd k0 k1 k2 k3 k5 "ValueError.__new__") /\ h.Ns N mN /\ mN "__init__" = none /\ OwnTail h fk bm := by
 unfold PySem.W.excIn at q
 split at q
 ·rename_i dd cd sl ho
  split at q
  ·rename_i C' bm k0 k1 k2 k3 n k5 hm hs
   simp only [Bool.and_eq_true, beq_iff_eq, Bool.not_eq_true'] at q
   obtain ⟨⟨⟨⟨⟨rfl, rfl⟩, hdel⟩, ht⟩, hok⟩, hni⟩ := q
   obtain ⟨nm, bs, mro, ns, qn, hd, sn, sub, ab, col, del⟩ := cd
   dsimp only at hm hdel hok hni
   subst hm hdel
   have hsl : sl = #[k0, k1, k2, k3, some (.builtin "ValueError.__new__"), k5] := by
    obtain ⟨l⟩ := sl
    simp only at hs
    rw [hs]
   subst hsl
   exact ⟨bm, ns, nm, qn, bs, hd, sn, sub, ab, col, dd, k0, k1, k2, k3, k5, _, X _ _ ho, .of_isNs (PySem.W.isNs_of_in X hok), PySem.W.nsMap_none_of_in X hok hni, PySem.W.tail_of_in X ht⟩
  ·cases q
 ·cases q
section
variable {X : Cx} {x : Str} {C : Addr} {E : XK} {np cpos pos : Pos} {e₀ : Expr} {es : List Expr} {ta : TA}
noncomputable def BL (C : Addr) (E : XK) (ta : TA) : TS := fun _ σ H => ta σ H fun vs H1 => vs.length <= sizeLine /\ E (.ref C) none H1
theorem u7 (hc : X.calm = true) (hR : Rz X E) (hg : Gl X x) (hm : X.mg x = some (.ref C)) (hq : PySem.W.excIn X.K C fk "ValueError.__new__" = true) (ha : PA X (e₀ :: es) ta)
  (he : starEach (e₀ :: es) X.env = (false, eval e₀ X.env) :: starEach es X.env := by rfl) (hplain : (backTo cpos (starEach es X.env)).any (·.1) = false := by rfl) (hd : (x == ("__debug__" : Str)) = false := by decide) :
  PS X (.Raise (some (.Call (.Name x np) (e₀ :: es) [] cpos)) none pos) (BL C E ta) := by
 intro pins s σ H D I h
 obtain ⟨bm, N, nm, q', bs, hdct, sn, sub, ab, col, dd, k0, k1, k2, k3, k5, mN, hC, hN, hni, T⟩ := tV I.ok.mod.kin hq
 refine wpAny_Raise_call_subT (C := C) (nm := nm) (q := q') (N := N) (bs := bs) (bm := bm) (hdct := hdct) (sn := sn) (sub := sub) (ab := ab) (col := col) (dd := dd) (k0 := k0) (k1 := k1) (k2 := k2) (k3 := k3) (k5 := k5)
  PySem.F.excBase_ValueError (mN := mN) (T.hasType PySem.F.excBase_ValueError.hasBase) (I.ok.hd hc) (by rw [he]; show (false || (backTo cpos (starEach es X.env)).any (·.1)) = false; rw [hplain]; rfl) hni (mz I hg hm ⟨rfl, ?_⟩ hd)
 have hA := ha cpos pins s σ H _ I h
 rw [he] at hA ⊢
 refine Calls.evalArgs_plain (thn hA fun us s2 ⟨vs, H2, I2, r2, hz, q2⟩ => ⟨rfl, by rw [<- r2.length]; exact hz, I2.bk _ _ hC, hN.keeps I2.bk, T.keeps I2.bk, fun h' e hm' => ?_⟩)
 exact hR pins σ H2 s2 h' e _ _ I2 hm' q2
end
abbrev XS := St -> XK
abbrev TEx := St -> Hp -> VK -> XK -> Prop
abbrev TSx := Ends -> XS -> St -> Hp -> Prop
noncomputable def XP (X : Cx) (pins : List (Addr × Obj)) (E : XS) (e : Value) (s' : Shared) : Prop := ∃ σ1 H1 s1, Inv X pins σ1 H1 s1 /\ CX1 X.prog X.w X.stack H1 s1 (E σ1) e s'
noncomputable def PEx (X : Cx) (e : Expr) (t : TEx) : Prop :=
 ∀ (pins : List (Addr × Obj)) (s : Shared) (σ : St) (H : Hp) (Q : VK) (E : XS), Inv X pins σ H s -> t σ H Q (E σ) -> wpAny (model X.prog X.w) X.A (eval e X.env) (EP X pins σ Q) (XP X pins E) s
noncomputable def PSsx (X : Cx) (st : List Stmt) (t : TSx) : Prop :=
 ∀ (pins : List (Addr × Obj)) (s : Shared) (σ : St) (H : Hp) (D : Ends) (E : XS), Inv X pins σ H s -> t D E σ H -> wpAny (model X.prog X.w) X.A (execs st X.env) (SP X pins D) (XP X pins E) s
section
variable {X : Cx} {st : Stmt} {gx : List Stmt} {t u : TSx} {e : Expr} {es : List Expr} {te : TEx} {pos p : Pos} {x : Str} {f : Addr} {fd : FuncData} {ps : List Str} {sp : Sp} {k : Nat} {ta : TA} {dvs : List V} {ds : List Value}
end
noncomputable def gp (X : Cx) (ea : Addr) : Cx := { X with A := X.A.mark (some (.ref ea)), calm := false, xe := fun _ _ => False }
section
variable {X : Cx} {pins : List (Addr × Obj)} {σ : St} {H : Hp} {s : Shared} {ea : Addr}
theorem Inv.suite (I : Inv X pins σ H s) : Inv (gp X ea) pins σ H s :=
 ⟨⟨I.ok.mod, I.ok.kind, I.ok.glob, I.ok.blt, I.ok.above, I.ok.inj, I.ok.has, I.ok.cab, fun z => absurd z Bool.false_ne_true, I.ok.frames, I.ok.stk, I.ok.exf, I.ok.bs, I.ok.bsz, I.ok.noex, I.ok.exfs, I.ok.funs, I.ok.frf⟩, I.os, I.bare, I.base, I.loc, I.cell, I.free, I.freeC, I.pin, I.hok, I.len⟩
theorem Inv.unsuite (ok : X.Ok) (I : Inv (gp X ea) pins σ H s) : Inv X pins σ H s :=
 ⟨ok, I.os, I.bare, I.base, I.loc, I.cell, I.free, I.freeC, I.pin, I.hok, I.len⟩
theorem tM {M : Model} {A : Around} {E : Value -> Shared -> Prop} {K : PySem.W.Frag} {C Ce : Addr} {o : Obj} {Q : Bool -> Shared -> Prop} (KX : K.In s.heap) (he : s.heap.get? ea = some o) (hc : o.cls = .ref Ce)
  (hty : PySem.W.typeIn K (.ref C) = some (.type "type")) (hcl : (PySem.W.clsIn K C).isSome = true) (hb : PySem.W.mroIn K C (.type "BaseException") = some true) (hm : PySem.W.mroIn K Ce (.ref C) = some true) (q : Q true s) :
  wpAny M A (excMatches (.ref ea) (.ref C)) Q E s := by
 obtain ⟨h, g, d, tk, os⟩ := s
 have L0 := gK (M := M) he hc
 have L1 := PySem.W.looks_typeIn (M := M) KX hty
 have L2 := PySem.W.looks_mroIn (M := M) KX hb
 have L3 := PySem.W.looks_mroIn (M := M) KX hm
 have L4 : PySem.W.Looks M h (isType (.ref C)) true := by
  obtain ⟨cd, hcd⟩ := Option.isSome_iff_exists.mp hcl
  unfold PySem.W.clsIn at hcd
  split at hcd
  ·rename_i c' d' cd' sl' ho
   intro A' Q' E' s' k q
   unfold isType loadHead
   exact wpAny_bind (wpAny_loadPart (k _ _ (KX _ _ ho)) (wpAny_pure q))
  ·cases hcd
 have LT : PySem.W.Looks M h (isInstance (.ref C) (.type "tuple")) false := L1.andThen (PySem.W.Looks.of_pure tc_notTuple)
 have LE : PySem.W.Looks M h (isExcClass (.ref C)) true := by
  unfold isExcClass
  exact L4.andThen L2
 unfold excMatches
 refine wpAny_bind (LT.at ?_)
 rw [if_neg Bool.false_ne_true]
 refine wpAny_bind (wpAny_pure ?_)
 dsimp only
 refine wpAny_bind ?_
 rw [List.forIn_cons]
 refine wpAny_bind (wpAny_bind (LE.at ?_))
 simp only [Bool.not_true, Bool.false_eq_true, if_false]
 refine wpAny_pure ?_
 dsimp only
 rw [List.forIn_nil]
 refine wpAny_pure ?_
 refine wpAny_bind (L0.at (wpAny_bind ?_))
 rw [List.forIn_cons]
 refine wpAny_bind (wpAny_bind (L3.at ?_))
 simp only [if_true]
 exact wpAny_pure (wpAny_pure (wpAny_pure q))
theorem
    Inv.unbind {i : Nat} {n : Str} {h' : Heap} {tk : Nat} {m : Str -> Option Value} {v : Option Value} (I : Inv X pins σ H s) (hN : X.N.Nodup) (hi : X.N[i]? = some n) (hl : X.env.kindOf n = some .local)
  (hm : ∀ (i : Nat) (x : Str) (v : V), X.N[i]? = some x -> σ[i]? = some (some v) -> Vis X.env.scope x -> ∃ u, RelV v u /\ rY X.env s.heap m x u) (hn : s.heap.Ns X.env.locals m)
  (hn' : h'.Ns X.env.locals (fun x => if x = n then v else m x)) (hs : Heap.SameBut X.env.locals s.heap h') : Inv X pins (σ.set i none) H { s with heap := h', toks := tk } := by
 have cne := I.cne
 have neL : ∀ b o, X.s₀.heap.get? b = some o -> b ≠ X.env.locals := fun b o e => Nat.ne_of_lt (Nat.lt_of_lt_of_le (Heap.lt_size e) I.ok.above)
 refine ⟨I.ok, I.os, I.bare, ⟨fun b o e n hb hx => ?_, fun b o e n hb hx => ?_, I.base.free, fun b o e hx => ?_, I.base.tups, I.base.frzs, I.base.tbls⟩, ⟨_, hn', fun j y v' e1 e2 e3 => ?_⟩, fun y c e => ?_, I.free, I.freeC, fun p hp => ?_, fun b ob e => ?_, by simpa using I.len⟩
 ·exact (hs.2 b (neL b o e)).trans (I.base.keep b o e n hb hx)
 ·obtain ⟨sl, e1⟩ := I.base.slot b o e n hb hx
  exact ⟨sl, (hs.2 b (neL b o e)).trans e1⟩
 ·obtain ⟨o', e1⟩ := I.base.there b o e hx
  exact ⟨o', (hs.2 b (neL b o e)).trans e1⟩
 ·by_cases hj : j = i
  ·subst hj
   have hiσ : j < σ.length := by rw [I.len]; exact (List.getElem?_eq_some_iff.mp hi).1
   rw [List.getElem?_set_self hiσ] at e2
   cases e2
  ·rw [List.getElem?_set_ne (Ne.symm hj)] at e2
   obtain ⟨u', r', q⟩ := hm j y v' e1 e2 e3
   refine ⟨u', r', ?_⟩
   rcases q with ⟨k, e⟩ | ⟨k, c, e, z⟩
   ·refine .inl ⟨k, ?_⟩
    have : y ≠ n := fun e => hj (kR hN e1 (e ▸ hi))
    simp [this, e]
   ·exact .inr ⟨k, c, e, z.sameBut hs (cne y c e)⟩
 ·obtain ⟨w', z⟩ := I.cell y c e
  exact ⟨w', z.sameBut hs (cne y c e)⟩
 ·obtain ⟨e, n, ne, nf, d⟩ := I.pin p hp
  exact ⟨(hs.2 p.1 ne).trans e, n, ne, nf, d⟩
 ·refine (I.hok b ob e).stay (fun c w' hc q => (hs.2 c ?_).trans q) (fun _ q => q) fun _ _ q => q
  rintro rfl
  rcases hc with z | hc
  ·rw [<- z, I.free] at e; cases e
  ·rw [I.free] at hc; cases hc
theorem vT {A : Around} {E : Value -> Shared -> Prop} {x : Str} {u : Value} {pos : Pos} {Q : Value -> Shared -> Prop} (I : Inv X pins σ H s) (hg : Gl X x) (hm : X.mg x = some u) (h : Q u s)
  (hd : (x == ("__debug__" : Str)) = false := by decide) : wpAny (model X.prog X.w) A (eval (.Name x pos) X.env) Q E s :=
 Calls.Name_function_global I.ok.kind hg (Calls.loadGlobal_global (by rw [I.ok.glob]; exact I.mod.glob.keeps I.bk) hm h) hd
end
structure XHand (K : PySem.W.Frag) (C : Addr) : Prop where
 ty : PySem.W.typeIn K (.ref C) = some (.type "type")
 cls : (PySem.W.clsIn K C).isSome = true
 mb : PySem.W.mroIn K C (.type "BaseException") = some true
noncomputable def xD (i : Nat) (D : Ends) : Ends := { nx := fun σ H => D.nx (σ.set i none) H, rt := D.rt, bk := fun σ H => D.bk (σ.set i none) H, ct := fun σ H => D.ct (σ.set i none) H }
noncomputable def tTry (K : PySem.W.Frag) (C : Addr) (i : Nat) (tb : TSx) (ts : TS) : TS := fun D σ H =>
 tb D (fun σ1 cls _ H1 => ∃ Ce, cls = .ref Ce /\ PySem.W.mroIn K Ce (.ref C) = some true /\ ∀ ea, H1 ea = none -> ts (xD i D) (σ1.set i (some (.ref ea))) (upd H1 ea (.ext (mS ea Ce)))) σ H
section
variable {X : Cx} {x n : Str} {C : Addr} {i : Nat} {body suite : List Stmt} {b₀ : Stmt} {tb : TSx} {ts : TS} {np hpos pos : Pos}
theorem
    z8 (T : X.Top) (hN : X.N.Nodup) (hi : X.N[i]? = some n) (hl : X.env.kindOf n = some .local) (hg : Gl X x) (hm : X.mg x = some (.ref C)) (hh : XHand X.K C) (hb : PSsx X body tb) (hs : ∀ ea, PSs (gp X ea) (b₀ :: suite) ts)
  (hd : (x == ("__debug__" : Str)) = false := by decide) : PS X (.Try body [.ExceptHandler (some (.Name x np)) (some n) (b₀ :: suite) hpos] [] [] pos) (tTry X.K C i tb ts) := by
 intro pins s σ H D I h
 refine wpAny_Try_except (wpAny_mono (hb pins s σ H D _ I h) (fun f s1 q => ?_) fun e s1 hx => ?_)
 ·cases f with
  | next => exact wpAny_execs_nil q
  | ret v => exact q
  | brk => exact q
  | cont => exact q
 ·obtain ⟨σ1, H1, s0, I1, ea, t, cls, H', B, rfl, os, bare, F, Ce, rfl, hme, q⟩ := hx
  have F1 := F.fl
  rw [T.stk] at F1
  have hfr : X.A.frames = some (X.env :: X.outer) := by rw [I1.ok.frames, T.stk]
  refine wpAny_looks_onW hfr T.fr F1 fun h4 held4 up4 => ?_
  refine wpAny_landsW held4 fun h5 fl5 up5 => ?_
  have fl5' := fl5
  rw [<- T.stk] at fl5'
  obtain ⟨hn5, I5⟩ := nQ (g' := s1) T I1 F os bare fl5' (up4.trans up5)
  obtain ⟨o5, he5, hc5⟩ := fl5.there
  refine wpAny_handleBy_cons (codeAny_handlers_test (vT I5 hg hm ?_ hd)) (by intro q; cases q)
  refine tM I5.kIn he5 hc5 hh.ty hh.cls hh.mb hme ?_
  refine codeAny_handlers_suite_as ?_
  refine lands_againW fl5 fun h6 fl6 up6 => ?_
  have fl6' := fl6
  rw [<- T.stk] at fl6'
  obtain ⟨hn6, I6⟩ := nQ (g' := s1) T I1 F os bare fl6' ((up4.trans up5).trans up6)
  refine gJ (v := .ref ea) I6 hN hi (.inl hl) rfl (fun s7 I7 => ?_) (.inr hl)
  refine wpAny_mono (hs ea pins s7 _ _ (xD i D) I7.suite (q ea hn6)) (fun f s8 h8 => ?_) fun _ _ z => False.elim z
  have go : ∀ {σ8 : St} {H8 : Hp}, Inv (gp X ea) pins σ8 H8 s8 -> (∀ s9, Inv X pins (σ8.set i none) H8 s9 -> SP X pins D f s9) ->
    wpAny (model X.prog X.w) X.A (do bindName X.env n .none; unbindBehindTheSuite X.env n hpos) (fun _ s9 => SP X pins D f s9) X.xe s8 := fun {σ8 H8} I8' k => by
   have I8 := I8'.unsuite I.ok
   obtain ⟨m, hn, hm⟩ := I8.loc
   exact wpAny_nameGoes_keeps hl hn (by rw [I8.ok.kind]; rfl) fun h' v hn' hs' => k _ (I8.unbind hN hi hl hm hn hn' hs')
  cases f with
  | next => obtain ⟨σ8, H8, I8, q8⟩ := h8; exact go I8 fun s9 I9 => ⟨_, _, I9, q8⟩
  | brk => obtain ⟨σ8, H8, I8, q8⟩ := h8; exact go I8 fun s9 I9 => ⟨_, _, I9, q8⟩
  | cont => obtain ⟨σ8, H8, I8, q8⟩ := h8; exact go I8 fun s9 I9 => ⟨_, _, I9, q8⟩
  | ret u => obtain ⟨v, σ8, H8, I8, r8, q8⟩ := h8; exact go I8 fun s9 I9 => ⟨v, _, _, I9, r8, q8⟩
end
end L2
set_option Elab.async false
set_option linter.all false
set_option maxRecDepth 100000
namespace L2
open PySem PySem.Spec PyProof.Rows
mutual
inductive Rep (K : PySem.W.Frag) (H : Hp) : V -> PyData -> Prop where
 | non : Rep K H .non .none
 | bl (b : Bool) : Rep K H (.bl b) (.bool b)
 | int (i : Int) : Rep K H (.int i) (.int i)
 | str (x : Str) : Rep K H (.str x) (.str x)
 | tup {a : Addr} {xs : List V} {ds : List PyData} (h : SqT K H a xs) (r : Reps K H xs ds) : Rep K H (.ref a) (.tuple ds)
 | lst {a : Addr} {xs : List V} {ds : List PyData} (h : SqL K H a xs) (r : Reps K H xs ds) : Rep K H (.ref a) (.list ds)
inductive Reps (K : PySem.W.Frag) (H : Hp) : List V -> List PyData -> Prop where
 | nil : Reps K H [] []
 | cons {x : V} {d : PyData} {xs : List V} {ds : List PyData} (r : Rep K H x d) (rr : Reps K H xs ds) : Reps K H (x :: xs) (d :: ds)
end
section
variable {X : Cx} {pins : List (Addr × Obj)} {σ : St} {H H' : Hp} {s : Shared} {K : PySem.W.Frag}
theorem
    Rep.reads (I : Inv X pins σ H s) {v : V} {d : PyData} {u : Value} (r : Rep X.K H v d) (q : RelV v u) : ∃ as, Reads s.heap u d as :=
 Rep.rec (motive_1 := fun v d _ => ∀ u, RelV v u -> ∃ as, Reads s.heap u d as) (motive_2 := fun vs ds _ => ∀ us, Vals vs us -> ∃ as, ReadsAll s.heap us ds as)
  (fun u r => by cases r; exact ⟨_, .none⟩) (fun b u r => by cases r; exact ⟨_, .bool b⟩) (fun i u r => by obtain ⟨t, rfl⟩ := r; exact ⟨_, .int i t⟩) (fun x u r => by obtain ⟨t, rfl⟩ := r; exact ⟨_, .str x t⟩)
  (fun h _ ih u r => by
   cases r
   obtain ⟨its, rv, ⟨o, e, c, n, d⟩, _⟩ := I.tuple h
   obtain ⟨as, q⟩ := ih _ rv
   exact ⟨as, .tuple e c d (by simpa using q)⟩)
  (fun h _ ih u r => by
   cases r
   obtain ⟨its, rv, ⟨o, n, e, c, _, d⟩, _⟩ := I.list h
   obtain ⟨as, q⟩ := ih _ rv
   exact ⟨_, .list e c d (by simpa using q)⟩)
  (fun us r => by cases r; exact ⟨_, .nil⟩)
  (fun _ _ a b us q => by
   cases q with
   |
    cons q1 q2 =>
    obtain ⟨as, h1⟩ := a _ q1
    obtain ⟨bs, h2⟩ := b _ q2
    exact ⟨_, .cons h1 h2⟩) r u q
end
section
variable {X : Cx}
noncomputable def qS (K : PySem.W.Frag) : R2 := fun x y H Q => ∃ dx dy, Rep K H x dx /\ Rep K H y dy /\ SeqAt.shaped dx = true /\ SeqAt.shaped dy = true /\ Q (.bl (PyData.eqv dx dy)) H
noncomputable def sE (K : PySem.W.Frag) : R2 := fun x y H Q => ∃ dx dy, Rep K H x dx /\ Rep K H y dy /\ SeqAt.shaped dx = true /\ SeqAt.shaped dy = true /\ Q (.bl (!PyData.eqv dx dy)) H
theorem AI (hu : X.A.units + 64 < cLine) : OpR X (compareOp .Eq) (qS X.K) := by
 intro pins s σ H x y v u Q I rx ry h
 obtain ⟨dx, dy, r1, r2, h1, h2, q⟩ := h
 obtain ⟨as, q1⟩ := r1.reads I rx
 obtain ⟨bs, q2⟩ := r2.reads I ry
 exact SeqAt.compareEq_shaped q1 q2 h1 h2 hu (oh I q rfl)
theorem Bn (hu : X.A.units + 64 < cLine) : OpR X (compareOp .NotEq) (sE X.K) := by
 intro pins s σ H x y v u Q I rx ry h
 obtain ⟨dx, dy, r1, r2, h1, h2, q⟩ := h
 obtain ⟨as, q1⟩ := r1.reads I rx
 obtain ⟨bs, q2⟩ := r2.reads I ry
 exact SeqAt.compareNe_shaped q1 q2 h1 h2 hu (oh I q rfl)
open PySem.Builtin.Int (intBits)
noncomputable def CDivB (i j : Int) : Prop := j ≠ 0 /\ intBits j <= 8000
noncomputable def xA (i j : Int) : Prop := intBits i <= 100000 /\ intBits j <= 100000
theorem gB : OpR X (binaryOp .FloorDiv) (rI CDivB fun i j => .int (i.fdiv j)) := opI fun i j _ _ _ _ _ hc q => floordiv_int hc.1 q (.inl (PyProof.noPylong_of_log2 (by
 have h := hc.2
 have h0 := hc.1
 unfold intBits at h
 have hb : (j == 0) = false := by simpa using h0
 rw [hb] at h
 simp only [Bool.false_eq_true, if_false] at h
 omega)))
theorem yg : OpR X (binaryOp .Mult) (rI xA fun i j => .int (i * j)) := opI fun i j _ _ _ _ _ hc q => mul_int q (PySem.IntMulOk.of_le hc.1 hc.2 (by decide))
theorem tK (bs : List Bool) : ((List.range bs.length).all fun i => bs.getD i false) = bs.all id := by
 rw [Bool.eq_iff_iff, List.all_eq_true, List.all_eq_true]
 constructor
 ·intro h x hx
  obtain ⟨i, hi, rfl⟩ := List.mem_iff_getElem.mp hx
  have := h i (List.mem_range.mpr hi)
  simpa [List.getD_eq_getElem?_getD, hi] using this
 ·intro h i hi
  have hi' := List.mem_range.mp hi
  have := h bs[i] (List.getElem_mem hi')
  simpa [List.getD_eq_getElem?_getD, hi'] using this
theorem we (hc : X.calm = true) : CallR X (.builtin "all") (fun xs H Q => ∃ (a : Addr) (bs : List Bool), xs = [.ref a] /\ SqL X.K H a (bs.map V.bl) /\ Q (.bl (bs.all id)) H) := by
 intro pins s σ H xs us Q I r h
 obtain ⟨a, bs, rfl, hq, q⟩ := h
 obtain ⟨u, rfl, ru⟩ := gi r
 cases ru
 obtain ⟨its, rv, p, hz⟩ := I.list hq
 have hl := rv.length
 rw [List.length_map] at hl
 have hlt : a < s.heap.objs.size := by obtain ⟨o, n, e, _⟩ := p; exact Heap.lt_size e
 refine call_all_walk (wpAny_pyIter_list p.isList ?_)
 refine ⟨s.heap.objs.size, _, _, _, _, _, fun i => bs.getD i false, rfl, Walks.list (A := X.A.in1) (I.ok.hd hc) s.heap.objs.size a (Nat.ne_of_lt hlt) its.toArray, ⟨⟨_, Heap.get?_push_size _ rfl, rfl, rfl⟩, (p.keeps fun b o e => Heap.get?_push_of_some _ e).isList⟩, fun i v s' Q' E' hP hQ => ?_, fun h' tk hk => ?_⟩
 ·have hP' : its[i]? = some v := by simpa using hP
  have hi : i < bs.length := by rw [hl]; exact (List.getElem?_eq_some_iff.mp hP').1
  have hb : (bs.map V.bl)[i]? = some (V.bl bs[i]) := by simp [hi]
  obtain ⟨u, hu, ru⟩ := rv.get hb
  rw [hP'] at hu
  cases hu
  cases ru
  refine wpAny_truthy_bool ?_
  have e : bs.getD i false = bs[i] := by simp [List.getD_eq_getElem?_getD, hi]
  show Q' bs[i] s'
  rw [<- e]
  exact hQ
 ·have e1 : its.toArray.size = bs.length := by rw [List.size_toArray, hl]
  rw [e1, tK]
  have hn : H s.heap.objs.size = none := I.fresh
  have I1 : Inv X pins σ H { s with heap := s.heap.push { cls := .type "list_iterator", dict := none, data := .fields #[.ref a, rawInt 0] } } := I.kept (t' := s.toks) fun b o e => Heap.get?_push_of_some _ e
  refine ⟨.bl _, H, ?_, rfl, q⟩
  refine I.kept (t' := tk) fun b o e => ?_
  have hne : b ≠ s.heap.objs.size := Nat.ne_of_lt (Heap.lt_size e)
  exact hk b o (by simpa using hne) (Heap.get?_push_of_some _ e)
end
end L2
set_option Elab.async false
set_option linter.all false
set_option maxRecDepth 100000
namespace L2
open PySem PySem.Spec PyProof.Rows
structure Def (K : PySem.W.Frag) (mg : Str -> Option Value) (x : Str) (st : Stmt) : Prop where
 ex : ∃ f fd, Fun K x x st f fd /\ mg x = some (.ref f)
theorem aZ {K : PySem.W.Frag} {h : Heap} {mg : Str -> Option Value} {x : Str} {st : Stmt} {f : Addr} {oc : Value} {od an : Option Addr} {osl : Array (Option Value)} {kV doc pm cdv ct : Value} (X : K.In h) (G : h.Ns mainGlobals mg)
  (a : PySem.W.nsIn K mainGlobals x = some (some (.ref f))) (l : K.lookup f = some ⟨oc, od, .func (PySem.W.fnOf x x (dI st) (ck st) (ay st) .none kV doc pm an cdv ct), osl⟩)
  (c : PySem.W.codeIn K cdv x = true) (k : PySem.W.keepIn K (.ref f) = true) : Def K mg x st := ⟨f, _, Ca l c k, PySem.W.mg_of X G a⟩
theorem Fun.look {K : PySem.W.Frag} {x qual : Str} {st : Stmt} {f : Addr} {fd : FuncData} (F : Fun K x qual st f fd) : ∃ oc od osl, K.lookup f = some ⟨oc, od, .func fd, osl⟩ := by
 obtain ⟨oc, od, kV, doc, pm, an, cdv, ct, osl, rfl, lk, hcd⟩ := F.ex
 exact ⟨oc, od, osl, lk⟩
structure Callee (P : Program) (w : World) (K : PySem.W.Frag) (mg : Str -> Option Value) (base : Heap) (x : Str) (k : Nat) (ps : List Str) (sp : Sp) : Prop where
 ex : ∃ f fd, FnOk P w K mg base (CX1 P w) k f fd ps sp /\ mg x = some (.ref f) /\ PySem.W.keepIn K (.ref f) = true /\ Binds K fd ps [] /\ ∃ oc od osl, K.lookup f = some ⟨oc, od, .func fd, osl⟩
section
variable {P : Program} {w : World} {K : PySem.W.Frag} {mg : Str -> Option Value} {base : Heap} {x : Str} {st : Stmt} {k : Nat} {ps N : List Str} {sp : Sp}
theorem Callee.imp {sp' : Sp} (C : Callee P w K mg base x k ps sp) (h : ∀ vs H Q E, sp' vs H Q E -> sp vs H Q E) : Callee P w K mg base x k ps sp' := by
 obtain ⟨f, fd, F, r⟩ := C.ex
 exact ⟨f, fd, F.imp h, r⟩
theorem Def.okR (D : Def K mg x st) (S : FnScope N ps (ay st))
  (hb : ∀ (kV doc pm : Value) (an : Option Addr) (cdv ct : Value) (us : List Value), us.length = ps.length -> bindArgs (PySem.W.fnOf x x (dI st) (ck st) (ay st) .none kV doc pm an cdv ct) ⟨us, []⟩ = pure (ps.zip us))
  (len : ∀ vs H Q E, sp vs H Q E -> vs.length = ps.length)
  (hbody : ∀ (f : Addr) (cdv : Value) (A : Around) (outer : List Env) (s : Shared) (H : Hp) (vs : List V) (Q : VK) (E : XK), Room k (A.deeper (envOfC x (ay st) s.heap.objs.size f cdv)) -> sp vs H Q E ->
   ∃ t, PSs (ef (CX1 P w) P w K mg base N x (ay st) f cdv A outer s H E) (ck st) t /\ t { nx := fun _ H' => Q .non H', rt := Q } (eS N vs) H) : Callee P w K mg base x (k + 1) ps sp := by
 obtain ⟨f, fd, F, m⟩ := D.ex
 exact ⟨f, fd, F.okR S len (hbody f), m, F.kp, F.binds hb, F.look⟩
end
section
variable {X : Cx} {x : Str} {p pos : Pos} {e : Expr} {es : List Expr} {ta : TA} {k : Nat} {ps : List Str} {sp : Sp} {E : XK}
end
section
variable {X : Cx} {K : PySem.W.Frag} {tg l : Expr} {tl : TE}
theorem uL (h : X.K = K) (hc : X.calm = true) : CallR X (.builtin "all") (fun xs H Q => ∃ (a : Addr) (bs : List Bool), xs = [.ref a] /\ SqL K H a (bs.map V.bl) /\ Q (.bl (bs.all id)) H) := by subst h; exact we hc
theorem gY (h : X.K = K) (hu : X.A.units + 64 < cLine) : OpR X (compareOp .Eq) (qS K) := by subst h; exact AI hu
theorem kE (h : X.K = K) (hu : X.A.units + 64 < cLine) : OpR X (compareOp .NotEq) (sE K) := by subst h; exact Bn hu
end
end L2
set_option Elab.async false
set_option linter.all false
set_option maxRecDepth 100000
namespace L2
open PySem PySem.Spec PyProof.Rows
section
variable {X : Cx}
theorem
    Cj {elt iter tg : Expr} {ifs : List Expr} {scope : Scope} {pos : Pos} {wi : TI} {g : TG} {tc : TT} {te : TE} {N : List Str} {sub : List (Option Nat)} {iT : Nat} {xT : Str} {px spos : Pos}
  (hc : X.calm = true) (hN : X.N.Nodup) (hix : X.N[iT]? = some xT) (hxl : Loc X.env.scope xT) (hi : PI X tg iter wi)
  (hk : scope.kind = .function) (hnc : ∀ x ∈ scope.names, x.2 ≠ .cell) (hnames : ∀ x ∈ scope.names, x.2 = .local -> scope.names.lookup x.1 = some .local)
  (hfr : ∀ x ∈ scope.names, x.2 = .free -> X.env.kindOf x.1 = some .cell \/ X.env.kindOf x.1 = some .free)
  (hsl : sub.length = N.length) (hsub : ∀ (j i : Nat) (x : Str), sub[j]? = some (some i) -> N[j]? = some x -> X.N[i]? = some x /\ scope.names.lookup x = some .free)
  (hg : ∀ cl C s₂ H fp, PG (bu X N scope cl C s₂ H fp) tg g) (ht : ∀ cl C s₂ H fp, PTs (bu X N scope cl C s₂ H fp) ifs tc) (he : ∀ cl C s₂ H fp, PE (bu X N scope cl C s₂ H fp) elt te)
  (hsw : swapsWith (.ListComp elt [⟨tg, iter, ifs, 0⟩] scope pos) (some (.Name xT px)) spos.line X.env = pure true)
  (hs : ∀ x, foldedSetIterable iter X.env x = pure x := by intro _; rfl) (hf : X.fn xT = true \/ X.env.scope.names.lookup xT = some .local := by first | exact .inl rfl | exact .inr rfl | assumption) :
  PS X (.Assign [.Name xT px] (.ListComp elt [⟨tg, iter, ifs, 0⟩] scope pos) spos) (nY (kd wi sub g tc te) (lQ iT)) := by
 intro pins s σ H D0 I h
 obtain ⟨cl, hclos, hcl, hclf⟩ := jF (env := X.env) (scope := scope) fun x hx hf => I.ok.has x.1 (hfr x hx hf)
 rw [exec_Assign_Name_used _ _ _ _ hsw]
 refine wpAny_bind (wpAny_standAt (wpAny_bind ?_))
 show wpAny _ X.A (do let _ <- comprehension (.ListComp elt [⟨tg, iter, ifs, 0⟩] scope pos) scope X.env _ (newList []) false (eval iter X.env) (some (assign (.Name xT px) X.env))) _ _ s
 refine wpAny_bind (wpAny_mono (wpAny_comprehension_free (use := some (assign (.Name xT px) X.env)) (Q := fun _ s' => SP X pins D0 .next s') rfl hs hclos hk hnames ?_) (fun _ s' hq => wpAny_pure (wpAny_pure hq)) fun _ _ e => e)
 show wpAny _ _ (eval iter X.env) _ _ _
 refine thn (hi pins s σ H _ I h) fun v s1 h1 => thn h1 fun itv s2 h2 => ?_
 obtain ⟨it, fp, tn, J, H2, e, I2, T, st2, f2, W, ⟨m0, w0⟩, turn⟩ := h2
 subst e
 refine wpAny_newObj_type (wpAny_newFunctionEnv hnc (by intro y hy; simp at hy) (fun h₁ hns₁ hsb₁ => ?_) hk)
 dsimp only at hns₁ hsb₁ ⊢
 generalize hH2 : s2.heap.push { cls := .type "list", dict := none, data := .seq ([] : List Value).toArray } = G2 at hns₁ hsb₁ ⊢
 have hC : G2.objs.size = s2.heap.objs.size + 1 := by rw [<- hH2, Heap.size_push]
 have hDC : s2.heap.objs.size ≠ G2.objs.size := by omega
 have below : ∀ b, b < s2.heap.objs.size -> b ≠ G2.objs.size /\ b ≠ s2.heap.objs.size := fun b hb => ⟨by omega, by omega⟩
 have old : ∀ b o, s2.heap.get? b = some o -> h₁.get? b = some o := fun b o e => hsb₁.extBut b o (below b (Heap.lt_size e)).1 (Heap.get?_push_of_some _ (hH2 ▸ Heap.get?_push_of_some _ e))
 have hD₁ : h₁.get? s2.heap.objs.size = some { cls := .type "list", dict := none, data := .seq ([] : List Value).toArray } := hsb₁.extBut _ _ hDC (Heap.get?_push_of_some _ (hH2 ▸ Heap.get?_push_size _ rfl))
 have fresh : ∀ a, s2.heap.objs.size <= a -> s2.heap.get? a = none := fun a ha => Heap.get?_none_of_le ha
 have cellOld : ∀ x c, cl.lookup x = some c -> c < s2.heap.objs.size := fun x c e => by
  obtain ⟨v, z⟩ := I2.cell x c (hcl x c e)
  exact z.lt
 have fpOld : ∀ b ∈ fp, b < s2.heap.objs.size := fun b hb => by
  obtain ⟨o, e, _⟩ := T.obj _ _ st2 b hb
  exact Heap.lt_size e
 let Y : Cx := bu X N scope cl G2.objs.size s2 H2 fp
 have okY : Y.Ok
         := by
  refine ⟨I2.ok.mod, ?_, I2.ok.glob, I2.ok.blt, ?_, fun x y c e1 e2 => I2.ok.inj x y c (hcl x c e1) (hcl y c e2), fun x hx => ?_, fun x c hfn _ => absurd hfn Bool.false_ne_true, I2.ok.hd, I2.ok.frames, .inl rfl,
   fun b hb => ⟨?_, fun x c e z => ?_⟩, I2.bs, Nat.le_trans I2.ok.bsz I2.sz, fun b o e hb => ?_, fun b hb hf => ?_, I2.stack, I2.stkFree⟩
  ·show (relabel scope X.env).kind = .function
   exact hk
  ·show s2.heap.objs.size <= G2.objs.size
   omega
  ·have hx' : (
         relabel scope X.env).names.lookup x = some .cell \/ (relabel scope X.env).names.lookup x = some .free := hx
   have : ∃ k,
         (x, k) ∈ scope.names /\ k = .free := by
    have gen : ∀ (names : List (Str × NameKind)), (∀ y ∈ names, y.2 ≠ .cell) -> ∀ kk, (kk = NameKind.cell \/ kk = NameKind.free) -> (names.map fun (n, k) => if (k == NameKind.free && X.env.scope.kind == .function && X.env.kindOf n == some .cell) then (n, NameKind.cell) else (n, k)).lookup x = some kk -> ∃ k, (x, k) ∈ names /\ k = .free := by
     intro names
     induction names with
     | nil => intro _ kk _ e; simp at e
     |
      cons y r ih =>
      intro hn kk hkk e
      obtain ⟨n, k⟩ := y
      rw [List.map_cons, List.lookup_cons] at e
      by_cases hkf : k = .free
      ·subst hkf
       by_cases hxn : x = n
       ·exact ⟨.free, by rw [hxn]; exact List.mem_cons_self, rfl⟩
       ·have hb : (x == (if (NameKind.free == NameKind.free && X.env.scope.kind == .function && X.env.kindOf n == some .cell) = true then (n, NameKind.cell) else (n, NameKind.free)).1) = false := by
         split <;> exact beq_eq_false_iff_ne.mpr hxn
        rw [hb] at e
        obtain ⟨k', m, q⟩ := ih (fun z hz => hn z (List.mem_cons_of_mem _ hz)) kk hkk e
        exact ⟨k', List.mem_cons_of_mem _ m, q⟩
      ·have hb0 : (k == NameKind.free && X.env.scope.kind == .function && X.env.kindOf n == some .cell) = false := by
        have : (k == NameKind.free) = false := by simpa using hkf
        rw [this]; rfl
       rw [hb0] at e
       simp only [Bool.false_eq_true, if_false] at e
       cases q : x == n with
       |
        true =>
        rw [q] at e
        have e' : k = kk := Option.some.inj e
        subst e'
        rcases hkk with z | z
        ·exact absurd z (hn (n, k) List.mem_cons_self)
        ·exact absurd z hkf
       |
        false =>
        rw [q] at e
        obtain ⟨k', m, q⟩ := ih (fun z hz => hn z (List.mem_cons_of_mem _ hz)) kk hkk e
        exact ⟨k', List.mem_cons_of_mem _ m, q⟩
    rcases hx' with z | z
    ·exact gen scope.names hnc _ (.inl rfl) z
    ·exact gen scope.names hnc _ (.inr rfl) z
   obtain ⟨k, m, q⟩ := this
   exact hclf (x, k) m q
  ·show b ≠ G2.objs.size
   exact (below b (fpOld b hb)).1
  ·exact (f2 b hb).2.2.2.2.1 x c (hcl x c e) z
  ·rcases (f2 b hb).2.2.2.1 with z | z
   ·exact I2.ok.noex b o e z
   ·exact absurd (Nat.lt_of_lt_of_le (Heap.lt_size e) (Nat.le_trans I2.ok.bsz z)) (Nat.lt_irrefl _)
  ·have hf' : b ∈ frs X.stack := hf
   rcases List.mem_cons.mp (I2.stkSub b hf') with z | z
   ·exact (f2 b hb).2.1 z
   ·exact (f2 b hb).2.2.1 z
 have startLoc
        : ∃ m, h₁.Ns G2.objs.size m /\ ∀ (i : Nat) (x : Str) (v : V), N[i]? = some x -> (cJ sub σ)[i]? = some (some v) -> Vis (relabel scope X.env) x -> ∃ u, RelV v u /\ rY Y.env h₁ m x u := by
  refine ⟨_, hns₁, fun j x v e1 e2 e3 => ?_⟩
  unfold cJ at e2
  rw [List.getElem?_map] at e2
  cases q : sub[j]? with
  | none => rw [q] at e2; cases e2
  |
   some o =>
   rw [q] at e2
   cases o with
   | none => cases e2
   |
    some i =>
    obtain ⟨hNi, hfree⟩ := hsub j i x q e1
    have e2' : (σ[i]?).bind id = some v := Option.some.inj e2
    have e2'' : σ[i]? = some (some v) := by
     cases z : σ[i]? with
     | none => rw [z] at e2'; cases e2'
     | some y => rw [z] at e2'; rw [show y = some v from e2']
    obtain ⟨m2, hn2, hl2⟩ := I2.loc
    have hkx := hfr (x, .free) (PySem.mem_of_lookup hfree) rfl
    obtain ⟨u, r, l⟩ := hl2 i x v hNi e2'' (by rcases hkx with z | z; exact .inr (.inl z); exact .inr (.inr z))
    refine ⟨u, r, .inr ⟨?_, ?_⟩⟩
    ·rcases e3
          with z | z | z
     ·exfalso
      have gen : ∀ (names : List (Str × NameKind)), names.lookup x = some .free -> (names.map fun (n, k) => if (k == NameKind.free && X.env.scope.kind == .function && X.env.kindOf n == some .cell) then (n, NameKind.cell) else (n, k)).lookup x = some .local -> False := by
       intro names
       induction names with
       | nil => intro e _; simp at e
       |
        cons y r ih =>
        intro e1 e2
        obtain ⟨n, k⟩ := y
        rw [List.lookup_cons] at e1
        rw [List.map_cons, List.lookup_cons] at e2
        by_cases hxn : x = n
        ·have hb1 : (x == n) = true := beq_iff_eq.mpr hxn
         rw [hb1] at e1
         have : k = .free := Option.some.inj e1
         subst this
         split at e2
         ·rename_i hq
          split at e2 <;> cases e2
         ·rename_i hq
          split at hq <;> (rw [hb1] at hq; cases hq)
        ·have hb1 : (x == n) = false := beq_eq_false_iff_ne.mpr hxn
         rw [hb1] at e1
         refine ih e1 ?_
         split at e2
         ·rename_i hq
          split at hq <;> (rw [hb1] at hq; cases hq)
         ·exact e2
      exact gen scope.names hfree z
     ·exact .inl z
     ·exact .inr z
    ·obtain ⟨c, hc'⟩ := hclf (x, .free) (PySem.mem_of_lookup hfree) rfl
     refine ⟨c, hc', ?_⟩
     rcases l with ⟨k, _⟩ | ⟨_, c2, ec2, z⟩
     ·rcases hkx with z | z <;> (rw [k] at z; cases z)
     ·have := hcl x c hc'
      rw [ec2] at this
      cases this
      obtain ⟨oc, hoc, hd⟩ := z
      exact ⟨oc, old _ _ hoc, hd⟩
 have pinD : ∀ {σ' : St} {H' : Hp} {s' : Shared} {pl : List (Addr × Obj)} {o : Obj}, Inv Y pl σ' H' s' -> s'.heap.get? s2.heap.objs.size = some o -> (∀ v, o.data ≠ .cell v) -> H' s2.heap.objs.size = none -> Inv Y [(s2.heap.objs.size, o)] σ' H' s' := fun {σ' H' s' pl o} IY e d n =>
  IY.pins_of fun p hp => by
   have e' : p = (s2.heap.objs.size, o) := by simpa using hp
   subst e'
   refine ⟨e, n, ?_, ?_, d⟩
   ·show s2.heap.objs.size ≠ G2.objs.size
    omega
   ·intro hf
    have hf' : s2.heap.objs.size ∈ frs X.stack := hf
    obtain ⟨_, o', ho', _⟩ := I2.stack.mem hf'
    exact absurd (Heap.lt_size ho') (Nat.lt_irrefl _)
 have fpY : ∀ {H' : Hp} {pl : List (Addr × Obj)}, (∀ b ∈ fp, H' b = none) -> (∀ p ∈ pl, p.1 ∉ fp) -> ∀ b ∈ fp, FpOk Y pl H' b := fun {H' pl} hn hp b hb => by
  refine ⟨hn b hb, ?_, ?_, .inl hb, fun x c e => ?_, fun p hp' => ?_⟩
  ·exact (okY.exf b hb).1
  ·exact okY.exfs b hb
  ·exact (okY.exf b hb).2 x c e
  ·intro z
   have hp'' : p ∈ pl := by simpa [Y, bu] using hp'
   exact hp p hp'' (by rw [z]; exact hb)
 have hDfp : s2.heap.objs.size ∉ fp := fun z => Nat.lt_irrefl _ (fpOld _ z)
 have loop
      : ∀ s₃ : Shared, s₃ = { s2 with heap := h₁, toks := s2.toks + ([] : List (Str × Value)).length } ->
   codeAny (model X.prog X.w) X.A (.compLoop (.ListComp elt [⟨tg, iter, ifs, 0⟩] scope pos) 0 (.ref it) (.ref s2.heap.objs.size) (compEnvC scope cl G2.objs.size X.env))
    (compPost (model X.prog X.w) X.A X.xe (some (assign (.Name xT px) X.env)) (fun _ s' => SP X pins D0 .next s') (.ref s2.heap.objs.size) G2.objs.size) s₃ := by
  rintro s₃ rfl
  have IY0 : Inv Y [(s2.heap.objs.size, { cls := .type "list", dict := none, data := .seq ([] : List Value).toArray })] (cJ sub σ) H2 { s2 with heap := h₁, toks := s2.toks + ([] : List (Str × Value)).length } := by
   have J0 : Inv Y [] (cJ sub σ) H2 { s2 with heap := h₁, toks := s2.toks + ([] : List (Str × Value)).length } := by
    refine ⟨okY, rfl, I2.bare, Un.kept old, startLoc, fun x c e => ?_, I2.hok.fresh (by show s2.heap.objs.size <= G2.objs.size; omega), fun x c e => I2.freeC x c (hcl x c e), fun p hp => absurd (show p ∈ ([] : List (Addr × Obj)) from hp) (by simp), I2.hok.kept old, ?_⟩
    ·obtain ⟨v, oc, hoc, hd⟩ := I2.cell x c (hcl x c e)
     exact ⟨v, oc, old _ _ hoc, hd⟩
    ·show (cJ sub σ).length = N.length
     unfold cJ
     rw [List.length_map]; exact hsl
   exact pinD J0 hD₁ (fun v z => by cases z) I2.fresh
  refine jJ (fun n s' => ∃ (i : Nat) (ys : List V) (its : List Value) (k : Nat) (σ' : St) (H' : Hp), Inv Y [(s2.heap.objs.size, { cls := .type "list", dict := none, data := .seq its.toArray k })] σ' H' s' /\ Vals ys its /\ tn i s'.heap /\ (∀ b ∈ fp, H' b = none) /\ W i n ys σ' H') ?_ m0
   ⟨0, [], [], 0, cJ sub σ, H2, IY0, .nil, T.keep _ _ _ st2 (fun b hb o e => old b o e), fun b hb => (f2 b hb).1, w0⟩
  rintro n s3 ⟨i, ys, its, k, σ3, H3, I3, rv, st3, fr3, w3⟩
  have npl : ∀ (o : Obj), ∀ p ∈ [(s2.heap.objs.size, o)], p.1 ∉ fp := fun o p hp => by
   have e' : p = (s2.heap.objs.size, o) := by simpa using hp
   subst e'
   exact hDfp
  rcases turn i n ys σ3 H3 w3 with ⟨stop, hz, qn⟩ | ⟨go, hz, Nx, hNx, step⟩
  ·refine wpAny_mono (T.done Y rfl rfl rfl hc i _ s3 σ3 H3 (fun _ _ => False) I3 (fpY fr3 (npl _)) st3 stop) (fun r s4 ⟨hr, I4⟩ => ?_) fun _ _ z => z
   subst hr
   obtain ⟨m4, hn4, _⟩ := I4.loc
   have hs' : Heap.SameBut G2.objs.size s4.heap s4.heap := ⟨rfl, fun _ _ => rfl⟩
   obtain ⟨h', hh'⟩ : ∃ h', h' = s4.heap := ⟨_, rfl⟩
   rw [<- hh'] at hs'
   rw [hh'] at hs'
   clear hh' h'
   generalize hh' : s4.heap = h' at hs'
   have hs' : Heap.SameBut G2.objs.size s4.heap h' := by rw [hh']; exact hs'
   have hCfree : H3 G2.objs.size = none := I4.free
   have hD4 := I4.pin (s2.heap.objs.size, { cls := .type "list", dict := none, data := .seq its.toArray k }) (List.mem_append_right _ List.mem_cons_self)
   have un4 : Un (frs X.stack) fp H2 H3 s2.heap s4.heap := I4.base
   have up : ∀ b o, b ≠ G2.objs.size -> s4.heap.get? b = some o -> h'.get? b = some o := fun b o hb e => hs'.extBut b o hb e
   have ne2 : ∀ b o, s2.heap.get? b = some o -> b ≠ G2.objs.size := fun b o e => (below b (Heap.lt_size e)).1
   have un5 : Un (frs X.stack) fp H2 H3 s2.heap h' := by
    refine ⟨fun b o e n hb hx => up b o (ne2 b o e) (un4.keep b o e n hb hx), fun b o e n hb hx => ?_, un4.free, fun b o e hx => ?_, un4.tups, un4.frzs, un4.tbls⟩
    ·obtain ⟨sl, q⟩ := un4.slot b o e n hb hx
     exact ⟨sl, up b _ (ne2 b o e) q⟩
    ·obtain ⟨o', q⟩ := un4.there b o e hx
     exact ⟨o', up b _ (ne2 b o e) q⟩
   have hok5 : HOk X.prog X.w H3 h' := fun b u e => (I4.hok b u e).stay (fun c v hcc q => up c v (fun z => by
    rcases hcc with zz | zz
    ·rw [zz] at z; rw [z, hCfree] at e; cases e
    ·rw [z, hCfree] at zz; cases zz) q) (fun _ q => q) fun _ _ q => q
   have I5 : Inv X pins σ H3 { s4 with heap := h' } := I2.call' (s' := { s4 with heap := h' }) (ch := fp) I4.os un5 hok5 I4.bare fun b hb => by
    obtain ⟨_, g1, _, g3, g4, g5⟩ := f2 b hb
    exact ⟨g3, g1, g4, g5⟩
   have hDfree : H3 s2.heap.objs.size = none := hD4.2.1
   have sz0 : X.s₀.heap.objs.size <= s2.heap.objs.size := I2.sz
   have hCold : ∀ b, b < s2.heap.objs.size -> b ≠ G2.objs.size := fun b hb => (below b hb).1
   have I6 : Inv X pins σ (upd H3 s2.heap.objs.size (.lst ys)) { s4 with heap := h' } := by
    refine I5.track (o := .lst ys) hDfree (Heap.get?_none_of_le sz0) (Nat.ne_of_gt I2.lt) (fun x c e z => ?_) (fun p hp z => ?_) ?_
    ·obtain ⟨v, q⟩ := I2.cell x c e
     exact absurd q.lt (by rw [z]; exact Nat.lt_irrefl _)
    ·exact absurd (Heap.lt_size (I2.pin p hp).1) (by rw [z]; exact Nat.lt_irrefl _)
    ·exact ⟨hz, its, k, rv, up _ _ hDC hD4.1⟩
   have I6' : Inv X pins σ (upd H3 s2.heap.objs.size (.lst ys)) s4 := by
    have e4 : ({ s4 with heap := h' } : Shared) = s4 := by rw [<- hh']
    rw [e4] at I6; exact I6
   refine wpAny_assign_Name (nc (v := .ref s2.heap.objs.size) I6' hN hix hxl rfl (fun s7 I7 ⟨a7, sb7, ha7⟩ => ?_) hf)
   have ha : a7 < s2.heap.objs.size := by
    rcases ha7 with z | z
    ·rw [z]; exact I2.lt
    ·obtain ⟨v, q⟩ := I2.cell xT a7 z
     exact q.lt
   refine ⟨m4, hn4.sameBut sb7 (Ne.symm (hCold a7 ha)), fun h8 hs8 => ?_⟩
   have I8 : Inv X pins (σ.set iT (some (.ref s2.heap.objs.size))) (upd H3 s2.heap.objs.size (.lst ys)) { s7 with heap := h8, toks := s7.toks } := by
    refine I7.turned (it := G2.objs.size) (t' := s7.toks) (fun b o hb e => hs8.extBut b o hb e) ?_ ?_ (.inr ?_) (fun x c e => ?_) (fun p hp => ?_)
    ·rw [aR (Ne.symm hDC)]; exact hCfree
    ·exact Ne.symm (hCold _ I2.lt)
    ·omega
    ·obtain ⟨v, q⟩ := I2.cell x c e
     exact hCold _ q.lt
    ·exact hCold _ (Heap.lt_size (I2.pin p hp).1)
   exact ⟨_, _, I8, qn _ hDfree⟩
  ·refine wpAny_mono (T.item Y rfl rfl rfl hc i _ s3 σ3 H3 (fun _ _ => False) I3 (fpY fr3 (npl _)) st3 go) (fun r s4 ⟨u, hr, h4⟩ => ?_) fun _ _ z => z
   subst hr
   refine wpAny_mono h4 (fun _ s5 ⟨x, H5, I5, r5, y5, st5, fr5⟩ => ?_) fun _ _ z => z
   have I5' := I5.pinned (fpY fr5 (npl _)) (T.obj _ _ st5)
   refine wpAny_mono (hg cl G2.objs.size s2 H2 fp _ s5 σ3 H5 x u _ I5' r5 (step x H5 y5)) (fun _ s6 ⟨σ6, H6, I6, q6⟩ => ?_) fun _ _ z => z
   refine wpAny_mono (ht cl G2.objs.size s2 H2 fp _ s6 σ6 H6 _ I6 q6) (fun ok s7 ⟨H7, I7, q7⟩ => ?_) fun _ _ z => z
   have back : ∀ {σ' : St} {H' : Hp} {s' : Shared}, Inv Y ([(s2.heap.objs.size, { cls := .type "list", dict := none, data := .seq its.toArray k })] ++ iL fp s5.heap) σ' H' s' -> tn (i + 1) s'.heap /\ ∀ b ∈ fp, H' b = none := fun {σ' H' s'} IB => by
    refine ⟨T.keep _ _ _ st5 fun b hb o e => (IB.pin (b, o) (List.mem_append_right _ (List.mem_append_right _ (dM hb e)))).1, fun b hb => ?_⟩
    obtain ⟨o, e, d⟩ := T.obj _ _ st5 b hb
    exact (IB.pin (b, o) (List.mem_append_right _ (List.mem_append_right _ (dM hb e)))).2.1
   cases ok with
   |
    false =>
    rw [if_neg Bool.false_ne_true] at q7
    obtain ⟨m', hm, w7⟩ := hNx _ _ _ q7
    rw [if_neg Bool.false_ne_true]
    obtain ⟨t7, f7⟩ := back I7
    exact ⟨m', hm, i + 1, ys, its, k, σ6, H7, I7.unpinned, rv, t7, f7, w7⟩
   |
    true =>
    rw [if_pos rfl] at q7
    rw [if_pos rfl]
    refine wpAny_mono (he cl G2.objs.size s2 H2 fp _ s7 σ6 H7 _ I7 q7) (fun y s8 ⟨yv, H8, I8, r8, q8⟩ => ?_) fun _ _ z => z
    obtain ⟨m', hm, w8⟩ := hNx _ _ _ q8
    obtain ⟨t8, f8⟩ := back I8
    have I9 := I8.unpinned
    have hD9 := I9.pin (s2.heap.objs.size, { cls := .type "list", dict := none, data := .seq its.toArray k }) (List.mem_append_right _ List.mem_cons_self)
    have e9 : s8.heap.get? s2.heap.objs.size = some { cls := .type "list", dict := none, data := .seq its.toArray k } := hD9.1
    have hlen := rv.length
    refine call_meets F.slot_list_append ⟨_, e9, rfl⟩ F.entry_list_append (F.args_list_append_2 _ _) (PySem.list_append _ its.toArray k y (by rw [List.size_toArray]; omega)) ⟨e9, ?_⟩
    have q9 := PySem.IsL.update e9 (fun xs => xs.push y)
    have ea : its.toArray.push y = (its ++ [y]).toArray := by simp
    rw [ea] at q9
    have k9 : ∀ b o, b ≠ s2.heap.objs.size -> s8.heap.get? b = some o -> (s8.heap.update s2.heap.objs.size (Obj.mapSeq fun xs => xs.push y)).get? b = some o := fun b o hb e => (Heap.get?_update_other _ _ (Ne.symm hb)).trans e
    have I10 : Inv Y [] σ6 H8 { s8 with heap := s8.heap.update s2.heap.objs.size (Obj.mapSeq fun xs => xs.push y) } :=
     (I9.pins_of (pins' := []) (fun p hp => nomatch hp)).turned (t' := s8.toks) k9 hD9.2.1 hD9.2.2.1 (.inr (Nat.le_refl _)) (fun x c e z => absurd (cellOld x c e) (by rw [z]; exact Nat.lt_irrefl _))
      (fun p hp => absurd (show p ∈ ([] : List (Addr × Obj)) from hp) (by simp))
    refine ⟨m', hm, i + 1, ys ++ [yv], its ++ [y], _, σ6, H8, pinD I10 q9 (fun v z => by cases z) hD9.2.1, rv.append (.cons r8 .nil), ?_, f8, w8⟩
    exact T.keep _ _ _ t8 fun b hb o e => k9 b o (fun z => hDfp (by rw [<- z]; exact hb)) e
 exact codeAny_compStart_list (loop _ rfl) (T.self _ 0 _ _ _ (T.keep _ _ _ st2 fun b hb o e => old b o e) (loop _ rfl))
theorem Eg {elt iter tg : Expr} {scope : Scope} {pos px spos : Pos} {wi : TI} {g : TG} {te : TE} {iT : Nat} {xT : Str} (M : List Str) (kn : List (Str × NameKind)) (N : List Str) (sub : List (Option Nat))
  (hc : X.calm = true) (hN : X.N.Nodup) (hix : X.N[iT]? = some xT) (hxl : Loc X.env.scope xT) (hi : PI X tg iter wi)
  (hg : ∀ cl C s₂ H fp, PG (bu X N scope cl C s₂ H fp) tg g) (he : ∀ cl C s₂ H fp, PE (bu X N scope cl C s₂ H fp) elt te)
  (hsw : swapsWith (.ListComp elt [⟨tg, iter, [], 0⟩] scope pos) (some (.Name xT px)) spos.line X.env = pure true := by rfl)
  (hM : X.N = M := by rfl) (hkn : X.env.scope.names = kn := by rfl) (hsub : hE M scope.names sub N = true := by decide +kernel)
  (hk : scope.kind = .function := by rfl) (hnc : ∀ x ∈ scope.names, x.2 ≠ .cell := by decide +kernel) (hnames : ∀ x ∈ scope.names, x.2 = .local -> scope.names.lookup x.1 = some .local := by decide +kernel)
  (hfr : jP kn scope.names = true := by decide +kernel)
  (hsl : sub.length = N.length := by rfl) (hs : ∀ x, foldedSetIterable iter X.env x = pure x := by intro _; rfl) (hf : X.fn xT = true \/ X.env.scope.names.lookup xT = some .local := by first | exact .inl rfl | exact .inr rfl | assumption) :
  PS X (.Assign [.Name xT px] (.ListComp elt [⟨tg, iter, [], 0⟩] scope pos) spos) (nY (kd wi sub g u3 te) (lQ iT)) :=
 Cj hc hN hix hxl hi hk hnc hnames (by subst hkn; exact qH hfr) hsl (by subst hM; exact oW hsub) hg (fun cl C s₂ H fp => qG) he hsw hs hf
end
end L2
set_option Elab.async false
set_option linter.all false
set_option maxRecDepth 100000
namespace L2
open PySem PySem.Spec PyProof.Rows
theorem qB : ∀ {ns : List Int} {its : List Value}, Vals (ns.map V.int) its -> IntsAre its ns
 | [], _, h => by cases h; exact .nil
 |
  i :: r, _, h => by
  cases h with
  |
   cons h1 h2 =>
   obtain ⟨t, rfl⟩ := h1
   exact .cons i t (qB h2)
theorem sW {X : Cx} {K : PySem.W.Frag} (hK : X.K = K) (hc : X.calm = true) : CallR X (.builtin "sum") (fun xs H Q => ∃ (a : Addr) (ns : List Int), xs = [.ref a] /\ SqL K H a (ns.map V.int) /\ Q (.int ns.sum) H) := by
 subst hK
 intro pins s σ H xs us Q I r h
 obtain ⟨a, ns, rfl, hq, q⟩ := h
 obtain ⟨u, rfl, ru⟩ := gi r
 cases ru
 obtain ⟨its, rv, p, hz⟩ := I.list hq
 have hi := qB rv
 obtain ⟨ys, hy⟩ := hi.allInts.items
 have hn : numsOf its.toArray.toList = ns := by rw [show its.toArray.toList = its from rfl, hi.numsOf]
 have pl := p.isList
 rw [hy] at pl hn
 rw [nums_intItems] at hn
 refine sum_intListG (I.ok.hd hc) pl fun h' tk t' hk => ?_
 rw [preSum_eq, List.take_of_length_le (by simp), hn]
 exact ⟨.int ns.sum, H, I.kept (t' := tk) hk, ⟨_, rfl⟩, q⟩
end L2
namespace Fr
noncomputable def dv (a b : Int) : Int := if b < 0 then -((Int.gcd a b : Nat) : Int) else ((Int.gcd a b : Nat) : Int)
noncomputable def T (a b : Int) : Int := a.fdiv (dv a b)
noncomputable def B (a b : Int) : Int := b.fdiv (dv a b)
theorem pK {a b : Int} (hb : b ≠ 0) : 0 < Int.gcd a b := Int.gcd_pos_of_ne_zero_right a hb
theorem dv_ne {a b : Int} (hb : b ≠ 0) : dv a b ≠ 0 := by
 have := pK (a := a) hb
 unfold dv
 split <;> omega
theorem vZ (a b : Int) : dv a b ∣ a := by
 have h : ((Int.gcd a b : Nat) : Int) ∣ a := Int.gcd_dvd_left a b
 unfold dv
 split
 ·exact Int.neg_dvd.mpr h
 ·exact h
theorem uD (a b : Int) : dv a b ∣ b := by
 have h : ((Int.gcd a b : Nat) : Int) ∣ b := Int.gcd_dvd_right a b
 unfold dv
 split
 ·exact Int.neg_dvd.mpr h
 ·exact h
theorem qD {a d q : Int} (hd : d ≠ 0) (h : a = d * q) : a.fdiv d = q := by
 rw [h, Int.mul_comm]
 exact Int.mul_fdiv_cancel q hd
theorem T_mul {a b : Int} (hb : b ≠ 0) : T a b * dv a b = a := by
 obtain ⟨q, h⟩ := vZ a b
 have : T a b = q := qD (dv_ne hb) h
 rw [this, Int.mul_comm]; exact h.symm
theorem B_mul {a b : Int} (hb : b ≠ 0) : B a b * dv a b = b := by
 obtain ⟨q, h⟩ := uD a b
 have : B a b = q := qD (dv_ne hb) h
 rw [this, Int.mul_comm]; exact h.symm
theorem B_pos {a b : Int} (hb : b ≠ 0) : 0 < B a b := by
 have h := B_mul (a := a) hb
 have hg := pK (a := a) hb
 generalize hx : B a b = x at h ⊢
 unfold dv at h
 split at h
 ·rename_i hneg
  have h2 : x * ((Int.gcd a b : Nat) : Int) = -b := by rw [Int.mul_neg] at h; omega
  rcases Int.lt_or_le 0 x with z | z
  ·exact z
  ·have : x * ((Int.gcd a b : Nat) : Int) <= 0 := Int.mul_nonpos_of_nonpos_of_nonneg z (by omega)
   omega
 ·rename_i hpos
  rcases Int.lt_or_le 0 x with z | z
  ·exact z
  ·have : x * ((Int.gcd a b : Nat) : Int) <= 0 := Int.mul_nonpos_of_nonpos_of_nonneg z (by omega)
   omega
theorem cross {a b : Int} (hb : b ≠ 0) : T a b * b = a * B a b := by
 have h1 := T_mul (a := a) hb
 have h2 := B_mul (a := a) hb
 generalize T a b = x at *
 generalize B a b = y at *
 generalize dv a b = d at *
 rw [<- h2, <- h1]
 rw [<- Int.mul_assoc, Int.mul_right_comm]
theorem dv_abs (a b : Int) : (dv a b).natAbs = Int.gcd a b := by
 unfold dv
 split <;> simp
theorem low {a b : Int} (hb : b ≠ 0) : Int.gcd (T a b) (B a b) = 1 := by
 have h1 := T_mul (a := a) hb
 have h2 := B_mul (a := a) hb
 have hg := pK (a := a) hb
 have e1 : a.natAbs = (T a b).natAbs * Int.gcd a b := by rw [<- dv_abs a b, <- Int.natAbs_mul, h1]
 have e2 : b.natAbs = (B a b).natAbs * Int.gcd a b := by rw [<- dv_abs a b, <- Int.natAbs_mul, h2]
 have e3 : Int.gcd a b = Nat.gcd ((T a b).natAbs * Int.gcd a b) ((B a b).natAbs * Int.gcd a b) := by rw [<- e1, <- e2]; rfl
 rw [Nat.gcd_mul_right] at e3
 show Nat.gcd (T a b).natAbs (B a b).natAbs = 1
 generalize Nat.gcd (T a b).natAbs (B a b).natAbs = k at *
 generalize Int.gcd a b = g at *
 have : (1 : Nat) * g = k * g := by omega
 exact (Nat.eq_of_mul_eq_mul_right hg this).symm
theorem uniq {x y x' y' : Int} (hy : 0 < y) (hy' : 0 < y') (h : Int.gcd x y = 1) (h' : Int.gcd x' y' = 1) (e : x * y' = x' * y) : x = x' /\ y = y' := by
 have c1 : Nat.Coprime y.natAbs x.natAbs := by rw [Nat.coprime_comm]; exact h
 have c2 : Nat.Coprime y'.natAbs x'.natAbs := by rw [Nat.coprime_comm]; exact h'
 have e1 : x.natAbs * y'.natAbs = x'.natAbs * y.natAbs := by rw [<- Int.natAbs_mul, <- Int.natAbs_mul, e]
 have d1 : y.natAbs ∣ y'.natAbs := c1.dvd_of_dvd_mul_left (by rw [e1]; exact Nat.dvd_mul_left _ _)
 have d2 : y'.natAbs ∣ y.natAbs := c2.dvd_of_dvd_mul_left (by rw [<- e1]; exact Nat.dvd_mul_left _ _)
 have ey : y.natAbs = y'.natAbs := Nat.dvd_antisymm d1 d2
 have ey' : y = y' := by omega
 subst ey'
 exact ⟨Int.eq_of_mul_eq_mul_right (by omega) e, rfl⟩
theorem qV {a b c d : Int} (hb : b ≠ 0) (hd : d ≠ 0) (e : a * d = c * b) : T a b = T c d /\ B a b = B c d := by
 refine uniq (B_pos hb) (B_pos hd) (low hb) (low hd) ?_
 have h1 := cross (a := a) hb
 have h2 := cross (a := c) hd
 have hbd : b * d ≠ 0 := Int.mul_ne_zero hb hd
 refine Int.eq_of_mul_eq_mul_right hbd ?_
 calc T a b * B c d * (b * d) = (T a b * b) * (B c d * d) := by rw [Int.mul_assoc, Int.mul_left_comm (B c d) b d, <- Int.mul_assoc]
  _ = (a * B a b) * (B c d * d) := by rw [h1]
  _ = (a * d) * (B c d * B a b) := by rw [Int.mul_assoc a, Int.mul_assoc a, Int.mul_left_comm (B a b), Int.mul_left_comm d, Int.mul_comm (B a b) d]
  _ = (c * b) * (B c d * B a b) := by rw [e]
  _ = (c * B c d) * (B a b * b) := by rw [Int.mul_assoc c, Int.mul_assoc c, Int.mul_left_comm b, Int.mul_comm b (B a b)]
  _ = (T c d * d) * (B a b * b) := by rw [<- h2]
  _ = T c d * B a b * (b * d) := by rw [Int.mul_assoc, Int.mul_assoc, Int.mul_left_comm d, Int.mul_comm d b]
theorem self {a b : Int} (hb : 0 < b) (h : Int.gcd a b = 1) : T a b = a /\ B a b = b :=
 uniq (B_pos (by omega)) hb (low (by omega)) h (cross (by omega))
theorem euc (m n : Nat) : Nat.gcd n (m % n) = Nat.gcd m n := by
 rw [Nat.gcd_comm, <- Nat.gcd_rec, Nat.gcd_comm]
end Fr
set_option Elab.async false
set_option linter.all false
set_option maxRecDepth 100000
set_option maxHeartbeats 1000000
namespace L2
open PySem PySem.Spec PyProof.Rows
theorem Inv.turnedL {X : Cx} {pins : List (Addr × Obj)} {σ : St} {H : Hp} {s : Shared} {h' : Heap} {t' : Nat} {ch : List Addr} (I : Inv X pins σ H s) (k : ∀ b o, b ∉ ch -> s.heap.get? b = some o -> h'.get? b = some o) (hf : ∀ b ∈ ch, FpOk X pins H b) : Inv X pins σ H { s with heap := h', toks := t' } := by
 have away : ∀ b u, H b = some u -> b ∉ ch := fun b u e z => by have := (hf b z).1; rw [e] at this; cases this
 refine I.step (g' := s.gens) (d' := s.drawn) (ch := ch) (fun b hb => ⟨(hf b hb).2.2.2.1, (hf b hb).2.1, (hf b hb).2.2.2.2.1, (hf b hb).2.2.2.2.2⟩) (fun b o _ _ hc e _ => k b o hc e) (fun b o _ _ hc e _ => ⟨o.slots, k b o hc e⟩) (fun _ _ _ _ n => n)
  (fun b o hc e => ⟨o, k b o hc e⟩) (fun _ _ e => e) (fun _ _ _ e => e) (fun b ps e => ⟨#[], by rw [e]; simp⟩) (fun m hm => ?_) (fun b u e => ?_) I.bare
 ·obtain ⟨o, es, ep, ho, r⟩ := hm
  exact ⟨o, es, ep, k _ o (fun z => (hf _ z).2.1 rfl) ho, r⟩
 ·refine (I.hok b u e).stay (fun c v hc q => k c v ?_ q) (fun _ q => q) fun _ _ q => q
  rcases hc with z | z
  ·rw [z]; exact away b u e
  ·exact away c _ z
theorem FpOk.up {X : Cx} {pins : List (Addr × Obj)} {H : Hp} {b p : Addr} {o : HO} (f : FpOk X pins H b) (hn : b ≠ p) : FpOk X pins (upd H p o) b := ⟨by rw [aR hn]; exact f.1, f.2⟩
theorem r9 {prog : Program} {w : World} {A : Around} {E : Value -> Shared -> Prop} {s : Shared} {j t : Addr} {n : Nat} {its : Array Value} {v : Value} {Q : Value -> Shared -> Prop} (hj : s.heap.IsTupleIter j t n) (ht : s.heap.IsTuple t its) (hv : its[n]? = some v)
  (k : ∀ h', h'.IsTupleIter j t (n + 1) -> Heap.SameBut j s.heap h' -> Q v { s with heap := h' }) : wpAny (model prog w) A (Builtin.SmallTypes.nextOf (.ref j)) Q E s := by
 obtain ⟨oj, ej, cj, dj⟩ := id hj
 obtain ⟨ot, et, _, m, dt⟩ := ht
 unfold Builtin.SmallTypes.nextOf
 refine wpAny_bind (wpAny_callSpecial?_slot (name := Str.ofString "__next__") hj.typeIs F.slot_tuple_iterator_next (wpAny_call_entry F.slot_tuple_iterator_next hj.typeIs F.entry_tuple_iterator_next ?_ (F.args_tuple_iterator_next_1 _)))
 show wpAny _ _ (field (.ref j) 0 >>= _) _ _ s
 refine wpAny_bind (wpAny_field ej dj (x := .ref t) rfl ?_)
 show wpAny _ _ (if (Value.ref t == Value.none) = true then _ else _) _ _ s; rw [if_neg (show ¬ ((Value.ref t == Value.none) = true) from Bool.false_ne_true)]
 show wpAny _ _ (field (.ref j) 1 >>= _) _ _ s
 refine wpAny_bind (wpAny_field ej dj (x := .int n 0) rfl ?_)
 show wpAny _ _ (seqItems? (.ref t) >>= _) _ _ s; refine wpAny_bind (wpAny_seqItems et dt ?_)
 simp only [Int.toNat_natCast, hv]
 refine wpAny_bind (wpAny_setField ej dj (by simp) (wpAny_pure ⟨v, rfl, wpAny_pure (k _ ?_ (Heap.SameBut.update ..))⟩))
 exact ⟨_, Heap.get?_update_self _ ej (Obj.isFreed_of_fields (Obj.data_mapFields dj _)), (Obj.cls_mapFields ..).trans cj, by rw [Obj.data_mapFields dj]; simp [rawInt]⟩
theorem mE {prog : Program} {w : World} {A : Around} {E : Value -> Shared -> Prop} {s : Shared} {j t : Addr} {n : Nat} {its : Array Value} {Q : Value -> Shared -> Prop} (hh : A.handled = none) (hj : s.heap.IsTupleIter j t n) (ht : s.heap.IsTuple t its) (hv : its[n]? = none)
  (k : ∀ h' e, Heap.ExtBut j s.heap h' -> (∃ o, h'.get? e = some o /\ o.cls = .type "StopIteration") -> E (.ref e) { s with heap := h' }) : wpAny (model prog w) A (Builtin.SmallTypes.nextOf (.ref j)) Q E s := by
 obtain ⟨oj, ej, cj, dj⟩ := id hj
 obtain ⟨ot, et, _, m, dt⟩ := ht
 unfold Builtin.SmallTypes.nextOf
 refine wpAny_bind (wpAny_callSpecial?_slot (name := Str.ofString "__next__") hj.typeIs F.slot_tuple_iterator_next (wpAny_call_entry F.slot_tuple_iterator_next hj.typeIs F.entry_tuple_iterator_next ?_ (F.args_tuple_iterator_next_1 _)))
 show wpAny _ _ (field (.ref j) 0 >>= _) _ _ s
 refine wpAny_bind (wpAny_field ej dj (x := .ref t) rfl ?_)
 show wpAny _ _ (if (Value.ref t == Value.none) = true then _ else _) _ _ s; rw [if_neg (show ¬ ((Value.ref t == Value.none) = true) from Bool.false_ne_true)]
 show wpAny _ _ (field (.ref j) 1 >>= _) _ _ s
 refine wpAny_bind (wpAny_field ej dj (x := .int n 0) rfl ?_)
 show wpAny _ _ (seqItems? (.ref t) >>= _) _ _ s; refine wpAny_bind (wpAny_seqItems et dt ?_)
 simp only [Int.toNat_natCast, hv]
 refine wpAny_bind (wpAny_rule (wpAny_bind (wpAny_setField ej dj (by simp) ?_))); show wpAny _ _ (newExc (.type "StopIteration") [] >>= _) _ _ _
 refine wpAny_bind ?_; simp only [newExc, newTuple]
 refine wpAny_bind (wpAny_newObj_type ?_ (by size_fits)); refine wpAny_bind (m := firstArgMember _ _) (wpAny_of_eq (a := Value.none) (by first | rfl | (simp only [firstArgMember]; rfl)) ?_)
 refine wpAny_newObj_type ?_ (by size_fits); simp only [raiseNew]
 refine wpAny_bind (wpAny_handled ?_); first | rw [show A.in1.handled = none from hh] | rw [hh]
 refine wpAny_bind (wpAny_pure (wpAny_throw ?_)); exact k _ _ (((Heap.SameBut.update ..).extBut.push _).push _) ⟨_, Heap.get?_push_size _ rfl, rfl⟩
theorem A0 {prog : Program} {w : World} {A : Around} (hh : A.handled = none) (j t : Addr) (ne : t ≠ j) (its : Array Value) : Draws prog w A j [j, t] its.size (fun i v => its[i]? = some v) (fun i h => h.IsTupleIter j t i /\ h.IsTuple t its) where
 live := fun _ _ z => let ⟨o, e, _⟩ := z.1; ⟨o, e⟩
 frame := fun _ _ _ z k => ⟨z.1.at fun o e => k j (by simp) o e, let ⟨o, e, r⟩ := z.2; ⟨o, k t (by simp) o e, r⟩⟩
 item := fun i s Q E hi z k => r9 z.1 z.2 (v := its[i]) (by simp [hi]) fun h' z' sb => k _ h' s.toks (by simp [hi]) ⟨z', let ⟨o, e, r⟩ := z.2; ⟨o, (sb.2 t ne).trans e, r⟩⟩ sb
 done := fun s Q E z k => mE hh z.1 z.2 (by simp) k
theorem
    tG (l : Addr) (its : Array Value) (n : Nat) (dc : Option Addr) (sl : Array (Option Value)) :
  Meets (Builtin.«enumerate.__new__» ⟨[.type "enumerate", .ref l], []⟩) (fun _ R s => s.heap.get? l = some { cls := .type "tuple", dict := dc, data := .seq its n, slots := sl } /\
   R
    (.ok (.ret (.ref (s.heap.push { cls := .type "tuple_iterator", data := .fields #[.ref l, .int 0 0] }).objs.size)))
    { s with heap := (s.heap.push { cls := .type "tuple_iterator", data := .fields #[.ref l, .int 0 0] }).push { cls := .type "enumerate", data := .fields #[.none, .bool false, .ref s.heap.objs.size, rawInt 0, .none, .none] } }) :=
 .of_wp fun prog w A R s h => by
  obtain ⟨hp, g, d, tk, os⟩ := s; obtain ⟨hl, h⟩ := h
  have hsub := sub_enumerate
  have hT : Heap.IsTuple (Shared.heap ⟨hp, g, d, tk, os⟩) l its := ⟨_, hl, rfl, n, rfl⟩
  wp_walk using AutoSeq1.wpAny_loadPart' hl
  refine wpAny_stack_any fun st => wpAny_pure ?_
  split
  ·rename_i c _ _ _ _ _
   cases (c == Value.type "enumerate") <;> (wp_walk using AutoSeq1.wpAny_loadPart' hl, wpAny_pyIter_tuple hT; exact ⟨_, rfl, h⟩)
  ·wp_walk using AutoSeq1.wpAny_loadPart' hl, wpAny_pyIter_tuple hT; exact ⟨_, rfl, h⟩
theorem rX {prog : Program} {w : World} {A : Around} {E : Value -> Shared -> Prop} {s : Shared} {l : Addr} {its : Array Value} {Q : Value -> Shared -> Prop} (hT : s.heap.IsTuple l its)
  (k : ∀ h', IsEnum h' (s.heap.objs.size + 1) s.heap.objs.size 0 .none -> h'.IsTupleIter s.heap.objs.size l 0 -> h'.objs.size = s.heap.objs.size + 2 -> (∀ b o, s.heap.get? b = some o -> h'.get? b = some o) -> Q (.ref (s.heap.objs.size + 1)) { s with heap := h' }) :
  wpAny (model prog w) A (call (.type "enumerate") [.ref l]) Q E s := by
 obtain ⟨⟨c, dc, dt, sl⟩, hl, hc, n, hd⟩ := hT
 have hc' : c = .type "tuple" := hc
 have hd' : dt = .seq its n := hd
 subst hc' hd'
 refine callType_new F.called_enumerate (by decide) (F.typeCall_enumerate_1 _) (F.newCall_enumerate_1 _) (fun obj => F.args_object_init_2 obj _) F.entry_enumerate_new (tG l its n dc sl) ⟨hl, ?_⟩
 have z1 : (s.heap.push { cls := .type "tuple_iterator", data := .fields #[.ref l, .int 0 0] }).objs.size = s.heap.objs.size + 1 := Heap.size_push ..
 show _ /\ _
 rw [z1]
 have he : IsEnum ((s.heap.push { cls := .type "tuple_iterator", data := .fields #[.ref l, .int 0 0] }).push { cls := .type "enumerate", data := .fields #[.none, .bool false, .ref s.heap.objs.size, rawInt 0, .none, .none] }) (s.heap.objs.size + 1) s.heap.objs.size 0 .none := by
  have z2 := Heap.get?_push_size (s.heap.push { cls := .type "tuple_iterator", data := .fields #[.ref l, .int 0 0] }) (o := { cls := .type "enumerate", data := .fields #[.none, .bool false, .ref s.heap.objs.size, rawInt 0, .none, .none] }) rfl
  rw [z1] at z2; exact z2
 exact ⟨⟨_, he, rfl⟩, k _ he ⟨_, Heap.get?_push_of_some _ (Heap.get?_push_size _ rfl), rfl, rfl⟩ (by rw [Heap.size_push, z1]) fun b o x => Heap.get?_push_of_some _ (Heap.get?_push_of_some _ x)⟩
noncomputable def SqB (K : PySem.W.Frag) (b : Bool) (H : Hp) (a : Addr) (xs : List V) : Prop := match b with
 | true => SqL K H a xs
 | false => SqT K H a xs
noncomputable def ItB (b : Bool) (h : Heap) (j a : Addr) (i : Nat) : Prop := match b with
 | true => h.IsListIter j a i
 | false => h.IsTupleIter j a i
theorem SqB.inj {X : Cx} {pins : List (Addr × Obj)} {σ : St} {H : Hp} {s : Shared} {b : Bool} {a : Addr} {xs ys : List V} (I : Inv X pins σ H s) (x : SqB X.K b H a xs) (y : SqB X.K b H a ys) : xs = ys := by
 cases b with
 | true => exact I.list_inj x y
 | false => exact I.tuple_inj x y
noncomputable def wK (K : PySem.W.Frag) (b : Bool) (a : Addr) : It :=
 ⟨fun i H => ∃ xs x, SqB K b H a xs /\ xs[i]? = some x, fun i H x H' => ∃ p u, x = .ref p /\ H p = none /\ H' = upd H p (.tup [.int (i : Nat), u]) /\ ∀ xs, SqB K b H a xs -> xs[i]? = some u, fun i H => ∃ xs, SqB K b H a xs /\ xs.length = i⟩
theorem qf {X : Cx} {pins : List (Addr × Obj)} {σ : St} {H : Hp} {s : Shared} {b : Bool} {a j : Addr} {i : Nat} {xs : List V} (I : Inv X pins σ H s) (hh : X.A.handled = none) (hq : SqB X.K b H a xs) (hj : ItB b s.heap j a i) :
  ∃ (its : List Value) (St : Nat -> Heap -> Prop), Vals xs its /\ Draws X.prog X.w X.A.in1 j [j, a] its.length (fun i v => its[i]? = some v) St /\ St i s.heap /\ (∀ i h, St i h -> ItB b h j a i) /\ ∃ o n, s.heap.get? a = some o /\ o.cls = .type (if b then "list" else "tuple") /\ o.data = .seq its.toArray n := by
 cases b with
 |
  true =>
  obtain ⟨its, rv, p, hz⟩ := I.list hq
  obtain ⟨o, n, e, c, d, ds⟩ := p
  have hL : s.heap.IsList a its.toArray := ⟨o, e, c, n, ds⟩
  have hj' : s.heap.IsListIter j a i := hj
  have ne : a ≠ j := fun z => by
   subst z
   obtain ⟨o', e', c', _⟩ := hj'
   rw [e] at e'; cases e'
   rw [c] at c'; exact absurd (Value.type.inj c') (by decide)
  have D := Draws.list (prog := X.prog) (w := X.w) (A := X.A.in1) hh j a ne its.toArray
  refine ⟨its, fun i h => h.IsListIter j a i /\ h.IsList a its.toArray, rv, ?_, ⟨hj', hL⟩, fun _ _ z => z.1, o, n, e, c, ds⟩
  have e1 : its.toArray.size = its.length := by simp
  have e2 : (fun (i : Nat) (v : Value) => its.toArray[i]? = some v) = fun i v => its[i]? = some v := by funext i v; simp
  rw [e1, e2] at D
  exact D
 |
  false =>
  obtain ⟨its, rv, p, hz⟩ := I.tuple hq
  have hT : s.heap.IsTuple a its.toArray := p
  obtain ⟨o, e, c, n, ds⟩ := id hT
  have hj' : s.heap.IsTupleIter j a i := hj
  have ne : a ≠ j := fun z => by
   subst z
   obtain ⟨o', e', c', _⟩ := hj'
   rw [e] at e'; cases e'
   rw [c] at c'; exact absurd (Value.type.inj c') (by decide)
  have D := A0 (prog := X.prog) (w := X.w) (A := X.A.in1) hh j a ne its.toArray
  refine ⟨its, fun i h => h.IsTupleIter j a i /\ h.IsTuple a its.toArray, rv, ?_, ⟨hj', hT⟩, fun _ _ z => z.1, o, n, e, c, ds⟩
  have e1 : its.toArray.size = its.length := by simp
  have e2 : (fun (i : Nat) (v : Value) => its.toArray[i]? = some v) = fun i v => its[i]? = some v := by funext i v; simp
  rw [e1, e2] at D
  exact D
theorem qN {b : Bool} {h : Heap} {j a : Addr} {i : Nat} (z : ItB b h j a i) : ∃ o, h.get? j = some o /\ (∀ v, o.data ≠ .cell v) /\ o.cls = .type (if b then "list_iterator" else "tuple_iterator") := by
 cases b with
 | true => obtain ⟨o, e, c, d⟩ := z; exact ⟨o, e, (fun v y => by rw [d] at y; cases y), c⟩
 | false => obtain ⟨o, e, c, d⟩ := z; exact ⟨o, e, (fun v y => by rw [d] at y; cases y), c⟩
theorem oX {b : Bool} {h h' : Heap} {j a : Addr} {i : Nat} (z : ItB b h j a i) (k : ∀ o, h.get? j = some o -> h'.get? j = some o) : ItB b h' j a i := by
 cases b with
 | true => obtain ⟨o, e, r⟩ := z; exact ⟨o, k o e, r⟩
 | false => obtain ⟨o, e, r⟩ := z; exact ⟨o, k o e, r⟩
theorem
    tR {P : Program} {w : World} {K : PySem.W.Frag} {elts : List Expr} {x1 : Nat} {tp : Pos} (b : Bool) (a e j : Addr) (hej : e ≠ j) : Turn P w K (.Tuple elts x1 tp) (wK K b a) [e, j] e (fun i h => (∃ old, IsEnum h e j ((i : Nat) : Int) old) /\ ItB b h j a i) where
 mem := by simp
 obj
   := fun i h st c hc => by
  rcases List.mem_cons.mp hc with rfl | hc
  ·obtain ⟨old, he⟩ := st.1
   exact ⟨_, he, fun v z => by cases z⟩
  ·have : c = j := by simpa using hc
   subst this
   obtain ⟨o, q1, q2, _⟩ := qN st.2
   exact ⟨o, q1, q2⟩
 keep := fun i h h' st k => ⟨let ⟨old, he⟩ := st.1; ⟨old, k e (by simp) _ he⟩, oX st.2 fun o q => k j (by simp) o q⟩
 item :=
     by
  intro X hP hw hK hc i pins s σ H E I hf st hg
  subst hP hw hK
  obtain ⟨xs, x, hq, hx⟩ := hg
  obtain ⟨⟨old, he⟩, hj⟩ := st
  obtain ⟨its, St, rv, D, hst, hSt, oa, na, ea, ca, da⟩ := qf I (I.ok.hd hc) hq hj
  obtain ⟨u, hu, ru⟩ := rv.get hx
  have hlt : i < its.length := (List.getElem?_eq_some_iff.mp hu).1
  have hea : e ≠ a := fun z => by
   subst z
   rw [he] at ea; cases ea
   cases b <;> exact absurd (Value.type.inj ca) (by decide)
  refine wpAny_pyNext_enum_itemD D he hst hlt hej (by simp [hej, hea]) fun y h' tk hy heo hst' ht hsz hk => ?_
  have : y = u := by rw [hu] at hy; exact (Option.some.inj hy).symm
  subst this
  refine ⟨_, rfl, wpAny_letOwnedTupleGo_enum (s := { s with heap := h', toks := tk + 1 }) heo fun h2 he2 sb => ?_⟩
  have hT : H s.heap.objs.size = none := I.hok.fresh (Nat.le_refl _)
  have hef := Heap.lt_size he
  obtain ⟨oj, q1, _, _⟩ := qN hj
  have hjf := Heap.lt_size q1
  have I1 : Inv X pins σ (upd H s.heap.objs.size (.tup [.int (i : Nat), x])) { s with heap := s.heap.push { cls := .type "tuple", data := .seq #[.int (i : Nat) tk, y] }, toks := s.toks } :=
   I.laid (t' := s.toks) (fun c o q => Heap.get?_push_of_some _ q) (Nat.le_refl _) ⟨by show 2 <= sizeLine; decide, [.int (i : Nat) tk, y], .cons ⟨tk, rfl⟩ (.cons ru .nil), ⟨_, Heap.get?_push_size _ rfl, rfl, _, rfl⟩⟩
  have sb' : Heap.SameBut e h' h2 := sb
  have I2 : Inv X pins σ (upd H s.heap.objs.size (.tup [.int (i : Nat), x])) { s with heap := h2, toks := tk + 1 } :=
   Inv.turnedL (s := { s with heap := s.heap.push { cls := .type "tuple", data := .seq #[.int (i : Nat) tk, y] }, toks := s.toks }) (ch := [e, j]) (t' := tk + 1) I1 (fun c o hc' q => by
    have c1 : c ≠ e := fun z => hc' (by simp [z])
    have c2 : c ≠ j := fun z => hc' (by simp [z])
    rw [sb'.2 c c1]
    by_cases z : c = s.heap.objs.size
    ·subst z
     have q' : (s.heap.push { cls := .type "tuple", data := .seq #[.int (i : Nat) tk, y] }).get? s.heap.objs.size = some o := q
     rw [Heap.get?_push_size _ rfl] at q'
     cases q'
     exact ht
    ·refine hk c o c1 c2 ?_
     have q' : (s.heap.push { cls := .type "tuple", data := .seq #[.int (i : Nat) tk, y] }).get? c = some o := q
     rw [Heap.get?_push_ne _ _ _ z] at q'
     exact q') fun c hc' => by
    rcases List.mem_cons.mp hc' with rfl | hc'
    ·exact (hf c (by simp)).up (Nat.ne_of_lt hef)
    ·have : c = j := by simpa using hc'
     subst this
     exact (hf c (by simp)).up (Nat.ne_of_lt hjf)
  refine ⟨.ref s.heap.objs.size, _, I2, rfl, ⟨_, x, rfl, hT, rfl, fun ys hy' => by rw [SqB.inj I hy' hq]; exact hx⟩, ⟨⟨y, he2⟩, oX (hSt _ _ hst') fun o q => (sb'.2 j (Ne.symm hej)).trans q⟩, fun c hc' => ?_⟩
  rcases List.mem_cons.mp hc' with rfl | hc'
  ·exact ((hf c (by simp)).up (Nat.ne_of_lt hef)).1
  ·have : c = j := by simpa using hc'
   subst this
   exact ((hf c (by simp)).up (Nat.ne_of_lt hjf)).1
 done := by
  intro X hP hw hK hc i pins s σ H E I hf st hg
  subst hP hw hK
  obtain ⟨xs, hq, hx⟩ := hg
  obtain ⟨⟨old, he⟩, hj⟩ := st
  obtain ⟨its, St, rv, D, hst, hSt, oa, na, ea, ca, da⟩ := qf I (I.ok.hd hc) hq hj
  have hl := rv.length
  subst hx
  rw [hl] at hst
  refine wpAny_pyNext_enum_endD D he hst fun h' eb => ⟨rfl, Inv.turnedL (ch := [j]) (t' := s.toks) I (fun c o hc' q => eb c o (fun z => hc' (by simp [z])) q) fun c hc' => ?_⟩
  have : c = j := by simpa using hc'
  subst this
  exact hf c (by simp)
 self := fun _ _ _ _ _ st h => let ⟨_, he⟩ := st.1; wpAny_pyIter_enum he h
theorem
    xI {X : Cx} {l : Expr} {tl : TA} {elts : List Expr} {x1 : Nat} {tp p pos : Pos} (hg : Gl X "enumerate") (hm : X.mg "enumerate" = none) (ha : PA X [l] tl) (hs : starEach [l] X.env = [(false, eval l X.env)] := by rfl) :
  PI X (.Tuple elts x1 tp) (.Call (.Name "enumerate" p) [l] [] pos) (fun σ H R => tl σ H fun vs H1 => ∃ (b : Bool) (a : Addr) (xs : List V), vs = [.ref a] /\ SqB X.K b H1 a xs /\ R (wK X.K b a) H1) := by
 intro pins s σ H R I h
 refine Call_ (jT I hg hm boot_enumerate (PyProof.Rows.callWith_type1 (thn (ha pos pins s σ H _ I h) fun us s1 ⟨vs, H1, I1, r1, q1⟩ => ?_) hs rfl))
 obtain ⟨b, a, xs, e, hq, q⟩ := q1
 subst e
 cases r1 with
 |
  cons r rr =>
  cases rr
  cases r
  have fin : ∀ h', IsEnum h' (s1.heap.objs.size + 1) s1.heap.objs.size 0 .none -> ItB b h' s1.heap.objs.size a 0 -> (∀ c o, s1.heap.get? c = some o -> h'.get? c = some o) ->
    wpAny (model X.prog X.w) X.A (pyIter (.ref (s1.heap.objs.size + 1))) (PIE X pins σ (.Tuple elts x1 tp) R) X.xe { s1 with heap := h' } := fun h' he hj hk => by
   refine wpAny_pyIter_enum he ⟨s1.heap.objs.size + 1, [s1.heap.objs.size + 1, s1.heap.objs.size], _, _, H1, rfl, I1.kept (t' := s1.toks) fun c o z => hk c o z, tR b a _ _ (Nat.succ_ne_self _), ⟨⟨.none, he⟩, hj⟩, fun c hc => ?_, q⟩
   rcases List.mem_cons.mp hc with rfl | hc
   ·exact I1.fpOk (Nat.le_succ _) (I1.hok.fresh (Nat.le_succ _))
   ·have : c = s1.heap.objs.size := by simpa using hc
    subst this
    exact I1.fpOk (Nat.le_refl _) (I1.hok.fresh (Nat.le_refl _))
  cases b with
  |
   true =>
   obtain ⟨its, rv, pp, hz⟩ := I1.list hq
   exact call_enumerate_list pp.isList fun h' he hit _ hk => fin h' he hit hk
  |
   false =>
   obtain ⟨its, rv, pp, hz⟩ := I1.tuple hq
   exact rX (show s1.heap.IsTuple a its.toArray from pp) fun h' he hit _ hk => fin h' he hit hk
section
variable {prog : Program} {w : World} {A : Around} {E : Value -> Shared -> Prop} {s : Shared} {b1 b2 : Bool} {z p q j1 j2 a1 a2 : Addr} {n : Nat} {xs ys : Array Value} {x y u v : Value}
end
end L2
set_option Elab.async false
set_option linter.all false
set_option maxRecDepth 100000
set_option maxHeartbeats 1000000
namespace L2
open PySem PySem.Spec PyProof.Rows
noncomputable def ItZ (K : PySem.W.Frag) (b c : Bool) (a d : Addr) : It :=
 ⟨fun i H => ∃ xs ys x y, SqB K b H a xs /\ SqB K c H d ys /\ xs[i]? = some x /\ ys[i]? = some y,
  fun i H x H' => ∃ p u v, x = .ref p /\ H p = none /\ H' = upd H p (.tup [u, v]) /\ (∀ xs, SqB K b H a xs -> xs[i]? = some u) /\ ∀ ys, SqB K c H d ys -> ys[i]? = some v,
  fun i H => ∃ xs ys, SqB K b H a xs /\ SqB K c H d ys /\ (xs[i]? = none \/ ys[i]? = none)⟩
end L2
set_option Elab.async false
set_option linter.all false
set_option maxRecDepth 100000
namespace L2
open PySem PySem.Spec PyProof.Rows
inductive D where
 | non | bl (b : Bool) | int (i : Int) | str (x : Str) | ty (n : String) | glb (x : Str) | exc (x : Str) | tup (xs : List D) | ref (n : Nat) | kl (xs : List D)
 deriving Inhabited
inductive Ob where
 | lst (xs : List D) | fz (xs : List D) | set (xs : List Int) | dct (kvs : List (Key × D)) | any
 deriving Inhabited
abbrev AH := List Ob
abbrev AE := List (Option D)
inductive R (α : Type) where
 | ok (a : α) (h : AH) | exc (c : Str) (h : AH) | stuck
inductive SR where
 | nx (ae : AE) (h : AH) | rt (d : D) (h : AH) | bk (ae : AE) (h : AH) | ct (ae : AE) (h : AH) | exc (c : Str) (ae : AE) (h : AH) | stuck
abbrev ME := AE -> AH -> R D
abbrev MT := AE -> AH -> R Bool
abbrev MA := AE -> AH -> R (List D)
abbrev MS := AE -> AH -> SR
abbrev Fn := List D -> AH -> R D
noncomputable def R.bind {α β : Type} (r : R α) (f : α -> AH -> R β) : R β := match r with
 | .ok a h => f a h
 | .exc c h => .exc c h
 | .stuck => .stuck
section
variable (K : PySem.W.Frag) (mg : Str -> Option Value)
mutual
inductive RelD (ρ : List Addr) (H : Hp) : D -> V -> Prop where
 | non : RelD ρ H .non .non
 | bl (b : Bool) : RelD ρ H (.bl b) (.bl b)
 | int (i : Int) : RelD ρ H (.int i) (.int i)
 | str (x : Str) : RelD ρ H (.str x) (.str x)
 | ty (n : String) : RelD ρ H (.ty n) (.ty n)
 | glb {x : Str} {a : Addr} (m : mg x = some (.ref a)) : RelD ρ H (.glb x) (.ref a)
 | exc {x : Str} {a C : Addr} (m : mg x = some (.ref C)) (e : H a = some (.ext (mS a C))) : RelD ρ H (.exc x) (.ref a)
 | tup {p : Addr} {vs : List V} {ds : List D} (h : SqT K H p vs) (r : RelDs ρ H ds vs) : RelD ρ H (.tup ds) (.ref p)
 | ref {n : Nat} {a : Addr} (e : ρ[n]? = some a) : RelD ρ H (.ref n) (.ref a)
 | kl {a : Addr} {vs : List V} {ds : List D} (h : ∃ (o : Obj) (its : Array Value) (n : Nat), K.lookup a = some o /\ o.cls = .type "list" /\ o.dict = none /\ o.data = .seq its n /\ its.size <= sizeLine /\ Vals vs its.toList) (r : RelDs ρ H ds vs) : RelD ρ H (.kl ds) (.ref a)
inductive RelDs (ρ : List Addr) (H : Hp) : List D -> List V -> Prop where
 | nil : RelDs ρ H [] []
 | cons {d : D} {v : V} {ds : List D} {vs : List V} (r : RelD ρ H d v) (rr : RelDs ρ H ds vs) : RelDs ρ H (d :: ds) (v :: vs)
end
structure Le (ρ : List Addr) (H : Hp) (ρ' : List Addr) (H' : Hp) : Prop where
 pre : ∀ (n : Nat) (a : Addr), ρ[n]? = some a -> ρ'[n]? = some a
 tup : ∀ b xs, H b = some (.tup xs) -> H' b = some (.tup xs)
 frz : ∀ b o u, H b = some (.frz o u) -> H' b = some (.frz o u)
 ext : ∀ b φ, H b = some (.ext φ) -> H' b = some (.ext φ)
noncomputable def ObR (ρ : List Addr) (H : Hp) (a : Addr) : Ob -> Prop
 | .lst ds => ∃ vs, H a = some (.lst vs) /\ RelDs K mg ρ H ds vs
 | .fz ds => ∃ o vs, H a = some (.frz o (.lst vs)) /\ RelDs K mg ρ H ds vs
 | .set xs => xs.Nodup /\ H a = some (.set (fun i => decide (i ∈ xs)) xs.length)
 | .dct kvs => ∃ ws, H a = some (.dK ws) /\ ws.map (·.1) = kvs.map (·.1) /\ RelDs K mg ρ H (kvs.map (·.2)) (ws.map (·.2))
 | .any => ∃ o, H a = some o
structure Wd (ρ : List Addr) (h : AH) (H : Hp) : Prop where
 len : ρ.length = h.length
 nd : ρ.Nodup
 ob : ∀ (n : Nat) (a : Addr) (o : Ob), ρ[n]? = some a -> h[n]? = some o -> ObR K mg ρ H a o
structure RelE (ρ : List Addr) (H : Hp) (ae : AE) (σ : St) : Prop where
 len : ae.length = σ.length
 at_ : ∀ (i : Nat) (d : D), ae[i]? = some (some d) -> ∃ v, σ[i]? = some (some v) /\ RelD K mg ρ H d v
noncomputable def PostG {α : Type} (ρ : List Addr) (H : Hp) (E : XK) (k : α -> AH -> List Addr -> Hp -> Prop) : R α -> Prop
 | .ok a h => ∀ ρ' H', Le ρ H ρ' H' -> Wd K mg ρ' h H' -> k a h ρ' H'
 | .exc c h => ∀ ρ' H' C, Le ρ H ρ' H' -> Wd K mg ρ' h H' -> mg c = some (.ref C) -> E (.ref C) none H'
 | .stuck => False
abbrev fB (ρ : List Addr) (H : Hp) (Q : VK) (E : XK) (r : R D) : Prop := PostG K mg ρ H E (fun d _ ρ' H' => ∀ v, RelD K mg ρ' H' d v -> Q v H') r
abbrev xg (ρ : List Addr) (H : Hp) (Q : Bool -> Hp -> Prop) (E : XK) (r : R Bool) : Prop := PostG K mg ρ H E (fun b _ ρ' H' => Q b H') r
abbrev xf (ρ : List Addr) (H : Hp) (Q : List V -> Hp -> Prop) (E : XK) (r : R (List D)) : Prop := PostG K mg ρ H E (fun d _ ρ' H' => ∀ vs, RelDs K mg ρ' H' d vs -> Q vs H') r
noncomputable def PostS (ρ : List Addr) (H : Hp) (D : Ends) (ES : St -> XK) : SR -> Prop
 | .nx ae h => ∀ ρ' H' σ', Le ρ H ρ' H' -> Wd K mg ρ' h H' -> RelE K mg ρ' H' ae σ' -> D.nx σ' H'
 | .bk ae h => ∀ ρ' H' σ', Le ρ H ρ' H' -> Wd K mg ρ' h H' -> RelE K mg ρ' H' ae σ' -> D.bk σ' H'
 | .ct ae h => ∀ ρ' H' σ', Le ρ H ρ' H' -> Wd K mg ρ' h H' -> RelE K mg ρ' H' ae σ' -> D.ct σ' H'
 | .rt d h => ∀ ρ' H' v, Le ρ H ρ' H' -> Wd K mg ρ' h H' -> RelD K mg ρ' H' d v -> D.rt v H'
 | .exc c ae h => ∀ ρ' H' σ' C, Le ρ H ρ' H' -> Wd K mg ρ' h H' -> RelE K mg ρ' H' ae σ' -> mg c = some (.ref C) -> ES σ' (.ref C) none H'
 | .stuck => False
noncomputable def rdE (ES : St -> XK) (F : ME) : TE := fun σ H Q => ∃ ρ h ae, Wd K mg ρ h H /\ RelE K mg ρ H ae σ /\ fB K mg ρ H Q (ES σ) (F ae h)
noncomputable def rdT (ES : St -> XK) (F : MT) : TT := fun σ H Q => ∃ ρ h ae, Wd K mg ρ h H /\ RelE K mg ρ H ae σ /\ xg K mg ρ H Q (ES σ) (F ae h)
noncomputable def rdA (ES : St -> XK) (F : MA) : TA := fun σ H Q => ∃ ρ h ae, Wd K mg ρ h H /\ RelE K mg ρ H ae σ /\ xf K mg ρ H Q (ES σ) (F ae h)
noncomputable def rdS (ES : St -> XK) (F : MS) : TS := fun D σ H => ∃ ρ h ae, Wd K mg ρ h H /\ RelE K mg ρ H ae σ /\ PostS K mg ρ H D ES (F ae h)
noncomputable def spD (n : Nat) (S : Fn) : Sp := fun vs H Q E => ∃ ρ h ds, Wd K mg ρ h H /\ RelDs K mg ρ H ds vs /\ ds.length = n /\ fB K mg ρ H Q E (S ds h)
end
theorem rdE.el {K : PySem.W.Frag} {mg : Str -> Option Value} {ES : St -> XK} {F : ME} {σ : St} {H : Hp} {Q : VK} {C : Prop} (q : rdE K mg ES F σ H Q) (k : ∀ ρ h ae, Wd K mg ρ h H -> RelE K mg ρ H ae σ -> fB K mg ρ H Q (ES σ) (F ae h) -> C) : C := by
 obtain ⟨ρ, h, ae, w, re, p⟩ := q
 exact k ρ h ae w re p
theorem rdT.el {K : PySem.W.Frag} {mg : Str -> Option Value} {ES : St -> XK} {F : MT} {σ : St} {H : Hp} {Q : Bool -> Hp -> Prop} {C : Prop} (q : rdT K mg ES F σ H Q) (k : ∀ ρ h ae, Wd K mg ρ h H -> RelE K mg ρ H ae σ -> xg K mg ρ H Q (ES σ) (F ae h) -> C) : C := by
 obtain ⟨ρ, h, ae, w, re, p⟩ := q
 exact k ρ h ae w re p
theorem rdA.el {K : PySem.W.Frag} {mg : Str -> Option Value} {ES : St -> XK} {F : MA} {σ : St} {H : Hp} {Q : List V -> Hp -> Prop} {C : Prop} (q : rdA K mg ES F σ H Q) (k : ∀ ρ h ae, Wd K mg ρ h H -> RelE K mg ρ H ae σ -> xf K mg ρ H Q (ES σ) (F ae h) -> C) : C := by
 obtain ⟨ρ, h, ae, w, re, p⟩ := q
 exact k ρ h ae w re p
theorem rdS.el {K : PySem.W.Frag} {mg : Str -> Option Value} {ES : St -> XK} {F : MS} {σ : St} {H : Hp} {De : Ends} {C : Prop} (q : rdS K mg ES F De σ H) (k : ∀ ρ h ae, Wd K mg ρ h H -> RelE K mg ρ H ae σ -> PostS K mg ρ H De ES (F ae h) -> C) : C := by
 obtain ⟨ρ, h, ae, w, re, p⟩ := q
 exact k ρ h ae w re p
section
variable {K : PySem.W.Frag} {mg : Str -> Option Value} {ρ ρ' ρ1 : List Addr} {H H' H1 : Hp} {h h' : AH} {ae : AE} {σ : St}
theorem Le.refl : Le ρ H ρ H := ⟨fun _ _ e => e, fun _ _ e => e, fun _ _ _ e => e, fun _ _ e => e⟩
theorem Le.trans (a : Le ρ H ρ1 H1) (b : Le ρ1 H1 ρ' H') : Le ρ H ρ' H' :=
 ⟨fun n x e => b.pre n x (a.pre n x e), fun x y e => b.tup x y (a.tup x y e), fun x y z e => b.frz x y z (a.frz x y z e), fun x y e => b.ext x y (a.ext x y e)⟩
theorem Le.sqT {a : Addr} {xs : List V} (l : Le ρ H ρ' H') (q : SqT K H a xs) : SqT K H' a xs := by
 rcases q with (q | ⟨o, q⟩) | q
 ·exact .inl (.inl (l.tup _ _ q))
 ·exact .inl (.inr ⟨o, l.frz _ _ _ q⟩)
 ·exact .inr q
theorem RelD.mono (l : Le ρ H ρ' H') {d : D} {v : V} (r : RelD K mg ρ H d v) : RelD K mg ρ' H' d v :=
 RelD.rec (motive_1 := fun d v _ => RelD K mg ρ' H' d v) (motive_2 := fun ds vs _ => RelDs K mg ρ' H' ds vs) .non (fun b => .bl b) (fun i => .int i) (fun x => .str x) (fun n => .ty n) (fun m => .glb m) (fun m e => .exc m (l.ext _ _ e)) (fun h _ ih => .tup (l.sqT h) ih) (fun e => .ref (l.pre _ _ e)) (fun h _ ih => .kl h ih) .nil (fun _ _ a b => .cons a b) r
theorem RelDs.ind {M : List D -> List V -> Prop} (h0 : M [] []) (h1 : ∀ {d v ds vs}, RelD K mg ρ H d v -> RelDs K mg ρ H ds vs -> M ds vs -> M (d :: ds) (v :: vs)) {ds : List D} {vs : List V} (r : RelDs K mg ρ H ds vs) : M ds vs := by
 induction ds generalizing vs with
 | nil => cases r; exact h0
 |
  cons d ds ih =>
  cases r with
  | cons r rr => exact h1 r rr (ih rr)
theorem RelDs.mono (l : Le ρ H ρ' H') {ds : List D} {vs : List V} (r : RelDs K mg ρ H ds vs) : RelDs K mg ρ' H' ds vs := r.ind .nil fun r _ ih => .cons (r.mono l) ih
theorem RelDs.len {ds : List D} {vs : List V} (r : RelDs K mg ρ H ds vs) : ds.length = vs.length := r.ind (M := fun ds vs => ds.length = vs.length) rfl fun _ _ ih => congrArg (· + 1) ih
theorem RelDs.getD {ds : List D} {vs : List V} {i : Nat} {d : D} (r : RelDs K mg ρ H ds vs) (e : ds[i]? = some d) : ∃ v, vs[i]? = some v /\ RelD K mg ρ H d v :=
 r.ind (M := fun ds vs => ∀ i, ds[i]? = some d -> ∃ v, vs[i]? = some v /\ RelD K mg ρ H d v) (fun _ e => by rw [List.getElem?_nil] at e; cases e) (fun r _ ih i e => match i, e with
  | 0, e => by cases e; exact ⟨_, rfl, r⟩
  | i + 1, e => ih i e) i e
theorem RelDs.append {ds es : List D} {vs ws : List V} (r : RelDs K mg ρ H ds vs) (q : RelDs K mg ρ H es ws) : RelDs K mg ρ H (ds ++ es) (vs ++ ws) := r.ind (M := fun ds vs => RelDs K mg ρ H (ds ++ es) (vs ++ ws)) q fun r _ ih => .cons r ih
theorem RelDs.take {ds : List D} {vs : List V} (n : Nat) (r : RelDs K mg ρ H ds vs) : RelDs K mg ρ H (ds.take n) (vs.take n) :=
 r.ind (M := fun ds vs => ∀ n : Nat, RelDs K mg ρ H (ds.take n) (vs.take n)) (fun n => by rw [List.take_nil, List.take_nil]; exact .nil) (fun r _ ih n => by cases n with | zero => exact .nil | succ n => exact .cons r (ih n)) n
theorem RelDs.drop {ds : List D} {vs : List V} (n : Nat) (r : RelDs K mg ρ H ds vs) : RelDs K mg ρ H (ds.drop n) (vs.drop n) :=
 r.ind (M := fun ds vs => ∀ n : Nat, RelDs K mg ρ H (ds.drop n) (vs.drop n)) (fun n => by rw [List.drop_nil, List.drop_nil]; exact .nil) (fun r rr ih n => by cases n with | zero => exact .cons r rr | succ n => exact ih n) n
theorem RelDs.set {d : D} {v : V} (r : RelD K mg ρ H d v) {ds : List D} {vs : List V} (i : Nat) (q : RelDs K mg ρ H ds vs) : RelDs K mg ρ H (ds.set i d) (vs.set i v) :=
 q.ind (M := fun ds vs => ∀ i : Nat, RelDs K mg ρ H (ds.set i d) (vs.set i v)) (fun _ => .nil) (fun q qq ih i => by cases i with | zero => exact .cons r qq | succ i => exact .cons q (ih i)) i
theorem RelDs.ints : ∀ {ns : List Int} {vs : List V}, RelDs K mg ρ H (ns.map D.int) vs -> vs = ns.map V.int := by
 intro ns
 induction ns with
 | nil => intro vs r; cases r; rfl
 |
  cons n ns ih =>
  intro vs r
  cases r with
  | cons r rr => cases r; rw [ih rr]; rfl
theorem RelDs.bls : ∀ {ns : List Bool} {vs : List V}, RelDs K mg ρ H (ns.map D.bl) vs -> vs = ns.map V.bl := by
 intro ns
 induction ns with
 | nil => intro vs r; cases r; rfl
 |
  cons n ns ih =>
  intro vs r
  cases r with
  | cons r rr => cases r; rw [ih rr]; rfl
theorem RelE.mono (l : Le ρ H ρ' H') (r : RelE K mg ρ H ae σ) : RelE K mg ρ' H' ae σ := ⟨r.len, fun i d e => by
 obtain ⟨v, h1, h2⟩ := r.at_ i d e
 exact ⟨v, h1, h2.mono l⟩⟩
theorem RelE.set {d : D} {v : V} (i : Nat) (r : RelE K mg ρ H ae σ) (q : RelD K mg ρ H d v) : RelE K mg ρ H (ae.set i (some d)) (σ.set i (some v)) := ⟨by rw [List.length_set, List.length_set]; exact r.len, fun j d' e => by
 rw [List.getElem?_set] at e ⊢
 by_cases hij : i = j
 ·rw [if_pos hij] at e ⊢
  by_cases hi : i < ae.length
  ·rw [if_pos hi] at e
   cases e
   rw [if_pos (by rw [<- r.len]; exact hi)]
   exact ⟨v, rfl, q⟩
  ·rw [if_neg hi] at e; cases e
 ·rw [if_neg hij] at e ⊢
  exact r.at_ j d' e⟩
theorem RelE.unset {v : Option V} (i : Nat) (r : RelE K mg ρ H ae σ) : RelE K mg ρ H (ae.set i none) (σ.set i v) := ⟨by rw [List.length_set, List.length_set]; exact r.len, fun j d' e => by
 rw [List.getElem?_set] at e ⊢
 by_cases hij : i = j
 ·rw [if_pos hij] at e
  by_cases hi : i < ae.length
  ·rw [if_pos hi] at e; cases e
  ·rw [if_neg hi] at e; cases e
 ·rw [if_neg hij] at e ⊢
  exact r.at_ j d' e⟩
theorem ObR.mono {a : Addr} {o : Ob} (l : Le ρ H ρ' H') (e : H' a = H a) (q : ObR K mg ρ H a o) : ObR K mg ρ' H' a o := by
 cases o with
 | lst ds => obtain ⟨vs, h1, h2⟩ := q; exact ⟨vs, e.trans h1, h2.mono l⟩
 | fz ds => obtain ⟨o, vs, h1, h2⟩ := q; exact ⟨o, vs, e.trans h1, h2.mono l⟩
 | set xs => exact ⟨q.1, e.trans q.2⟩
 | dct kvs => obtain ⟨ws, h1, h2, h3⟩ := q; exact ⟨ws, e.trans h1, h2, h3.mono l⟩
 | any => obtain ⟨o, h1⟩ := q; exact ⟨o, e.trans h1⟩
theorem ObR.there {a : Addr} {o : Ob} (q : ObR K mg ρ H a o) : ∃ u, H a = some u := by
 cases o with
 | lst ds => obtain ⟨vs, h1, _⟩ := q; exact ⟨_, h1⟩
 | fz ds => obtain ⟨o, vs, h1, _⟩ := q; exact ⟨_, h1⟩
 | set xs => exact ⟨_, q.2⟩
 | dct kvs => obtain ⟨ws, h1, _⟩ := q; exact ⟨_, h1⟩
 | any => exact q
theorem Wd.fresh (w : Wd K mg ρ h H) {p : Addr} (hp : H p = none) : p ∉ ρ := fun hm => by
 obtain ⟨n, hn⟩ := List.getElem?_of_mem hm
 have hl : n < h.length := by rw [<- w.len]; exact (List.getElem?_eq_some_iff.mp hn).1
 obtain ⟨u, hu⟩ := (w.ob n p h[n] hn (List.getElem?_eq_getElem hl)).there
 rw [hp] at hu; cases hu
theorem cP {p : Addr} {o : HO} (hp : H p = none) : Le ρ H ρ (upd H p o) :=
 ⟨fun _ _ e => e, fun b xs e => by rw [aR (bP e hp)]; exact e, fun b xs u e => by rw [aR (bP e hp)]; exact e, fun b xs e => by rw [aR (bP e hp)]; exact e⟩
theorem mR {m : List Addr} : Le ρ H (ρ ++ m) H :=
 ⟨fun n a e => by rw [List.getElem?_append_left (List.getElem?_eq_some_iff.mp e).1]; exact e, fun _ _ e => e, fun _ _ _ e => e, fun _ _ e => e⟩
theorem
    Wd.alloc {p : Addr} {u : HO} {o : Ob} (w : Wd K mg ρ h H) (hp : H p = none) (hn : ObR K mg (ρ ++ [p]) (upd H p u) p o) : Wd K mg (ρ ++ [p]) (h ++ [o]) (upd H p u) := by
 refine ⟨by rw [List.length_append, List.length_append, w.len]; rfl, ?_, fun n a ob e1 e2 => ?_⟩
 ·rw [List.nodup_append]
  exact ⟨w.nd, by simp, fun a ha b hb => by rw [List.mem_singleton] at hb; subst hb; intro z; subst z; exact w.fresh hp ha⟩
 ·by_cases hl : n < ρ.length
  ·rw [List.getElem?_append_left hl] at e1
   rw [List.getElem?_append_left (by rw [<- w.len]; exact hl)] at e2
   have q := w.ob n a ob e1 e2
   obtain ⟨v, hv⟩ := q.there
   exact q.mono ((cP hp).trans mR) (aR (bP hv hp))
  ·have h1 : n = ρ.length := by
    have := (List.getElem?_eq_some_iff.mp e1).1
    rw [List.length_append] at this
    simp at this
    omega
   subst h1
   rw [List.getElem?_append_right (Nat.le_refl _), Nat.sub_self] at e1
   rw [w.len, List.getElem?_append_right (Nat.le_refl _), Nat.sub_self] at e2
   simp at e1 e2
   subst e1 e2
   exact hn
theorem Wd.tuple {p : Addr} {u : HO} (w : Wd K mg ρ h H) (hp : H p = none) : Wd K mg ρ h (upd H p u) :=
 ⟨w.len, w.nd, fun n a ob e1 e2 => by
  have q := w.ob n a ob e1 e2
  obtain ⟨v, hv⟩ := q.there
  exact q.mono (cP hp) (aR (bP hv hp))⟩
theorem xt {a : Addr} {o u : HO} (e : H a = some u) (hu : (∀ xs, u ≠ .tup xs) /\ (∀ x y, u ≠ .frz x y) /\ ∀ φ, u ≠ .ext φ) : Le ρ H ρ (upd H a o) := by
 refine ⟨fun _ _ e => e, fun b xs q => ?_, fun b x y q => ?_, fun b φ q => ?_⟩ <;> rw [aR] <;> (try exact q) <;> (intro z; subst z; rw [e] at q; have := Option.some.inj q; first | exact hu.1 _ this | exact hu.2.1 _ _ this | exact hu.2.2 _ this)
theorem Wd.write {n : Nat} {a : Addr} {o u : HO} {ob : Ob} (w : Wd K mg ρ h H) (ea : ρ[n]? = some a) (e : H a = some u) (hu : (∀ xs, u ≠ .tup xs) /\ (∀ x y, u ≠ .frz x y) /\ ∀ φ, u ≠ .ext φ)
  (hn : ObR K mg ρ (upd H a o) a ob) : Wd K mg ρ (h.set n ob) (upd H a o) := by
 refine ⟨by rw [List.length_set]; exact w.len, w.nd, fun m b ob' e1 e2 => ?_⟩
 rw [List.getElem?_set] at e2
 by_cases hm : n = m
 ·subst hm
  rw [ea] at e1; cases e1
  rw [if_pos rfl] at e2
  split at e2
  ·cases e2; exact hn
  ·cases e2
 ·rw [if_neg hm] at e2
  have q := w.ob m b ob' e1 e2
  refine q.mono (xt e hu) (aR fun z => hm ?_)
  subst z
  have h1 := (List.getElem?_eq_some_iff.mp e1)
  have h2 := (List.getElem?_eq_some_iff.mp ea)
  exact (List.getElem_inj (h₀ := h2.1) (h₁ := h1.1) w.nd).mp (h2.2.trans h1.2.symm)
theorem xm {vs : List V} : (∀ xs, HO.lst vs ≠ .tup xs) /\ (∀ x y, HO.lst vs ≠ .frz x y) /\ ∀ φ, HO.lst vs ≠ .ext φ := ⟨fun _ z => (nomatch z), fun _ _ z => (nomatch z), fun _ z => (nomatch z)⟩
theorem PostG.mono {α : Type} {E : XK} {k : α -> AH -> List Addr -> Hp -> Prop} {r : R α} (l : Le ρ H ρ' H') (p : PostG K mg ρ H E k r) : PostG K mg ρ' H' E k r := by
 cases r with
 | ok d h => exact fun ρ2 H2 l2 => p ρ2 H2 (l.trans l2)
 | exc c h => exact fun ρ2 H2 C l2 => p ρ2 H2 C (l.trans l2)
 | stuck => exact p
theorem PostG.imp {α : Type} {E : XK} {k k' : α -> AH -> List Addr -> Hp -> Prop} {r : R α} (p : PostG K mg ρ H E k r) (i : ∀ a h1 ρ' H', Le ρ H ρ' H' -> Wd K mg ρ' h1 H' -> k a h1 ρ' H' -> k' a h1 ρ' H') : PostG K mg ρ H E k' r := by
 cases r with
 | ok d h => exact fun ρ2 H2 l2 w2 => i _ _ _ _ l2 w2 (p ρ2 H2 l2 w2)
 | exc c h => exact p
 | stuck => exact p
theorem PostG.bind {α β : Type} {E : XK} {k : β -> AH -> List Addr -> Hp -> Prop} {r : R α} {f : α -> AH -> R β} (p : PostG K mg ρ H E k (r.bind f)) : PostG K mg ρ H E (fun a h1 ρ' H' => PostG K mg ρ' H' E k (f a h1)) r := by
 cases r with
 | ok d h => exact fun ρ2 H2 l2 w2 => PostG.mono l2 p
 | exc c h => exact p
 | stuck => exact p
theorem PostS.mono {De : Ends} {ES : St -> XK} {r : SR} (l : Le ρ H ρ' H') (p : PostS K mg ρ H De ES r) : PostS K mg ρ' H' De ES r := by
 cases r with
 | nx ae h => exact fun ρ2 H2 σ l2 => p ρ2 H2 σ (l.trans l2)
 | bk ae h => exact fun ρ2 H2 σ l2 => p ρ2 H2 σ (l.trans l2)
 | ct ae h => exact fun ρ2 H2 σ l2 => p ρ2 H2 σ (l.trans l2)
 | rt d h => exact fun ρ2 H2 v l2 => p ρ2 H2 v (l.trans l2)
 | exc c ae h => exact fun ρ2 H2 σ C l2 => p ρ2 H2 σ C (l.trans l2)
 | stuck => exact p
end
end L2
set_option Elab.async false
set_option linter.all false
set_option maxRecDepth 100000
namespace L2
open PySem PySem.Spec PyProof.Rows
section
variable {X : Cx} {e : Expr} {es : List Expr} {st : Stmt} {sts : List Stmt}
theorem PE.imp {t t' : TE} (h : PE X e t) (k : ∀ σ H Q, t' σ H Q -> t σ H Q) : PE X e t' := fun pins s σ H Q I w => h pins s σ H Q I (k σ H Q w)
theorem PT.imp {t t' : TT} (h : PT X e t) (k : ∀ σ H Q, t' σ H Q -> t σ H Q) : PT X e t' := fun pins s σ H Q I w => h pins s σ H Q I (k σ H Q w)
theorem PW.imp {t t' : TT} (h : PW X e t) (k : ∀ σ H Q, t' σ H Q -> t σ H Q) : PW X e t' := fun wh pins s σ H Q I w => h wh pins s σ H Q I (k σ H Q w)
theorem PA.imp {t t' : TA} (h : PA X es t) (k : ∀ σ H Q, t' σ H Q -> t σ H Q) : PA X es t' := fun pos pins s σ H Q I w => h pos pins s σ H Q I (k σ H Q w)
theorem PS.imp {t t' : TS} (h : PS X st t) (k : ∀ D σ H, t' D σ H -> t D σ H) : PS X st t' := fun pins s σ H D I w => h pins s σ H D I (k D σ H w)
theorem PSs.imp {t t' : TS} (h : PSs X sts t) (k : ∀ D σ H, t' D σ H -> t D σ H) : PSs X sts t' := fun pins s σ H D I w => h pins s σ H D I (k D σ H w)
theorem PG.imp {t t' : TG} (h : PG X e t) (k : ∀ v σ H Q, t' v σ H Q -> t v σ H Q) : PG X e t' := fun pins s σ H v u Q I r w => h pins s σ H v u Q I r (k v σ H Q w)
theorem PGs.imp {t t' : TGs} (h : PGs X es t) (k : ∀ v σ H Q, t' v σ H Q -> t v σ H Q) : PGs X es t' := fun pins s σ H v u Q I r w => h pins s σ H v u Q I r (k v σ H Q w)
theorem PO.imp {o : Option Expr} {t t' : TO} (h : PO X o t) (k : ∀ σ H Q, t' σ H Q -> t σ H Q) : PO X o t' := fun pins s σ H Q I w => h pins s σ H Q I (k σ H Q w)
end
section
variable (K : PySem.W.Frag) (mg : Str -> Option Value) (X : Cx) (ES : St -> XK)
noncomputable def DE (e : Expr) (F : ME) : Prop := PE X e (rdE K mg ES F)
noncomputable def DT (e : Expr) (F : MT) : Prop := PT X e (rdT K mg ES F)
noncomputable def DW (e : Expr) (F : MT) : Prop := PW X e (rdT K mg ES F)
noncomputable def DA (es : List Expr) (F : MA) : Prop := PA X es (rdA K mg ES F)
noncomputable def DS (st : Stmt) (F : MS) : Prop := PS X st (rdS K mg ES F)
noncomputable def DSs (st : List Stmt) (F : MS) : Prop := PSs X st (rdS K mg ES F)
end
noncomputable def OpD (K : PySem.W.Frag) (mg : Str -> Option Value) (r : R2) (g : D -> D -> AH -> R D) : Prop := ∀ ρ h H dx dy x y Q E, Wd K mg ρ h H -> RelD K mg ρ H dx x -> RelD K mg ρ H dy y -> fB K mg ρ H Q E (g dx dy h) -> r x y H Q
noncomputable def UnD (K : PySem.W.Frag) (mg : Str -> Option Value) (r : V -> Hp -> VK -> Prop) (g : D -> AH -> R D) : Prop := ∀ ρ h H dx x Q E, Wd K mg ρ h H -> RelD K mg ρ H dx x -> fB K mg ρ H Q E (g dx h) -> r x H Q
noncomputable def bC (K : PySem.W.Frag) (mg : Str -> Option Value) (r : List V -> Hp -> VK -> Prop) (g : Fn) : Prop := ∀ ρ h H ds vs Q E, Wd K mg ρ h H -> RelDs K mg ρ H ds vs -> fB K mg ρ H Q E (g ds h) -> r vs H Q
noncomputable def fu (i : Nat) : ME := fun ae h => match ae[i]? with
 | some (some d) => .ok d h
 | _ => .stuck
noncomputable def eC (d : D) : ME := fun _ h => .ok d h
noncomputable def eOp (g : D -> D -> AH -> R D) (F G : ME) : ME := fun ae h => (F ae h).bind fun x h1 => (G ae h1).bind fun y h2 => g x y h2
noncomputable def eUn (g : D -> AH -> R D) (F : ME) : ME := fun ae h => (F ae h).bind g
noncomputable def uM : MA := fun _ h => .ok [] h
noncomputable def sI (F : ME) (G : MA) : MA := fun ae h => (F ae h).bind fun x h1 => (G ae h1).bind fun xs h2 => .ok (x :: xs) h2
noncomputable def eFn (g : Fn) (A : MA) : ME := fun ae h => (A ae h).bind g
noncomputable def lN (ds : List D) (h : AH) : R D := if ds.length <= 16777216 then .ok (.tup ds) h else .stuck
noncomputable def dD (ds : List D) (h : AH) : R D := if ds.length <= 16777216 then .ok (.ref h.length) (h ++ [.lst ds]) else .stuck
noncomputable def asB (d : D) (h : AH) : R Bool := match d with
 | .bl b => .ok b h
 | _ => .stuck
noncomputable def wF (F G : ME) : ME := fun ae h => (F ae h).bind fun x h1 => (asB x h1).bind fun b h2 => if b = true then G ae h2 else .ok (.bl false) h2
noncomputable def eOr (F G : ME) : ME := fun ae h => (F ae h).bind fun x h1 => (asB x h1).bind fun b h2 => if b = true then .ok (.bl true) h2 else G ae h2
noncomputable def wc (F : ME) : ME := fun ae h => (F ae h).bind fun x h1 => (asB x h1).bind fun b h2 => .ok (.bl (!b)) h2
noncomputable def tOf (F : ME) : MT := fun ae h => (F ae h).bind asB
noncomputable def tO (c d : MT) : MT := fun ae h => (c ae h).bind fun b h1 => if b = true then .ok true h1 else d ae h1
noncomputable def tNo (c : MT) : MT := fun ae h => (c ae h).bind fun b h1 => .ok (!b) h1
section
variable {K : PySem.W.Frag} {mg : Str -> Option Value} {ρ : List Addr} {H : Hp} {h : AH}
theorem gR {Q : VK} {E : XK} {ds : List D} {vs : List V} {p : Addr} (w : Wd K mg ρ h H) (rs : RelDs K mg ρ H ds vs) (hp : H p = none) (q : fB K mg ρ H Q E (.ok (.ref h.length) (h ++ [.lst ds]))) : Q (.ref p) (upd H p (.lst vs)) := by
 have l : Le ρ H (ρ ++ [p]) (upd H p (.lst vs)) := (cP hp).trans mR
 refine q (ρ ++ [p]) _ l (w.alloc hp ⟨vs, cK, rs.mono l⟩) _ (.ref ?_)
 rw [<- w.len, List.getElem?_append_right (Nat.le_refl _), Nat.sub_self]
 rfl
theorem ja {Q : VK} {E : XK} {ds : List D} {vs : List V} {p : Addr} (w : Wd K mg ρ h H) (rs : RelDs K mg ρ H ds vs) (hp : H p = none) (q : fB K mg ρ H Q E (.ok (.tup ds) h)) : Q (.ref p) (upd H p (.tup vs)) :=
 q ρ _ (cP hp) (w.tuple hp) _ (.tup (SqT.of cK) (rs.mono (cP hp)))
theorem aL {Q : VK} {E : XK} {d : D} {v : V} (w : Wd K mg ρ h H) (r : RelD K mg ρ H d v) (q : fB K mg ρ H Q E (.ok d h)) : Q v H := q ρ H Le.refl w v r
end
section
variable {K : PySem.W.Frag} {mg : Str -> Option Value} {X : Cx} {ES : St -> XK} {e a b c : Expr} {es : List Expr} {F G : ME} {A : MA} {cf cg : MT} {pos : Pos}
theorem zH (i : Nat) {x : Str} (hN : X.N[i]? = some x := by rfl) (hv : Vis X.env.scope x := by first | exact Or.inl rfl | exact Or.inr (Or.inl rfl) | exact Or.inr (Or.inr rfl)) (hd : (x == ("__debug__" : Str)) = false := by decide)
  (hcd : (x == ("__classdict__" : Str)) = false := by decide) : DE K mg X ES (.Name x pos) (fu i) := PE.imp (zJ hN hv hd hcd) fun σ H Q q_ => q_.el fun ρ h ae w re p => by
 unfold fu at p
 split at p
 ·rename_i d ed
  obtain ⟨v, e1, r⟩ := re.at_ i d ed
  exact ⟨v, e1, aL w r p⟩
 ·exact p.elim
theorem kC {v : V} {d : D} (hp : PE X e (tC v)) (r : ∀ ρ H, RelD K mg ρ H d v) : DE K mg X ES e (eC d) := PE.imp hp fun σ H Q q_ => q_.el fun ρ h ae w re p => aL w (r ρ H) p
theorem CO {i : Int} {j : Nat} : DE K mg X ES (.Constant (.int i) j pos) (eC (.int i)) := kC AM fun _ _ => .int i
theorem Ep {i : Bool} {j : Nat} : DE K mg X ES (.Constant (.bool i) j pos) (eC (.bl i)) := kC Es fun _ _ => .bl i
theorem CK {j : Nat} : DE K mg X ES (.Constant .none j pos) (eC .non) := kC AR fun _ _ => .non
theorem zv {x : Str} {j : Nat} : DE K mg X ES (.Constant (.str x) j pos) (eC (.str x)) := kC A2 fun _ _ => .str x
theorem z0 {x : Str} (hg : Gl X x) (ha : ∃ a, mg x = some (.ref a)) (hm : X.mg = mg := by rfl) (hd : (x == ("__debug__" : Str)) = false := by decide) : DE K mg X ES (.Name x pos) (eC (.glb x)) := by
 subst hm
 obtain ⟨a, ha⟩ := ha
 exact kC (p8 hg ha (v := .ref a) rfl hd) fun _ _ => .glb ha
structure GC (K : PySem.W.Frag) (mg : Str -> Option Value) (x : Str) (d : D) : Prop where
 ex : ∃ u v, mg x = some u /\ RelV v u /\ ∀ ρ H, RelD K mg ρ H d v
theorem Eo {x : Str} {d : D} (hg : Gl X x) (ha : GC K mg x d) (hm : X.mg = mg := by rfl) (hd : (x == ("__debug__" : Str)) = false := by decide) : DE K mg X ES (.Name x pos) (eC d) := by
 subst hm
 obtain ⟨u, v, h1, h2, h3⟩ := ha.ex
 exact kC (p8 hg h1 h2 hd) h3
theorem EE {x : Str} {n : String} (hg : Gl X x) (hm : mg x = none) (hv : bootBuiltins x = some (.type n)) (he : X.mg = mg := by rfl) (hn : x ≠ "__name__" := by decide) (hd : (x == ("__debug__" : Str)) = false := by decide) : DE K mg X ES (.Name x pos) (eC (.ty n)) := by
 subst he
 exact kC (zl hg hm hv (v := .ty n) rfl hn hd) fun _ _ => .ty n
theorem nG {r : R2} {g : D -> D -> AH -> R D} (hd : OpD K mg r g) (σ : St) (H : Hp) (Q : VK) (q : rdE K mg ES (eOp g F G) σ H Q) : tOp r (rdE K mg ES F) (rdE K mg ES G) σ H Q := by
 obtain ⟨ρ, h, ae, w, re, p⟩ := q
 exact ⟨ρ, h, ae, w, re, p.bind.imp fun dx h1 ρ1 H1 l1 w1 p1 x rx => ⟨ρ1, h1, ae, w1, re.mono l1, p1.bind.imp fun dy h2 ρ2 H2 l2 w2 p2 y ry => hd ρ2 h2 H2 dx dy x y Q _ w2 (rx.mono l2) ry p2⟩⟩
theorem El {op : Operator} {r : R2} {g : D -> D -> AH -> R D} (ho : OpR X (binaryOp op) r) (hd : OpD K mg r g) (ha : DE K mg X ES a F) (hb : DE K mg X ES b G) : DE K mg X ES (.BinOp a op b pos) (eOp g F G) := PE.imp (Dk ho ha hb) (nG hd)
theorem Er {r : R2} {g : D -> D -> AH -> R D} (hr : IxR X r) (hd : OpD K mg r g) (ha : DE K mg X ES a F) (hb : DE K mg X ES b G) (hs : mj b) : DE K mg X ES (.Subscript a b pos) (eOp g F G) := PE.imp (Dm hr ha hb hs) (nG hd)
theorem Ac {op : CmpOp} {r : R2} {g : D -> D -> AH -> R D} (ho : OpR X (compareOp op) r) (hd : OpD K mg r g) (ha : DE K mg X ES a F) (hb : DE K mg X ES b G) (hm : behindInMarks op b = false) : DE K mg X ES (.Compare a [op] [b] pos) (eOp g F G) := PE.imp (xZ ho ha hb hm) (nG hd)
theorem qJ (σ : St) (H : Hp) (Q : Bool -> Hp -> Prop) (q : rdT K mg ES (tOf F) σ H Q) : rdE K mg ES F σ H fun x H' => ∃ k, x = .bl k /\ Q k H' := by
 obtain ⟨ρ, h, ae, w, re, p⟩ := q
 refine ⟨ρ, h, ae, w, re, p.bind.imp fun d h1 ρ1 H1 l1 w1 p1 x rx => ?_⟩
 unfold asB at p1
 split at p1
 ·cases rx; exact ⟨_, rfl, p1 ρ1 H1 Le.refl w1⟩
 ·exact p1.elim
theorem Bh {op : CmpOp} {r : R2} {g : D -> D -> AH -> R D} (ho : OpR X (compareOp op) r) (hd : OpD K mg r g) (ha : DE K mg X ES a F) (hb : DE K mg X ES b G) (hm : behindInMarks op b = false) : DT K mg X ES (.Compare a [op] [b] pos) (tOf (eOp g F G)) :=
 PT.imp (xX ho ha hb hm) fun σ H Q q => nG hd σ H _ (qJ σ H Q q)
theorem BE (ha : DE K mg X ES a F) (he : ∀ whole, isTrue a X.env whole = (do let v <- whole; standAt a.pos; holding [v] (truthy v)) := by intro _; rfl) : DT K mg X ES a (tOf F) :=
 PT.imp (B9 ha he) fun σ H Q q => qJ σ H Q q
theorem zI (ha : DT K mg X ES a cf) : DT K mg X ES (.UnaryOp .Not a pos) (tNo cf) := PT.imp (Ba ha) fun σ H Q q_ => q_.el fun ρ h ae w re p =>
 ⟨ρ, h, ae, w, re, p.bind.imp fun b h1 ρ1 H1 l1 w1 p1 => p1 ρ1 H1 Le.refl w1⟩
theorem BU (ha : DT K mg X ES a cf) : DW K mg X ES (.BoolOp .Or [a] pos) cf := zP ha
theorem EZ (ha : DT K mg X ES a cf) (hb : DW K mg X ES (.BoolOp .Or (b :: es) pos) cg) : DW K mg X ES (.BoolOp .Or (a :: b :: es) pos) (tO cf cg) := PW.imp (Dn ha hb) fun σ H Q q_ => q_.el fun ρ h ae w re p =>
 ⟨ρ, h, ae, w, re, p.bind.imp fun b h1 ρ1 H1 l1 w1 p1 => by
  cases b with
  | true => exact p1 ρ1 H1 Le.refl w1
  | false => exact ⟨ρ1, h1, ae, w1, re.mono l1, p1⟩⟩
theorem DW.dt (h : DW K mg X ES a cf) : DT K mg X ES a cf := PW.pt h
theorem zU {op} (h : DE K mg X ES a F) : DE K mg X ES (.BoolOp op [a] pos) F := Au h
theorem AQ (ha : DE K mg X ES a F) (hb : DE K mg X ES (.BoolOp .And (b :: es) pos) G) : DE K mg X ES (.BoolOp .And (a :: b :: es) pos) (wF F G) := PE.imp (zY ha hb) fun σ H Q q_ => q_.el fun ρ h ae w re p => by
 refine ⟨ρ, h, ae, w, re, p.bind.imp fun d h1 ρ1 H1 l1 w1 p1 x rx => ?_⟩
 unfold asB at p1
 split at p1
 ·rename_i b'
  cases rx
  refine ⟨b', rfl, ?_⟩
  cases b' with
  | true => exact ⟨ρ1, h1, ae, w1, re.mono l1, p1⟩
  | false => exact p1 ρ1 H1 Le.refl w1 _ (.bl false)
 ·exact p1.elim
theorem EO (ha : DE K mg X ES a F) (hb : DE K mg X ES (.BoolOp .Or (b :: es) pos) G) : DE K mg X ES (.BoolOp .Or (a :: b :: es) pos) (eOr F G) := PE.imp (E5 ha hb) fun σ H Q q_ => q_.el fun ρ h ae w re p => by
 refine ⟨ρ, h, ae, w, re, p.bind.imp fun d h1 ρ1 H1 l1 w1 p1 x rx => ?_⟩
 unfold asB at p1
 split at p1
 ·rename_i b'
  cases rx
  refine ⟨b', rfl, ?_⟩
  cases b' with
  | true => exact p1 ρ1 H1 Le.refl w1 _ (.bl true)
  | false => exact ⟨ρ1, h1, ae, w1, re.mono l1, p1⟩
 ·exact p1.elim
theorem Cq (ha : DE K mg X ES a F) : DE K mg X ES (.UnaryOp .Not a pos) (wc F) := PE.imp (BO ha) fun σ H Q q_ => q_.el fun ρ h ae w re p => by
 refine ⟨ρ, h, ae, w, re, p.bind.imp fun d h1 ρ1 H1 l1 w1 p1 x rx => ?_⟩
 unfold asB at p1
 split at p1
 ·cases rx
  exact ⟨_, rfl, p1 ρ1 H1 Le.refl w1 _ (.bl _)⟩
 ·exact p1.elim
theorem ER {op : UnaryOp} {r : V -> Hp -> VK -> Prop} {g : D -> AH -> R D} (ho : UnR X (unaryOp op) r) (hd : UnD K mg r g) (ha : DE K mg X ES a F) : DE K mg X ES (.UnaryOp op a pos) (eUn g F) := PE.imp (ED ho ha) fun σ H Q q_ => q_.el fun ρ h ae w re p =>
 ⟨ρ, h, ae, w, re, p.bind.imp fun d h1 ρ1 H1 l1 w1 p1 x rx => hd ρ1 h1 H1 d x Q _ w1 rx p1⟩
theorem Bb : DA K mg X ES [] uM := PA.imp Ag fun σ H Q q_ => q_.el fun ρ h ae w re p => p ρ H Le.refl w _ .nil
theorem yo (ha : DE K mg X ES e F) (hr : DA K mg X ES es A) (hs : starEach (e :: es) X.env = (false, eval e X.env) :: starEach es X.env := by rfl) : DA K mg X ES (e :: es) (sI F A) := PA.imp (yQ ha hr hs) fun σ H Q q_ => q_.el fun ρ h ae w re p =>
 ⟨ρ, h, ae, w, re, p.bind.imp fun d h1 ρ1 H1 l1 w1 p1 x rx => ⟨ρ1, h1, ae, w1, re.mono l1, p1.bind.imp fun ds h2 ρ2 H2 l2 w2 p2 vs rs => p2 ρ2 H2 Le.refl w2 _ (.cons (rx.mono l2) rs)⟩⟩
theorem AB {x1} (h : DA K mg X ES es A) : DE K mg X ES (.Tuple es x1 pos) (eFn lN A) := PE.imp (Cn h) fun σ H Q q_ => q_.el fun ρ h ae w re p =>
 ⟨ρ,
   h, ae, w, re, p.bind.imp fun ds h1 ρ1 H1 l1 w1 p1 vs rs => by
  unfold lN at p1
  split at p1
  ·rename_i hl
   exact ⟨by rw [<- rs.len]; exact hl, fun q hq => ja w1 rs hq p1⟩
  ·exact p1.elim⟩
theorem zC (h : DA K mg X ES es A) : DE K mg X ES (.List es pos) (eFn dD A) := PE.imp (CN h) fun σ H Q q_ => q_.el fun ρ h ae w re p =>
 ⟨ρ,
   h, ae, w, re, p.bind.imp fun ds h1 ρ1 H1 l1 w1 p1 vs rs => by
  unfold dD at p1
  split at p1
  ·rename_i hl
   exact ⟨by rw [<- rs.len]; exact hl, fun q hq => gR w1 rs hq p1⟩
  ·exact p1.elim⟩
theorem xr {r : List V -> Hp -> VK -> Prop} {g : Fn} (hd : bC K mg r g) (σ : St) (H : Hp) (Q : VK) (q : rdE K mg ES (eFn g A) σ H Q) : tCB r (rdA K mg ES A) σ H Q := by
 obtain ⟨ρ, h, ae, w, re, p⟩ := q
 exact ⟨ρ, h, ae, w, re, p.bind.imp fun ds h1 ρ1 H1 l1 w1 p1 vs rs => hd ρ1 h1 H1 ds vs Q _ w1 rs p1⟩
theorem vQ {id : String} {r : List V -> Hp -> VK -> Prop} {g : Fn} {x : Str} {p : Pos} (hc : CallR X (.builtin id) r) (hd : bC K mg r g) (hg : Gl X x) (hm : mg x = none) (hv : bootBuiltins x = some (.builtin id)) (ha : DA K mg X ES (e :: es) A) (hk : X.mg = mg := by rfl) (hn : x ≠ "__name__" := by decide) (hdb : (x == ("__debug__" : Str)) = false := by decide)
  (he : starEach (e :: es) X.env = (false, eval e X.env) :: starEach es X.env := by rfl) (hpl : (backTo pos (starEach es X.env)).any (·.1) = false := by rfl) : DE K mg X ES (.Call (.Name x p) (e :: es) [] pos) (eFn g A) := by
 subst hk
 exact PE.imp (vE hc hg hm hv ha hn hdb he hpl) (xr hd)
theorem tJ {T : String} {r : List V -> Hp -> VK -> Prop} {g : Fn} {x : Str} {p : Pos} (hc : CallR X (.type T) r) (hd : bC K mg r g) (hg : Gl X x) (hm : mg x = none) (hv : bootBuiltins x = some (.type T)) (ha : DA K mg X ES (e :: es) A) (hk : X.mg = mg := by rfl) (hn : x ≠ "__name__" := by decide) (hdb : (x == ("__debug__" : Str)) = false := by decide)
  (he : starEach (e :: es) X.env = (false, eval e X.env) :: starEach es X.env := by rfl) (hpl : (backTo pos (starEach es X.env)).any (·.1) = false := by rfl) : DE K mg X ES (.Call (.Name x p) (e :: es) [] pos) (eFn g A) := by
 subst hk
 exact PE.imp (tq hc hg hm hv ha hn hdb he hpl) (xr hd)
end
end L2
set_option Elab.async false
set_option linter.all false
set_option maxRecDepth 100000
namespace L2
open PySem PySem.Spec PyProof.Rows
noncomputable def SR.then (r : SR) (f : AE -> AH -> SR) : SR := match r with
 | .nx ae h => f ae h
 | .rt d h => .rt d h
 | .bk ae h => .bk ae h
 | .ct ae h => .ct ae h
 | .exc c ae h => .exc c ae h
 | .stuck => .stuck
noncomputable def R.toS {α : Type} (r : R α) (ae : AE) (f : α -> AH -> SR) : SR := match r with
 | .ok a h => f a h
 | .exc c h => .exc c ae h
 | .stuck => .stuck
noncomputable def sNx : MS := fun ae h => .nx ae h
noncomputable def u4 (F G : MS) : MS := fun ae h => (F ae h).then G
noncomputable def vB (F : ME) : MS := fun ae h => (F ae h).toS ae fun d h1 => .rt d h1
noncomputable def rL (F : ME) : MS := fun ae h => (F ae h).toS ae fun _ h1 => .nx ae h1
noncomputable def sIf (c : MT) (F G : MS) : MS := fun ae h => (c ae h).toS ae fun b h1 => if b = true then F ae h1 else G ae h1
abbrev MG := D -> AE -> AH -> R AE
abbrev MGs := List D -> AE -> AH -> R AE
noncomputable def iy (F : ME) (g : MG) : MS := fun ae h => (F ae h).toS ae fun d h1 => (g d ae h1).toS ae fun ae' h2 => .nx ae' h2
noncomputable def gN (i : Nat) : MG := fun d ae h => .ok (ae.set i (some d)) h
noncomputable def gsN : MGs := fun ds ae h => match ds with
 | [] => .ok ae h
 | _ => .stuck
noncomputable def gsC (g : MG) (u : MGs) : MGs := fun ds ae h => match ds with
 | d :: r => (g d ae h).bind fun ae' h' => u r ae' h'
 | [] => .stuck
noncomputable def gT (u : MGs) : MG := fun d ae h => match d with
 | .tup ds => u ds ae h
 | _ => .stuck
noncomputable def gS (F G : ME) (w : D -> D -> D -> AH -> R Unit) : MG := fun v ae h => (F ae h).bind fun o h1 => (G ae h1).bind fun i h2 => (w o i v h2).bind fun _ h3 => .ok ae h3
noncomputable def v5 (i j : Nat) (A : MA) : MS := fun ae h => (A ae h).toS ae fun ds h1 => match ds with
 | [d, e] => .nx ((ae.set i (some d)).set j (some e)) h1
 | _ => .stuck
noncomputable def nV (c : Str) (A : MA) : MS := fun ae h => (A ae h).toS ae fun ds h1 => if ds.length <= 16777216 then .exc c ae h1 else .stuck
section
variable (K : PySem.W.Frag) (mg : Str -> Option Value)
noncomputable def rdG (ES : St -> XK) (g : MG) : TG := fun v σ H Q => ∃ ρ h ae d, Wd K mg ρ h H /\ RelE K mg ρ H ae σ /\ RelD K mg ρ H d v /\ PostG K mg ρ H (ES σ) (fun ae' _ ρ' H' => ∀ σ', RelE K mg ρ' H' ae' σ' -> Q σ' H') (g d ae h)
noncomputable def rdGs (ES : St -> XK) (g : MGs) : TGs := fun vs σ H Q => ∃ ρ h ae ds, Wd K mg ρ h H /\ RelE K mg ρ H ae σ /\ RelDs K mg ρ H ds vs /\ PostG K mg ρ H (ES σ) (fun ae' _ ρ' H' => ∀ σ', RelE K mg ρ' H' ae' σ' -> Q σ' H') (g ds ae h)
noncomputable def DG (X : Cx) (ES : St -> XK) (e : Expr) (g : MG) : Prop := PG X e (rdG K mg ES g)
noncomputable def DGs (X : Cx) (ES : St -> XK) (es : List Expr) (g : MGs) : Prop := PGs X es (rdGs K mg ES g)
noncomputable def gg (X : Cx) (ES : St -> XK) : Prop := ∀ (pins : List (Addr × Obj)) (σ : St) (H : Hp) (s : Shared) (e : Value) (s' : Shared), Inv X pins σ H s -> CX1 X.prog X.w X.stack H s (ES σ) e s' -> X.xe e s'
end
theorem rdG.el {K : PySem.W.Frag} {mg : Str -> Option Value} {ES : St -> XK} {g : MG} {v : V} {σ : St} {H : Hp} {Q : St -> Hp -> Prop} {C : Prop} (q : rdG K mg ES g v σ H Q) (k : ∀ ρ h ae d, Wd K mg ρ h H -> RelE K mg ρ H ae σ -> RelD K mg ρ H d v -> PostG K mg ρ H (ES σ) (fun ae' _ ρ' H' => ∀ σ', RelE K mg ρ' H' ae' σ' -> Q σ' H') (g d ae h) -> C) : C := by
 obtain ⟨ρ, h, ae, d, w, re, rd, p⟩ := q
 exact k ρ h ae d w re rd p
theorem rdGs.el {K : PySem.W.Frag} {mg : Str -> Option Value} {ES : St -> XK} {g : MGs} {v : List V} {σ : St} {H : Hp} {Q : St -> Hp -> Prop} {C : Prop} (q : rdGs K mg ES g v σ H Q) (k : ∀ ρ h ae d, Wd K mg ρ h H -> RelE K mg ρ H ae σ -> RelDs K mg ρ H d v -> PostG K mg ρ H (ES σ) (fun ae' _ ρ' H' => ∀ σ', RelE K mg ρ' H' ae' σ' -> Q σ' H') (g d ae h) -> C) : C := by
 obtain ⟨ρ, h, ae, d, w, re, rd, p⟩ := q
 exact k ρ h ae d w re rd p
section
variable {K : PySem.W.Frag} {mg : Str -> Option Value} {X : Cx} {ES : St -> XK} {ρ : List Addr} {H : Hp} {h : AH} {ae : AE} {σ : St} {De : Ends}
theorem cD {α : Type} {r : R α} {f : α -> AH -> SR} {k : α -> AH -> List Addr -> Hp -> Prop} (p : PostS K mg ρ H De ES (r.toS ae f)) (re : RelE K mg ρ H ae σ)
  (i : ∀ a h1 ρ1 H1, Le ρ H ρ1 H1 -> Wd K mg ρ1 h1 H1 -> RelE K mg ρ1 H1 ae σ -> PostS K mg ρ1 H1 De ES (f a h1) -> k a h1 ρ1 H1) : PostG K mg ρ H (ES σ) k r := by
 cases r with
 | ok a h1 => exact fun ρ1 H1 l1 w1 => i a h1 ρ1 H1 l1 w1 (re.mono l1) (PostS.mono l1 p)
 | exc c h1 => exact fun ρ1 H1 C l1 w1 m => p ρ1 H1 σ C l1 w1 (re.mono l1) m
 | stuck => exact p
theorem hZ {ae' : AE} (p : PostS K mg ρ H De ES (.nx ae' h)) (w : Wd K mg ρ h H) (re : RelE K mg ρ H ae' σ) : De.nx σ H := p ρ H σ Le.refl w re
theorem uE {r : SR} {f : AE -> AH -> SR} {N : St -> Hp -> Prop} (p : PostS K mg ρ H De ES (r.then f)) (i : ∀ ae1 h1 ρ1 H1 σ1, Le ρ H ρ1 H1 -> Wd K mg ρ1 h1 H1 -> RelE K mg ρ1 H1 ae1 σ1 -> PostS K mg ρ1 H1 De ES (f ae1 h1) -> N σ1 H1) : PostS K mg ρ H { De with nx := N } ES r := by
 cases r with
 | nx ae1 h1 => exact fun ρ1 H1 σ1 l1 w1 re1 => i ae1 h1 ρ1 H1 σ1 l1 w1 re1 (PostS.mono l1 p)
 | rt d h1 => exact p
 | bk ae1 h1 => exact p
 | ct ae1 h1 => exact p
 | exc c ae1 h1 => exact p
 | stuck => exact p
end
section
variable {K : PySem.W.Frag} {mg : Str -> Option Value} {X : Cx} {ES : St -> XK} {e a b c o i : Expr} {es : List Expr} {st : Stmt} {sts sts' : List Stmt} {F G : ME} {A : MA} {cf : MT} {U V' : MS} {g : MG} {gs : MGs} {pos : Pos}
theorem xH : DSs K mg X ES [] sNx := PSs.imp yD fun D σ H q_ => q_.el fun ρ h ae w re p => hZ p w re
theorem zf (h1 : DS K mg X ES st U) : DSs K mg X ES [st] U := y7 h1
theorem wm (h1 : DS K mg X ES st U) (h2 : DSs K mg X ES sts V') : DSs K mg X ES (st :: sts) (u4 U V') := PSs.imp (wx h1 h2) fun D σ H q_ => q_.el fun ρ h ae w re p =>
 ⟨ρ, h, ae, w, re, uE p fun ae1 h1 ρ1 H1 σ1 l1 w1 re1 p1 => ⟨ρ1, h1, ae1, w1, re1, p1⟩⟩
theorem Cw (he : DE K mg X ES e F) : DS K mg X ES (.Return (some e) pos) (vB F) := PS.imp (Ci he) fun D σ H q_ => q_.el fun ρ h ae w re p =>
 ⟨ρ, h, ae, w, re, cD p re fun d h1 ρ1 H1 l1 w1 re1 p1 v rv => p1 ρ1 H1 v Le.refl w1 rv⟩
theorem x4 (he : DE K mg X ES e F) (hs : swapsWith e none pos.line X.env = pure false := by rfl) : DS K mg X ES (.Expr e pos) (rL F) := PS.imp (yq he hs) fun D σ H q_ => q_.el fun ρ h ae w re p =>
 ⟨ρ, h, ae, w, re, cD p re fun d h1 ρ1 H1 l1 w1 re1 p1 v rv => hZ p1 w1 re1⟩
theorem Eb (hc : DT K mg X ES c cf) (ha : DSs K mg X ES sts U) (hb : DSs K mg X ES sts' V') : DS K mg X ES (.If c sts sts' pos) (sIf cf U V') := PS.imp (DF hc ha hb) fun D σ H q_ => q_.el fun ρ h ae w re p =>
 ⟨ρ, h, ae, w, re, cD p re fun b h1 ρ1 H1 l1 w1 re1 p1 => by
  cases b with
  | true => exact ⟨ρ1, h1, ae, w1, re1, p1⟩
  | false => exact ⟨ρ1, h1, ae, w1, re1, p1⟩⟩
theorem zk {i : Nat} {x : Str} (hN : X.N.Nodup) (hi : X.N[i]? = some x) (hx : Loc X.env.scope x) (hf : X.fn x = true \/ X.env.scope.names.lookup x = some .local := by first | exact .inl rfl | exact .inr rfl | assumption) : DG K mg X ES (.Name x pos) (gN i) :=
 PG.imp (yt hN hi hx hf) fun v σ H Q q_ => q_.el fun ρ h ae d w re rd p => p ρ H Le.refl w _ (re.set i rd)
theorem ya : DGs K mg X ES [] gsN := PGs.imp zh fun vs σ H Q q_ => q_.el fun ρ h ae ds w re rd p => by
 cases rd with
 | nil => exact ⟨rfl, p ρ H Le.refl w _ re⟩
 | cons r rr => exact p.elim
theorem uZ (h1 : DG K mg X (fun _ => E0) e g) (h2 : DGs K mg X (fun _ => E0) es gs)
  (hs : (assignEach (e :: es) X.env).map (·.2) = assign e X.env :: (assignEach es X.env).map (·.2) := by rfl) : DGs K mg X (fun _ => E0) (e :: es) (gsC g gs) := PGs.imp (wV h1 h2 hs) fun vs σ H Q q_ => q_.el fun ρ h ae ds w re rd p => by
 cases rd with
 | nil => exact p.elim
 | cons r rr => exact ⟨_, _, rfl, ρ, h, ae, _, w, re, r, p.bind.imp fun ae1 h1 ρ1 H1 l1 w1 p1 σ1 re1 => ⟨ρ1, h1, ae1, _, w1, re1, rr.mono l1, p1⟩⟩
theorem zy {k n : Nat} (hK : X.K = K) (hc : X.calm = true) (h : DGs K mg X (fun _ => E0) es gs)
  (hn : (assignEach es X.env).length = n := by rfl) (hst : (assignEach es X.env).findIdx? (·.1) = none := by rfl) : DG K mg X (fun _ => E0) (.Tuple es k pos) (gT fun ds ae h => if ds.length = n then gs ds ae h else .stuck) := by
 subst hK
 refine PG.imp (BP hc h hn hst) fun v σ H Q q_ => q_.el fun ρ h ae d w re rd p => ?_
 unfold gT at p
 cases rd with
 |
  tup q rs =>
  dsimp only at p
  split at p
  ·rename_i hl
   exact ⟨_, _, rfl, q, by rw [<- rs.len]; exact hl, ρ, h, ae, _, w, re, rs, p⟩
  ·exact p.elim
 | _ => exact p.elim
noncomputable def noX {α : Type} (r : R α) : R α := match r with
 | .exc _ _ => .stuck
 | .ok a h => .ok a h
 | .stuck => .stuck
theorem DG.weak (hg : DG K mg X (fun _ => E0) e g) : DG K mg X ES e (fun d ae h => noX (g d ae h)) := PG.imp hg fun v σ H Q q_ => q_.el fun ρ h ae d w re rd p => by
 refine ⟨ρ, h, ae, d, w, re, rd, ?_⟩
 try dsimp only at p
 cases q : g d ae h with
 | ok a h1 => rw [q] at p; exact p
 | exc c h1 => rw [q] at p; exact p.elim
 | stuck => rw [q] at p; exact p.elim
noncomputable def qT (K : PySem.W.Frag) (mg : Str -> Option Value) (r : lZ) (f : D -> D -> D -> AH -> R Unit) : Prop := ∀ ρ h H do_ di dv o i v (Q : Hp -> Prop) E, Wd K mg ρ h H -> RelD K mg ρ H do_ o -> RelD K mg ρ H di i -> RelD K mg ρ H dv v -> PostG K mg ρ H E (fun _ _ _ H' => Q H') (f do_ di dv h) -> r o i v H Q
theorem sV (he : DE K mg X ES e F) (hg : DG K mg X ES a g) (hs : swapsWithSole [a] e pos.line X.env = pure false := by rfl) (hw : swappedStores [a] e X.env = pure none := by rfl)
  (h1 : (assignEach [a] X.env).map (·.2) = [assign a X.env] := by rfl) : DS K mg X ES (.Assign [a] e pos) (iy F g) := PS.imp (Bg he hg hs hw h1) fun D σ H q_ => q_.el fun ρ h ae w re p =>
 ⟨ρ, h, ae, w, re, cD p re fun d h1 ρ1 H1 l1 w1 re1 p1 v rv => ⟨ρ1, h1, ae, d, w1, re1, rv, cD p1 re1 fun ae2 h2 ρ2 H2 l2 w2 re2 p2 σ' re' => hZ p2 w2 re'⟩⟩
theorem BW {i : Nat} {x : Str} {pos' : Pos} (hN : X.N.Nodup) (hi : X.N[i]? = some x) (hx : Loc X.env.scope x) (he : DE K mg X ES e F) (hs : swapsWith e (some (.Name x pos')) pos.line X.env = pure false := by rfl) (hf : X.fn x = true \/ X.env.scope.names.lookup x = some .local := by first | exact .inl rfl | exact .inr rfl | assumption) :
  DS K mg X ES (.Assign [.Name x pos'] e pos) (iy F (gN i)) := PS.imp (AF hN hi hx he hs hf) fun D σ H q_ => q_.el fun ρ h ae w re p =>
 ⟨ρ, h, ae, w, re, cD p re fun d h1 ρ1 H1 l1 w1 re1 p1 v rv => hZ p1 w1 (re1.set i rv)⟩
theorem
    BJ {i j : Nat} {x y : Str} {px py pt : Pos} {kt k2 pt2} (hc : X.calm = true) (hN : X.N.Nodup) (hi : X.N[i]? = some x) (hj : X.N[j]? = some y) (hij : i ≠ j)
  (hx : X.env.scope.names.lookup x = some .local) (hy : X.env.scope.names.lookup y = some .local) (ha : DA K mg X ES [a, b] A)
  (hw : swappedStores [.Tuple [.Name x px, .Name y py] kt pt] (.Tuple [a, b] k2 pt2) X.env = pure (some [x, y]))
  (hs : swapsWithSole [.Tuple [.Name x px, .Name y py] kt pt] (.Tuple [a, b] k2 pt2) pos.line X.env = pure false := by rfl) :
  DS K mg X ES (.Assign [.Tuple [.Name x px, .Name y py] kt pt] (.Tuple [a, b] k2 pt2) pos) (v5 i j A) := PS.imp (BK hc hN hi hj hij hx hy ha hw hs) fun D σ H q_ => q_.el fun ρ h ae w re p =>
 ⟨ρ, h, ae, w, re, cD p re fun ds h1 ρ1 H1 l1 w1 re1 p1 vs rs => by
  split at p1
  ·cases rs with
   |
    cons r1 rs =>
    cases rs with
    |
     cons r2 rs =>
     cases rs
     exact ⟨_, _, rfl, hZ p1 w1 ((re1.set i r1).set j r2)⟩
  ·exact p1.elim⟩
theorem
    uP {x : Str} {C : Addr} {E : XK} {np cpos : Pos} (hc : X.calm = true) (hR : Rz X E) (hg : Gl X x) (hm : mg x = some (.ref C)) (hq : PySem.W.excIn X.K C fk "ValueError.__new__" = true) (ha : DA K mg X (fun _ => E) (e :: es) A) (hk : X.mg = mg := by rfl)
  (he : starEach (e :: es) X.env = (false, eval e X.env) :: starEach es X.env := by rfl) (hplain : (backTo cpos (starEach es X.env)).any (·.1) = false := by rfl) (hd : (x == ("__debug__" : Str)) = false := by decide) :
  DS K mg X (fun _ => E) (.Raise (some (.Call (.Name x np) (e :: es) [] cpos)) none pos) (nV x A) := by
 subst hk
 exact
    PS.imp (u7 hc hR hg hm hq ha he hplain hd) fun D σ H q_ => q_.el fun ρ h ae w re p =>
  ⟨ρ,
    h, ae, w, re, cD p re fun ds h1 ρ1 H1 l1 w1 re1 p1 vs rs => by
   split at p1
   ·rename_i hl
    exact ⟨by rw [<- rs.len]; exact hl, p1 ρ1 H1 σ C Le.refl w1 re1 hm⟩
   ·exact p1.elim⟩
theorem yy {x : Str} {p : Pos} {k n : Nat} {ps : List Str} {S : Fn} (C : Callee X.prog X.w X.K X.mg X.base x k ps (spD K mg n S)) (hr : Room k X.A) (hg : Gl X x) (hx : gg X ES) (ha : DA K mg X ES (e :: es) A)
  (hdb : (x == ("__debug__" : Str)) = false := by decide) (he : starEach (e :: es) X.env = (false, eval e X.env) :: starEach es X.env := by rfl) (hpl : (backTo pos (starEach es X.env)).any (·.1) = false := by rfl) :
  DE K mg X ES (.Call (.Name x p) (e :: es) [] pos) (eFn (fun ds h => if ds.length = n then S ds h else .stuck) A) := by
 obtain ⟨f, fd, F', m, kp, bb, _⟩ := C.ex
 intro pins s σ H Q I hh
 refine wpAny_Call_Name_kw (mz I hg m ?_ hdb)
 have rd : rdA K mg ES A σ H (fun vs H1 => spD K mg n S vs H1 Q (ES σ)) := by
  obtain ⟨ρ, h, ae, w, re, p⟩ := hh
  refine ⟨ρ, h, ae, w, re, p.bind.imp fun ds h1 ρ1 H1 l1 w1 p1 vs rs => ?_⟩
  split at p1
  ·rename_i hl
   exact ⟨ρ1, h1, ds, w1, rs, hl, p1⟩
  ·exact p1.elim
 refine PySem.W.callWith_K (h₀ := X.base) I.ok.mod.kin kp (wpAny_mono (ha pos pins s σ H _ I rd) (fun us s1 ⟨vs, H1, I1, r, q⟩ => ⟨I1.kIn, ?_⟩) fun _ _ z => z) he hpl
 have hl : (us ++ []).length = ps.length := by rw [List.append_nil, <- r.length]; exact F'.len _ _ _ _ q
 refine wpAny_call (codeAny_mono (F'.run X.A X.stack s1 H1 ⟨us, []⟩ us vs Q (ES σ) hr I1.env0 (by simpa using bb s1 us I1.kIn hl) r q) fun r s' hq => ?_)
 cases r with
 | error ex => exact hx pins σ H1 s1 ex s' I1 hq
 |
  ok fl =>
  cases fl with
  | ret u => exact I1.after hq
  | next => exact False.elim hq
  | brk => exact False.elim hq
  | cont => exact False.elim hq
noncomputable def fnD (n : Nat) (F : MS) : Fn := fun ds h => match F (ds.map some ++ List.replicate (n - ds.length) none) h with
 | .nx _ h' => .ok .non h'
 | .rt d h' => .ok d h'
 | .exc c _ h' => .exc c h'
 | _ => .stuck
theorem ak {E : XK} (hp : oo (CX1 X.prog X.w) X E) : gg X (fun _ => E) := fun pins σ H s e s' I h => hp pins σ H s e s' I h
theorem gM : gg X (fun _ => E0) := fun pins σ H s e s' I h => CT pins σ H s e s' I h
end
section
variable {P : Program} {w : World} {K : PySem.W.Frag} {mg : Str -> Option Value} {base : Heap} {x : Str} {st : Stmt} {k : Nat} {ps N : List Str} {F : MS}
theorem sj {ρ : List Addr} {H : Hp} {ds : List D} {vs : List V} (rs : RelDs K mg ρ H ds vs) : RelE K mg ρ H (ds.map some ++ List.replicate (N.length - ds.length) none) (eS N vs) := by
 unfold eS
 refine ⟨by rw [List.length_append, List.length_append, List.length_map, List.length_map, List.length_replicate, List.length_replicate, rs.len], fun i d e => ?_⟩
 by_cases hi : i < ds.length
 ·rw [List.getElem?_append_left (by rw [List.length_map]; exact hi), List.getElem?_map] at e
  have e' : ds[i]? = some d := by
   cases q : ds[i]? with
   | none => rw [q] at e; cases e
   | some z => rw [q] at e; cases e; rfl
  obtain ⟨v, h1, h2⟩ := rs.getD e'
  refine ⟨v, ?_, h2⟩
  rw [List.getElem?_append_left (by rw [List.length_map, <- rs.len]; exact hi), List.getElem?_map, h1]; rfl
 ·rw [List.getElem?_append_right (by rw [List.length_map]; omega), List.getElem?_replicate] at e
  split at e <;> cases e
theorem Def.okD (D : Def K mg x st) (S : FnScope N ps (ay st))
  (hb : ∀ (kV doc pm : Value) (an : Option Addr) (cdv ct : Value) (us : List Value), us.length = ps.length -> bindArgs (PySem.W.fnOf x x (dI st) (ck st) (ay st) .none kV doc pm an cdv ct) ⟨us, []⟩ = pure (ps.zip us))
  (hbody : ∀ (f : Addr) (cdv : Value) (A : Around) (outer : List Env) (s : Shared) (H : Hp) (E : XK), Room k (A.deeper (envOfC x (ay st) s.heap.objs.size f cdv)) ->
   DSs K mg (ef (CX1 P w) P w K mg base N x (ay st) f cdv A outer s H E) (fun _ => E) (ck st) F) : Callee P w K mg base x (k + 1) ps (spD K mg ps.length (fnD N.length F)) := by
 refine D.okR S hb (fun vs H Q E ⟨ρ, h, ds, w, rs, hl, p⟩ => by rw [<- rs.len]; exact hl) fun f cdv A outer s H vs Q E hr ⟨ρ, h, ds, w', rs, hl, p⟩ => ?_
 refine ⟨_, hbody f cdv A outer s H E hr, ρ, h, _, w', sj rs, ?_⟩
 unfold fnD at p
 split at p
 ·rename_i e; rw [e]; exact fun ρ1 H1 σ1 l1 w1 re1 => p ρ1 H1 l1 w1 _ .non
 ·rename_i e; rw [e]; exact fun ρ1 H1 v l1 w1 rv => p ρ1 H1 l1 w1 v rv
 ·rename_i e; rw [e]; exact fun ρ1 H1 σ1 C l1 w1 re1 m => p ρ1 H1 C l1 w1 m
 ·exact p.elim
end
end L2
set_option Elab.async false
set_option linter.all false
set_option maxRecDepth 100000
namespace L2
open PySem PySem.Spec PyProof.Rows
noncomputable def bq (h : AH) (n : Nat) : Option (List D) := match h[n]? with
 | some (.lst xs) => some xs
 | some (.fz xs) => some xs
 | _ => none
noncomputable def dB (h : AH) : D -> Option (List D)
 | .tup xs => some xs
 | .ref n => bq h n
 | .kl xs => some xs
 | _ => none
section
variable {K : PySem.W.Frag} {mg : Str -> Option Value} {ρ : List Addr} {H : Hp} {h : AH}
theorem bK (w : Wd K mg ρ h H) {n : Nat} {a : Addr} {xs : List D} (ea : ρ[n]? = some a) (e : bq h n = some xs) : ∃ vs, SqL K H a vs /\ RelDs K mg ρ H xs vs := by
 unfold bq at e
 split at e
 ·rename_i ys eo
  cases e
  obtain ⟨vs, h1, h2⟩ := w.ob n a _ ea eo
  exact ⟨vs, SqL.of h1, h2⟩
 ·rename_i ys eo
  cases e
  obtain ⟨o, vs, h1, h2⟩ := w.ob n a _ ea eo
  exact ⟨vs, .inl (.inr ⟨o, h1⟩), h2⟩
 ·cases e
theorem d4 (w : Wd K mg ρ h H) {d : D} {v : V} {xs : List D} (r : RelD K mg ρ H d v) (e : dB h d = some xs) : ∃ p vs, v = .ref p /\ (SqL K H p vs \/ SqT K H p vs) /\ RelDs K mg ρ H xs vs := by
 cases r with
 |
  tup q rs =>
  have e' : some _ = some xs := e
  cases e'
  exact ⟨_, _, rfl, .inr q, rs⟩
 |
  ref ea =>
  obtain ⟨vs, h1, h2⟩ := bK w ea e
  exact ⟨_, vs, rfl, .inl h1, h2⟩
 |
  kl q rs =>
  have e' : some _ = some xs := e
  cases e'
  exact ⟨_, _, rfl, .inl (.inr q), rs⟩
 | _ => cases e
end
noncomputable def g2 (f : Int -> Int -> R D) (x y : D) : R D := match x, y with
 | .int i, .int j => f i j
 | _, _ => .stuck
noncomputable def gI (f : Int -> Int -> D) : D -> D -> AH -> R D := fun x y h => match x, y with
 | .int i, .int j => .ok (f i j) h
 | _, _ => .stuck
open Classical in
noncomputable def gIc (C : Int -> Int -> Prop) (f : Int -> Int -> D) : D -> D -> AH -> R D := fun x y h => match x, y with
 | .int i, .int j => if C i j then .ok (f i j) h else .stuck
 | _, _ => .stuck
section
variable {K : PySem.W.Frag} {mg : Str -> Option Value} {X : Cx}
theorem jG {f : Int -> Int -> V} {g : Int -> Int -> D} (hr : ∀ i j ρ H, RelD K mg ρ H (g i j) (f i j)) : OpD K mg (rI0 f) (gI g) := fun ρ h H dx dy x y Q E w rx ry p => by
 unfold gI at p
 split at p
 ·cases rx; cases ry; exact ⟨_, _, rfl, rfl, aL w (hr _ _ ρ H) p⟩
 ·exact p.elim
theorem nF {C : Int -> Int -> Prop} {f : Int -> Int -> V} {g : Int -> Int -> D} (hr : ∀ i j ρ H, RelD K mg ρ H (g i j) (f i j)) : OpD K mg (rI C f) (gIc C g) := fun ρ h H dx dy x y Q E w rx ry p => by
 unfold gIc at p
 split at p
 ·cases rx; cases ry
  split at p
  ·rename_i hc; exact ⟨_, _, rfl, rfl, hc, aL w (hr _ _ ρ H) p⟩
  ·exact p.elim
 ·exact p.elim
noncomputable def gOr (g g' : D -> D -> AH -> R D) : D -> D -> AH -> R D := fun x y h => match g x y h with
 | .stuck => g' x y h
 | r => r
theorem OpD.or {r r' : R2} {g g' : D -> D -> AH -> R D} (a : OpD K mg r g) (b : OpD K mg r' g') : OpD K mg (fun x y H Q => r x y H Q \/ r' x y H Q) (gOr g g') := fun ρ h H dx dy x y Q E w rx ry p => by
 unfold gOr at p
 split at p
 ·exact .inr (b ρ h H dx dy x y Q E w rx ry p)
 ·exact .inl (a ρ h H dx dy x y Q E w rx ry p)
end
noncomputable def kS : D -> D -> AH -> R D := fun x y h => match x, y with
 | .ref n, .ref m => match h[n]?, h[m]? with
  | some (.lst xs), some (.lst ys) => if xs.length + ys.length <= 16777216 then .ok (.ref h.length) (h ++ [.lst (xs ++ ys)]) else .stuck
  | _, _ => .stuck
 | .tup xs, .tup ys => if xs.length + ys.length <= 16777216 then .ok (.tup (xs ++ ys)) h else .stuck
 | _, _ => .stuck
noncomputable def gIx : D -> D -> AH -> R D := fun x y h => match dB h x, y with
 | some xs, .int i => match atI xs i with
  | some d => .ok d h
  | none => .stuck
 | _, _ => .stuck
section
variable {K : PySem.W.Frag} {mg : Str -> Option Value} {X : Cx}
noncomputable def kf (K : PySem.W.Frag) : R2 := fun x y H Q => ∃ a b ys, x = .ref a /\ y = .ref b /\ SqT K H a [] /\ SqT K H b ys /\ Q (.ref b) H
theorem zi : OpR X (binaryOp .Add) (kf X.K) := by
 intro pins s σ H x y v u Q I rx ry h
 obtain ⟨a, b, ys, rfl, rfl, ha, hb, q⟩ := h
 cases rx
 cases ry
 obtain ⟨its, r1, p1, _⟩ := I.tuple ha
 obtain ⟨its2, r2, p2, _⟩ := I.tuple hb
 have e : its = [] := r1.nil_iff.mpr rfl
 subst e
 obtain ⟨⟨cls, dd, data, sl⟩, ho, hc, n, hd⟩ := id p1
 obtain ⟨⟨cls2, dd2, data2, sl2⟩, ho2, hc2, n2, hd2⟩ := id p2
 simp only at hc hd hc2 hd2
 subst hc hd hc2 hd2
 exact concat_meets ⟨_, ho, rfl⟩ ⟨_, ho2, rfl⟩ noFill_tuple_add seq_tuple_add PySem.F.slot_tuple_add PySem.F.entry_tuple_add (PySem.F.args_tuple_add_2 _ _)
  (tuple_addW0 _ _ _ _ n n2 dd dd2 sl sl2 rfl) ⟨ho, ho2, ⟨.ref b, H, I, rfl, q⟩⟩
theorem
    x9 : OpD K mg (fun x y H Q => l6 x y H Q \/ (ka K x y H Q \/ kf K x y H Q)) kS := fun ρ h H dx dy x y Q E w rx ry p => by
 unfold kS at p
 split at p
 ·cases
     rx with
  |
   ref ea =>
   cases ry with
   |
    ref eb =>
    split at p
    ·rename_i xs ys e1 e2
     split at p
     ·rename_i hl
      obtain ⟨vs, q1, r1⟩ := w.ob _ _ _ ea e1
      obtain ⟨ws, q2, r2⟩ := w.ob _ _ _ eb e2
      exact .inl ⟨_, _, vs, ws, rfl, rfl, q1, q2, by rw [<- r1.len, <- r2.len]; exact hl, fun p' hp => gR w (r1.append r2) hp p⟩
     ·exact p.elim
    ·exact p.elim
 ·cases
     rx with
  |
   tup q1 r1 =>
   cases ry with
   |
    tup q2 r2 =>
    split at p
    ·rename_i hl
     cases r1 with
     | nil => exact .inr (.inr ⟨_, _, _, rfl, rfl, q1, q2, aL w (.tup q2 r2) p⟩)
     |
      cons r0 r1 =>
      refine .inr (.inl ⟨_, _, _, _, rfl, rfl, q1, q2, (fun z => nomatch z), by rw [<- (RelDs.cons r0 r1).len, <- r2.len]; exact hl, fun z => ?_, fun _ p' hp => ja w ((RelDs.cons r0 r1).append r2) hp p⟩)
      subst z
      cases r2
      rw [List.append_nil] at p
      exact aL w (.tup q1 (.cons r0 r1)) p
    ·exact p.elim
 ·exact p.elim
theorem yz {ρ : List Addr} {H : Hp} {xs : List D} {vs : List V} (r : RelDs K mg ρ H xs vs) {i : Int} {d : D} (e : atI xs i = some d) : ∃ v, atI vs i = some v /\ RelD K mg ρ H d v := by
 unfold atI at e ⊢
 rw [<- r.len]
 cases q : ixN xs.length i with
 | none => rw [q] at e; cases e
 | some j => rw [q] at e; exact r.getD e
theorem Cy : OpD K mg (fun x y H Q => sq K x y H Q \/ sf K x y H Q) gIx := fun ρ h H dx dy x y Q E w rx ry p => by
 unfold gIx at p
 split at p
 ·rename_i xs i e1
  split at p
  ·rename_i d e2
   cases ry
   obtain ⟨pa, vs, rfl, hq, rs⟩ := d4 w rx e1
   obtain ⟨v, e3, rv⟩ := yz rs e2
   rcases hq with hq | hq
   ·exact .inl ⟨_, _, _, _, rfl, rfl, hq, e3, aL w rv p⟩
   ·exact .inr ⟨_, _, _, _, rfl, rfl, hq, e3, aL w rv p⟩
  ·exact p.elim
 ·exact p.elim
theorem ixK (h : X.K = K) : IxR X (fun x y H Q => sq K x y H Q \/ sf K x y H Q) := by subst h; exact zc.or BX
theorem catK (h : X.K = K) : OpR X (binaryOp .Add) (fun x y H Q => l6 x y H Q \/ (ka K x y H Q \/ kf K x y H Q)) := by subst h; exact CH.or (xU.or zi)
end
noncomputable def cx : Nat -> AH -> D -> Option PyData
 | 0, _, _ => none
 | _ + 1, _, .non => some .none
 | _ + 1, _, .bl b => some (.bool b)
 | _ + 1, _, .int i => some (.int i)
 | _ + 1, _, .str x => some (.str x)
 | k + 1, h, .tup xs => (xs.mapM (cx k h)).map .tuple
 | k + 1, h, .ref n => match bq h n with
  | some xs => (xs.mapM (cx k h)).map .list
  | none => none
 | _ + 1, _, _ => none
theorem
    m5 {K : PySem.W.Frag} {mg : Str -> Option Value} {ρ : List Addr} {H : Hp} {f : D -> Option PyData} (hf : ∀ d v pd, RelD K mg ρ H d v -> f d = some pd -> Rep K H v pd) : ∀ {xs : List D} {vs : List V} {ps : List PyData}, RelDs K mg ρ H xs vs -> xs.mapM f = some ps -> Reps K H vs ps := by
 intro xs
 induction xs with
 |
  nil =>
  intro vs ps r e
  cases r
  have e' : some [] = some _ := e
  cases e'; exact .nil
 |
  cons x xs ih =>
  intro vs ps r e
  cases r with
  |
   cons r rr =>
   rw [List.mapM_cons] at e
   cases q : f x with
   | none => rw [q] at e; cases e
   |
    some pd =>
    rw [q] at e
    cases q2 : xs.mapM f with
    | none => rw [q2] at e; cases e
    |
     some pds =>
     rw [q2] at e
     have e' : some (pd :: pds) = some ps := e
     cases e'
     exact .cons (hf _ _ _ r q) (ih rr q2)
theorem
    eE {K : PySem.W.Frag} {mg : Str -> Option Value} {ρ : List Addr} {H : Hp} {h : AH} (w : Wd K mg ρ h H) : ∀ (k : Nat) {d : D} {v : V} {pd : PyData}, RelD K mg ρ H d v -> cx k h d = some pd -> Rep K H v pd
 | 0, _, _, _, _, e => by cases e
 |
  k + 1, d, v, pd, r, e => by
  cases r with
  | non => have e' : some _ = some pd := e; cases e'; exact .non
  | bl b => have e' : some _ = some pd := e; cases e'; exact .bl b
  | int b => have e' : some _ = some pd := e; cases e'; exact .int b
  | str b => have e' : some _ = some pd := e; cases e'; exact .str b
  |
   tup q rs =>
   rename_i ds
   have e' : (ds.mapM (cx k h)).map PyData.tuple = some pd := e
   cases q2 : ds.mapM (cx k h) with
   | none => rw [q2] at e'; cases e'
   |
    some ps =>
    rw [q2] at e'
    cases e'
    exact .tup q (m5 (fun d v pd r e => eE w k r e) rs q2)
  |
   ref ea =>
   rename_i n a
   unfold cx at e
   split at e
   ·rename_i xs e1
    obtain ⟨vs, h1, h2⟩ := bK w ea e1
    cases q2 : xs.mapM (cx k h) with
    | none => rw [q2] at e; cases e
    |
     some ps =>
     rw [q2] at e
     cases e
     exact .lst h1 (m5 (fun d v pd r e => eE w k r e) h2 q2)
   ·cases e
  | _ => cases e
noncomputable def jH (h : AH) (x y : D) : Option Bool := match cx 64 h x, cx 64 h y with
 | some a, some b => if SeqAt.shaped a = true /\ SeqAt.shaped b = true then some (PyData.eqv a b) else none
 | _, _ => none
noncomputable def gEq (neg : Bool) : D -> D -> AH -> R D := fun x y h => match jH h x y with
 | some b => .ok (.bl (if neg then !b else b)) h
 | none => .stuck
section
variable {K : PySem.W.Frag} {mg : Str -> Option Value} {X : Cx}
theorem qC {ρ : List Addr} {H : Hp} {h : AH} {dx dy : D} {x y : V} {b : Bool} (w : Wd K mg ρ h H) (rx : RelD K mg ρ H dx x) (ry : RelD K mg ρ H dy y) (e : jH h dx dy = some b) :
  ∃ a c, Rep K H x a /\ Rep K H y c /\ SeqAt.shaped a = true /\ SeqAt.shaped c = true /\ PyData.eqv a c = b := by
 unfold jH at e
 split at e
 ·rename_i a c e1 e2
  split at e
  ·rename_i hs
   cases e
   exact ⟨a, c, eE w 64 rx e1, eE w 64 ry e2, hs.1, hs.2, rfl⟩
  ·cases e
 ·cases e
theorem Bj : OpD K mg (qS K) (gEq false) := fun ρ h H dx dy x y Q E w rx ry p => by
 unfold gEq at p
 split at p
 ·rename_i b e
  obtain ⟨a, c, h1, h2, h3, h4, rfl⟩ := qC w rx ry e
  exact ⟨a, c, h1, h2, h3, h4, aL w (.bl _) p⟩
 ·exact p.elim
theorem Ai : OpD K mg (sE K) (gEq true) := fun ρ h H dx dy x y Q E w rx ry p => by
 unfold gEq at p
 split at p
 ·rename_i b e
  obtain ⟨a, c, h1, h2, h3, h4, rfl⟩ := qC w rx ry e
  exact ⟨a, c, h1, h2, h3, h4, aL w (.bl _) p⟩
 ·exact p.elim
end
section
variable {K : PySem.W.Frag} {mg : Str -> Option Value} {X : Cx} {ρ : List Addr} {H : Hp}
noncomputable def oK (neg : Bool) : D -> D -> AH -> R D := fun x y h => match x, y with
 | .non, .non => .ok (.bl (!neg)) h
 | _, .non => .ok (.bl neg) h
 | _, _ => .stuck
theorem yU : OpD K mg (fun x y H Q => y = .non /\ Q (.bl (decide (x = .non))) H) (oK false) := fun ρ h H dx dy x y Q E w rx ry p => by
 unfold oK at p
 split at p
 ·cases rx; cases ry; exact ⟨rfl, aL w (.bl _) p⟩
 ·rename_i hne
  cases ry
  refine ⟨rfl, ?_⟩
  have e : decide (x = V.non) = false := by
   rw [decide_eq_false_iff_not]
   rintro rfl
   cases rx
   exact hne rfl
  rw [e]
  exact aL w (.bl _) p
 ·exact p.elim
end
end L2
set_option Elab.async false
set_option linter.all false
set_option maxRecDepth 100000
namespace L2
open PySem PySem.Spec PyProof.Rows
inductive AIt where
 | lst (n : Nat) (xs : List D) | tup (xs : List D) | rng (lo : Int) (k : Nat) | enm (s : AIt) | zip (s t : AIt)
noncomputable def fN : Nat -> List D -> List D
 | _, [] => []
 | i, d :: ds => .tup [.int (i : Nat), d] :: fN (i + 1) ds
noncomputable def AIt.items : AIt -> List D
 | .lst _ xs => xs
 | .tup xs => xs
 | .rng lo k => (List.range k).map fun i => D.int (lo + (i : Nat))
 | .enm s => fN 0 s.items
 | .zip s t => List.zipWith (fun x y => .tup [x, y]) s.items t.items
noncomputable def AIt.guard : AIt -> AH -> Prop
 | .lst n xs, h => bq h n = some xs
 | .enm s, h => s.guard h
 | .zip s t, h => s.guard h /\ t.guard h
 | _, _ => True
noncomputable def SrcR (K : PySem.W.Frag) (mg : Str -> Option Value) (ρ : List Addr) (H : Hp) : AIt -> Bool -> Addr -> Prop
 | .lst n _, true, a => ρ[n]? = some a
 | .tup xs, false, p => ∃ vs, SqT K H p vs /\ RelDs K mg ρ H xs vs
 | _, _, _ => False
noncomputable def ItR (K : PySem.W.Frag) (mg : Str -> Option Value) (ρ : List Addr) (H : Hp) : AIt -> It -> Prop
 | .lst n _, J => ∃ a, ρ[n]? = some a /\ J = Itl K a
 | .tup xs, J => ∃ p vs, SqT K H p vs /\ RelDs K mg ρ H xs vs /\ J = Itt K p
 | .rng lo k, J => J = Itr lo k
 | .enm s, J => ∃ b a, SrcR K mg ρ H s b a /\ J = wK K b a
 | .zip s t, J => ∃ b c a d, SrcR K mg ρ H s b a /\ SrcR K mg ρ H t c d /\ J = ItZ K b c a d
theorem pC : ∀ {ds : List D} {k i : Nat} {e : D}, (fN k ds)[i]? = some e -> ∃ d, ds[i]? = some d /\ e = .tup [.int ((k + i : Nat) : Int), d]
 | [], _, _, _, q => by simp [fN] at q
 | d :: ds, k, 0, e, q => ⟨d, rfl, by simpa [fN] using q.symm⟩
 |
  d :: ds, k, i + 1, e, q => by
  obtain ⟨d', q1, q2⟩ := pC (ds := ds) (k := k + 1) (i := i) (e := e) (by simpa [fN] using q)
  refine ⟨d', by simpa using q1, ?_⟩
  rw [q2]
  congr 4
  omega
theorem pz : ∀ (ds : List D) (k : Nat), (fN k ds).length = ds.length
 | [], _ => rfl
 | _ :: ds, k => by show (fN (k + 1) ds).length + 1 = ds.length + 1; rw [pz ds]
section
variable {K : PySem.W.Frag} {mg : Str -> Option Value} {ρ ρ1 : List Addr} {H H1 : Hp} {h h1 : AH}
theorem SrcR.at_ {s : AIt} {b : Bool} {a : Addr} (r : SrcR K mg ρ H s b a) (l : Le ρ H ρ1 H1) (w : Wd K mg ρ1 h1 H1) (g : s.guard h1) : ∃ vs, SqB K b H1 a vs /\ RelDs K mg ρ1 H1 s.items vs := by
 cases s with
 |
  lst n xs =>
  cases b with
  | true => exact bK w (l.pre _ _ r) g
  | false => exact r.elim
 |
  tup xs =>
  cases b with
  | true => exact r.elim
  | false => obtain ⟨vs, q, rs⟩ := r; exact ⟨vs, l.sqT q, rs.mono l⟩
 | rng _ _ => cases b <;> exact r.elim
 | enm _ => cases b <;> exact r.elim
 | zip _ _ => cases b <;> exact r.elim
theorem
    ItR.step {it : AIt} {J : It} (hJ : ItR K mg ρ H it J) (l : Le ρ H ρ1 H1) (w : Wd K mg ρ1 h1 H1) (g : it.guard h1) :
  (∀ (i : Nat) (d : D), it.items[i]? = some d -> J.go i H1 /\ ∀ x H', J.yld i H1 x H' -> Le ρ1 H1 ρ1 H' /\ Wd K mg ρ1 h1 H' /\ RelD K mg ρ1 H' d x) /\ J.stop it.items.length H1 := by
 cases it with
 |
  lst n xs =>
  obtain ⟨a, ea, rfl⟩ := hJ
  obtain ⟨vs, q, rs⟩ := bK w (l.pre _ _ ea) g
  refine ⟨fun i d e => ?_, vs, q, by rw [<- rs.len]; exact Nat.le_refl _⟩
  obtain ⟨v, ev, rv⟩ := rs.getD e
  refine ⟨⟨vs, v, q, ev⟩, fun x H' ⟨e1, y⟩ => ?_⟩
  subst e1
  have := (y vs q).symm.trans ev
  cases this
  exact ⟨Le.refl, w, rv⟩
 |
  tup xs =>
  obtain ⟨p, vs, q, rs, rfl⟩ := hJ
  have q1 := l.sqT q
  have rs1 := rs.mono l
  refine ⟨fun i d e => ?_, vs, q1, by rw [<- rs1.len]; exact Nat.le_refl _⟩
  obtain ⟨v, ev, rv⟩ := rs1.getD e
  refine ⟨⟨vs, v, q1, ev⟩, fun x H' ⟨e1, y⟩ => ?_⟩
  subst e1
  have := (y vs q1).symm.trans ev
  cases this
  exact ⟨Le.refl, w, rv⟩
 |
  rng lo k =>
  cases hJ
  refine ⟨fun i d e => ?_, ?_⟩
  ·have e' : ((List.range k).map fun i => D.int (lo + (i : Nat)))[i]? = some d := e
   rw [List.getElem?_map] at e'
   cases q : (List.range k)[i]? with
   | none => rw [q] at e'; cases e'
   |
    some j =>
    rw [q] at e'
    have hj := List.getElem?_eq_some_iff.mp q
    have e2 := hj.2
    rw [List.getElem_range] at e2
    subst e2
    cases e'
    refine ⟨show i < k by simpa using hj.1, fun x H' ⟨e1, e2⟩ => ?_⟩
    subst e1 e2
    exact ⟨Le.refl, w, .int _⟩
  ·show k <= ((List.range k).map fun i => D.int (lo + (i : Nat))).length
   simp
 |
  enm s =>
  obtain ⟨b, a, r, rfl⟩ := hJ
  obtain ⟨vs, q, rs⟩ := r.at_ l w g
  refine ⟨fun i d e => ?_, vs, q, by show vs.length = (fN 0 s.items).length; rw [pz, rs.len]⟩
  obtain ⟨d', q1, rfl⟩ := pC (show (fN 0 s.items)[i]? = some d from e)
  obtain ⟨v, ev, rv⟩ := rs.getD q1
  refine ⟨⟨vs, v, q, ev⟩, fun x H' ⟨p, u, e1, hp, e2, hu⟩ => ?_⟩
  subst e1 e2
  have := (hu vs q).symm.trans ev
  cases this
  rw [Nat.zero_add]
  exact ⟨cP hp, w.tuple hp, .tup (SqT.of cK) (.cons (.int _) (.cons (rv.mono (cP hp)) .nil))⟩
 |
  zip s t =>
  obtain ⟨b, c, a, d, r1, r2, rfl⟩ := hJ
  obtain ⟨vs, q, rs⟩ := r1.at_ l w g.1
  obtain ⟨us, q', rs'⟩ := r2.at_ l w g.2
  refine ⟨fun i e ei => ?_, vs, us, q, q', ?_⟩
  ·have ei' : (List.zipWith (fun x y => D.tup [x, y]) s.items t.items)[i]? = some e := ei
   rw [List.getElem?_zipWith] at ei'
   cases k1 : s.items[i]? with
   | none => rw [k1] at ei'; cases ei'
   |
    some d1 =>
    cases k2 : t.items[i]? with
    | none => rw [k1, k2] at ei'; cases ei'
    |
     some d2 =>
     rw [k1, k2] at ei'
     cases ei'
     obtain ⟨v, ev, rv⟩ := rs.getD k1
     obtain ⟨v', ev', rv'⟩ := rs'.getD k2
     refine ⟨⟨vs, us, v, v', q, q', ev, ev'⟩, fun x H' ⟨p, u, u', e1, hp, e2, hu, hu'⟩ => ?_⟩
     subst e1 e2
     have := (hu vs q).symm.trans ev
     cases this
     have := (hu' us q').symm.trans ev'
     cases this
     exact ⟨cP hp, w.tuple hp, .tup (SqT.of cK) (.cons (rv.mono (cP hp)) (.cons (rv'.mono (cP hp)) .nil))⟩
  ·have hl : (AIt.zip s t).items.length = min s.items.length t.items.length := List.length_zipWith ..
   rw [hl, rs.len, rs'.len]
   rcases Nat.le_total vs.length us.length with z | z
   ·left; rw [Nat.min_eq_left z]; exact List.getElem?_eq_none (Nat.le_refl _)
   ·right; rw [Nat.min_eq_right z]; exact List.getElem?_eq_none (Nat.le_refl _)
end
noncomputable def SR.loop (r : SR) (f : AE -> AH -> SR) : SR := match r with
 | .nx ae h => f ae h
 | .ct ae h => f ae h
 | .bk ae h => .nx ae h
 | .rt d h => .rt d h
 | .exc c ae h => .exc c ae h
 | .stuck => .stuck
open Classical in
noncomputable def jt (G : AH -> Prop) (g : MG) (B : MS) : List D -> MS
 | [], ae, h => if G h then .nx ae h else .stuck
 | d :: ds, ae, h => if G h then (g d ae h).toS ae fun ae1 h1 => (B ae1 h1).loop (jt G g B ds) else .stuck
abbrev MI := AE -> AH -> R AIt
noncomputable def u9 (I : MI) (g : MG) (B : MS) : MS := fun ae h => (I ae h).toS ae fun it h1 => jt it.guard g B it.items ae h1
open Classical in
noncomputable def lcL (G : AH -> Prop) (g : MG) (c : MT) (F : ME) : List D -> List D -> AE -> AH -> R (List D)
 | [], acc, _, h => if G h then .ok acc h else .stuck
 | d :: ds, acc, ae, h => if G h /\ acc.length < 16777216 then (g d ae h).bind fun ae1 h1 => (c ae1 h1).bind fun b h2 => if b = true then (F ae1 h2).bind fun y h3 => lcL G g c F ds (acc ++ [y]) ae1 h3 else lcL G g c F ds acc ae1 h2 else .stuck
noncomputable def jg (sub : List (Option Nat)) (ae : AE) : AE := sub.map fun o => o.bind fun i => (ae[i]?).bind id
noncomputable def eLC (I : MI) (sub : List (Option Nat)) (g : MG) (c : MT) (F : ME) : ME := fun ae h => (I ae h).bind fun it h1 => (noX (lcL it.guard g c F it.items [] (jg sub ae) h1)).bind dD
noncomputable def tY : MT := fun _ h => .ok true h
section
variable (K : PySem.W.Frag) (mg : Str -> Option Value)
noncomputable def rdI (ES : St -> XK) (F : MI) : TI := fun σ H R' => ∃ ρ h ae, Wd K mg ρ h H /\ RelE K mg ρ H ae σ /\ PostG K mg ρ H (ES σ) (fun it _ ρ' H' => ∀ J, ItR K mg ρ' H' it J -> R' J H') (F ae h)
noncomputable def DI (X : Cx) (ES : St -> XK) (tg iter : Expr) (F : MI) : Prop := PI X tg iter (rdI K mg ES F)
end
noncomputable def vY (F : ME) : MI := fun ae h => (F ae h).bind fun d h1 => match d with
 | .tup xs => .ok (.tup xs) h1
 | .ref n => match bq h1 n with
  | some xs => .ok (.lst n xs) h1
  | none => .stuck
 | _ => .stuck
noncomputable def vX (A : MA) : MI := fun ae h => (A ae h).bind fun ds h1 => match ds with
 | [.int j] => if -(2 ^ 62) <= j /\ j < 2 ^ 62 then .ok (.rng 0 j.toNat) h1 else .stuck
 | _ => .stuck
noncomputable def g8 (d : D) (h : AH) : Option AIt := match d with
 | .tup xs => some (.tup xs)
 | .ref n => (bq h n).map (.lst n)
 | _ => none
noncomputable def wa (A : MA) : MI := fun ae h => (A ae h).bind fun ds h1 => match ds with
 | [d] => (match g8 d h1 with
  | some s => .ok (.enm s) h1
  | none => .stuck)
 | _ => .stuck
section
variable {K : PySem.W.Frag} {mg : Str -> Option Value} {X : Cx} {ES : St -> XK} {tg iter e a b c elt : Expr} {F : ME} {A : MA} {I : MI} {g : MG} {cf : MT} {U : MS} {sts : List Stmt} {pos : Pos}
theorem PI.imp {t t' : TI} (h : PI X tg iter t) (k : ∀ σ H Q, t' σ H Q -> t σ H Q) : PI X tg iter t' := fun pins s σ H Q I w => h pins s σ H Q I (k σ H Q w)
theorem zM {l : Expr} {tl : TE} (hl : PE X l tl) : PI X tg l (fun σ H R => tl σ H fun x H1 => (∃ a, x = .ref a /\ (∃ xs, SqL X.K H1 a xs) /\ R (Itl X.K a) H1) \/ (∃ a, x = .ref a /\ (∃ xs, SqT X.K H1 a xs) /\ R (Itt X.K a) H1)) := by
 intro pins s σ H R I h
 refine thn (hl pins s σ H _ I h) fun v s1 ⟨x, H1, I1, r1, q1⟩ => ?_
 rcases q1 with ⟨a, e, ⟨xs, hq⟩, q⟩ | ⟨a, e, ⟨xs, hq⟩, q⟩
 ·subst e
  cases r1
  obtain ⟨its, rv, p, hz⟩ := I1.list hq
  refine wpAny_pyIter_list p.isList ?_
  refine ⟨s1.heap.objs.size, [s1.heap.objs.size], _, _, H1, rfl, I1.kept (t' := s1.toks) fun b o e => Heap.get?_push_of_some _ e, uk a _, ⟨_, Heap.get?_push_size _ rfl, rfl, rfl⟩, fun b hb => ?_, q⟩
  have e : b = s1.heap.objs.size := by simpa using hb
  subst e
  exact I1.fpOk (Nat.le_refl _) (I1.hok.fresh (Nat.le_refl _))
 ·subst e
  cases r1
  obtain ⟨its, rv, p, hz⟩ := I1.tuple hq
  refine wpAny_pyIter_tuple (show s1.heap.IsTuple a its.toArray from p) ?_
  refine ⟨s1.heap.objs.size, [s1.heap.objs.size], _, _, H1, rfl, I1.kept (t' := s1.toks) fun b o e => Heap.get?_push_of_some _ e, sg a _, ⟨_, Heap.get?_push_size _ rfl, rfl, rfl⟩, fun b hb => ?_, q⟩
  have e : b = s1.heap.objs.size := by simpa using hb
  subst e
  exact I1.fpOk (Nat.le_refl _) (I1.hok.fresh (Nat.le_refl _))
theorem Ct (hK : X.K = K) (he : DE K mg X ES e F) : DI K mg X ES tg e (vY F) := by
 subst hK
 refine PI.imp (zM he) fun σ H R ⟨ρ, h, ae, w, re, p⟩ => ⟨ρ, h, ae, w, re, p.bind.imp fun d h1 ρ1 H1 l1 w1 p1 v rv => ?_⟩
 cases rv with
 | tup q rs => exact .inr ⟨_, rfl, ⟨_, q⟩, p1 ρ1 H1 Le.refl w1 _ ⟨_, _, q, rs, rfl⟩⟩
 |
  ref ea =>
  dsimp only at p1
  split at p1
  ·rename_i xs e1
   obtain ⟨vs, q, rs⟩ := bK w1 ea e1
   exact .inl ⟨_, rfl, ⟨_, q⟩, p1 ρ1 H1 Le.refl w1 _ ⟨_, ea, rfl⟩⟩
  ·exact p1.elim
 | _ => exact p1.elim
theorem
    uy {p : Pos} (hg : Gl X "range") (hm : mg "range" = none) (ha : DA K mg X ES [a] A) (hk : X.mg = mg := by rfl) (hs : starEach [a] X.env = [(false, eval a X.env)] := by rfl) : DI K mg X ES tg (.Call (.Name "range" p) [a] [] pos) (vX A) := by
 subst hk
 refine PI.imp (uv hg hm ha hs) fun σ H R ⟨ρ, h, ae, w, re, p⟩ => ⟨ρ, h, ae, w, re, p.bind.imp fun ds h1 ρ1 H1 l1 w1 p1 vs rs => ?_⟩
 split at p1
 ·cases rs with
  |
   cons r rs =>
   cases r; cases rs
   split at p1
   ·rename_i hb
    exact ⟨_, rfl, hb.1, hb.2, p1 ρ1 H1 Le.refl w1 _ rfl⟩
   ·exact p1.elim
 ·exact p1.elim
theorem tH {ρ : List Addr} {H : Hp} {h : AH} {d : D} {v : V} {s : AIt} (w : Wd K mg ρ h H) (r : RelD K mg ρ H d v) (q : g8 d h = some s) : ∃ b p, v = .ref p /\ SrcR K mg ρ H s b p /\ ∃ vs, SqB K b H p vs := by
 cases r with
 | tup hq rs => cases q; exact ⟨false, _, rfl, ⟨_, hq, rs⟩, _, hq⟩
 |
  ref ea =>
  obtain ⟨xs, q1, rfl⟩ := Option.map_eq_some_iff.mp q
  obtain ⟨vs, h1, h2⟩ := bK w ea q1
  exact ⟨true, _, rfl, ea, vs, h1⟩
 | _ => cases q
theorem
    x2 {elts : List Expr} {x1 : Nat} {tp p : Pos} (hK : X.K = K) (hg : Gl X "enumerate") (hm : mg "enumerate" = none) (ha : DA K mg X ES [a] A) (hk : X.mg = mg := by rfl) (hs : starEach [a] X.env = [(false, eval a X.env)] := by rfl) : DI K mg X ES (.Tuple elts x1 tp) (.Call (.Name "enumerate" p) [a] [] pos) (wa A) := by
 subst hk hK
 refine PI.imp (xI hg hm ha hs) fun σ H R ⟨ρ, h, ae, w, re, p⟩ => ⟨ρ, h, ae, w, re, p.bind.imp fun ds h1 ρ1 H1 l1 w1 p1 vs rs => ?_⟩
 split at p1
 ·cases rs with
  |
   cons r rs =>
   cases rs
   split at p1
   ·rename_i s q
    obtain ⟨b, pa, rfl, sr, xs, hx⟩ := tH w1 r q
    exact ⟨b, pa, xs, rfl, hx, p1 ρ1 H1 Le.refl w1 _ ⟨b, pa, sr, rfl⟩⟩
   ·exact p1.elim
 ·exact p1.elim
theorem oi {ρ : List Addr} {H : Hp} {De : Ends} {r : SR} {f : AE -> AH -> SR} {N : St -> Hp -> Prop} (p : PostS K mg ρ H De ES (r.loop f)) (i : ∀ ae1 h1 ρ1 H1 σ1, Le ρ H ρ1 H1 -> Wd K mg ρ1 h1 H1 -> RelE K mg ρ1 H1 ae1 σ1 -> PostS K mg ρ1 H1 De ES (f ae1 h1) -> N σ1 H1) :
  PostS K mg ρ H { De with nx := N, ct := N, bk := De.nx } ES r := by
 cases r with
 | nx ae1 h1 => exact fun ρ1 H1 σ1 l1 w1 re1 => i ae1 h1 ρ1 H1 σ1 l1 w1 re1 (PostS.mono l1 p)
 | rt d h1 => exact p
 | bk ae1 h1 => exact p
 | ct ae1 h1 => exact fun ρ1 H1 σ1 l1 w1 re1 => i ae1 h1 ρ1 H1 σ1 l1 w1 re1 (PostS.mono l1 p)
 | exc c ae1 h1 => exact p
 | stuck => exact p
theorem
    CP (hp : PassesOwn (model X.prog X.w) X.A X.env X.xe) (hc : X.calm = true) (hi : DI K mg X ES tg iter I) (hg : DG K mg X ES tg g) (hb : DSs K mg X ES sts U)
  (hs : ∀ x, foldedSetIterable iter X.env x = pure x := by intro _; rfl) : DS K mg X ES (.For tg iter sts [] pos) (u9 I g U) := by
 refine PS.imp (A8 hp hc hi hg hb hs) fun De σ H q_ => q_.el fun ρ h ae w re p => ⟨ρ, h, ae, w, re, cD p re fun it h1 ρ1 H1 l1 w1 re1 p1 J hJ => ?_⟩
 refine ⟨fun i m σ2 H2 => m = it.items.length - i /\ i <= it.items.length /\ ∃ ρ2 h2 ae2, Le ρ1 H1 ρ2 H2 /\ Wd K mg ρ2 h2 H2 /\ RelE K mg ρ2 H2 ae2 σ2 /\ PostS K mg ρ2 H2 De ES (jt it.guard g U (it.items.drop i) ae2 h2), ⟨_, rfl, Nat.zero_le _, ρ1, h1, ae, Le.refl, w1, re1, p1⟩, ?_⟩
 rintro i m σ2 H2 ⟨rfl, hi', ρ2, h2, ae2, l2, w2, re2, p2⟩
 by_cases hlt : i < it.items.length
 ·have hd : it.items.drop i = it.items[i] :: it.items.drop (i + 1) := List.drop_eq_getElem_cons hlt
  rw [hd] at p2
  unfold jt at p2
  split at p2
  ·rename_i hG
   obtain ⟨st, _⟩ := hJ.step l2 w2 hG
   obtain ⟨go, yl⟩ := st i it.items[i] (List.getElem?_eq_getElem hlt)
   refine .inr ⟨go, fun σ' H' => ∃ ρ3 h3 ae3, Le ρ1 H1 ρ3 H' /\ Wd K mg ρ3 h3 H' /\ RelE K mg ρ3 H' ae3 σ' /\ PostS K mg ρ3 H' De ES (jt it.guard g U (it.items.drop (i + 1)) ae3 h3),
    fun σ' H' ⟨ρ3, h3, ae3, q⟩ => ⟨_, by omega, rfl, hlt, ρ3, h3, ae3, q⟩, fun x H' hy => ?_⟩
   obtain ⟨ly, wy, rx⟩ := yl x H' hy
   refine ⟨ρ2, h2, ae2, _, wy, re2.mono ly, rx, cD (PostS.mono ly p2) (re2.mono ly) fun ae3 h3 ρ3 H3 l3 w3 re3 p3 σ' re' => ⟨ρ3, h3, ae3, w3, re', oi p3 fun ae4 h4 ρ4 H4 σ4 l4 w4 re4 p4 => ⟨ρ4, h4, ae4, ((l2.trans ly).trans l3).trans l4, w4, re4, p4⟩⟩⟩
  ·exact p2.elim
 ·have hi2 : i = it.items.length := by omega
  subst hi2
  rw [List.drop_length] at p2
  unfold jt at p2
  split at p2
  ·rename_i hG
   exact .inl ⟨(hJ.step l2 w2 hG).2, hZ p2 w2 re2⟩
  ·exact p2.elim
theorem
    uA {ρ : List Addr} {H : Hp} {ae : AE} {σ : St} (re : RelE K mg ρ H ae σ) (sub : List (Option Nat)) : RelE K mg ρ H (jg sub ae) (cJ sub σ) := by
 unfold jg cJ
 refine ⟨by rw [List.length_map, List.length_map], fun j d e => ?_⟩
 rw [List.getElem?_map] at e ⊢
 cases q : sub[j]? with
 | none => rw [q] at e; cases e
 |
  some o =>
  rw [q] at e
  cases o with
  | none => cases e
  |
   some i =>
   have e' : (ae[i]?).bind id = some d := Option.some.inj e
   cases q2 : ae[i]? with
   | none => rw [q2] at e'; cases e'
   |
    some z =>
    rw [q2] at e'
    have e3 : z = some d := e'
    subst e3
    obtain ⟨v, h1, h2⟩ := re.at_ i d q2
    refine ⟨v, ?_, h2⟩
    show some ((σ[i]?).bind id) = some (some v)
    rw [h1]; rfl
theorem kD {α : Type} {ρ : List Addr} {H : Hp} {E : XK} {r : R α} {f : α -> AH -> R (List D)} {m : List D -> AH -> R D} {k : D -> AH -> List Addr -> Hp -> Prop} (p : PostG K mg ρ H E k ((noX (r.bind f)).bind m)) :
  PostG K mg ρ H E0 (fun a h1 ρ' H' => PostG K mg ρ' H' E k ((noX (f a h1)).bind m)) r := by
 cases r with
 | ok a h1 => exact fun ρ1 H1 l1 w1 => PostG.mono l1 p
 | exc c h1 => exact p.elim
 | stuck => exact p.elim
theorem
    xj {sub : List (Option Nat)} (σ : St) (H : Hp) (Q : VK) (q : rdE K mg ES (eLC I sub g cf F) σ H Q) : kd (rdI K mg ES I) sub (rdG K mg (fun _ => E0) g) (rdT K mg (fun _ => E0) cf) (rdE K mg (fun _ => E0) F) σ H Q := by
 obtain ⟨ρ, h, ae, w, re, p⟩ := q
 refine ⟨ρ, h, ae, w, re, p.bind.imp fun it h1 ρ1 H1 l1 w1 p1 J hJ => ?_⟩
 have re1 := uA (re.mono l1) sub
 refine ⟨fun i m ys σ2 H2 => m = it.items.length - i /\ i <= it.items.length /\ ∃ ρ2 h2 ae2 acc, Le ρ1 H1 ρ2 H2 /\ Wd K mg ρ2 h2 H2 /\ RelE K mg ρ2 H2 ae2 σ2 /\ RelDs K mg ρ2 H2 acc ys /\
   PostG K mg ρ2 H2 (ES σ) (fun d _ ρ' H' => ∀ v, RelD K mg ρ' H' d v -> Q v H') ((noX (lcL it.guard g cf F (it.items.drop i) acc ae2 h2)).bind dD),
  ⟨_, rfl, Nat.zero_le _, ρ1, h1, jg sub ae, [], Le.refl, w1, re1, .nil, p1⟩, ?_⟩
 rintro i m ys σ2 H2 ⟨rfl, hi', ρ2, h2, ae2, acc, l2, w2, re2, rs, p2⟩
 by_cases hlt : i < it.items.length
 ·have hd : it.items.drop i = it.items[i] :: it.items.drop (i + 1) := List.drop_eq_getElem_cons hlt
  rw [hd] at p2
  unfold lcL at p2
  split at p2
  ·rename_i hG
   obtain ⟨st, _⟩ := hJ.step l2 w2 hG.1
   obtain ⟨go, yl⟩ := st i it.items[i] (List.getElem?_eq_getElem hlt)
   refine .inr ⟨go, by rw [<- rs.len]; exact hG.2, fun ys' σ' H' => ∃ ρ3 h3 ae3 acc3, Le ρ1 H1 ρ3 H' /\ Wd K mg ρ3 h3 H' /\ RelE K mg ρ3 H' ae3 σ' /\ RelDs K mg ρ3 H' acc3 ys' /\
     PostG K mg ρ3 H' (ES σ) (fun d _ ρ' H' => ∀ v, RelD K mg ρ' H' d v -> Q v H') ((noX (lcL it.guard g cf F (it.items.drop (i + 1)) acc3 ae3 h3)).bind dD),
    fun ys' σ' H' ⟨ρ3, h3, ae3, acc3, q⟩ => ⟨_, by omega, rfl, hlt, ρ3, h3, ae3, acc3, q⟩, fun x H' hy => ?_⟩
   obtain ⟨ly, wy, rx⟩ := yl x H' hy
   refine ⟨ρ2, h2, ae2, _, wy, re2.mono ly, rx, (kD (PostG.mono ly p2)).imp fun ae3 h3 ρ3 H3 l3 w3 p3 σ3 re3 => ⟨ρ3, h3, ae3, w3, re3, (kD p3).imp fun b h4 ρ4 H4 l4 w4 p4 => ?_⟩⟩
   cases b with
   | true => exact ⟨ρ4, h4, ae3, w4, re3.mono l4, (kD p4).imp fun y h5 ρ5 H5 l5 w5 p5 v rv => ⟨ρ5, h5, ae3, acc ++ [y], (((l2.trans ly).trans l3).trans l4).trans l5, w5, (re3.mono l4).mono l5, ((((rs.mono ly).mono l3).mono l4).mono l5).append (.cons rv .nil), p5⟩⟩
   | false => exact ⟨ρ4, h4, ae3, acc, ((l2.trans ly).trans l3).trans l4, w4, re3.mono l4, ((rs.mono ly).mono l3).mono l4, p4⟩
  ·exact p2.elim
 ·have hi2 : i = it.items.length := by omega
  subst hi2
  rw [List.drop_length] at p2
  unfold lcL at p2
  split at p2
  ·rename_i hG
   refine .inl ⟨(hJ.step l2 w2 hG).2, ?_⟩
   have p3 : PostG K mg ρ2 H2 (ES σ) (fun d _ ρ' H' => ∀ v, RelD K mg ρ' H' d v -> Q v H') (dD acc h2) := p2
   unfold dD at p3
   split at p3
   ·rename_i hl
    exact ⟨by rw [<- rs.len]; exact hl, fun q hq => gR w2 rs hq p3⟩
   ·exact p3.elim
  ·exact p2.elim
theorem Ed {scope : Scope} (M : List Str) (kn : List (Str × NameKind)) (N : List Str) (sub : List (Option Nat))
  (hc : X.calm = true) (hi : DI K mg X ES tg iter I)
  (hg : ∀ cl C s₂ H fp, DG K mg (bu X N scope cl C s₂ H fp) (fun _ => E0) tg g) (he : ∀ cl C s₂ H fp, DE K mg (bu X N scope cl C s₂ H fp) (fun _ => E0) elt F)
  (hM : X.N = M := by rfl) (hkn : X.env.scope.names = kn := by rfl) (hsub : hE M scope.names sub N = true := by decide +kernel)
  (hk : scope.kind = .function := by rfl) (hnc : ∀ x ∈ scope.names, x.2 ≠ .cell := by decide +kernel) (hnames : ∀ x ∈ scope.names, x.2 = .local -> scope.names.lookup x.1 = some .local := by decide +kernel)
  (hfr : jP kn scope.names = true := by decide +kernel)
  (hsl : sub.length = N.length := by rfl) (hs : ∀ x, foldedSetIterable iter X.env x = pure x := by intro _; rfl) :
  DE K mg X ES (.ListComp elt [⟨tg, iter, [], 0⟩] scope pos) (eLC I sub g tY F) :=
 PE.imp (D4 M kn N sub hc hi hg he hM hkn hsub hk hnc hnames hfr hsl hs) fun σ H Q q => by
  have := xj (cf := tY) σ H Q q
  obtain ⟨ρ, h, ae, w, re, p⟩ := this
  refine ⟨ρ, h, ae, w, re, p.imp fun it h1 ρ1 H1 l1 w1 k J hJ => ?_⟩
  obtain ⟨W, w0, tn⟩ := k J hJ
  refine ⟨W, w0, fun i m ys σ2 H2 hW => ?_⟩
  rcases tn i m ys σ2 H2 hW with z | ⟨go, hl, Nx, hN, st⟩
  ·exact .inl z
  ·refine .inr ⟨go, hl, Nx, hN, fun x H' hy => ?_⟩
   obtain ⟨ρ3, h3, ae3, d3, w3, re3, rd3, p3⟩ := st x H' hy
   refine ⟨ρ3, h3, ae3, d3, w3, re3, rd3, p3.imp fun ae4 h4 ρ4 H4 l4 w4 k4 σ4 re4 => ?_⟩
   obtain ⟨ρ5, h5, ae5, w5, re5, p5⟩ := k4 σ4 re4
   exact p5 ρ5 _ Le.refl w5
theorem CC {sub : List (Option Nat)} (σ : St) (H : Hp) (Q : VK) (q : rdE K mg ES (eLC I sub g tY F) σ H Q) : kd (rdI K mg ES I) sub (rdG K mg (fun _ => E0) g) u3 (rdE K mg (fun _ => E0) F) σ H Q := by
 have := xj (cf := tY) σ H Q q
 obtain ⟨ρ, h, ae, w, re, p⟩ := this
 refine ⟨ρ, h, ae, w, re, p.imp fun it h1 ρ1 H1 l1 w1 k J hJ => ?_⟩
 obtain ⟨W, w0, tn⟩ := k J hJ
 refine ⟨W, w0, fun i m ys σ2 H2 hW => ?_⟩
 rcases tn i m ys σ2 H2 hW with z | ⟨go, hl, Nx, hN, st⟩
 ·exact .inl z
 ·refine .inr ⟨go, hl, Nx, hN, fun x H' hy => ?_⟩
  obtain ⟨ρ3, h3, ae3, d3, w3, re3, rd3, p3⟩ := st x H' hy
  refine ⟨ρ3, h3, ae3, d3, w3, re3, rd3, p3.imp fun ae4 h4 ρ4 H4 l4 w4 k4 σ4 re4 => ?_⟩
  obtain ⟨ρ5, h5, ae5, w5, re5, p5⟩ := k4 σ4 re4
  exact p5 ρ5 _ Le.refl w5
theorem xG {t : TE} {i : Nat} (ht : ∀ σ H Q, rdE K mg ES F σ H Q -> t σ H Q) (De : Ends) (σ : St) (H : Hp) (q : rdS K mg ES (iy F (gN i)) De σ H) : nY t (lQ i) De σ H := by
 obtain ⟨ρ, h, ae, w, re, p⟩ := q
 exact ht σ H _ ⟨ρ, h, ae, w, re, cD p re fun d h1 ρ1 H1 l1 w1 re1 p1 v rv => hZ p1 w1 (re1.set i rv)⟩
theorem D3 {scope : Scope} {px spos : Pos} {iT : Nat} {xT : Str} (M : List Str) (kn : List (Str × NameKind)) (N : List Str) (sub : List (Option Nat))
  (hc : X.calm = true) (hN : X.N.Nodup) (hix : X.N[iT]? = some xT) (hxl : Loc X.env.scope xT) (hi : DI K mg X ES tg iter I)
  (hg : ∀ cl C s₂ H fp, DG K mg (bu X N scope cl C s₂ H fp) (fun _ => E0) tg g) (he : ∀ cl C s₂ H fp, DE K mg (bu X N scope cl C s₂ H fp) (fun _ => E0) elt F)
  (hsw : swapsWith (.ListComp elt [⟨tg, iter, [], 0⟩] scope pos) (some (.Name xT px)) spos.line X.env = pure true := by rfl)
  (hM : X.N = M := by rfl) (hkn : X.env.scope.names = kn := by rfl) (hsub : hE M scope.names sub N = true := by decide +kernel)
  (hk : scope.kind = .function := by rfl) (hnc : ∀ x ∈ scope.names, x.2 ≠ .cell := by decide +kernel) (hnames : ∀ x ∈ scope.names, x.2 = .local -> scope.names.lookup x.1 = some .local := by decide +kernel)
  (hfr : jP kn scope.names = true := by decide +kernel)
  (hsl : sub.length = N.length := by rfl) (hs : ∀ x, foldedSetIterable iter X.env x = pure x := by intro _; rfl) (hf : X.fn xT = true \/ X.env.scope.names.lookup xT = some .local := by first | exact .inl rfl | exact .inr rfl | assumption) :
  DS K mg X ES (.Assign [.Name xT px] (.ListComp elt [⟨tg, iter, [], 0⟩] scope pos) spos) (iy (eLC I sub g tY F) (gN iT)) :=
 PS.imp (Eg M kn N sub hc hN hix hxl hi hg he hsw hM hkn hsub hk hnc hnames hfr hsl hs hf) (xG CC)
end
noncomputable def whN (c : MT) (B : MS) : Nat -> MS
 | 0, _, _ => .stuck
 | k + 1, ae, h => (c ae h).toS ae fun b h1 => if b = true then (B ae h1).loop (whN c B k) else .nx ae h1
open Classical in
noncomputable def sWh (c : MT) (B : MS) : MS := fun ae h => if q : ∃ k, whN c B k ae h ≠ .stuck then whN c B q.choose ae h else .stuck
theorem
    kH {c : MT} {B : MS} : ∀ {k : Nat} {ae : AE} {h : AH}, whN c B k ae h ≠ .stuck -> whN c B (k + 1) ae h = whN c B k ae h
 | 0, _, _, q => absurd rfl q
 |
  k + 1, ae, h, q => by
  have e1 : whN c B (k + 2) ae h = (c ae h).toS ae fun b h1 => if b = true then (B ae h1).loop (whN c B (k + 1)) else .nx ae h1 := rfl
  have e2 : whN c B (k + 1) ae h = (c ae h).toS ae fun b h1 => if b = true then (B ae h1).loop (whN c B k) else .nx ae h1 := rfl
  rw [e2] at q
  rw [e1, e2]
  cases r : c ae h with
  | exc _ _ => rfl
  | stuck => rfl
  |
   ok b h1 =>
   rw [r] at q
   cases b with
   | false => rfl
   |
    true =>
    have q' : (B ae h1).loop (whN c B k) ≠ .stuck := q
    show (B ae h1).loop (whN c B (k + 1)) = (B ae h1).loop (whN c B k)
    cases s : B ae h1 with
    | nx a2 h2 => rw [s] at q'; exact kH q'
    | ct a2 h2 => rw [s] at q'; exact kH q'
    | _ => rfl
theorem ug {c : MT} {B : MS} {k j : Nat} {ae : AE} {h : AH} (q : whN c B k ae h ≠ .stuck) (hj : k <= j) : whN c B j ae h = whN c B k ae h := by
 induction hj with
 | refl => rfl
 | step _ ih => rw [kH (by rw [ih]; exact q), ih]
theorem sX {c : MT} {B : MS} {k : Nat} {ae : AE} {h : AH} (q : whN c B k ae h ≠ .stuck) : sWh c B ae h = whN c B k ae h := by
 have hq : ∃ k, whN c B k ae h ≠ .stuck := ⟨k, q⟩
 unfold sWh
 rw [dif_pos hq]
 rcases Nat.le_total hq.choose k with z | z
 ·exact (ug hq.choose_spec z).symm
 ·exact ug q z
section
variable {K : PySem.W.Frag} {mg : Str -> Option Value} {X : Cx} {ES : St -> XK} {c : Expr} {cf : MT} {U : MS} {sts : List Stmt} {pos : Pos}
theorem vc (hp : PassesOwn (model X.prog X.w) X.A X.env X.xe) (hc : DT K mg X ES c cf) (hb : DSs K mg X ES sts U) : DS K mg X ES (.While c sts [] pos) (sWh cf U) := by
 refine PS.imp (vv hp hc hb) fun De σ H q_ => q_.el fun ρ h ae w re p => ?_
 have hx : ∃ k, whN cf U k ae h ≠ .stuck := Classical.byContradiction fun z => by
  unfold sWh at p
  rw [dif_neg z] at p
  exact p.elim
 obtain ⟨k, hk⟩ := hx
 rw [sX hk] at p
 refine ⟨fun m σ2 H2 => ∃ ρ2 h2 ae2, Wd K mg ρ2 h2 H2 /\ RelE K mg ρ2 H2 ae2 σ2 /\ PostS K mg ρ2 H2 De ES (whN cf U m ae2 h2), ⟨k, ρ, h, ae, w, re, p⟩, ?_⟩
 rintro m σ2 H2 ⟨ρ2, h2, ae2, w2, re2, p2⟩
 cases m with
 | zero => exact p2.elim
 |
  succ m =>
  refine ⟨ρ2, h2, ae2, w2, re2, cD p2 re2 fun b h3 ρ3 H3 l3 w3 re3 p3 => ?_⟩
  cases b with
  | true => exact ⟨fun σ' H' => ∃ ρ4 h4 ae4, Wd K mg ρ4 h4 H' /\ RelE K mg ρ4 H' ae4 σ' /\ PostS K mg ρ4 H' De ES (whN cf U m ae4 h4), fun σ' H' q => ⟨m, Nat.lt_succ_self _, q⟩, ρ3, h3, ae2, w3, re3, oi p3 fun ae4 h4 ρ4 H4 σ4 l4 w4 re4 p4 => ⟨ρ4, h4, ae4, w4, re4, p4⟩⟩
  | false => exact hZ p3 w3 re3
end
end L2
set_option Elab.async false
set_option linter.all false
set_option maxRecDepth 100000
namespace L2
open PySem PySem.Spec PyProof.Rows
noncomputable def pA : Fn := fun ds h => match ds with
 | [d] => match dB h d with
  | some xs => .ok (.int xs.length) h
  | none => match d with
   | .str z => if z.length <= 16777216 then .ok (.int z.length) h else .stuck
   | _ => .stuck
 | _ => .stuck
noncomputable def sy : Fn := fun ds h => match ds with
 | [.int i] => .ok (.int (if i < 0 then -i else i)) h
 | _ => .stuck
noncomputable def nC : Fn := fun ds h => match ds with
 | [.int i, .int j] => .ok (.int (if j > i then j else i)) h
 | _ => .stuck
noncomputable def nB : Fn := fun ds h => match ds with
 | [.int i, .int j] => .ok (.int (if j < i then j else i)) h
 | _ => .stuck
noncomputable def g0 : List D -> Option (List Bool)
 | [] => some []
 | .bl b :: r => (g0 r).map (b :: ·)
 | _ => none
noncomputable def fJ : List D -> Option (List Int)
 | [] => some []
 | .int b :: r => (fJ r).map (b :: ·)
 | _ => none
theorem pH : ∀ {ds : List D} {bs : List Bool}, g0 ds = some bs -> ds = bs.map D.bl
 | [], bs, e => by cases e; rfl
 |
  .bl b :: r, bs, e => by
  have e' : (g0 r).map (b :: ·) = some bs := e
  cases q : g0 r with
  | none => rw [q] at e'; cases e'
  | some z => rw [q] at e'; cases e'; rw [pH q]; rfl
theorem m9 : ∀ {ds : List D} {bs : List Int}, fJ ds = some bs -> ds = bs.map D.int
 | [], bs, e => by cases e; rfl
 |
  .int b :: r, bs, e => by
  have e' : (fJ r).map (b :: ·) = some bs := e
  cases q : fJ r with
  | none => rw [q] at e'; cases e'
  | some z => rw [q] at e'; cases e'; rw [m9 q]; rfl
noncomputable def pq : Fn := fun ds h => match ds with
 | [.ref n] => match (bq h n).bind g0 with
  | some bs => .ok (.bl (bs.all id)) h
  | none => .stuck
 | _ => .stuck
noncomputable def pj : Fn := fun ds h => match ds with
 | [.ref n] => match (bq h n).bind fJ with
  | some ns => .ok (.int ns.sum) h
  | none => .stuck
 | _ => .stuck
noncomputable def lb : Fn := fun ds h => match ds with
 | [d] => match dB h d with
  | some xs => .ok (.ref h.length) (h ++ [.lst xs])
  | none => .stuck
 | _ => .stuck
noncomputable def j3 : Fn := fun ds h => match ds with
 | [d] => match dB h d with
  | some xs => .ok (.tup xs) h
  | none => .stuck
 | _ => .stuck
noncomputable def sA : Fn := fun ds h => match ds with
 | [.int i] => .ok (.int i) h
 | [.bl b] => .ok (.int (if b then 1 else 0)) h
 | _ => .stuck
section
variable {K : PySem.W.Frag} {mg : Str -> Option Value} {X : Cx}
theorem
    Ar : bC K mg (fun xs H Q => (∃ p ys, xs = [.ref p] /\ (SqL K H p ys \/ SqT K H p ys) /\ Q (.int ys.length) H) \/ (∃ z, xs = [.str z] /\ z.length <= sizeLine /\ Q (.int z.length) H)) pA := fun ρ h H ds vs Q E w rs p => by
 unfold pA at p
 split at p
 ·cases
     rs with
  |
   cons r rs =>
   cases rs
   split at p
   ·rename_i xs e
    obtain ⟨pa, vs, rfl, hq, rs⟩ := d4 w r e
    exact .inl ⟨_, _, rfl, hq, by rw [<- rs.len]; exact aL w (.int _) p⟩
   ·split at p
    ·cases r
     split at p
     ·rename_i hl; exact .inr ⟨_, rfl, hl, aL w (.int _) p⟩
     ·exact p.elim
    ·exact p.elim
 ·exact p.elim
theorem fA (h : X.K = K) : CallR X (.builtin "len") (fun xs H Q => (∃ p ys, xs = [.ref p] /\ (SqL K H p ys \/ SqT K H p ys) /\ Q (.int ys.length) H) \/ (∃ z, xs = [.str z] /\ z.length <= sizeLine /\ Q (.int z.length) H)) := by subst h; exact oO.or o8
theorem B8 : bC K mg (fun xs H Q => ∃ i, xs = [.int i] /\ Q (.int (if i < 0 then -i else i)) H) sy := fun ρ h H ds vs Q E w rs p => by
 unfold sy at p
 split at p
 ·cases rs with
  | cons r rs => cases r; cases rs; exact ⟨_, rfl, aL w (.int _) p⟩
 ·exact p.elim
theorem yu : bC K mg (fun xs H Q => ∃ i j, xs = [.int i, .int j] /\ Q (.int (if j > i then j else i)) H) nC := fun ρ h H ds vs Q E w rs p => by
 unfold nC at p
 split at p
 ·cases rs with
  | cons r rs => cases rs with | cons r2 rs => cases r; cases r2; cases rs; exact ⟨_, _, rfl, aL w (.int _) p⟩
 ·exact p.elim
theorem yL : bC K mg (fun xs H Q => ∃ i j, xs = [.int i, .int j] /\ Q (.int (if j < i then j else i)) H) nB := fun ρ h H ds vs Q E w rs p => by
 unfold nB at p
 split at p
 ·cases rs with
  | cons r rs => cases rs with | cons r2 rs => cases r; cases r2; cases rs; exact ⟨_, _, rfl, aL w (.int _) p⟩
 ·exact p.elim
theorem
    Cg : bC K mg (fun xs H Q => ∃ (a : Addr) (bs : List Bool), xs = [.ref a] /\ SqL K H a (bs.map V.bl) /\ Q (.bl (bs.all id)) H) pq := fun ρ h H ds vs Q E w rs p => by
 unfold pq at p
 split at p
 ·cases
     rs with
  |
   cons r rs =>
   cases r with
   |
    ref ea =>
    cases rs
    split at p
    ·rename_i bs e
     obtain ⟨xs, q, e2⟩ := Option.bind_eq_some_iff.mp e
     ·obtain ⟨vs, h1, h2⟩ := bK w ea q
      rw [pH e2] at h2
      rw [h2.bls] at h1
      exact ⟨_, bs, rfl, h1, aL w (.bl _) p⟩
    ·exact p.elim
 ·exact p.elim
theorem
    CB : bC K mg (fun xs H Q => ∃ (a : Addr) (ns : List Int), xs = [.ref a] /\ SqL K H a (ns.map V.int) /\ Q (.int ns.sum) H) pj := fun ρ h H ds vs Q E w rs p => by
 unfold pj at p
 split at p
 ·cases
     rs with
  |
   cons r rs =>
   cases r with
   |
    ref ea =>
    cases rs
    split at p
    ·rename_i bs e
     obtain ⟨xs, q, e2⟩ := Option.bind_eq_some_iff.mp e
     ·obtain ⟨vs, h1, h2⟩ := bK w ea q
      rw [m9 e2] at h2
      rw [h2.ints] at h1
      exact ⟨_, bs, rfl, h1, aL w (.int _) p⟩
    ·exact p.elim
 ·exact p.elim
theorem
    xO : bC K mg (fun xs H Q => ∃ p ys, xs = [.ref p] /\ (SqL K H p ys \/ SqT K H p ys) /\ ∀ l, H l = none -> Q (.ref l) (upd H l (.lst ys))) lb := fun ρ h H ds vs Q E w rs p => by
 unfold lb at p
 split at p
 ·cases rs with
  |
   cons r rs =>
   cases rs
   split at p
   ·rename_i xs e
    obtain ⟨pa, vs, rfl, hq, rs⟩ := d4 w r e
    exact ⟨_, _, rfl, hq, fun l hl => gR w rs hl p⟩
   ·exact p.elim
 ·exact p.elim
theorem
    wG : bC K mg (fun xs H Q => ∃ p ys, xs = [.ref p] /\ ((SqL K H p ys /\ ∀ l, H l = none -> Q (.ref l) (upd H l (.tup ys))) \/ (SqT K H p ys /\ Q (.ref p) H))) j3 := fun ρ h H ds vs Q E w rs p => by
 unfold j3 at p
 split at p
 ·cases rs with
  |
   cons r rs =>
   cases rs
   split at p
   ·rename_i xs e
    obtain ⟨pa, vs, rfl, hq, rs⟩ := d4 w r e
    rcases hq with hq | hq
    ·exact ⟨_, _, rfl, .inl ⟨hq, fun l hl => ja w rs hl p⟩⟩
    ·exact ⟨_, _, rfl, .inr ⟨hq, aL w (.tup hq rs) p⟩⟩
   ·exact p.elim
 ·exact p.elim
theorem AK : bC K mg (fun xs H Q => (∃ i, xs = [.int i] /\ Q (.int i) H) \/ ∃ k, xs = [.bl k] /\ Q (.int (if k then 1 else 0)) H) sA := fun ρ h H ds vs Q E w rs p => by
 unfold sA at p
 split at p
 ·cases rs with
  | cons r rs => cases r; cases rs; exact .inl ⟨_, rfl, aL w (.int _) p⟩
 ·cases rs with
  | cons r rs => cases r; cases rs; exact .inr ⟨_, rfl, aL w (.int _) p⟩
 ·exact p.elim
theorem zS (h : X.K = K) : CallR X (.type "list") (fun xs H Q => ∃ p ys, xs = [.ref p] /\ (SqL K H p ys \/ SqT K H p ys) /\ ∀ l, H l = none -> Q (.ref l) (upd H l (.lst ys))) := by subst h; exact nU
theorem xN (h : X.K = K) : CallR X (.type "tuple") (fun xs H Q => ∃ p ys, xs = [.ref p] /\ ((SqL K H p ys /\ ∀ l, H l = none -> Q (.ref l) (upd H l (.tup ys))) \/ (SqT K H p ys /\ Q (.ref p) H))) := by subst h; exact nj
end
inductive Cl where
 | b (n : String) | o (x : Str)
 deriving DecidableEq
noncomputable def tyD (h : AH) : D -> Option Cl
 | .non => some (.b "NoneType")
 | .bl _ => some (.b "bool")
 | .int _ => some (.b "int")
 | .str _ => some (.b "str")
 | .tup _ => some (.b "tuple")
 | .exc x => some (.o x)
 | .ref n => match h[n]? with
  | some (.lst _) => some (.b "list")
  | some (.fz _) => some (.b "list")
  | some (.dct _) => some (.b "dict")
  | _ => none
 | _ => none
noncomputable def clD : D -> Option Cl
 | .ty n => some (.b n)
 | .glb x => some (.o x)
 | _ => none
noncomputable def ClV (mg : Str -> Option Value) : Cl -> Value -> Prop
 | .b n, v => v = .type n
 | .o x, v => ∃ a, v = .ref a /\ mg x = some (.ref a)
abbrev eI := List (Cl × Cl × Bool)
structure KitsOk (K : PySem.W.Frag) (mg : Str -> Option Value) (kt : eI) : Prop where
 one : ∀ p ∈ kt, ∀ t v, ClV mg p.1 t -> ClV mg p.2.1 v -> PySem.W.kitOne K t v = some p.2.2
 xc : ∀ p ∈ kt, ∀ x C, p.1 = .o x -> mg x = some (.ref C) -> XCls K C
noncomputable def kit (kt : eI) (t c : Cl) : Option Bool := (kt.find? fun p => decide (p.1 = t) && decide (p.2.1 = c)).map (·.2.2)
noncomputable def fc (kt : eI) (t : Cl) : List Cl -> Option Bool
 | [] => some false
 | c :: r => match kit kt t c with
  | some true => some true
  | some false => fc kt t r
  | none => none
noncomputable def pb (kt : eI) : Fn := fun ds h => match ds with
 | [d, c] => match tyD h d with
  | some t => match c with
   | .tup cs => match cs.mapM clD with
    | some (c0 :: cr) => match fc kt t (c0 :: cr), kit kt t c0 with
     | some b, some _ => .ok (.bl b) h
     | _, _ => .stuck
    | _ => .stuck
   | c => match clD c with
    | some cl => match kit kt t cl with
     | some b => .ok (.bl b) h
     | none => .stuck
    | none => .stuck
  | none => .stuck
 | _ => .stuck
theorem md {kt : eI} {t c : Cl} {b : Bool} (e : kit kt t c = some b) : (t, c, b) ∈ kt := by
 unfold kit at e
 cases q : kt.find? (fun p => decide (p.1 = t) && decide (p.2.1 = c)) with
 | none => rw [q] at e; cases e
 |
  some p =>
  rw [q] at e
  have h1 := List.find?_some q
  have h2 := List.mem_of_find?_eq_some q
  simp only [Bool.and_eq_true, decide_eq_true_eq] at h1
  obtain ⟨p1, p2, p3⟩ := p
  have e3 : p3 = b := Option.some.inj e
  obtain ⟨rfl, rfl⟩ := h1
  subst e3
  exact h2
section
variable {K : PySem.W.Frag} {mg : Str -> Option Value} {X : Cx} {ρ : List Addr} {H : Hp} {h : AH}
theorem qe {kt : eI} (ok : KitsOk K mg kt) (w : Wd K mg ρ h H) {d : D} {v : V} {t c : Cl} {b : Bool} (r : RelD K mg ρ H d v) (e : tyD h d = some t) (k : kit kt t c = some b) : ∃ tv, TyX K H v tv /\ ClV mg t tv := by
 cases r with
 | non => cases e; exact ⟨_, .of .non, rfl⟩
 | bl => cases e; exact ⟨_, .of (.bl _), rfl⟩
 | int => cases e; exact ⟨_, .of (.int _), rfl⟩
 | str => cases e; exact ⟨_, .of (.str _), rfl⟩
 | tup q rs => cases e; exact ⟨_, .sqT q, rfl⟩
 |
  exc m ex =>
  cases e
  exact ⟨_, .exc ex (ok.xc _ (md k) _ _ rfl m), _, rfl, m⟩
 |
  ref ea =>
  unfold tyD at e
  dsimp only at e
  split at e
  ·rename_i e1; cases e; obtain ⟨vs, h1, h2⟩ := w.ob _ _ _ ea e1; exact ⟨_, .of (.lst h1), rfl⟩
  ·rename_i e1; cases e; obtain ⟨o, vs, h1, h2⟩ := w.ob _ _ _ ea e1; exact ⟨_, .of (.frz h1), rfl⟩
  ·rename_i e1; cases e; obtain ⟨ws, h1, _⟩ := w.ob _ _ _ ea e1; exact ⟨_, .of (.dK h1), rfl⟩
  ·cases e
 | _ => cases e
theorem qt {d : D} {v : V} {c : Cl} (r : RelD K mg ρ H d v) (e : clD d = some c) : ∃ cv, eW v = some cv /\ ClV mg c cv := by
 cases r with
 | ty n => cases e; exact ⟨_, rfl, rfl⟩
 | glb m => cases e; exact ⟨_, rfl, _, rfl, m⟩
 | _ => cases e
theorem
    uI : ∀ {ds : List D} {vs : List V} {cs : List Cl}, RelDs K mg ρ H ds vs -> ds.mapM clD = some cs -> ∃ cvs, vs.mapM eW = some cvs /\ Paired (ClV mg) cs cvs := by
 intro ds
 induction ds with
 |
  nil =>
  intro vs cs r e
  cases r
  have e' : some ([] : List Cl) = some cs := e
  cases e'; exact ⟨[], rfl, .nil⟩
 |
  cons d ds ih =>
  intro vs cs r e
  cases r with
  |
   cons r rr =>
   rw [List.mapM_cons] at e
   cases q : clD d with
   | none => rw [q] at e; cases e
   |
    some c =>
    rw [q] at e
    cases q2 : ds.mapM clD with
    | none => rw [q2] at e; cases e
    |
     some cs' =>
     rw [q2] at e
     have e' : some (c :: cs') = some cs := e
     cases e'
     obtain ⟨cv, h1, h2⟩ := qt r q
     obtain ⟨cvs, h3, h4⟩ := ih rr q2
     refine ⟨cv :: cvs, ?_, .cons h2 h4⟩
     rw [List.mapM_cons, h1, h3]; rfl
theorem
    ui {kt : eI} (ok : KitsOk K mg kt) {t : Cl} {tv : Value} (ht : ClV mg t tv) : ∀ {cs : List Cl} {cvs : List Value} {b : Bool}, Paired (ClV mg) cs cvs -> fc kt t cs = some b -> PySem.W.kitAny K tv cvs = some b := by
 intro cs
 induction cs with
 |
  nil =>
  intro cvs b r e
  cases r
  cases e; rfl
 |
  cons c cs ih =>
  intro cvs b r e
  cases r with
  |
   cons r rr =>
   unfold fc at e
   unfold PySem.W.kitAny
   cases q : kit kt t c with
   | none => rw [q] at e; cases e
   |
    some z =>
    rw [q] at e
    rw [ok.one _ (md q) _ _ ht r]
    cases z with
    | true => exact e
    | false => exact ih rr e
theorem ue : CallR X (.builtin "isinstance") (fun xs H Q => ∃ x tp cs t vs b, xs = [x, .ref tp] /\ SqT X.K H tp cs /\ TyX X.K H x t /\ cs.mapM eW = some vs /\ PySem.W.kitAny X.K t vs = some b /\ Q (.bl b) H) := by
 intro pins s σ H xs us Q I r h
 obtain ⟨x, tp, cs, t, vs, b, rfl, ht, ty, hc, hk, q⟩ := h
 obtain ⟨u, w', rfl, rx, rc⟩ := nH r
 cases rc
 obtain ⟨its, rv, ⟨o, e, c, n, d⟩, _⟩ := I.tuple ht
 obtain rfl := mT hc rv
 obtain ⟨Hh, Z, p, hne⟩ := qp I rx ty
 obtain ⟨oc, od, odt, osl⟩ := o
 have c' : oc = .type "tuple" := c
 have d' : odt = .seq its.toArray n := d
 subst c' d'
 exact PySem.W.kia_tup Z I.kIn p e hk hne fun tk => ⟨.bl b, H, I.tok _, rfl, q⟩
theorem dP (hK : X.K = K) : CallR X (.builtin "isinstance") (fun xs H Q => (∃ x c t v b, xs = [x, c] /\ TyX K H x t /\ eW c = some v /\ PySem.W.kitOne K t v = some b /\ Q (.bl b) H) \/
  (∃ x tp cs t vs b, xs = [x, .ref tp] /\ SqT K H tp cs /\ TyX K H x t /\ cs.mapM eW = some vs /\ PySem.W.kitAny K t vs = some b /\ Q (.bl b) H)) := by subst hK; exact vD.or ue
theorem
    A6 {kt : eI} (ok : KitsOk K mg kt) : bC K mg (fun xs H Q => (∃ x c t v b, xs = [x, c] /\ TyX K H x t /\ eW c = some v /\ PySem.W.kitOne K t v = some b /\ Q (.bl b) H) \/
  (∃ x tp cs t vs b, xs = [x, .ref tp] /\ SqT K H tp cs /\ TyX K H x t /\ cs.mapM eW = some vs /\ PySem.W.kitAny K t vs = some b /\ Q (.bl b) H)) (pb kt) := fun ρ h H ds vs Q E w rs p => by
 unfold pb at p
 split at p
 ·cases
     rs with
  |
   cons r rs =>
   cases rs with
   |
    cons r2 rs =>
    cases rs
    split at p
    ·rename_i t e1
     split at p
     ·split
         at p
      ·rename_i cs c0 cr e2
       split at p
       ·rename_i b b' e3 e4
        cases r2 with
        |
         tup q rs2 =>
         obtain ⟨tv, h1, h2⟩ := qe ok w r e1 e4
         obtain ⟨cvs, h3, h4⟩ := uI rs2 e2
         exact .inr ⟨_, _, _, tv, cvs, b, rfl, q, h1, h3, ui ok h2 h4 e3, aL w (.bl _) p⟩
       ·exact p.elim
      ·exact p.elim
     ·split at p
      ·rename_i cl e2
       split at p
       ·rename_i b e3
        obtain ⟨tv, h1, h2⟩ := qe ok w r e1 e3
        obtain ⟨cv, h3, h4⟩ := qt r2 e2
        exact .inl ⟨_, _, tv, cv, b, rfl, h1, h3, ok.one _ (md e3) _ _ h2 h4, aL w (.bl _) p⟩
       ·exact p.elim
      ·exact p.elim
    ·exact p.elim
 ·exact p.elim
end
end L2
set_option Elab.async false
set_option linter.all false
set_option maxRecDepth 100000
namespace L2
open PySem PySem.Spec PyProof.Rows
noncomputable def MtD (K : PySem.W.Frag) (mg : Str -> Option Value) (r : V -> List V -> Hp -> VK -> Prop) (g : D -> List D -> AH -> R D) : Prop := ∀ ρ h H dx ds x vs Q E, Wd K mg ρ h H -> RelD K mg ρ H dx x -> RelDs K mg ρ H ds vs -> fB K mg ρ H Q E (g dx ds h) -> r x vs H Q
noncomputable def lg (h : AH) : D -> Bool
 | .ref n => (bq h n).isSome
 | _ => false
noncomputable def eM (g : D -> List D -> AH -> R D) (F : ME) (A : MA) : ME := fun ae h => (F ae h).bind fun x h1 => if lg h1 x = true then (A ae h1).bind fun ds h2 => g x ds h2 else .stuck
section
variable {K : PySem.W.Frag} {mg : Str -> Option Value} {X : Cx} {ES : St -> XK} {o e : Expr} {es : List Expr} {F G : ME} {A : MA} {pos : Pos}
theorem um {ρ : List Addr} {H : Hp} {h : AH} {d : D} {v : V} (w : Wd K mg ρ h H) (r : RelD K mg ρ H d v) (q : lg h d = true) : tyV K "list" v H := by
 cases r with
 |
  ref ea =>
  obtain ⟨xs, e⟩ := Option.isSome_iff_exists.mp q
  obtain ⟨vs, h1, _⟩ := bK w ea e
  exact .inl ⟨rfl, vs, h1⟩
 | _ => cases q
theorem de_m {name : Str} {id : String} {apos cpos : Pos} {r : V -> List V -> Hp -> VK -> Prop} {g : D -> List D -> AH -> R D} (hK : X.K = K) (slot : Slot "list" name id) (hty : typeOf (.builtin id) = pure (.type "method_descriptor")) (hm : MtM X id r) (hd : MtD K mg r g) (ho : DE K mg X ES o F) (ha : DA K mg X ES (e :: es) A)
  (hbase : attributeBase o name X.env (eval o X.env) = eval o X.env := by rfl)
  (hfew : ((backTo cpos (starEach (e :: es) X.env)).all (fun x => !x.1) && (backToKw cpos (keywordEach [] X.env)).all (fun x => x.1.isSome)
   && decide ((e :: es).length + ([] : List Keyword).length + (if ([] : List Keyword).isEmpty then 0 else 1) < 30)) = true := by rfl)
  (hline : (apos.endLine == cpos.line) = true := by rfl) (hs : starEach (e :: es) X.env = (false, eval e X.env) :: starEach es X.env := by rfl) (hplain : (backTo cpos (starEach es X.env)).any (·.1) = false := by rfl) :
  DE K mg X ES (.Call (.Attribute o name apos) (e :: es) [] cpos) (eM g F A) := by
 subst hK
 refine PE.imp (EK PySem.F.plainAttrs_list slot hty hm ho ha hbase hfew hline hs hplain) fun σ H Q q_ => q_.el fun ρ h ae w re p => ⟨ρ, h, ae, w, re, p.bind.imp fun dx h1 ρ1 H1 l1 w1 p1 x rx => ?_⟩
 split at p1
 ·rename_i hl
  exact ⟨um w1 rx hl, ρ1, h1, ae, w1, re.mono l1, p1.bind.imp fun ds h2 ρ2 H2 l2 w2 p2 vs rs => hd ρ2 h2 H2 dx ds x vs Q _ w2 (rx.mono l2) rs p2⟩
 ·exact p1.elim
end
noncomputable def wX (h : AH) (d : D) (f : Nat -> List D -> R D) : R D := match d with
 | .ref n => match h[n]? with
  | some (.lst xs) => f n xs
  | _ => .stuck
 | _ => .stuck
noncomputable def eQ (h : AH) (d : D) : List D -> Option (List Bool)
 | [] => some []
 | x :: r => match jH h x d, eQ h d r with
  | some b, some bs => some (b :: bs)
  | _, _ => none
noncomputable def jK : D -> List D -> AH -> R D := fun x ds h => match x, ds with
 | .ref n, [d] => match (bq h n).bind (eQ h d) with
  | some bs => if bs.idxOf true < bs.length then .ok (.int (bs.idxOf true : Nat)) h else .stuck
  | none => .stuck
 | _, _ => .stuck
noncomputable def lp : D -> List D -> AH -> R D := fun x ds h => match x, ds with
 | .ref n, [d] => match (bq h n).bind (eQ h d) with
  | some bs => .ok (.int (bs.count true : Nat)) h
  | none => .stuck
 | _, _ => .stuck
section
variable {K : PySem.W.Frag} {mg : Str -> Option Value} {X : Cx} {ρ : List Addr} {H : Hp} {h : AH}
inductive EqsR (K : PySem.W.Frag) (H : Hp) (y : V) (pd : PyData) : List V -> List Bool -> Prop where
 | nil : EqsR K H y pd [] []
 | cons {x : V} {px : PyData} {xs : List V} {bs : List Bool} (rx : Rep K H x px) (hx : SeqAt.shaped px = true) (r : EqsR K H y pd xs bs) : EqsR K H y pd (x :: xs) (PyData.eqv px pd :: bs)
noncomputable def rEqs (K : PySem.W.Frag) (H : Hp) (l : Addr) (y : V) (bs : List Bool) : Prop := ∃ xs pd, SqL K H l xs /\ Rep K H y pd /\ SeqAt.shaped pd = true /\ EqsR K H y pd xs bs
theorem
    qx (w : Wd K mg ρ h H) {d : D} {y : V} {pd : PyData} (ry : RelD K mg ρ H d y) (es : cx 64 h d = some pd) : ∀ {xs : List D} {vs : List V} {bs : List Bool}, RelDs K mg ρ H xs vs -> eQ h d xs = some bs -> EqsR K H y pd vs bs := by
 intro xs
 induction xs with
 |
  nil =>
  intro vs bs r e
  cases r
  have e' : some ([] : List Bool) = some bs := e
  cases e'; exact .nil
 |
  cons x xs ih =>
  intro vs bs r e
  cases r with
  |
   cons r rr =>
   unfold eQ at e
   split at e
   ·rename_i b bs' e1 e2
    cases e
    unfold jH at e1
    rw [es] at e1
    split at e1
    ·rename_i a c e3 e4
     cases e4
     split at e1
     ·rename_i hs
      cases e1
      exact .cons (eE w 64 r e3) hs.1 (ih rr e2)
     ·cases e1
    ·cases e1
   ·cases e
theorem
    uV {d : D} : ∀ {xs : List D} {bs : List Bool}, eQ h d xs = some bs -> xs = [] \/ ∃ pd, cx 64 h d = some pd /\ SeqAt.shaped pd = true
 | [], _, _ => .inl rfl
 |
  x :: xs, bs, e => by
  right
  unfold eQ at e
  split at e
  ·rename_i b bs' e1 e2
   unfold jH at e1
   split at e1
   ·rename_i a c e3 e4
    split at e1
    ·rename_i hs; exact ⟨c, e4, hs.2⟩
    ·cases e1
   ·cases e1
  ·cases e
theorem
    oH {pins : List (Addr × Obj)} {σ : St} {s : Shared} {y : V} {pd : PyData} {v : Value} (I : Inv X pins σ H s) (hu : X.A.units + 100 < cLine) (ry : Rep X.K H y pd) (rv : RelV y v) (hy : SeqAt.shaped pd = true) : ∃ e : Value -> Bool, ∀ {xs : List V} {bs : List Bool} {its : List Value}, EqsR X.K H y pd xs bs -> Vals xs its -> its.map e = bs /\ ∀ u ∈ its, SeqAt.EqAt X.A.in1 s u v (e u) := by
 classical
 obtain ⟨as, q1⟩ := ry.reads I rv
 refine ⟨fun u => if q : ∃ d as, Reads s.heap u d as /\ SeqAt.shaped d = true then PyData.eqv q.choose pd else false, fun {xs bs its} r rr => ?_⟩
 induction r generalizing its with
 | nil => cases rr; exact ⟨rfl, fun u hu => nomatch hu⟩
 |
  cons rx hx r ih =>
  rename_i x px xs bs
  cases rr with
  |
   cons r1 rr =>
   rename_i u us
   obtain ⟨ih1, ih2⟩ := ih rr
   obtain ⟨as1, q2⟩ := rx.reads I r1
   have hq : ∃ d as, Reads s.heap u d as /\ SeqAt.shaped d = true := ⟨px, as1, q2, hx⟩
   have e1 : (if q : ∃ d as, Reads s.heap u d as /\ SeqAt.shaped d = true then PyData.eqv q.choose pd else false) = PyData.eqv px pd := by
    rw [dif_pos hq]
    obtain ⟨as2, q3, hs3⟩ := hq.choose_spec
    have := SeqAt.Reads.unique px hq.choose u _ _ (SeqAt.canLay_of_shaped hx) q2 q3
    rw [<- this]
   refine ⟨by rw [List.map_cons, ih1, e1], fun w hw => ?_⟩
   rcases List.mem_cons.mp hw with rfl | hw
   ·dsimp only
    rw [e1]
    exact SeqAt.eqAt_reads px pd X.A.in1 s _ _ _ _ q2 q1 (SeqAt.canLay_of_shaped hx) (SeqAt.canLay_of_shaped hy) (SeqAt.room_of_shaped hx (by
     have : X.A.in1.units = X.A.units + 1 := rfl
     rw [this]; omega))
   ·exact ih2 w hw
noncomputable def j7 (K : PySem.W.Frag) : V -> List V -> Hp -> VK -> Prop := fun x vs H Q => ∃ l y bs, x = .ref l /\ vs = [y] /\ rEqs K H l y bs /\ bs.idxOf true < bs.length /\ Q (.int (bs.idxOf true : Nat)) H
noncomputable def iF (K : PySem.W.Frag) : V -> List V -> Hp -> VK -> Prop := fun x vs H Q => ∃ l y bs, x = .ref l /\ vs = [y] /\ rEqs K H l y bs /\ Q (.int (bs.count true : Nat)) H
theorem EqsR.len {y : V} {pd : PyData} {xs : List V} {bs : List Bool} (r : EqsR K H y pd xs bs) : xs.length = bs.length := by
 induction r with
 | nil => rfl
 | cons _ _ _ ih => rw [List.length_cons, List.length_cons, ih]
theorem
    wO (hu : X.A.units + 100 < cLine) : MtM X "list.index" (j7 X.K) := by
 intro pins s σ H x vs v us Q I rx rv h
 obtain ⟨l, y, bs, rfl, rfl, ⟨xs, pd, hq, ry, hy, re⟩, hi, q⟩ := h
 cases rx
 obtain ⟨u, rfl, ru⟩ := rv.one
 obtain ⟨e, he⟩ := oH I hu ry ru hy
 obtain ⟨its, r, ⟨o, n, eo, hc, hd, hs⟩, hz⟩ := I.list hq
 obtain ⟨m1, m2⟩ := he re r
 have hlen := r.length
 have hbl := re.len
 have hn := gw
 have hj : bs.idxOf true < its.toArray.size := by rw [List.size_toArray]; omega
 have eo' : s.heap.get? l = some { cls := .type "list", dict := o.dict, data := .seq its.toArray n, slots := o.slots } := by
  rw [eo]
  obtain ⟨oc, od, odt, osl⟩ := o
  have h1 : oc = .type "list" := hc
  have h2 : odt = .seq its.toArray n := hs
  subst h1 h2
  rfl
 have em : ∀ (m : Nat) (hm : m < its.toArray.size), bs[m]? = some (e its.toArray[m]) := fun m hm => by
  rw [<- m1, List.getElem?_map]
  have : its[m]? = some its.toArray[m] := by
   rw [List.getElem?_eq_getElem (by simpa using hm)]
   rfl
  rw [this]; rfl
 refine call_meets PySem.F.slot_list_index ⟨_, eo', rfl⟩ PySem.F.entry_list_index (PySem.F.args_list_index_2 _ _)
  (SeqAt.list_indexAt l its.toArray n o.dict o.slots u e (bs.idxOf true) hj (by omega) ?_ ?_) ⟨eo', fun w hw => m2 w (by simpa using hw), ?_⟩
 ·have := em _ hj
  rw [List.getElem?_eq_getElem hi, List.getElem_idxOf] at this
  exact (Option.some.inj this).symm
 ·intro m
      hm hlt
  have := em m hm
  have hb : m < bs.length := by omega
  rw [List.getElem?_eq_getElem hb] at this
  have h3
      : bs[m] ≠ true := fun z => by
   have h4 : bs.idxOf true <= m := by
    have := List.idxOf_lt_length_iff (l := bs) (a := true)
    rcases Nat.lt_or_ge m (bs.idxOf true) with z' | z'
    ·exact absurd z (by
      have h5 := List.not_of_lt_findIdx (xs := bs) (p := (· == true)) (i := m) z'
      simpa using h5)
    ·exact z'
   omega
  have h4 : e its.toArray[m] = bs[m] := (Option.some.inj this).symm
  rw [h4]
  exact Bool.eq_false_iff.mpr h3
 ·exact ⟨.int _, H, I.tok _, ⟨_, rfl⟩, q⟩
theorem vS (hu : X.A.units + 100 < cLine) : MtM X "list.count" (iF X.K) := by
 intro pins s σ H x vs v us Q I rx rv h
 obtain ⟨l, y, bs, rfl, rfl, ⟨xs, pd, hq, ry, hy, re⟩, q⟩ := h
 cases rx
 obtain ⟨u, rfl, ru⟩ := rv.one
 obtain ⟨e, he⟩ := oH I hu ry ru hy
 obtain ⟨its, r, ⟨o, n, eo, hc, hd, hs⟩, hz⟩ := I.list hq
 obtain ⟨m1, m2⟩ := he re r
 have eo' : s.heap.get? l = some { cls := .type "list", dict := o.dict, data := .seq its.toArray n, slots := o.slots } := by
  rw [eo]
  obtain ⟨oc, od, odt, osl⟩ := o
  have h1 : oc = .type "list" := hc
  have h2 : odt = .seq its.toArray n := hs
  subst h1 h2
  rfl
 refine call_meets PySem.F.slot_list_count ⟨_, eo', rfl⟩ PySem.F.entry_list_count (PySem.F.args_list_count_2 _ _)
  (SeqAt.list_countAt l its.toArray n o.dict o.slots u e) ⟨eo', fun w hw => m2 w (by simpa using hw), ?_⟩
 have ec : its.countP e = bs.count true := by
  rw [<- m1, List.count, List.countP_map]
  congr 1
  funext w
  simp
 have ec' : its.toArray.toList.countP e = bs.count true := ec
 rw [ec']
 exact ⟨.int _, H, I.tok _, ⟨_, rfl⟩, q⟩
theorem
    uF : MtD K mg (j7 K) jK := fun ρ h H dx ds x vs Q E w rx rs p => by
 unfold jK at p
 split at p
 ·cases
     rx with
  |
   ref ea =>
   cases rs with
   |
    cons r rs =>
    cases rs
    split at p
    ·rename_i bs e
     split at p
     ·rename_i hl
      obtain ⟨xs, q, e2⟩ := Option.bind_eq_some_iff.mp e
      obtain ⟨vs, h1, h2⟩ := bK w ea q
      rcases uV e2 with rfl | ⟨pd, h3, h4⟩
      ·have e3 : some ([] : List Bool) = some bs := e2
       cases e3
       exact absurd hl (by simp)
      ·exact ⟨_, _, bs, rfl, rfl, ⟨vs, pd, h1, eE w 64 r h3, h4, qx w r h3 h2 e2⟩, hl, aL w (.int _) p⟩
     ·exact p.elim
    ·exact p.elim
 ·exact p.elim
theorem
    vx : MtD K mg (iF K) (fun x ds h => match ds with | [d] => if (cx 64 h d).isSome = true /\ ((cx 64 h d).map SeqAt.shaped) = some true then lp x ds h else .stuck | _ => .stuck) := fun ρ h H dx ds x vs Q E w rx rs p => by
 dsimp only at p
 split at p
 ·split
     at p
  ·rename_i d hs
   obtain ⟨pd, h3⟩ := Option.isSome_iff_exists.mp hs.1
   have h4 : SeqAt.shaped pd = true := by
    have := hs.2
    rw [h3] at this
    exact Option.some.inj this
   unfold lp at p
   split at p
   ·rename_i ed
    cases ed
    cases rx with
    |
     ref ea =>
     cases rs with
     |
      cons r rs =>
      cases rs
      split at p
      ·rename_i bs e
       obtain ⟨xs, q, e2⟩ := Option.bind_eq_some_iff.mp e
       obtain ⟨vs, h1, h2⟩ := bK w ea q
       exact ⟨_, _, bs, rfl, rfl, ⟨vs, pd, h1, eE w 64 r h3, h4, qx w r h3 h2 e2⟩, aL w (.int _) p⟩
      ·exact p.elim
   ·exact p.elim
  ·exact p.elim
 ·exact p.elim
theorem zK (h : X.K = K) (hu : X.A.units + 100 < cLine) : MtM X "list.index" (j7 K) := by subst h; exact wO hu
theorem zX (h : X.K = K) (hu : X.A.units + 100 < cLine) : MtM X "list.count" (iF K) := by subst h; exact vS hu
theorem Room.u100 {k : Nat} {A : Around} (r : Room k A) : A.units + 100 < cLine := by have := r.un; omega
end
noncomputable def wL (o i v : D) (h : AH) : R Unit := match o, i with
 | .ref n, .int k => match h[n]? with
  | some (.lst xs) => match ixN xs.length k with
   | some j => .ok () (h.set n (.lst (xs.set j v)))
   | none => .stuck
  | _ => .stuck
 | _, _ => .stuck
section
variable {K : PySem.W.Frag} {mg : Str -> Option Value} {X : Cx} {ES : St -> XK} {o i : Expr} {F G : ME} {pos : Pos}
theorem
    xM : qT K mg qU wL := fun ρ h H do_ di dv o i v Q E w ro ri rv p => by
 unfold wL at p
 split at p
 ·cases
     ro with
  |
   ref ea =>
   cases ri
   split at p
   ·rename_i n k xs e
    split at p
    ·rename_i j ej
     obtain ⟨vs, h1, h2⟩ := w.ob _ _ _ ea e
     have l : Le ρ H ρ (upd H _ (.lst (vs.set j v))) := xt h1 xm
     exact ⟨_, vs, _, j, rfl, rfl, h1, by rw [<- h2.len]; exact ej, p ρ _ l (w.write ea h1 xm ⟨_, cK, (h2.set rv j).mono l⟩)⟩
    ·exact p.elim
   ·exact p.elim
 ·exact p.elim
theorem Cu {t : lZ} {f : D -> D -> D -> AH -> R Unit} (ho : DE K mg X ES o F) (hi : DE K mg X ES i G) (hs : so X t) (hd : qT K mg t f)
  (ha : ∀ v, assign (.Subscript o i pos) X.env v = (do
   let ov <- holding [v] (eval o X.env)
   let iv <- holding [v, ov] (eval i X.env)
   standAt pos
   holding [v, ov, iv] (setItem ov iv v)
   release [v, ov, iv] []) := by intro _; rfl) : DG K mg X ES (.Subscript o i pos) (gS F G f) :=
 PG.imp (Ap ho hi hs ha) fun v σ H Q q_ => q_.el fun ρ h ae d w re rd p =>
  ⟨ρ, h, ae, w, re, p.bind.imp fun do_ h1 ρ1 H1 l1 w1 p1 o' ro => ⟨ρ1, h1, ae, w1, re.mono l1, p1.bind.imp fun di h2 ρ2 H2 l2 w2 p2 i' ri =>
   hd ρ2 h2 H2 do_ di d o' i' v _ _ w2 (ro.mono l2) ri ((rd.mono l1).mono l2) (p2.bind.imp fun _ h3 ρ3 H3 l3 w3 p3 => p3 ρ3 H3 Le.refl w3 σ (((re.mono l1).mono l2).mono l3))⟩⟩
end
noncomputable def cutD (xs : List D) (lo hi : Option Int) : List D := (xs.drop (HT.sIx xs.length 0 lo)).take (HT.sIx xs.length xs.length hi - HT.sIx xs.length 0 lo)
abbrev MO := AE -> AH -> R (Option Int)
noncomputable def rq : MO := fun _ h => .ok none h
noncomputable def rQ (F : ME) : MO := fun ae h => (F ae h).bind fun d h1 => match d with
 | .int i => .ok (some i) h1
 | _ => .stuck
noncomputable def gSl (x : D) (lo hi : Option Int) (h : AH) : R D := match x with
 | .tup xs => if HT.sIx xs.length 0 lo = 0 /\ HT.sIx xs.length xs.length hi = xs.length then .stuck else .ok (.tup (cutD xs lo hi)) h
 | .ref n => match bq h n with
  | some xs => .ok (.ref h.length) (h ++ [.lst (cutD xs lo hi)])
  | none => .stuck
 | _ => .stuck
noncomputable def eSl (F : ME) (L U : MO) : ME := fun ae h => (F ae h).bind fun x h1 => (L ae h1).bind fun lo h2 => (U ae h2).bind fun hi h3 => gSl x lo hi h3
section
variable {K : PySem.W.Frag} {mg : Str -> Option Value} {X : Cx} {ES : St -> XK} {e : Expr} {F : ME} {L U : MO} {lo hi : Option Expr} {pos p2 : Pos}
noncomputable def rdO (K : PySem.W.Frag) (mg : Str -> Option Value) (ES : St -> XK) (F : MO) : TO := fun σ H Q => ∃ ρ h ae, Wd K mg ρ h H /\ RelE K mg ρ H ae σ /\ PostG K mg ρ H (ES σ) (fun o _ ρ' H' => Q o H') (F ae h)
noncomputable def DO (K : PySem.W.Frag) (mg : Str -> Option Value) (X : Cx) (ES : St -> XK) (e : Option Expr) (F : MO) : Prop := PO X e (rdO K mg ES F)
theorem yJ : DO K mg X ES none rq := PO.imp zp fun σ H Q ⟨ρ, h, ae, w, re, p⟩ => p ρ H Le.refl w
theorem xP (he : DE K mg X ES e F) : DO K mg X ES (some e) (rQ F) := PO.imp (yX he) fun σ H Q ⟨ρ, h, ae, w, re, p⟩ => ⟨ρ, h, ae, w, re, p.bind.imp fun d h1 ρ1 H1 l1 w1 p1 v rv => by
 split at p1
 ·cases rv; exact ⟨_, rfl, p1 ρ1 H1 Le.refl w1⟩
 ·exact p1.elim⟩
theorem qL {ρ : List Addr} {H : Hp} {xs : List D} {vs : List V} (r : RelDs K mg ρ H xs vs) (lo hi : Option Int) : RelDs K mg ρ H (cutD xs lo hi) (jO vs lo hi) := by
 unfold cutD jO
 rw [<- r.len]
 exact (r.drop _).take _
theorem slK (h : X.K = K) : SlR X (fun x lo hi H Q => rSlL K x lo hi H Q \/ rSlT K x lo hi H Q) := by subst h; exact zm.or zr
theorem
    uQ (hK : X.K = K) (he : DE K mg X ES e F) (hl : DO K mg X ES lo L) (hu : DO K mg X ES hi U) : DE K mg X ES (.Subscript e (.Slice lo hi none p2) pos) (eSl F L U) :=
 PE.imp (
     vP (slK hK) he hl hu) fun σ H Q q_ => q_.el fun ρ h ae w re p => ⟨ρ, h, ae, w, re, p.bind.imp fun d h1 ρ1 H1 l1 w1 p1 x rx => ⟨ρ1, h1, ae, w1, re.mono l1, p1.bind.imp fun lo h2 ρ2 H2 l2 w2 p2 => ⟨ρ2, h2, ae, w2, (re.mono l1).mono l2, p2.bind.imp fun hi h3 ρ3 H3 l3 w3 p3 => by
  have rx3 := (rx.mono l2).mono l3
  unfold gSl at p3
  split at p3
  ·split at p3
   ·exact p3.elim
   ·rename_i hn
    cases rx3 with
    | tup q rs => exact .inr ⟨_, _, rfl, q, by rw [<- rs.len]; exact hn, fun l hl => ja w3 (qL rs lo hi) hl p3⟩
  ·split at p3
   ·rename_i xs e1
    cases rx3 with
    |
     ref ea =>
     obtain ⟨vs, q, rs⟩ := bK w3 ea e1
     exact .inl ⟨_, _, rfl, q, fun l hl => gR w3 (qL rs lo hi) hl p3⟩
   ·exact p3.elim
  ·exact p3.elim⟩⟩⟩
end
noncomputable def oz (d : D) (h : AH) : R Bool := match d with
 | .non => .ok false h
 | .bl b => .ok b h
 | .int i => .ok (i != 0) h
 | d => match dB h d with
  | some xs => .ok (!xs.isEmpty) h
  | none => .stuck
noncomputable def tTr (F : ME) : MT := fun ae h => (F ae h).bind oz
section
variable {K : PySem.W.Frag} {mg : Str -> Option Value} {X : Cx} {ES : St -> XK} {a : Expr} {F : ME}
theorem wt (hK : X.K = K) (ha : DE K mg X ES a F) (he : ∀ whole, isTrue a X.env whole = (do let v <- whole; standAt a.pos; holding [v] (truthy v)) := by intro _; rfl) : DT K mg X ES a (tTr F) := by
 subst hK
 refine PT.imp (wz ha he) fun σ H Q q_ => q_.el fun ρ h ae w re p => ⟨ρ, h, ae, w, re, p.bind.imp fun d h1 ρ1 H1 l1 w1 p1 x rx => ?_⟩
 have items : ∀ {xs : List D}, dB h1 d = some xs -> Q (!xs.isEmpty) H1 -> ∃ k, vL X.K x H1 k /\ Q k H1 := fun {xs} e q => by
  obtain ⟨pa, vs, rfl, hq, rs⟩ := d4 w1 rx e
  have ee : xs.isEmpty = vs.isEmpty := by cases rs <;> rfl
  rw [ee] at q
  rcases hq with hq | hq
  ·exact ⟨_, .inl ⟨vs, hq, rfl⟩, q⟩
  ·exact ⟨_, .inr (.inl ⟨vs, hq, rfl⟩), q⟩
 unfold oz at p1
 split at p1
 ·cases rx; exact ⟨_, rfl, p1 ρ1 H1 Le.refl w1⟩
 ·cases rx; exact ⟨_, rfl, p1 ρ1 H1 Le.refl w1⟩
 ·cases rx; exact ⟨_, rfl, p1 ρ1 H1 Le.refl w1⟩
 ·split at p1
  ·rename_i xs e1; exact items e1 (p1 ρ1 H1 Le.refl w1)
  ·exact p1.elim
end
end L2
set_option Elab.async false
set_option linter.all false
set_option maxRecDepth 100000
namespace L2
open PySem PySem.Spec PyProof.Rows
abbrev cxT (X : Cx) (pn : List (Addr × Obj)) (xe : Value -> Shared -> Prop) : Cx := { X with pn := pn, xe := xe }
section
variable {X : Cx} {pins pins2 pn : List (Addr × Obj)} {σ : St} {H : Hp} {s : Shared} {xe : Value -> Shared -> Prop}
theorem Inv.toT (I : Inv X pins σ H s) : Inv (cxT X (X.pn ++ pins) xe) [] σ H s :=
 ⟨⟨I.ok.mod, I.ok.kind, I.ok.glob, I.ok.blt, I.ok.above, I.ok.inj, I.ok.has, I.ok.cab, I.ok.hd, I.ok.frames, I.ok.stk, I.ok.exf, I.ok.bs, I.ok.bsz, I.ok.noex, I.ok.exfs, I.ok.funs, I.ok.frf⟩, I.os, I.bare, I.base, I.loc, I.cell, I.free, I.freeC, fun p hp => I.pin p (by simpa using hp), I.hok, I.len⟩
theorem Inv.ofT (I : Inv (cxT X (X.pn ++ pins) xe) pins2 σ H s) : Inv X pins σ H s :=
 ⟨⟨I.ok.mod, I.ok.kind, I.ok.glob, I.ok.blt, I.ok.above, I.ok.inj, I.ok.has, I.ok.cab, I.ok.hd, I.ok.frames, I.ok.stk, I.ok.exf, I.ok.bs, I.ok.bsz, I.ok.noex, I.ok.exfs, I.ok.funs, I.ok.frf⟩, I.os, I.bare, I.base, I.loc, I.cell, I.free, I.freeC, fun p hp => I.pin p (List.mem_append_left _ hp), I.hok, I.len⟩
end
noncomputable def n1 (mro : List Str) (i : Nat) (B U : MS) : MS := fun ae h => match B ae h with
 |
  .exc c ae1 h1 => if c ∈ mro then match U (ae1.set i (some (.exc c))) h1 with
   | .nx ae2 h2 => .nx (ae2.set i none) h2
   | .bk ae2 h2 => .bk (ae2.set i none) h2
   | .ct ae2 h2 => .ct (ae2.set i none) h2
   | .rt d h2 => .rt d h2
   | _ => .stuck
  else .stuck
 | r => r
section
variable {K : PySem.W.Frag} {mg : Str -> Option Value} {X : Cx} {ES : St -> XK} {x n : Str} {C : Addr} {i : Nat} {body suite : List Stmt} {b₀ : Stmt} {B U : MS} {np hpos pos : Pos} {mro : List Str}
theorem yA (hb : ∀ (pn : List (Addr × Obj)) (xe : Value -> Shared -> Prop) (ES' : St -> XK), gg (cxT X pn xe) ES' -> DSs K mg (cxT X pn xe) ES' body B) : PSsx X body (fun De E σ H => ∃ ρ h ae, Wd K mg ρ h H /\ RelE K mg ρ H ae σ /\ PostS K mg ρ H De E (B ae h)) := by
 intro pins s σ H De E I hh
 let xe : Value -> Shared -> Prop := fun e s' => ∃ pins2 σ1 H1 s1, Inv (cxT X (X.pn ++ pins) (fun _ _ => False)) pins2 σ1 H1 s1 /\ CX1 X.prog X.w X.stack H1 s1 (E σ1) e s'
 have hx : gg (cxT X (X.pn ++ pins) xe) E := fun pins2 σ1 H1 s1 e s' I1 q => ⟨pins2, σ1, H1, s1, ⟨⟨I1.ok.mod, I1.ok.kind, I1.ok.glob, I1.ok.blt, I1.ok.above, I1.ok.inj, I1.ok.has, I1.ok.cab, I1.ok.hd, I1.ok.frames, I1.ok.stk, I1.ok.exf, I1.ok.bs, I1.ok.bsz, I1.ok.noex, I1.ok.exfs, I1.ok.funs, I1.ok.frf⟩, I1.os, I1.bare, I1.base, I1.loc, I1.cell, I1.free, I1.freeC, I1.pin, I1.hok, I1.len⟩, q⟩
 refine wpAny_mono (hb (X.pn ++ pins) xe E hx [] s σ H De I.toT hh) (fun f s' q => ?_) fun e s' q => ?_
 ·cases f with
  | next => obtain ⟨σ1, H1, I1, q1⟩ := q; exact ⟨σ1, H1, I1.ofT, q1⟩
  | brk => obtain ⟨σ1, H1, I1, q1⟩ := q; exact ⟨σ1, H1, I1.ofT, q1⟩
  | cont => obtain ⟨σ1, H1, I1, q1⟩ := q; exact ⟨σ1, H1, I1.ofT, q1⟩
  | ret u => obtain ⟨v, σ1, H1, I1, r1, q1⟩ := q; exact ⟨v, σ1, H1, I1.ofT, r1, q1⟩
 ·obtain ⟨pins2, σ1, H1, s1, I1, q1⟩ := q
  exact ⟨σ1, H1, s1, I1.ofT, q1⟩
theorem BQ (T : X.Top) (hN : X.N.Nodup) (hi : X.N[i]? = some n) (hl : X.env.kindOf n = some .local) (hg : Gl X x) (hm : mg x = some (.ref C)) (hh : XHand K C) (hmro : ∀ c ∈ mro, ∀ Ce, mg c = some (.ref Ce) -> PySem.W.mroIn K Ce (.ref C) = some true)
  (hb : ∀ (pn : List (Addr × Obj)) (xe : Value -> Shared -> Prop) (ES' : St -> XK), gg (cxT X pn xe) ES' -> DSs K mg (cxT X pn xe) ES' body B) (hs : ∀ ea, DSs K mg (gp X ea) (fun _ => E0) (b₀ :: suite) U)
  (hK : X.K = K := by rfl) (hk : X.mg = mg := by rfl) (hd : (x == ("__debug__" : Str)) = false := by decide) : DS K mg X ES (.Try body [.ExceptHandler (some (.Name x np)) (some n) (b₀ :: suite) hpos] [] [] pos) (n1 mro i B U) := by
 subst hK hk
 refine PS.imp (z8 T hN hi hl hg hm hh (yA hb) hs hd) fun De σ H q_ => q_.el fun ρ h ae w re p => ⟨ρ, h, ae, w, re, ?_⟩
 unfold n1 at p
 cases q : B ae h with
 | nx a1 h1 => rw [q] at p; exact p
 | rt a1 h1 => rw [q] at p; exact p
 | bk a1 h1 => rw [q] at p; exact p
 | ct a1 h1 => rw [q] at p; exact p
 | stuck => rw [q] at p; exact p
 |
  exc c ae1 h1 =>
  rw [q] at p
  dsimp only at p
  split at p
  ·rename_i hc
   intro ρ1 H1 σ1 Ce l1 w1 re1 mc
   refine ⟨Ce, rfl, hmro c hc Ce mc, fun ea hn => ⟨ρ1, h1, ae1.set i (some (.exc c)), w1.tuple hn, (re1.mono (cP hn)).set i (.exc mc cK), ?_⟩⟩
   have p' := PostS.mono (l1.trans (cP (o := .ext (mS ea Ce)) hn)) p
   cases q2 : U (ae1.set i (some (.exc c))) h1 with
   | nx a2 h2 => rw [q2] at p'; exact fun ρ2 H2 σ2 l2 w2 re2 => p' ρ2 H2 _ l2 w2 (re2.unset i)
   | bk a2 h2 => rw [q2] at p'; exact fun ρ2 H2 σ2 l2 w2 re2 => p' ρ2 H2 _ l2 w2 (re2.unset i)
   | ct a2 h2 => rw [q2] at p'; exact fun ρ2 H2 σ2 l2 w2 re2 => p' ρ2 H2 _ l2 w2 (re2.unset i)
   | rt d h2 => rw [q2] at p'; exact p'
   | exc c2 a2 h2 => rw [q2] at p'; exact p'.elim
   | stuck => rw [q2] at p'; exact p'.elim
  ·exact p.elim
end
structure Script (h : AH) (d : D) (ns : List Int) : Prop where
 form : (∃ n, d = .ref n /\ h[n]? = some (.fz (ns.map D.int))) \/ d = .kl (ns.map D.int)
theorem jb {K : PySem.W.Frag} {mg : Str -> Option Value} {ρ : List Addr} {H : Hp} : ∀ (ns : List Int), RelDs K mg ρ H (ns.map D.int) (ns.map V.int)
 | [] => .nil
 | _ :: r => .cons (.int _) (jb r)
theorem uK {P : Program} {w : World} {K : PySem.W.Frag} {mg : Str -> Option Value} {base : Heap} {x y : Str} {k : Nat} {S : Fn} (C : Callee P w K mg base x k [y] (spD K mg 1 S))
  (hS : ∀ (d : D) (h : AH) (ns : List Int), ns.length <= 63 -> Script h d ns -> ∃ h', S [d] h = .ok (.bl true) h') : Callee P w K mg base x k [y] (fun vs H Q _ => ∃ (a : Addr) (ns : List Int), vs = [.ref a] /\ mH H /\ SqL K H a (ns.map V.int) /\ ns.length <= 63 /\ ∀ H', Q (.bl true) H') := by
 refine C.imp fun vs H Q E ⟨a, ns, e, hO, hq, hl, q⟩ => ?_
 subst e
 rcases hq with (hq | ⟨o, hq⟩) | hq
 ·rcases hO a with z | ⟨o, xs, z⟩ <;> rw [hq] at z <;> cases z
 ·obtain ⟨h', e⟩ := hS (.ref 0) [.fz (ns.map D.int)] ns hl ⟨.inl ⟨0, rfl, rfl⟩⟩
  refine ⟨[a], [.fz (ns.map D.int)], [.ref 0], ⟨rfl, by simp, fun n b ob e1 e2 => ?_⟩, .cons (.ref rfl) .nil, rfl, ?_⟩
  ·cases n with
   | zero => cases e1; cases e2; exact ⟨o, _, hq, jb ns⟩
   | succ n => simp at e1
  ·rw [e]
   exact fun ρ' H' l' w' v rv => by cases rv; exact q H'
 ·obtain ⟨h', e⟩ := hS (.kl (ns.map D.int)) [] ns hl ⟨.inr rfl⟩
  refine ⟨[], [], [.kl (ns.map D.int)], ⟨rfl, by simp, fun n b ob e1 e2 => by simp at e1⟩, .cons (.kl hq (jb ns)) .nil, rfl, ?_⟩
  rw [e]
  exact fun ρ' H' l' w' v rv => by cases rv; exact q H'
theorem walk_lawD {l : PySem.W.OpenLaw} {q : Program} {loose : List Str} {XP : (Str -> Option Value) -> Heap -> Prop} {YP : World -> Heap -> Prop} {d : DefRec} {K : Params -> PySem.W.Frag} {x : Str} {k : Nat} (hn : l.most = some 63) (hdf : d.params.defaults = []) (hr : Room k callerA)
  (hY : ∀ (w : World) (h : Heap), YP w h -> (K w.params).In h)
  (F : ∀ (w : World) (mg : Str -> Option Value) (h : Heap), (K w.params).In h -> h.Ns mainGlobals mg -> ∀ base : Heap, (K w.params).In base -> base.Ns mainGlobals mg -> Callee l.prog w (K w.params) mg base d.name k [x] (fun vs H Q _ => ∃ (a : Addr) (ns : List Int), vs = [.ref a] /\ mH H /\ SqL (K w.params) H a (ns.map V.int) /\ ns.length <= 63 /\ ∀ H', Q (.bl true) H'))
  (D : ∀ (w : World) (mg : Str -> Option Value) (h : Heap), (K w.params).In h -> h.Ns mainGlobals mg -> ∃ st, Def (K w.params) mg d.name st /\ ∀ (kV doc pm : Value) (an : Option Addr) (cdv ct : Value) (us : List Value), us.length = 1 -> bindArgs (PySem.W.fnOf d.name d.name (dI st) (ck st) (ay st) .none kV doc pm an cdv ct) ⟨us, []⟩ = pure ([x].zip us)) :
  PySem.W.WalkO q loose XP YP l.row.toRowW d [] (fun f vs => PySem.call f vs) := by
 refine L2.walk_of (n := 63) (k := k) (x := x) (CX := fun w => CX1 l.prog w) (sp := fun w => fun vs H Q _ => ∃ (a : Addr) (ns : List Int), vs = [.ref a] /\ mH H /\ SqL (K w.params) H a (ns.map V.int) /\ ns.length <= 63 /\ ∀ H', Q (.bl true) H') hn (by decide) hdf hr hY (fun w mg fa h KX G hmg => ?_) (fun _ _ a ns hl hO hS => ⟨a, ns, rfl, hO, hS, hl, fun _ => rfl⟩) fun _ _ _ _ _ ⟨_, _, _, _, _, _, _, _, _, z⟩ => z
 obtain ⟨st, Dd, hbind⟩ := D w mg h KX G
 obtain ⟨f, fd, Ff, m⟩ := Dd.ex
 have e := hmg.symm.trans m
 cases e
 obtain ⟨oc, od, kV, doc, pm, an, cdv, ct, osl, rfl, lk, hcd⟩ := Ff.ex
 refine ⟨_, fun s u => .of_eq (hbind kV doc pm an cdv ct [u] rfl), fun base kb nb => ?_⟩
 obtain ⟨f', fd', F', m', kp', b', oc', od', osl', lk'⟩ := (F w mg h KX G base kb nb).ex
 rw [m] at m'
 cases m'
 rw [lk] at lk'
 cases lk'
 exact F'
end L2
set_option Elab.async false
set_option linter.all false
set_option maxRecDepth 100000
namespace L2
open PySem PySem.Spec PyProof.Rows
mutual
inductive Bel (N : Nat) : D -> Prop where
 | non : Bel N .non
 | bl (b : Bool) : Bel N (.bl b)
 | int (i : Int) : Bel N (.int i)
 | str (x : Str) : Bel N (.str x)
 | ty (n : String) : Bel N (.ty n)
 | glb (x : Str) : Bel N (.glb x)
 | exc (x : Str) : Bel N (.exc x)
 | tup {ds : List D} (r : Bels N ds) : Bel N (.tup ds)
 | ref {n : Nat} (h : n < N) : Bel N (.ref n)
 | kl {ds : List D} (r : Bels N ds) : Bel N (.kl ds)
inductive Bels (N : Nat) : List D -> Prop where
 | nil : Bels N []
 | cons {d : D} {ds : List D} (r : Bel N d) (rr : Bels N ds) : Bels N (d :: ds)
end
noncomputable def vn (N : Nat) : Ob -> Prop
 | .lst xs => Bels N xs
 | .fz xs => Bels N xs
 | .dct kvs => Bels N (kvs.map (·.2))
 | _ => True
section
variable {K : PySem.W.Frag} {mg : Str -> Option Value} {ρ ρ1 ρ2 : List Addr} {H H1 : Hp} {h : AH}
end
inductive Rf (h : AH) : R D -> R D -> Prop where
 | stuck (r : R D) : Rf h r .stuck
 | eq (r : R D) : Rf h r r
 | val {d : D} {h2 g : AH} (hl : h2.length = h.length) (ho : ∀ (n : Nat) (o : Ob), h2[n]? = some o -> h[n]? = some o \/ vn h.length o) (hd : Bel h.length d) : Rf h (.ok d (h2 ++ g)) (.ok d h2)
 | exc {c : Str} {h2 g : AH} (hl : h2.length = h.length) (ho : ∀ (n : Nat) (o : Ob), h2[n]? = some o -> h[n]? = some o \/ vn h.length o) : Rf h (.exc c (h2 ++ g)) (.exc c h2)
 | lst {m : Nat} {h1 h2 : AH} {ys : List D} (hl : h2.length = h.length) (ho : ∀ (n : Nat) (o : Ob), h2[n]? = some o -> h[n]? = some o \/ vn h.length o) (hs : ∀ (n : Nat) (o : Ob), h2[n]? = some o -> h1[n]? = some o) (em : h1[m]? = some (.lst ys)) (hm : h.length <= m) (hy : Bels h.length ys) : Rf h (.ok (.ref m) h1) (.ok (.ref h.length) (h2 ++ [.lst ys]))
section
variable {K : PySem.W.Frag} {mg : Str -> Option Value} {ρ : List Addr} {H : Hp} {h : AH}
end
end L2
set_option Elab.async false
set_option linter.all false
set_option maxRecDepth 100000
namespace L2
open PySem PySem.Spec PyProof.Rows
noncomputable def sG : D -> D -> AH -> R D := gOr (gI fun i j => .int (i + j)) kS
noncomputable def vm : D -> D -> AH -> R D := gI fun i j => .int (i - j)
noncomputable def CMulA (i j : Int) : Prop := xA i j \/ CMul i j
noncomputable def vk : D -> D -> AH -> R D := gIc CMulA fun i j => .int (i * j)
noncomputable def vH : D -> D -> AH -> R D := gIc CDivB fun i j => .int (i.fdiv j)
noncomputable def wb : D -> D -> AH -> R D := gIc (fun _ j => j ≠ 0) fun i j => .int (i.fmod j)
noncomputable def vR : D -> D -> AH -> R D := gIc lU fun i j => .int (i ^ j.toNat)
noncomputable def gLt : D -> D -> AH -> R D := gI fun i j => .bl (decide (i < j))
noncomputable def gGt : D -> D -> AH -> R D := gI fun i j => .bl (decide (j < i))
noncomputable def gGe : D -> D -> AH -> R D := gI fun i j => .bl (decide (j <= i))
noncomputable def rC : D -> AH -> R D := fun x h => match x with
 | .int i => .ok (.int (-i)) h
 | _ => .stuck
noncomputable def rG (n : Nat) (S : Fn) (A : MA) : ME := eFn (fun ds h => if ds.length = n then S ds h else .stuck) A
noncomputable def j8 : D -> List D -> AH -> R D := fun x ds h => match ds with
 | [d] => if (cx 64 h d).isSome = true /\ ((cx 64 h d).map SeqAt.shaped) = some true then lp x ds h else .stuck
 | _ => .stuck
section
variable {K : PySem.W.Frag} {mg : Str -> Option Value} {X : Cx}
theorem bw (h : X.K = K) : OpR X (binaryOp .Add) (fun x y H Q => rI0 (fun i j => .int (i + j)) x y H Q \/ (l6 x y H Q \/ (ka K x y H Q \/ kf K x y H Q))) := B4.or (catK h)
theorem By : OpD K mg (fun x y H Q => rI0 (fun i j => .int (i + j)) x y H Q \/ (l6 x y H Q \/ (ka K x y H Q \/ kf K x y H Q))) sG := (jG fun _ _ _ _ => .int _).or x9
theorem zT : OpD K mg (rI0 fun i j => .int (i - j)) vm := jG fun _ _ _ _ => .int _
theorem cQ : OpR X (binaryOp .Mult) (rI CMulA fun i j => .int (i * j)) := by
 intro pins s σ H x y v u Q I rx ry h
 obtain ⟨i, j, e1, e2, hc, q⟩ := h
 rcases hc with hc | hc
 ·exact yg pins s σ H x y v u Q I rx ry ⟨i, j, e1, e2, hc, q⟩
 ·exact Am pins s σ H x y v u Q I rx ry ⟨i, j, e1, e2, hc, q⟩
theorem Aq : OpD K mg (rI CMulA fun i j => .int (i * j)) vk := nF fun _ _ _ _ => .int _
theorem zG : OpD K mg (rI CDivB fun i j => .int (i.fdiv j)) vH := nF fun _ _ _ _ => .int _
theorem zQ : OpD K mg (rI (fun _ j => j ≠ 0) fun i j => .int (i.fmod j)) wb := nF fun _ _ _ _ => .int _
theorem A4 : OpD K mg (rI lU fun i j => .int (i ^ j.toNat)) vR := nF fun _ _ _ _ => .int _
theorem Ef : OpD K mg (rI0 fun i j => .bl (decide (i < j))) gLt := jG fun _ _ _ _ => .bl _
theorem Dl : OpD K mg (rI0 fun i j => .bl (decide (j < i))) gGt := jG fun _ _ _ _ => .bl _
theorem C8 : OpD K mg (rI0 fun i j => .bl (decide (j <= i))) gGe := jG fun _ _ _ _ => .bl _
theorem AA : UnD K mg (rU fun i => .int (-i)) rC := fun ρ h H dx x Q E w rx p => by
 unfold rC at p
 split at p
 ·cases rx; exact ⟨_, rfl, aL w (.int _) p⟩
 ·exact p.elim
theorem uj : MtD K mg (iF K) j8 := vx
variable {ES : St -> XK} {e : Expr} {es : List Expr} {A : MA} {pos : Pos}
theorem uR {x : Str} {p : Pos} {k n : Nat} {ps : List Str} {S : Fn} (C : Callee X.prog X.w X.K X.mg X.base x k ps (spD K mg n S)) (hr : Room k X.A) (hg : Gl X x) (hx : gg X ES) (ha : DA K mg X ES (e :: es) A)
  (hdb : (x == ("__debug__" : Str)) = false := by decide) (he : starEach (e :: es) X.env = (false, eval e X.env) :: starEach es X.env := by rfl) (hpl : (backTo pos (starEach es X.env)).any (·.1) = false := by rfl) :
  DE K mg X ES (.Call (.Name x p) (e :: es) [] pos) (rG n S A) := yy C hr hg hx ha hdb he hpl
end
section
variable {ae : AE} {h : AH}
@[simp] theorem iK {α β : Type} (a : α) (h : AH) (f : α -> AH -> R β) : (R.ok a h).bind f = f a h := rfl
end
end L2
set_option Elab.async false
set_option linter.all false
set_option maxRecDepth 100000
namespace L2
open PySem PySem.Spec PyProof.Rows
theorem m6 {pd : PyData} (h1 : pd.canLay0 = true) (h2 : pd.depth <= 64) : SeqAt.shaped pd = true := by
 unfold SeqAt.shaped
 rw [h1, decide_eq_true h2]; rfl
noncomputable def Sm (n : Nat) (x : Int) : Prop := x.natAbs < 2 ^ n
theorem Sm.mono {n m : Nat} {x : Int} (h : Sm n x) (l : n <= m) : Sm m x := Nat.lt_of_lt_of_le h (Nat.pow_le_pow_right (by omega) l)
theorem Sm.mul {n m : Nat} {x y : Int} (h : Sm n x) (k : Sm m y) : Sm (n + m) (x * y) := by
 unfold Sm at *
 rw [Int.natAbs_mul, Nat.pow_add]
 exact Nat.mul_lt_mul'' h k
theorem Sm.add' {n : Nat} {x y : Int} (h : Sm n x) (k : Sm n y) : Sm (n + 1) (x + y) := by
 unfold Sm at *
 have h3 : 2 ^ (n + 1) = 2 ^ n + 2 ^ n := by rw [Nat.pow_succ]; omega
 have h4 : (x + y).natAbs <= x.natAbs + y.natAbs := Int.natAbs_add_le x y
 omega
theorem Sm.bits {n : Nat} {x : Int} (h : Sm n x) : Builtin.Int.intBits x <= n := intBits_le_iff.mpr h
theorem Sm.of_le {n : Nat} {x y : Int} (h : Sm n y) (l : x.natAbs <= y.natAbs) : Sm n x := Nat.lt_of_le_of_lt l h
theorem CMulA.of {n m : Nat} {x y : Int} (h : Sm n x) (k : Sm m y) (hn : n <= 100000) (hm : m <= 100000) : CMulA x y := .inl ⟨Nat.le_trans h.bits hn, Nat.le_trans k.bits hm⟩
theorem CMulA.left {x y : Int} (h : -(2 ^ 64) < x) (k : x < 2 ^ 64) : CMulA x y := .inr (.inl ⟨h, k⟩)
theorem CMulA.right {x y : Int} (h : -(2 ^ 64) < y) (k : y < 2 ^ 64) : CMulA x y := .inr (.inr ⟨h, k⟩)
theorem CDivB.of {x y : Int} (h0 : y ≠ 0) (h : Sm 8000 y) : CDivB x y := ⟨h0, h.bits⟩
structure Sz (n : Nat) (q : Rat) : Prop where
 top : Sm n q.num
 bot : Sm n (q.den : Int)
theorem Sz.mono {n m : Nat} {q : Rat} (h : Sz n q) (l : n <= m) : Sz m q := ⟨h.top.mono l, h.bot.mono l⟩
theorem tw {a b : Int} (hb : b ≠ 0) : ((a : Rat) / (b : Rat)).num * b = a * ((a : Rat) / (b : Rat)).den := by
 have h2 := Rat.num_divInt_den ((a : Rat) / (b : Rat))
 have h3 : Rat.divInt ((a : Rat) / (b : Rat)).num (((a : Rat) / (b : Rat)).den : Int) = Rat.divInt a b := by rw [h2, Rat.divInt_eq_div]
 exact (Rat.divInt_eq_divInt_iff (by have := ((a : Rat) / (b : Rat)).den_nz; omega) hb).mp h3
theorem qM (q : Rat) : Int.gcd q.num q.den = 1 := by
 have := q.reduced
 exact this
theorem lA {a b : Int} (hb : b ≠ 0) : Fr.T a b = ((a : Rat) / (b : Rat)).num /\ Fr.B a b = (((a : Rat) / (b : Rat)).den : Int) := by
 refine Fr.uniq (Fr.B_pos hb) (by have := ((a : Rat) / (b : Rat)).den_pos; omega) (Fr.low hb) (qM _) ?_
 have h1 := Fr.cross (a := a) hb
 have h2 := tw (a := a) hb
 generalize ((a : Rat) / (b : Rat)).num = n at *
 generalize (((a : Rat) / (b : Rat)).den : Int) = d at *
 generalize Fr.T a b = x at *
 generalize Fr.B a b = y at *
 have h3 : (x * d) * b = (n * y) * b := by
  calc x * d * b = (x * b) * d := by rw [Int.mul_right_comm]
   _ = a * y * d := by rw [h1]
   _ = (a * d) * y := by rw [Int.mul_right_comm]
   _ = n * b * y := by rw [h2]
   _ = n * y * b := by rw [Int.mul_right_comm]
 exact Int.eq_of_mul_eq_mul_right hb h3
theorem qW {a b : Int} (hb : b ≠ 0) : ((a : Rat) / (b : Rat)).num.natAbs <= a.natAbs := by
 have h := (lA (a := a) hb).1
 rw [<- h]
 have h1 := Fr.T_mul (a := a) hb
 have h2 := Fr.dv_ne (a := a) hb
 have h3 : (Fr.T a b).natAbs * (Fr.dv a b).natAbs = a.natAbs := by rw [<- Int.natAbs_mul, h1]
 have h4 : 1 <= (Fr.dv a b).natAbs := by omega
 calc (Fr.T a b).natAbs = (Fr.T a b).natAbs * 1 := by omega
  _ <= (Fr.T a b).natAbs * (Fr.dv a b).natAbs := Nat.mul_le_mul_left _ h4
  _ = a.natAbs := h3
theorem rK {a b : Int} (hb : b ≠ 0) : ((((a : Rat) / (b : Rat)).den : Int)).natAbs <= b.natAbs := by
 have h := (lA (a := a) hb).2
 rw [<- h]
 have h1 := Fr.B_mul (a := a) hb
 have h2 := Fr.dv_ne (a := a) hb
 have h3 : (Fr.B a b).natAbs * (Fr.dv a b).natAbs = b.natAbs := by rw [<- Int.natAbs_mul, h1]
 have h4 : 1 <= (Fr.dv a b).natAbs := by omega
 calc (Fr.B a b).natAbs = (Fr.B a b).natAbs * 1 := by omega
  _ <= (Fr.B a b).natAbs * (Fr.dv a b).natAbs := Nat.mul_le_mul_left _ h4
  _ = b.natAbs := h3
theorem Sz.div {n m : Nat} {a b : Int} (hb : b ≠ 0) (ha : Sm n a) (hb' : Sm m b) (k : Nat) (h1 : n <= k) (h2 : m <= k) : Sz k ((a : Rat) / (b : Rat)) :=
 ⟨(ha.of_le (qW hb)).mono h1, (hb'.of_le (rK hb)).mono h2⟩
theorem dq (q : Rat) : (q.den : Int) ≠ 0 := by have := q.den_nz; omega
theorem gr (q : Rat) : q = (q.num : Rat) / ((q.den : Int) : Rat) := by
 have := Rat.num_divInt_den q
 rw [Rat.divInt_eq_div] at this
 exact this.symm
theorem lR {b : Int} (h : b ≠ 0) : (b : Rat) ≠ 0 := by
 intro z
 exact h (by exact_mod_cast z)
theorem qc (p q : Rat) : p + q = ((p.num * q.den + q.num * p.den : Int) : Rat) / ((p.den * q.den : Int) : Rat) := by
 have h1 := lR (dq p)
 have h2 := lR (dq q)
 conv => lhs; rw [gr p, gr q]
 simp only [Rat.intCast_add, Rat.intCast_mul]
 grind
theorem qw (p q : Rat) : p * q = ((p.num * q.num : Int) : Rat) / ((p.den * q.den : Int) : Rat) := by
 have h1 := lR (dq p)
 have h2 := lR (dq q)
 conv => lhs; rw [gr p, gr q]
 simp only [Rat.intCast_mul]
 grind
theorem Sz.add {n m : Nat} {p q : Rat} (hp : Sz n p) (hq : Sz m q) : Sz (n + m + 1) (p + q) := by
 rw [qc]
 have h1 := (hp.top.mul hq.bot)
 have h2 := (hq.top.mul hp.bot)
 exact Sz.div (by have := dq p; have := dq q; exact Int.mul_ne_zero ‹_› ‹_›) (h1.add' (by rw [Nat.add_comm n m]; exact h2)) (hp.bot.mul hq.bot) _ (by omega) (by omega)
theorem Sz.mul {n m : Nat} {p q : Rat} (hp : Sz n p) (hq : Sz m q) : Sz (n + m) (p * q) := by
 rw [qw]
 exact Sz.div (by have := dq p; have := dq q; exact Int.mul_ne_zero ‹_› ‹_›) (hp.top.mul hq.top) (hp.bot.mul hq.bot) _ (by omega) (by omega)
theorem qR {q : Rat} : 0 < q.num ↔ 0 < q := by
 have h1 := Rat.num_nonneg (q := q)
 have h2 := Rat.num_eq_zero (q := q)
 constructor
 ·intro h
  refine Rat.lt_of_le_of_ne (h1.mp (by omega)) fun z => ?_
  have := h2.mpr z.symm
  omega
 ·intro h
  have h3 := h1.mpr (Rat.le_of_lt h)
  have h4 : q.num ≠ 0 := fun z => (Rat.ne_of_lt h) (h2.mp z).symm
  omega
theorem BY (p q : Rat) : p < q ↔ p.num * q.den < q.num * p.den := Rat.lt_iff p q
section
variable {α β : Type} (ae : AE) (h : AH)
end
noncomputable def Vl (mg : Str -> Option Value) (c : Cl) (u : Value) : Prop := match c with
 | .b n => u = .type n
 | .o x => mg x = some u
theorem EY {K : PySem.W.Frag} {mg : Str -> Option Value} {c d : Cl} {tu cu t v : Value} {b : Bool} (e : PySem.W.kitOne K tu cu = some b) (hc : Vl mg c tu) (hd : Vl mg d cu) (h1 : ClV mg c t) (h2 : ClV mg d v) : PySem.W.kitOne K t v = some b := by
 have f : ∀ {c : Cl} {u t : Value}, Vl mg c u -> ClV mg c t -> u = t := by
  intro c u t h1 h2
  cases c with
  | b n => exact (show u = _ from h1).trans (show t = _ from h2).symm
  |
   o x =>
   obtain ⟨a, rfl, m⟩ := h2
   have h1' : mg x = some u := h1
   rw [m] at h1'
   exact (Option.some.inj h1').symm
 rw [<- f hc h1, <- f hd h2]
 exact e
theorem wq {K : PySem.W.Frag} {mg : Str -> Option Value} : KitsOk K mg [] := ⟨fun p hp => (nomatch hp), fun p hp => (nomatch hp)⟩
theorem aw {K : PySem.W.Frag} {mg : Str -> Option Value} {c d : Cl} {tu cu : Value} {b : Bool} {kt : eI} (e : PySem.W.kitOne K tu cu = some b) (hc : Vl mg c tu) (hd : Vl mg d cu) (hx : ∀ x C, c = .o x -> mg x = some (.ref C) -> XCls K C) (r : KitsOk K mg kt) : KitsOk K mg ((c, d, b) :: kt) :=
 ⟨fun p hp t v h1 h2 => by
  rcases List.mem_cons.mp hp with rfl | hp
  ·exact EY e hc hd h1 h2
  ·exact r.one p hp t v h1 h2, fun p hp x C e' m => by
  rcases List.mem_cons.mp hp with rfl | hp
  ·exact hx x C e' m
  ·exact r.xc p hp x C e' m⟩
theorem bh {K : PySem.W.Frag} {mg : Str -> Option Value} {n : String} : ∀ x C, Cl.b n = .o x -> mg x = some (.ref C) -> XCls K C := fun _ _ e => nomatch e
theorem nJ {K : PySem.W.Frag} {mg : Str -> Option Value} {y : Str} {a : Addr} (m : mg y = some (.ref a)) (k : XCls K a) : ∀ x C, Cl.o y = .o x -> mg x = some (.ref C) -> XCls K C := fun x C e m' => by
 cases e
 rw [m] at m'
 cases m'
 exact k
theorem zW {K : PySem.W.Frag} {h : Heap} {mg : Str -> Option Value} {x : Str} {i : Int} {t : Tok} (X : K.In h) (G : h.Ns mainGlobals mg) (e : PySem.W.nsIn K mainGlobals x = some (some (.int i t))) : GC K mg x (.int i) :=
 ⟨_, .int i, PySem.W.mg_of X G e, ⟨t, rfl⟩, fun _ _ => .int i⟩
end L2
set_option Elab.async false
set_option linter.all false
set_option maxRecDepth 100000
namespace L2
open PySem PySem.Spec PyProof.Rows
theorem wo {P : Program} {w : World} {H : Hp} (h : Heap) (hb : sysModules < h.objs.size) : ObjOk P w H (h.push { cls := .type "dict", data := .dict #[] }) h.objs.size (.dK []) :=
 ⟨Nat.zero_le _, beq_eq_false_iff_ne.mpr (Ne.symm (Nat.ne_of_lt hb)), [], .nil, Heap.DictOf.new h⟩
theorem Inv.big {X : Cx} {pins : List (Addr × Obj)} {σ : St} {H : Hp} {s : Shared} (I : Inv X pins σ H s) : sysModules < s.heap.objs.size := by
 have h : mainGlobals < s.heap.objs.size := (I.mod.glob.keeps I.bk).lt
 exact Nat.lt_trans (by decide) h
noncomputable def Be : TE := fun _ H Q => ∀ p, H p = none -> Q (.ref p) (upd H p (.dK []))
noncomputable def eD0 : ME := fun _ h => .ok (.ref h.length) (h ++ [.dct []])
section
variable {K : PySem.W.Frag} {mg : Str -> Option Value} {X : Cx} {ES : St -> XK} {pos : Pos}
theorem vW : PE X (.Dict [] [] pos) Be := fun pins s σ H Q I h =>
 wpAny_Dict_empty ⟨.ref s.heap.objs.size, _, I.laid (a := s.heap.objs.size) (o := .dK []) (t' := s.toks) (fun _ _ q => Heap.get?_push_of_some _ q) (Nat.le_refl _) (wo s.heap I.big), rfl, h _ (I.hok.fresh (Nat.le_refl _))⟩
theorem C9 : DE K mg X ES (.Dict [] [] pos) eD0 := PE.imp vW fun σ H Q ⟨ρ, h, ae, w, re, q⟩ p hp => by
 have l : Le ρ H (ρ ++ [p]) (upd H p (.dK [])) := (cP hp).trans mR
 refine q (ρ ++ [p]) _ l (w.alloc hp ⟨[], cK, rfl, .nil⟩) _ (.ref ?_)
 rw [<- w.len, List.getElem?_append_right (Nat.le_refl _), Nat.sub_self]
 rfl
end
end L2
set_option Elab.async false
set_option linter.all false
set_option maxRecDepth 100000
set_option maxHeartbeats 1000000
namespace L2
open PySem PySem.Spec PyProof.Rows
variable {K : PySem.W.Frag} {mg : Str -> Option Value}
end L2
set_option Elab.async false
set_option linter.all false
set_option maxRecDepth 100000
namespace L2
open PySem PySem.Spec PyProof.Rows
section
variable {K : PySem.W.Frag} {mg : Str -> Option Value} {X : Cx} {ES : St -> XK} {e : Expr} {es : List Expr} {A : MA} {pos : Pos}
end
end L2
set_option Elab.async false
set_option linter.all false
set_option maxRecDepth 100000
namespace L2
open PySem PySem.Spec PyProof.Rows
section
variable {K : PySem.W.Frag} {mg : Str -> Option Value} {X : Cx} {ES : St -> XK} {e a b c o lo hi : Expr} {F G L U : ME} {pos p2 : Pos} {ρ : List Addr} {H : Hp} {h : AH} {ae : AE}
end
end L2
set_option Elab.async false
set_option linter.all false
set_option maxRecDepth 100000
namespace L3
open PySem PySem.Spec PyProof.Rows L2
set_option genInjectivity true in
inductive Val where
 | non | bl (b : Bool) | int (i : Int) | str (x : Str) | ty (n : String) | glb (x : Str) | exc (x : Str)
 | tup (xs : List Val) | lst (xs : List Val) | kl (xs : List Val) | dct (kvs : List (Key × Val)) | set (xs : List Int)
 deriving Inhabited
mutual
inductive Rd (P : Nat -> Prop) (h : AH) : D -> Val -> Prop where
 | non : Rd P h .non .non
 | bl (b : Bool) : Rd P h (.bl b) (.bl b)
 | int (i : Int) : Rd P h (.int i) (.int i)
 | str (x : Str) : Rd P h (.str x) (.str x)
 | ty (n : String) : Rd P h (.ty n) (.ty n)
 | glb (x : Str) : Rd P h (.glb x) (.glb x)
 | exc (x : Str) : Rd P h (.exc x) (.exc x)
 | tup {ds : List D} {vs : List Val} (r : Rds P h ds vs) : Rd P h (.tup ds) (.tup vs)
 | kl {ds : List D} {vs : List Val} (r : Rds P h ds vs) : Rd P h (.kl ds) (.kl vs)
 | cell {n : Nat} {o : Ob} {v : Val} (p : P n) (e : h[n]? = some o) (r : Rc P h o v) : Rd P h (.ref n) v
inductive Rc (P : Nat -> Prop) (h : AH) : Ob -> Val -> Prop where
 | lst {ds : List D} {vs : List Val} (r : Rds P h ds vs) : Rc P h (.lst ds) (.lst vs)
 | fz {ds : List D} {vs : List Val} (r : Rds P h ds vs) : Rc P h (.fz ds) (.kl vs)
 | dct {ws : List (Key × D)} {us : List (Key × Val)} (r : Rk P h ws us) : Rc P h (.dct ws) (.dct us)
 | set (xs : List Int) : Rc P h (.set xs) (.set xs)
inductive Rds (P : Nat -> Prop) (h : AH) : List D -> List Val -> Prop where
 | nil : Rds P h [] []
 | cons {d : D} {v : Val} {ds : List D} {vs : List Val} (r : Rd P h d v) (rr : Rds P h ds vs) : Rds P h (d :: ds) (v :: vs)
inductive Rk (P : Nat -> Prop) (h : AH) : List (Key × D) -> List (Key × Val) -> Prop where
 | nil : Rk P h [] []
 | cons {k : Key} {d : D} {v : Val} {ds : List (Key × D)} {vs : List (Key × Val)} (r : Rd P h d v) (rr : Rk P h ds vs) : Rk P h ((k, d) :: ds) ((k, v) :: vs)
end
section
variable {P P' : Nat -> Prop} {h h' : AH}
abbrev Mov (P P' : Nat -> Prop) (h h' : AH) : Prop := ∀ n o, P n -> h[n]? = some o -> P' n /\ h'[n]? = some o
theorem Rd.mono (m : Mov P P' h h') {d : D} {v : Val} (r : Rd P h d v) : Rd P' h' d v := @Rd.rec P h (fun d v _ => Rd P' h' d v) (fun o v _ => Rc P' h' o v) (fun ds vs _ => Rds P' h' ds vs) (fun ws us _ => Rk P' h' ws us) .non (fun b => .bl b) (fun i => .int i) (fun x => .str x) (fun n => .ty n) (fun x => .glb x) (fun x => .exc x) (fun _ ih => .tup ih) (fun _ ih => .kl ih) (fun p e _ ih => .cell (m _ _ p e).1 (m _ _ p e).2 ih) (fun _ ih => .lst ih) (fun _ ih => .fz ih) (fun _ ih => .dct ih) (fun xs => .set xs) .nil (fun _ _ a b => .cons a b) .nil (fun _ _ a b => .cons a b) d v r
theorem Rds.ind {M : List D -> List Val -> Prop} (h0 : M [] []) (h1 : ∀ {d v ds vs}, Rd P h d v -> Rds P h ds vs -> M ds vs -> M (d :: ds) (v :: vs)) {ds : List D} {vs : List Val} (r : Rds P h ds vs) : M ds vs := by
 induction ds generalizing vs with
 | nil => cases r; exact h0
 |
  cons d ds ih =>
  cases r with
  | cons r rr => exact h1 r rr (ih rr)
theorem Rk.ind {M : List (Key × D) -> List (Key × Val) -> Prop} (h0 : M [] []) (h1 : ∀ {k d v ds vs}, Rd P h d v -> Rk P h ds vs -> M ds vs -> M ((k, d) :: ds) ((k, v) :: vs)) {ds : List (Key × D)} {vs : List (Key × Val)} (r : Rk P h ds vs) : M ds vs := by
 induction ds generalizing vs with
 | nil => cases r; exact h0
 |
  cons d ds ih =>
  cases r with
  | cons r rr => exact h1 r rr (ih rr)
theorem Rds.mono (m : Mov P P' h h') {d : List D} {v : List Val} (r : Rds P h d v) : Rds P' h' d v := r.ind .nil fun r _ ih => .cons (r.mono m) ih
theorem Rk.mono (m : Mov P P' h h') {d : List (Key × D)} {v : List (Key × Val)} (r : Rk P h d v) : Rk P' h' d v := r.ind .nil fun r _ ih => .cons (r.mono m) ih
theorem Rc.mono (m : Mov P P' h h') {d : Ob} {v : Val} (r : Rc P h d v) : Rc P' h' d v := by
 cases r with
 | lst r => exact .lst (r.mono m)
 | fz r => exact .fz (r.mono m)
 | dct r => exact .dct (r.mono m)
 | set xs => exact .set xs
theorem Rds.len {ds : List D} {vs : List Val} (r : Rds P h ds vs) : ds.length = vs.length := r.ind (M := fun ds vs => ds.length = vs.length) rfl fun _ _ ih => congrArg (· + 1) ih
theorem Rds.get {ds : List D} {vs : List Val} {i : Nat} {v : Val} (r : Rds P h ds vs) (e : vs[i]? = some v) : ∃ d, ds[i]? = some d /\ Rd P h d v :=
 r.ind (M := fun ds vs => ∀ i, vs[i]? = some v -> ∃ d, ds[i]? = some d /\ Rd P h d v) (fun _ e => by rw [List.getElem?_nil] at e; cases e) (fun r _ ih i e => match i, e with
  | 0, e => by cases e; exact ⟨_, rfl, r⟩
  | i + 1, e => ih i e) i e
theorem Rds.append {ds es : List D} {vs ws : List Val} (r : Rds P h ds vs) (q : Rds P h es ws) : Rds P h (ds ++ es) (vs ++ ws) := r.ind (M := fun ds vs => Rds P h (ds ++ es) (vs ++ ws)) q fun r _ ih => .cons r ih
theorem Rds.take {ds : List D} {vs : List Val} (n : Nat) (r : Rds P h ds vs) : Rds P h (ds.take n) (vs.take n) :=
 r.ind (M := fun ds vs => ∀ n : Nat, Rds P h (ds.take n) (vs.take n)) (fun n => by rw [List.take_nil, List.take_nil]; exact .nil) (fun r _ ih n => by cases n with | zero => exact .nil | succ n => exact .cons r (ih n)) n
theorem Rds.drop {ds : List D} {vs : List Val} (n : Nat) (r : Rds P h ds vs) : Rds P h (ds.drop n) (vs.drop n) :=
 r.ind (M := fun ds vs => ∀ n : Nat, Rds P h (ds.drop n) (vs.drop n)) (fun n => by rw [List.drop_nil, List.drop_nil]; exact .nil) (fun r rr ih n => by cases n with | zero => exact .cons r rr | succ n => exact ih n) n
theorem Rds.set {d : D} {v : Val} (r : Rd P h d v) {ds : List D} {vs : List Val} (i : Nat) (q : Rds P h ds vs) : Rds P h (ds.set i d) (vs.set i v) :=
 q.ind (M := fun ds vs => ∀ i : Nat, Rds P h (ds.set i d) (vs.set i v)) (fun _ => .nil) (fun q qq ih i => by cases i with | zero => exact .cons r qq | succ i => exact .cons q (ih i)) i
noncomputable def ShR (P : Nat -> Prop) (h : AH) (d : D) (v : Val) : Prop := Rd P h d v \/ ∃ n o, d = .ref n /\ h[n]? = some o /\ Rc P h o v
inductive ShRs (P : Nat -> Prop) (h : AH) : List D -> List Val -> Prop where
 | nil : ShRs P h [] []
 | cons {d : D} {v : Val} {ds : List D} {vs : List Val} (r : ShR P h d v) (rr : ShRs P h ds vs) : ShRs P h (d :: ds) (v :: vs)
noncomputable def Val.items : Val -> Option (List Val)
 | .tup xs => some xs
 | .lst xs => some xs
 | .kl xs => some xs
 | _ => none
theorem ShR.int {d : D} {i : Int} (r : ShR P h d (.int i)) : d = .int i := by
 rcases r with r | ⟨n, o, rfl, e, r⟩
 ·cases r with
  | int => rfl
  | cell p e r => cases r
 ·cases r
theorem ShR.str {d : D} {i : Str} (r : ShR P h d (.str i)) : d = .str i := by
 rcases r with r | ⟨n, o, rfl, e, r⟩
 ·cases r with
  | str => rfl
  | cell p e r => cases r
 ·cases r
theorem ShR.bl {d : D} {i : Bool} (r : ShR P h d (.bl i)) : d = .bl i := by
 rcases r with r | ⟨n, o, rfl, e, r⟩
 ·cases r with
  | bl => rfl
  | cell p e r => cases r
 ·cases r
theorem ShR.non {d : D} (r : ShR P h d .non) : d = .non := by
 rcases r with r | ⟨n, o, rfl, e, r⟩
 ·cases r with
  | non => rfl
  | cell p e r => cases r
 ·cases r
theorem ShR.exc {d : D} {x : Str} (r : ShR P h d (.exc x)) : d = .exc x := by
 rcases r with r | ⟨n, o, rfl, e, r⟩
 ·cases r with
  | exc => rfl
  | cell p e r => cases r
 ·cases r
theorem ShR.ty {d : D} {x : String} (r : ShR P h d (.ty x)) : d = .ty x := by
 rcases r with r | ⟨n, o, rfl, e, r⟩
 ·cases r with
  | ty => rfl
  | cell p e r => cases r
 ·cases r
theorem ShR.glb {d : D} {x : Str} (r : ShR P h d (.glb x)) : d = .glb x := by
 rcases r with r | ⟨n, o, rfl, e, r⟩
 ·cases r with
  | glb => rfl
  | cell p e r => cases r
 ·cases r
theorem ShR.tup {d : D} {vs : List Val} (r : ShR P h d (.tup vs)) : ∃ ds, d = .tup ds /\ Rds P h ds vs := by
 rcases r with r | ⟨n, o, rfl, e, r⟩
 ·cases r with
  | tup r => exact ⟨_, rfl, r⟩
  | cell p e r => cases r
 ·cases r
theorem Rc.seq {n : Nat} {o : Ob} {vs : List Val} (e : h[n]? = some o) (r : Rc P h o (.lst vs)) : ∃ ds, h[n]? = some (.lst ds) /\ bq h n = some ds /\ Rds P h ds vs := by
 cases r with
 | lst r => exact ⟨_, e, by unfold bq; rw [e], r⟩
theorem ShR.lst {d : D} {vs : List Val} (r : ShR P h d (.lst vs)) : ∃ n ds, d = .ref n /\ h[n]? = some (.lst ds) /\ bq h n = some ds /\ Rds P h ds vs := by
 rcases r with r | ⟨n, o, rfl, e, r⟩
 ·cases r with
  |
   cell p e r =>
   obtain ⟨ds, q, r⟩ := Rc.seq e r
   exact ⟨_, ds, rfl, q, r⟩
 ·obtain ⟨ds, q, r⟩ := Rc.seq e r
  exact ⟨_, ds, rfl, q, r⟩
theorem ShR.kl {d : D} {vs : List Val} (r : ShR P h d (.kl vs)) : ∃ ds, Rds P h ds vs /\ (d = .kl ds \/ ∃ n, d = .ref n /\ bq h n = some ds) := by
 rcases r with r | ⟨n, o, rfl, e, r⟩
 ·cases r with
  | kl r => exact ⟨_, r, .inl rfl⟩
  | cell p e r => cases r with | fz r => exact ⟨_, r, .inr ⟨_, rfl, by unfold bq; rw [e]⟩⟩
 ·cases r with | fz r => exact ⟨_, r, .inr ⟨_, rfl, by unfold bq; rw [e]⟩⟩
theorem ShR.dct {d : D} {us : List (Key × Val)} (r : ShR P h d (.dct us)) : ∃ n ws, d = .ref n /\ h[n]? = some (.dct ws) /\ Rk P h ws us := by
 rcases r with r | ⟨n, o, rfl, e, r⟩
 ·cases r with
  | cell p e r => cases r with | dct r => exact ⟨_, _, rfl, e, r⟩
 ·cases r with | dct r => exact ⟨_, _, rfl, e, r⟩
theorem ShR.items {d : D} {v : Val} {vs : List Val} (r : ShR P h d v) (e : v.items = some vs) : ∃ ds, dB h d = some ds /\ Rds P h ds vs := by
 cases v with
 | tup xs => cases e; obtain ⟨ds, rfl, q⟩ := r.tup; exact ⟨ds, rfl, q⟩
 | lst xs => cases e; obtain ⟨n, ds, rfl, _, e, q⟩ := r.lst; exact ⟨ds, e, q⟩
 |
  kl xs =>
  cases e
  obtain ⟨ds, q, rfl | ⟨n, rfl, e⟩⟩ := r.kl
  ·exact ⟨ds, rfl, q⟩
  ·exact ⟨ds, e, q⟩
 | _ => cases e
end
inductive Sl where
 | no | sh (v : Val) | ow (v : Val) | mu (v : Val) | lo (v : Val) | lm (v : Val)
 deriving Inhabited
abbrev E3 := List Sl
noncomputable def Sl.val : Sl -> Option Val
 | .no => none
 | .sh v => some v
 | .ow v => some v
 | .mu v => some v
 | .lo v => some v
 | .lm v => some v
noncomputable def Sl.mt : Sl -> Bool
 | .ow _ => true
 | .mu _ => true
 | _ => false
noncomputable def Sl.lk : Sl -> Bool
 | .lo _ => true
 | .lm _ => true
 | _ => false
abbrev Ns := List (Option Nat)
noncomputable def Oc (X : Nat -> Prop) (ns : Ns) (n : Nat) : Prop := ¬ X n /\ some n ∉ ns
noncomputable def bW : Ob -> Prop
 | .fz _ => False
 | .any => False
 | _ => True
noncomputable def SlR (P : Nat -> Prop) (h0 : Nat) (n : Option (Option Nat)) (d : Option (Option D)) (h : AH) : Sl -> Prop
 | .no => n = some none
 | .sh v => n = some none /\ ∃ x, d = some (some x) /\ Rd P h x v
 | .ow v => ∃ m o, n = some (some m) /\ d = some (some (.ref m)) /\ h0 <= m /\ h[m]? = some o /\ bW o /\ Rc P h o v
 | .lo v => ∃ m o, n = some (some m) /\ d = some (some (.ref m)) /\ h0 <= m /\ h[m]? = some o /\ bW o /\ Rc P h o v
 | .mu v => ∃ m o, n = some (some m) /\ d = some (some (.ref m)) /\ h[m]? = some o /\ bW o /\ Rc P h o v
 | .lm v => ∃ m o, n = some (some m) /\ d = some (some (.ref m)) /\ h[m]? = some o /\ bW o /\ Rc P h o v
structure Sat (X : Nat -> Prop) (h0 : Nat) (ns : Ns) (e : E3) (ae : AE) (h : AH) : Prop where
 l1 : ae.length = e.length
 l2 : ns.length = e.length
 lh : h0 <= h.length
 xl : ∀ (n : Nat), X n -> n < h.length
 inj : ∀ (i j n : Nat), ns[i]? = some (some n) -> ns[j]? = some (some n) -> i = j
 nx : ∀ (i n : Nat), ns[i]? = some (some n) -> ¬ X n
 sl : ∀ (i : Nat) (s : Sl), e[i]? = some s -> SlR (Oc X ns) h0 (ns[i]?) (ae[i]?) h s
noncomputable def Mt (ns : Ns) (e : E3) (n : Nat) : Prop := ∃ (i : Nat) (s : Sl), ns[i]? = some (some n) /\ e[i]? = some s /\ s.mt = true
structure Stp (ns : Ns) (e : E3) (h : AH) (ns' : Ns) (e' : E3) (h' : AH) : Prop where
 len : h.length <= h'.length
 keep : ∀ (m : Nat) (o : Ob), h[m]? = some o -> ¬ Mt ns e m -> h'[m]? = some o
 nw : ∀ (i n : Nat), ns'[i]? = some (some n) -> ns[i]? = some (some n) \/ h.length <= n
 lk : ∀ (i : Nat) (s : Sl), e[i]? = some s -> s.lk = true -> e'[i]? = some s /\ ns'[i]? = ns[i]?
 lk' : ∀ (i : Nat) (s : Sl), e'[i]? = some s -> s.lk = true -> e[i]? = some s /\ ns'[i]? = ns[i]?
 mu : ∀ (i : Nat) (v : Val), e'[i]? = some (.mu v) -> ∃ u, e[i]? = some (.mu u) /\ ns'[i]? = ns[i]?
 mu' : ∀ (i : Nat) (u : Val), e[i]? = some (.mu u) -> ∃ v, e'[i]? = some (.mu v) /\ ns'[i]? = ns[i]?
section
variable {X : Nat -> Prop} {h0 : Nat} {ns ns' ns1 ns2 : Ns} {e e' e1 e2 : E3} {ae : AE} {h h' h1 h2 : AH}
theorem bo {n : Nat} : some n ∈ ns ↔ ∃ i : Nat, ns[i]? = some (some n) := by
 constructor
 ·intro m; exact List.getElem?_of_mem m
 ·rintro ⟨i, e⟩; exact List.mem_of_getElem? e
theorem Sat.own (S : Sat X h0 ns e ae h) {i n : Nat} (q : ns[i]? = some (some n)) : ∃ s v o, e[i]? = some s /\ (s.mt = true \/ s.lk = true) /\ s.val = some v /\ ae[i]? = some (some (.ref n)) /\ h[n]? = some o /\ bW o /\ Rc (Oc X ns) h o v := by
 have hi : i < e.length := by rw [<- S.l2]; exact (List.getElem?_eq_some_iff.mp q).1
 have hs := S.sl i e[i] (List.getElem?_eq_getElem hi)
 refine ⟨e[i], ?_⟩
 have he := List.getElem?_eq_getElem hi
 generalize e[i] = s at *
 rw [q] at hs
 cases s with
 | no => cases hs
 | sh v => cases hs.1
 | ow v => obtain ⟨m, o, e1, e2, _, e3, e4, e5⟩ := hs; cases e1; exact ⟨v, o, he, .inl rfl, rfl, e2, e3, e4, e5⟩
 | lo v => obtain ⟨m, o, e1, e2, _, e3, e4, e5⟩ := hs; cases e1; exact ⟨v, o, he, .inr rfl, rfl, e2, e3, e4, e5⟩
 | mu v => obtain ⟨m, o, e1, e2, e3, e4, e5⟩ := hs; cases e1; exact ⟨v, o, he, .inl rfl, rfl, e2, e3, e4, e5⟩
 | lm v => obtain ⟨m, o, e1, e2, e3, e4, e5⟩ := hs; cases e1; exact ⟨v, o, he, .inr rfl, rfl, e2, e3, e4, e5⟩
theorem Stp.refl : Stp ns e h ns e h := ⟨Nat.le_refl _, fun _ _ q _ => q, fun _ _ q => .inl q, fun _ _ q _ => ⟨q, rfl⟩, fun _ _ q _ => ⟨q, rfl⟩, fun _ _ q => ⟨_, q, rfl⟩, fun _ _ q => ⟨_, q, rfl⟩⟩
theorem
    Stp.trans (S : Sat X h0 ns e ae h) (a : Stp ns e h ns1 e1 h1) (b : Stp ns1 e1 h1 ns2 e2 h2) : Stp ns e h ns2 e2 h2 := by
 refine ⟨Nat.le_trans a.len b.len, fun m o q hm => ?_, fun i n q => ?_, fun i s q hl => ?_, fun i s q hl => ?_, fun i v q => ?_, fun i v q => ?_⟩
 ·refine b.keep m o (a.keep m o q hm) fun ⟨i, s, z1, z2, z3⟩ => hm ?_
  have hlt := (List.getElem?_eq_some_iff.mp q).1
  rcases a.nw i m z1 with z | z
  ·obtain ⟨s0, v, o', q1, q2, _⟩ := S.own z
   rcases q2 with q2 | q2
   ·exact ⟨i, s0, z, q1, q2⟩
   ·have := (a.lk i s0 q1 q2).1
    rw [z2] at this
    cases this
    exfalso
    cases s <;> first | cases z3; done | cases q2; done
  ·omega
 ·rcases b.nw i n q with z | z
  ·exact a.nw i n z
  ·exact .inr (Nat.le_trans a.len z)
 ·obtain ⟨q1, q2⟩ := a.lk i s q hl
  obtain ⟨q3, q4⟩ := b.lk i s q1 hl
  exact ⟨q3, q4.trans q2⟩
 ·obtain ⟨q1, q2⟩ := b.lk' i s q hl
  obtain ⟨q3, q4⟩ := a.lk' i s q1 hl
  exact ⟨q3, q2.trans q4⟩
 ·obtain ⟨u, q1, q2⟩ := b.mu i v q
  obtain ⟨u', q3, q4⟩ := a.mu i u q1
  exact ⟨u', q3, q2.trans q4⟩
 ·obtain ⟨u, q1, q2⟩ := a.mu' i v q
  obtain ⟨u', q3, q4⟩ := b.mu' i u q1
  exact ⟨u', q3, q4.trans q2⟩
theorem Stp.mov (S : Sat X h0 ns e ae h) (a : Stp ns e h ns1 e1 h1) : Mov (Oc X ns) (Oc X ns1) h h1 := fun n o p q => by
 have hlt := (List.getElem?_eq_some_iff.mp q).1
 have hm : ¬ Mt ns e n := fun ⟨i, s, z, _⟩ => p.2 (bo.mpr ⟨i, z⟩)
 refine ⟨⟨p.1, fun z => ?_⟩, a.keep n o q hm⟩
 obtain ⟨i, z⟩ := bo.mp z
 rcases a.nw i n z with z | z
 ·exact p.2 (bo.mpr ⟨i, z⟩)
 ·omega
theorem cV {n : Nat} {o : Ob} (q : h[n]? = some o) : n < h.length := (List.getElem?_eq_some_iff.mp q).1
theorem ke {n : Nat} {o : Ob} {g : AH} (q : h[n]? = some o) : (h ++ g)[n]? = some o := by rw [List.getElem?_append_left (cV q)]; exact q
theorem xV {o : Ob} : (h ++ [o])[h.length]? = some o := by rw [List.getElem?_append_right (Nat.le_refl _), Nat.sub_self]; rfl
theorem SlR.mono {P P' : Nat -> Prop} {n : Option (Option Nat)} {d : Option (Option D)} {s : Sl} (m : Mov P P' h h') (k : ∀ j o, n = some (some j) -> h[j]? = some o -> h'[j]? = some o) (r : SlR P h0 n d h s) : SlR P' h0 n d h' s := by
 cases s with
 | no => exact r
 | sh v => obtain ⟨q, x, q1, q2⟩ := r; exact ⟨q, x, q1, q2.mono m⟩
 | ow v => obtain ⟨j, o, q1, q2, q3, q4, q5, q6⟩ := r; exact ⟨j, o, q1, q2, q3, k j o q1 q4, q5, q6.mono m⟩
 | lo v => obtain ⟨j, o, q1, q2, q3, q4, q5, q6⟩ := r; exact ⟨j, o, q1, q2, q3, k j o q1 q4, q5, q6.mono m⟩
 | mu v => obtain ⟨j, o, q1, q2, q4, q5, q6⟩ := r; exact ⟨j, o, q1, q2, k j o q1 q4, q5, q6.mono m⟩
 | lm v => obtain ⟨j, o, q1, q2, q4, q5, q6⟩ := r; exact ⟨j, o, q1, q2, k j o q1 q4, q5, q6.mono m⟩
noncomputable def Xn (X : Nat -> Prop) (n : Nat) : Nat -> Prop := fun m => X m \/ m = n
theorem Sat.grow (S : Sat X h0 ns e ae h) (o : Ob) : Sat (Xn X h.length) h0 ns e ae (h ++ [o]) := by
 have mv : Mov (Oc X ns) (Oc (Xn X h.length) ns) h (h ++ [o]) := fun n o' p q => ⟨⟨fun z => by
  rcases z with z | z
  ·exact p.1 z
  ·have := cV q; omega, p.2⟩, ke q⟩
 refine ⟨S.l1, S.l2, by rw [List.length_append]; have := S.lh; omega, fun n z => ?_, S.inj, fun i n q z => ?_, fun i s q => (S.sl i s q).mono mv fun j o' _ q' => ke q'⟩
 ·rw [List.length_append]
  rcases z with z | z
  ·have := S.xl n z; omega
  ·subst z; show h.length < h.length + 1; omega
 ·rcases z with z | z
  ·exact S.nx i n q z
  ·obtain ⟨_, _, _, _, _, _, _, q', _⟩ := S.own q
   have := cV q'; omega
theorem Sat.weak {Y : Nat -> Prop} (S : Sat Y h0 ns e ae h) (hx : ∀ n, X n -> Y n) : Sat X h0 ns e ae h :=
 ⟨S.l1, S.l2, S.lh, fun n z => S.xl n (hx n z), S.inj, fun i n q z => S.nx i n q (hx n z), fun i s q => (S.sl i s q).mono (fun n o p q => ⟨⟨fun z => p.1 (hx n z), p.2⟩, q⟩) fun _ _ _ q => q⟩
theorem Stp.grow (o : Ob) : Stp ns e h ns e (h ++ [o]) := ⟨by rw [List.length_append]; omega, fun _ _ q _ => ke q, fun _ _ q => .inl q, fun _ _ q _ => ⟨q, rfl⟩, fun _ _ q _ => ⟨q, rfl⟩, fun _ _ q => ⟨_, q, rfl⟩, fun _ _ q => ⟨_, q, rfl⟩⟩
end
end L3
set_option Elab.async false
set_option linter.all false
set_option maxRecDepth 100000
namespace L3
open PySem PySem.Spec PyProof.Rows L2
section
variable {X : Nat -> Prop} {h0 : Nat} {ns ns' : Ns} {e e' : E3} {ae : AE} {h h' hs : AH}
theorem bJ {α : Type} {l : List α} {i j : Nat} {a b : α} (hi : i < l.length) (q : (l.set i a)[j]? = some b) : (j = i /\ b = a) \/ (j ≠ i /\ l[j]? = some b) := by
 rw [List.getElem?_set] at q
 by_cases z : i = j
 ·subst z
  rw [if_pos rfl, if_pos hi] at q
  exact .inl ⟨rfl, (Option.some.inj q).symm⟩
 ·rw [if_neg z] at q
  exact .inr ⟨fun y => z y.symm, q⟩
theorem bU {α : Type} {l : List α} {i : Nat} {a : α} (hi : i < l.length) : (l.set i a)[i]? = some a := by rw [List.getElem?_set, if_pos rfl, if_pos hi]
theorem bR {α : Type} {l : List α} {i j : Nat} {a : α} (hi : j ≠ i) : (l.set i a)[j]? = l[j]? := by rw [List.getElem?_set_ne (fun y => hi y.symm)]
theorem ff {i n : Nat} (p : Oc X ns n) : Oc X (ns.set i none) n := ⟨p.1, fun z => by
 rcases List.mem_or_eq_of_mem_set z with z | z
 ·exact p.2 z
 ·cases z⟩
theorem Sat.putN (S : Sat X h0 ns e ae h) {i : Nat} (hi : i < e.length) {s : Sl} {d : Option D} (q : SlR (Oc X (ns.set i none)) h0 (some none) (some d) h s) : Sat X h0 (ns.set i none) (e.set i s) (ae.set i d) h := by
 have hn : i < ns.length := by rw [S.l2]; exact hi
 have ha : i < ae.length := by rw [S.l1]; exact hi
 refine ⟨by rw [List.length_set, List.length_set]; exact S.l1, by rw [List.length_set, List.length_set]; exact S.l2, S.lh, S.xl, fun j k n q1 q2 => ?_, fun j n q1 => ?_, fun j s' q1 => ?_⟩
 ·rcases bJ hn q1 with ⟨_, z⟩ | ⟨_, z⟩
  ·cases z
  rcases bJ hn q2 with ⟨_, y⟩ | ⟨_, y⟩
  ·cases y
  exact S.inj j k n z y
 ·rcases bJ hn q1 with ⟨_, z⟩ | ⟨_, z⟩
  ·cases z
  exact S.nx j n z
 ·rcases bJ hi q1 with ⟨rfl, rfl⟩ | ⟨z, q2⟩
  ·rw [bU hn, bU ha]; exact q
  ·rw [bR z, bR z]
   exact (S.sl j s' q2).mono (fun n o p q => ⟨ff p, q⟩) fun _ _ _ q => q
theorem Sat.putN' (S : Sat X h0 ns e ae h) {i : Nat} (hi : i < e.length) {s : Sl} (q : SlR (Oc X (ns.set i none)) h0 (some none) (ae[i]?) h s) : Sat X h0 (ns.set i none) (e.set i s) ae h := by
 have ha : i < ae.length := by rw [S.l1]; exact hi
 have := S.putN hi (s := s) (d := ae[i]) (by rw [List.getElem?_eq_getElem ha] at q; exact q)
 rw [List.set_getElem_self] at this
 exact this
theorem Sat.putO {n : Nat} {o : Ob} {v : Val} (S : Sat (Xn X n) h0 ns e ae h) (hx : ¬ X n) {i : Nat} (hi : i < e.length) (hn0 : h0 <= n) (eo : h[n]? = some o) (hf : bW o) (r : Rc (Oc (Xn X n) ns) h o v) : Sat X h0 (ns.set i (some n)) (e.set i (.ow v)) (ae.set i (some (.ref n))) h := by
 have hn : i < ns.length := by rw [S.l2]; exact hi
 have ha : i < ae.length := by rw [S.l1]; exact hi
 have nn : ∀ j : Nat, ns[j]? ≠ some (some n) := fun j q => S.nx j n q (.inr rfl)
 have mv : Mov (Oc (Xn X n) ns) (Oc X (ns.set i (some n))) h h := fun m o' p q => ⟨⟨fun z => p.1 (.inl z), fun z => by
  rcases List.mem_or_eq_of_mem_set z with z | z
  ·exact p.2 z
  ·cases z; exact p.1 (.inr rfl)⟩, q⟩
 refine ⟨by rw [List.length_set, List.length_set]; exact S.l1, by rw [List.length_set, List.length_set]; exact S.l2, S.lh, fun m z => S.xl m (.inl z), fun j k m q1 q2 => ?_, fun j m q1 z => ?_, fun j s' q1 => ?_⟩
 ·rcases bJ hn q1 with ⟨z1, z⟩ | ⟨z1, z⟩ <;> rcases bJ hn q2 with ⟨y1, y⟩ | ⟨y1, y⟩
  ·rw [z1, y1]
  ·cases z; exact absurd y (nn k)
  ·cases y; exact absurd z (nn j)
  ·exact S.inj j k m z y
 ·rcases bJ hn q1 with ⟨_, y⟩ | ⟨_, y⟩
  ·cases y; exact hx z
  ·exact S.nx j m y (.inl z)
 ·rcases bJ hi q1 with ⟨rfl, rfl⟩ | ⟨z, q2⟩
  ·rw [bU hn, bU ha]; exact ⟨n, o, rfl, rfl, hn0, eo, hf, r.mono mv⟩
  ·rw [bR z, bR z]
   exact (S.sl j s' q2).mono mv fun _ _ _ q => q
noncomputable def Sl.pl : Sl -> Bool
 | .no => true
 | .sh _ => true
 | .ow _ => true
 | _ => false
theorem Stp.put {ns0 : Ns} {e0 : E3} (A : Stp ns0 e0 hs ns e h) {i : Nat} (hi : i < e.length) {x : Option Nat} (hx : ∀ n, x = some n -> hs.length <= n) {s s0 : Sl} (q0 : e[i]? = some s0) (p0 : s0.pl = true) (p : s.pl = true) (l2 : ns.length = e.length) : Stp ns0 e0 hs (ns.set i x) (e.set i s) h := by
 have hn : i < ns.length := by rw [l2]; exact hi
 refine ⟨A.len, A.keep, fun j n q => ?_, fun j s' q hl => ?_, fun j s' q hl => ?_, fun j v q => ?_, fun j v q => ?_⟩
 ·rcases bJ hn q with ⟨_, z⟩ | ⟨_, z⟩
  ·exact .inr (hx n z.symm)
  ·exact A.nw j n z
 ·obtain ⟨q1, q2⟩ := A.lk j s' q hl
  have z : j ≠ i := fun z => by
   subst z
   rw [q0] at q1; cases q1
   cases s0 <;> first | cases p0; done | cases hl; done
  rw [bR z, bR z]; exact ⟨q1, q2⟩
 ·rcases bJ hi q with ⟨_, z⟩ | ⟨z, q1⟩
  ·subst z; cases s' <;> first | cases p; done | cases hl; done
  ·rw [bR z]; exact A.lk' j s' q1 hl
 ·rcases bJ hi q with ⟨_, z⟩ | ⟨z, q1⟩
  ·subst z; cases p
  ·rw [bR z]; exact A.mu j v q1
 ·obtain ⟨u, q1, q2⟩ := A.mu' j v q
  have z : j ≠ i := fun z => by
   subst z
   rw [q0] at q1; cases q1; cases p0
  exact ⟨u, by rw [bR z]; exact q1, by rw [bR z]; exact q2⟩
end
inductive Tm where
 | val (v : Val) | new (v : Val) | bor (i : Nat)
inductive R3 (α : Type) where
 | ok (a : α) (e : E3) | exc (c : Str) (e : E3) | stuck
noncomputable def R3.bind {α β : Type} (r : R3 α) (f : α -> E3 -> R3 β) : R3 β := match r with
 | .ok a e => f a e
 | .exc c e => .exc c e
 | .stuck => .stuck
abbrev ME3 := E3 -> R3 Tm
abbrev MT3 := E3 -> R3 Bool
abbrev MA3 := E3 -> R3 (List Tm)
noncomputable def Po {δ α : Type} (X : Nat -> Prop) (h0 : Nat) (ns : Ns) (e : E3) (ae : AE) (h : AH) (rel : Ns -> E3 -> AH -> δ -> α -> Prop) (r2 : R δ) : R3 α -> Prop
 | .stuck => True
 | .ok t e' => ∃ d h' ns', r2 = .ok d h' /\ Stp ns e h ns' e' h' /\ Sat X h0 ns' e' ae h' /\ rel ns' e' h' d t
 | .exc c e' => ∃ h' ns', r2 = .exc c h' /\ Stp ns e h ns' e' h' /\ Sat X h0 ns' e' ae h'
noncomputable def relE (X : Nat -> Prop) (h0 L : Nat) (ae : AE) (ns : Ns) (e : E3) (h : AH) (d : D) : Tm -> Prop
 | .val v => Rd (Oc X ns) h d v
 | .new v => ∃ n o, d = .ref n /\ L <= n /\ ¬ X n /\ h[n]? = some o /\ bW o /\ Sat (Xn X n) h0 ns e ae h /\ Rc (Oc (Xn X n) ns) h o v
 | .bor i => ae[i]? = some (some d)
noncomputable def relT (_ : Ns) (_ : E3) (_ : AH) (b c : Bool) : Prop := b = c
inductive TsR (X : Nat -> Prop) (ns : Ns) (ae : AE) (h : AH) : List D -> List Tm -> Prop where
 | nil : TsR X ns ae h [] []
 | val {d : D} {v : Val} {ds : List D} {ts : List Tm} (r : Rd (Oc X ns) h d v) (rr : TsR X ns ae h ds ts) : TsR X ns ae h (d :: ds) (.val v :: ts)
 | bor {d : D} {i : Nat} {ds : List D} {ts : List Tm} (q : ae[i]? = some (some d)) (rr : TsR X ns ae h ds ts) : TsR X ns ae h (d :: ds) (.bor i :: ts)
noncomputable def relA (X : Nat -> Prop) (ae : AE) (ns : Ns) (_ : E3) (h : AH) (ds : List D) (ts : List Tm) : Prop := TsR X ns ae h ds ts
noncomputable def RE (F : ME) (G : ME3) : Prop := ∀ X h0 L ns e ae h, Sat X h0 ns e ae h -> L <= h.length -> Po X h0 ns e ae h (relE X h0 L ae) (F ae h) (G e)
noncomputable def RT (F : MT) (G : MT3) : Prop := ∀ X h0 ns e ae h, Sat X h0 ns e ae h -> Po X h0 ns e ae h relT (F ae h) (G e)
noncomputable def RA (F : MA) (G : MA3) : Prop := ∀ X h0 ns e ae h, Sat X h0 ns e ae h -> Po X h0 ns e ae h (relA X ae) (F ae h) (G e)
section
variable {X : Nat -> Prop} {h0 L : Nat} {ns ns' : Ns} {e e' : E3} {ae : AE} {h h' : AH}
theorem Po.bind {δ δ' α α' : Type} {rel : Ns -> E3 -> AH -> δ -> α -> Prop} {rel' : Ns -> E3 -> AH -> δ' -> α' -> Prop} {r2 : R δ} {r3 : R3 α} {f2 : δ -> AH -> R δ'} {f3 : α -> E3 -> R3 α'} (S : Sat X h0 ns e ae h) (p : Po X h0 ns e ae h rel r2 r3)
  (k : ∀ d t h' ns' e', Stp ns e h ns' e' h' -> Sat X h0 ns' e' ae h' -> rel ns' e' h' d t -> Po X h0 ns' e' ae h' rel' (f2 d h') (f3 t e')) : Po X h0 ns e ae h rel' (r2.bind f2) (r3.bind f3) := by
 cases r3 with
 | stuck => trivial
 | exc c e' => obtain ⟨h', ns', q, q1, q2⟩ := p; subst q; exact ⟨h', ns', rfl, q1, q2⟩
 |
  ok t e' =>
  obtain ⟨d, h', ns', q, q1, q2, q3⟩ := p
  subst q
  have := k d t h' ns' e' q1 q2 q3
  show Po X h0 ns e ae h rel' (f2 d h') (f3 t e')
  generalize f3 t e' = r at *
  cases r with
  | stuck => trivial
  | exc c e2 => obtain ⟨h2, ns2, y, y1, y2⟩ := this; exact ⟨h2, ns2, y, q1.trans S y1, y2⟩
  | ok t2 e2 => obtain ⟨d2, h2, ns2, y, y1, y2, y3⟩ := this; exact ⟨d2, h2, ns2, y, q1.trans S y1, y2, y3⟩
theorem Po.ret {δ α : Type} {rel : Ns -> E3 -> AH -> δ -> α -> Prop} {d : δ} {t : α} (S : Sat X h0 ns e ae h) (q : rel ns e h d t) : Po X h0 ns e ae h rel (.ok d h) (.ok t e) := ⟨d, h, ns, rfl, .refl, S, q⟩
theorem TsR.stp {ds : List D} {ts : List Tm} (S : Sat X h0 ns e ae h) (a : Stp ns e h ns' e' h') (r : TsR X ns ae h ds ts) : TsR X ns' ae h' ds ts := by
 induction r with
 | nil => exact .nil
 | val r _ ih => exact .val (r.mono (a.mov S)) ih
 | bor q _ ih => exact .bor q ih
noncomputable def rs (e : E3) : Tm -> Option Val
 | .val v => some v
 | .new v => some v
 | .bor i => (e[i]?).bind Sl.val
theorem Sat.bor (S : Sat X h0 ns e ae h) {i : Nat} {d : D} {v : Val} (q : ae[i]? = some (some d)) (r : (e[i]?).bind Sl.val = some v) : ShR (Oc X ns) h d v := by
 cases z : e[i]? with
 | none => rw [z] at r; cases r
 |
  some s =>
  rw [z] at r
  have y := S.sl i s z
  rw [q] at y
  have r' : s.val = some v := r
  cases s with
  | no => cases r'
  | sh u => cases r'; obtain ⟨_, x, e1, e2⟩ := y; cases e1; exact .inl e2
  | ow u => cases r'; obtain ⟨m, o, _, e2, _, e3, _, e4⟩ := y; cases e2; exact .inr ⟨m, o, rfl, e3, e4⟩
  | lo u => cases r'; obtain ⟨m, o, _, e2, _, e3, _, e4⟩ := y; cases e2; exact .inr ⟨m, o, rfl, e3, e4⟩
  | mu u => cases r'; obtain ⟨m, o, _, e2, e3, _, e4⟩ := y; cases e2; exact .inr ⟨m, o, rfl, e3, e4⟩
  | lm u => cases r'; obtain ⟨m, o, _, e2, e3, _, e4⟩ := y; cases e2; exact .inr ⟨m, o, rfl, e3, e4⟩
theorem relE.new {d : D} {v : Val} (r : relE X h0 L ae ns e h d (.new v)) : Rd (Oc X ns) h d v := by
 obtain ⟨n, o, rfl, _, hx, eo, _, S, rc⟩ := r
 exact .cell ⟨hx, fun z => by obtain ⟨i, z⟩ := bo.mp z; exact S.nx i n z (.inr rfl)⟩ eo (rc.mono fun m o p q => ⟨⟨fun z => p.1 (.inl z), p.2⟩, q⟩)
theorem relE.sh {d : D} {t : Tm} {v : Val} (S : Sat X h0 ns e ae h) (r : relE X h0 L ae ns e h d t) (q : rs e t = some v) : ShR (Oc X ns) h d v := by
 cases t with
 | val u => cases q; exact .inl r
 | new u => cases q; exact .inl r.new
 | bor i => exact S.bor r q
theorem relE.stp {d : D} {t : Tm} (S : Sat X h0 ns e ae h) (a : Stp ns e h ns' e' h') (r : relE X h0 L ae ns e h d t) (hn : ∀ v, t ≠ .new v) : relE X h0 L ae ns' e' h' d t := by
 cases t with
 | val u => exact Rd.mono (a.mov S) r
 | new u => exact absurd rfl (hn u)
 | bor i => exact r
noncomputable def Tm.drop : Tm -> Tm
 | .new v => .val v
 | t => t
theorem relE.drop {d : D} {t : Tm} (r : relE X h0 L ae ns e h d t) : relE X h0 L ae ns e h d t.drop /\ ∀ v, t.drop ≠ .new v := by
 cases t with
 | val u => exact ⟨r, fun _ z => nomatch z⟩
 | new u => exact ⟨r.new, fun _ z => nomatch z⟩
 | bor i => exact ⟨r, fun _ z => nomatch z⟩
noncomputable def rss (e : E3) : List Tm -> Option (List Val)
 | [] => some []
 | t :: ts => match rs e t, rss e ts with
  | some v, some vs => some (v :: vs)
  | _, _ => none
theorem TsR.sh {ds : List D} {ts : List Tm} {vs : List Val} (S : Sat X h0 ns e ae h) (r : TsR X ns ae h ds ts) (q : rss e ts = some vs) : ShRs (Oc X ns) h ds vs := by
 induction r generalizing vs with
 | nil => cases q; exact .nil
 |
  val r _ ih =>
  unfold rss at q
  split at q
  ·rename_i e1 e2; cases q; cases e1; exact .cons (.inl r) (ih e2)
  ·cases q
 |
  bor q' _ ih =>
  unfold rss at q
  split at q
  ·rename_i e1 e2; cases q; exact .cons (S.bor q' e1) (ih e2)
  ·cases q
end
inductive Bv where
 | val (v : Val) | new (v : Val) | stuck
noncomputable def BvR (P : Nat -> Prop) (h : AH) (r : R D) : Bv -> Prop
 | .val v => ∃ d, r = .ok d h /\ Rd P h d v
 | .new v => ∃ o, r = .ok (.ref h.length) (h ++ [o]) /\ bW o /\ Rc P h o v
 | .stuck => True
noncomputable def Bv.at (b : Bv) (e : E3) : R3 Tm := match b with
 | .val v => .ok (.val v) e
 | .new v => .ok (.new v) e
 | .stuck => .stuck
theorem BvR.po {X : Nat -> Prop} {h0 L : Nat} {ns : Ns} {e : E3} {ae : AE} {h : AH} {r : R D} {b : Bv} (S : Sat X h0 ns e ae h) (hl : L <= h.length) (q : BvR (Oc X ns) h r b) : Po X h0 ns e ae h (relE X h0 L ae) r (b.at e) := by
 cases b with
 | stuck => trivial
 | val v => obtain ⟨d, rfl, r⟩ := q; exact Po.ret S r
 |
  new v =>
  obtain ⟨o, rfl, hf, r⟩ := q
  have S' := S.grow o
  refine ⟨_, _, ns, rfl, .grow o, S'.weak fun n z => .inl z, h.length, o, rfl, hl, fun z => ?_, xV, hf, S', r.mono fun n o' p q => ⟨⟨fun z => ?_, p.2⟩, ke q⟩⟩
  ·have := S.xl _ z; omega
  ·rcases z with z | z
   ·exact p.1 z
   ·have := cV q; omega
noncomputable def RU (g2 : D -> AH -> R D) (g3 : Val -> Bv) : Prop := ∀ P h d v, ShR P h d v -> BvR P h (g2 d h) (g3 v)
noncomputable def RO (g2 : D -> D -> AH -> R D) (g3 : Val -> Val -> Bv) : Prop := ∀ P h d1 d2 v1 v2, ShR P h d1 v1 -> ShR P h d2 v2 -> BvR P h (g2 d1 d2 h) (g3 v1 v2)
noncomputable def RFn (g2 : Fn) (g3 : List Val -> Bv) : Prop := ∀ P h ds vs, ShRs P h ds vs -> BvR P h (g2 ds h) (g3 vs)
noncomputable def uG (i : Nat) : ME3 := fun e => match e[i]? with
 | some (.sh v) => .ok (.val v) e
 | some .no => .stuck
 | some _ => .ok (.bor i) e
 | none => .stuck
noncomputable def vC (v : Val) : ME3 := fun e => .ok (.val v) e
noncomputable def vUn (g : Val -> Bv) (F : ME3) : ME3 := fun e => (F e).bind fun t e1 => match rs e1 t with
 | some v => (g v).at e1
 | none => .stuck
noncomputable def vOp (g : Val -> Val -> Bv) (F G : ME3) : ME3 := fun e => (F e).bind fun t1 e1 => (G e1).bind fun t2 e2 => match rs e2 t1.drop, rs e2 t2 with
 | some v1, some v2 => (g v1 v2).at e2
 | _, _ => .stuck
noncomputable def vNil : MA3 := fun e => .ok [] e
noncomputable def wW (F : ME3) (A : MA3) : MA3 := fun e => (F e).bind fun t e1 => (A e1).bind fun ts e2 => .ok (t.drop :: ts) e2
noncomputable def vFn (g : List Val -> Bv) (A : MA3) : ME3 := fun e => (A e).bind fun ts e1 => match rss e1 ts with
 | some vs => (g vs).at e1
 | none => .stuck
noncomputable def cB (e : E3) : Tm -> Option (E3 × Val)
 | .val v => some (e, v)
 | .new v => some (e, v)
 | .bor i => match e[i]? with
  | some (.sh v) => some (e, v)
  | some (.ow v) => some (e.set i (.sh v), v)
  | _ => none
noncomputable def dem (e : E3) : List Tm -> Option (E3 × List Val)
 | [] => some (e, [])
 | t :: ts => match cB e t with
  | some (e1, v) => match dem e1 ts with
   | some (e2, vs) => some (e2, v :: vs)
   | none => none
  | none => none
noncomputable def vTup (A : MA3) : ME3 := fun e => (A e).bind fun ts e1 => match dem e1 ts with
 | some (e2, vs) => if vs.length <= 16777216 then .ok (.val (.tup vs)) e2 else .stuck
 | none => .stuck
noncomputable def vLst (A : MA3) : ME3 := fun e => (A e).bind fun ts e1 => match dem e1 ts with
 | some (e2, vs) => if vs.length <= 16777216 then .ok (.new (.lst vs)) e2 else .stuck
 | none => .stuck
noncomputable def bOf : Option Val -> Option Bool
 | some (.bl b) => some b
 | _ => none
noncomputable def vAnd (F G : ME3) : ME3 := fun e => (F e).bind fun t e1 => match bOf (rs e1 t) with
 | some true => G e1
 | some false => .ok (.val (.bl false)) e1
 | none => .stuck
noncomputable def vOr (F G : ME3) : ME3 := fun e => (F e).bind fun t e1 => match bOf (rs e1 t) with
 | some true => .ok (.val (.bl true)) e1
 | some false => G e1
 | none => .stuck
noncomputable def vNot (F : ME3) : ME3 := fun e => (F e).bind fun t e1 => match bOf (rs e1 t) with
 | some b => .ok (.val (.bl (!b))) e1
 | none => .stuck
noncomputable def cOf (F : ME3) : MT3 := fun e => (F e).bind fun t e1 => match bOf (rs e1 t) with
 | some b => .ok b e1
 | none => .stuck
noncomputable def cO (c d : MT3) : MT3 := fun e => (c e).bind fun b e1 => if b = true then .ok true e1 else d e1
noncomputable def cNo (c : MT3) : MT3 := fun e => (c e).bind fun b e1 => .ok (!b) e1
noncomputable def cY : MT3 := fun e => .ok true e
noncomputable def sH : Val -> Option Bool
 | .non => some false
 | .bl b => some b
 | .int i => some (i != 0)
 | .tup xs => some (!xs.isEmpty)
 | .lst xs => some (!xs.isEmpty)
 | .kl xs => some (!xs.isEmpty)
 | _ => none
noncomputable def cTr (F : ME3) : MT3 := fun e => (F e).bind fun t e1 => match (rs e1 t).bind sH with
 | some b => .ok b e1
 | none => .stuck
section
variable {F G : ME} {F3 G3 : ME3} {A : MA} {A3 : MA3} {c d : MT} {c3 d3 : MT3}
theorem Bc (i : Nat) : RE (fu i) (uG i) := fun X h0 L ns e ae h S hl => by
 unfold uG
 cases q : e[i]? with
 | none => trivial
 |
  some s =>
  have y := S.sl i s q
  cases s with
  | no => trivial
  | sh v => obtain ⟨_, x, e1, e2⟩ := y; unfold fu; rw [e1]; exact Po.ret S e2
  | ow v => obtain ⟨m, o, _, e2, _⟩ := y; unfold fu; rw [e2]; exact Po.ret S e2
  | lo v => obtain ⟨m, o, _, e2, _⟩ := y; unfold fu; rw [e2]; exact Po.ret S e2
  | mu v => obtain ⟨m, o, _, e2, _⟩ := y; unfold fu; rw [e2]; exact Po.ret S e2
  | lm v => obtain ⟨m, o, _, e2, _⟩ := y; unfold fu; rw [e2]; exact Po.ret S e2
theorem kI {d : D} {v : Val} (r : ∀ P h, Rd P h d v) : RE (eC d) (vC v) := fun X h0 L ns e ae h S hl => Po.ret S (r _ _)
theorem Ey {g : D -> AH -> R D} {g3 : Val -> Bv} (hg : RU g g3) (hF : RE F F3) : RE (eUn g F) (vUn g3 F3) := fun X h0 L ns e ae h S hl =>
 Po.bind S (hF X h0 L ns e ae h S hl) fun d t h1 ns1 e1 a1 S1 r1 => by
  try dsimp only
  split
  ·rename_i v q
   exact BvR.po S1 (Nat.le_trans hl a1.len) (hg _ _ _ _ (r1.sh S1 q))
  ·trivial
theorem DV {g : D -> D -> AH -> R D} {g3 : Val -> Val -> Bv} (hg : RO g g3) (hF : RE F F3) (hG : RE G G3) : RE (eOp g F G) (vOp g3 F3 G3) := fun X h0 L ns e ae h S hl =>
 Po.bind S (hF X h0 L ns e ae h S hl) fun d1 t1 h1 ns1 e1 a1 S1 r1 => Po.bind S1 (hG X h0 L ns1 e1 ae h1 S1 (Nat.le_trans hl a1.len)) fun d2 t2 h2 ns2 e2 a2 S2 r2 => by
  try dsimp only
  split
  ·rename_i v1 v2 q1 q2
   obtain ⟨r1', hn⟩ := r1.drop
   exact BvR.po S2 (Nat.le_trans hl (Nat.le_trans a1.len a2.len)) (hg _ _ _ _ _ _ ((r1'.stp S1 a2 hn).sh S2 q1) (r2.sh S2 q2))
  ·trivial
theorem Bd : RA uM vNil := fun X h0 ns e ae h S => Po.ret S .nil
theorem zg (hF : RE F F3) (hA : RA A A3) : RA (sI F A) (wW F3 A3) := fun X h0 ns e ae h S =>
 Po.bind S (hF X h0 0 ns e ae h S (Nat.zero_le _)) fun d1 t1 h1 ns1 e1 a1 S1 r1 => Po.bind S1 (hA X h0 ns1 e1 ae h1 S1) fun ds ts h2 ns2 e2 a2 S2 r2 => by
  obtain ⟨r1', hn⟩ := r1.drop
  have r3 := r1'.stp S1 a2 hn
  refine Po.ret S2 ?_
  show TsR X ns2 ae h2 (d1 :: ds) (t1.drop :: ts)
  generalize t1.drop = t at *
  cases t with
  | val v => exact .val r3 r2
  | new v => exact absurd rfl (hn v)
  | bor i => exact .bor r3 r2
theorem CV {g : Fn} {g3 : List Val -> Bv} (hg : RFn g g3) (hA : RA A A3) : RE (eFn g A) (vFn g3 A3) := fun X h0 L ns e ae h S hl =>
 Po.bind S (hA X h0 ns e ae h S) fun ds ts h1 ns1 e1 a1 S1 r1 => by
  try dsimp only
  split
  ·rename_i vs q
   exact BvR.po S1 (Nat.le_trans hl a1.len) (hg _ _ _ _ (TsR.sh S1 r1 q))
  ·trivial
theorem CM {X : Nat -> Prop} {h0 : Nat} {ns : Ns} {e : E3} {ae : AE} {h : AH} {i : Nat} {v : Val} (S : Sat X h0 ns e ae h) (q : e[i]? = some (.ow v)) : ∃ n, ae[i]? = some (some (.ref n)) /\ Sat X h0 (ns.set i none) (e.set i (.sh v)) ae h /\ Stp ns e h (ns.set i none) (e.set i (.sh v)) h /\ Rd (Oc X (ns.set i none)) h (.ref n) v := by
 obtain ⟨n, o, q1, q2, _, q3, _, q4⟩ := S.sl i _ q
 have hi := (List.getElem?_eq_some_iff.mp q).1
 have hn : i < ns.length := by rw [S.l2]; exact hi
 have r : Rd (Oc X (ns.set i none)) h (.ref n) v := .cell ⟨S.nx i n q1, fun z => by
  obtain ⟨j, z⟩ := bo.mp z
  rcases bJ hn z with ⟨_, y⟩ | ⟨y, z⟩
  ·cases y
  ·exact y (S.inj j i n z q1)⟩ q3 (q4.mono fun m o p q => ⟨ff p, q⟩)
 exact ⟨n, q2, S.putN' hi ⟨rfl, _, q2, r⟩, Stp.refl.put (x := none) hi (fun _ z => by cases z) q rfl rfl S.l2, r⟩
theorem fm {X : Nat -> Prop} {h0 L : Nat} {ns : Ns} {e e' : E3} {ae : AE} {h : AH} {d : D} {t : Tm} {v : Val} (S : Sat X h0 ns e ae h) (r : relE X h0 L ae ns e h d t) (q : cB e t = some (e', v)) : ∃ ns', Sat X h0 ns' e' ae h /\ Stp ns e h ns' e' h /\ Rd (Oc X ns') h d v := by
 cases t with
 | val u => cases q; exact ⟨ns, S, .refl, r⟩
 | new u => cases q; exact ⟨ns, S, .refl, r.new⟩
 |
  bor i =>
  unfold cB at q
  dsimp only at q
  have r' : ae[i]? = some (some d) := r
  split at q
  ·rename_i u q1; cases q
   obtain ⟨_, x, e1, e2⟩ := S.sl i _ q1
   rw [r'] at e1; cases e1
   exact ⟨ns, S, .refl, e2⟩
  ·rename_i u q1; cases q
   obtain ⟨n, e1, S', a', e2⟩ := CM S q1
   rw [r'] at e1; cases e1
   exact ⟨_, S', a', e2⟩
  ·cases q
theorem
    mC {X : Nat -> Prop} {h0 : Nat} {ae : AE} {h : AH} {ts : List Tm} : ∀ {ds : List D} {vs : List Val} {ns : Ns} {e e' : E3}, Sat X h0 ns e ae h -> TsR X ns ae h ds ts -> dem e ts = some (e', vs) -> ∃ ns', Sat X h0 ns' e' ae h /\ Stp ns e h ns' e' h /\ Rds (Oc X ns') h ds vs := by
 induction ts with
 | nil => intro ds vs ns e e' S r q; cases r; cases q; exact ⟨ns, S, .refl, .nil⟩
 |
  cons t ts ih =>
  intro ds vs ns e e' S r q
  unfold dem at q
  split at q
  ·rename_i e1 v q1
   split at q
   ·rename_i e2 vs' q2
    cases q
    have hr : ∃ d ds', ds = d :: ds' /\ relE X h0 0 ae ns e h d t /\ TsR X ns ae h ds' ts := by
     cases r with
     | val r rr => exact ⟨_, _, rfl, r, rr⟩
     | bor r rr => exact ⟨_, _, rfl, r, rr⟩
    obtain ⟨d, ds', rfl, hr⟩ := hr
    obtain ⟨ns1, S1, a1, r1⟩ := fm S hr.1 q1
    obtain ⟨ns2, S2, a2, r2⟩ := ih S1 (hr.2.stp S a1) q2
    exact ⟨ns2, S2, a1.trans S a2, .cons (r1.mono (a2.mov S1)) r2⟩
   ·cases q
  ·cases q
theorem
    z9 (hA : RA A A3) : RE (eFn lN A) (vTup A3) := fun X h0 L ns e ae h S hl =>
 Po.bind S (hA X h0 ns e ae h S) fun ds ts h1 ns1 e1 a1 S1 r1 => by
  try dsimp only
  split
  ·rename_i e2 vs q
   split
   ·rename_i hv
    obtain ⟨ns2, S2, a2, r2⟩ := mC S1 r1 q
    exact ⟨.tup ds, h1, ns2, by unfold lN; rw [if_pos (by rw [r2.len]; exact hv)], a2, S2, .tup r2⟩
   ·trivial
  ·trivial
theorem
    CJ (hA : RA A A3) : RE (eFn dD A) (vLst A3) := fun X h0 L ns e ae h S hl =>
 Po.bind S (hA X h0 ns e ae h S) fun ds ts h1 ns1 e1 a1 S1 r1 => by
  try dsimp only
  split
  ·rename_i e2 vs q
   split
   ·rename_i hv
    obtain ⟨ns2, S2, a2, r2⟩ := mC S1 r1 q
    have p := BvR.po (r := dD ds h1) (b := .new (.lst vs)) S2 (Nat.le_trans hl a1.len) ⟨.lst ds, by unfold dD; rw [if_pos (by rw [r2.len]; exact hv)], trivial, .lst r2⟩
    obtain ⟨d, h', ns', y, y1, y2, y3⟩ := p
    exact ⟨d, h', ns', y, a2.trans S1 y1, y2, y3⟩
   ·trivial
  ·trivial
theorem iC {X : Nat -> Prop} {h0 L : Nat} {ae : AE} {ns1 : Ns} {e1 : E3} {h1 : AH} {d1 : D} {t1 : Tm} {b : Bool} (S1 : Sat X h0 ns1 e1 ae h1) (r1 : relE X h0 L ae ns1 e1 h1 d1 t1) (q : bOf (rs e1 t1) = some b) : d1 = .bl b := by
 unfold bOf at q
 split at q
 ·rename_i b' q'; cases q; exact (r1.sh S1 q').bl
 ·cases q
theorem zx (hF : RE F F3) (hG : RE G G3) : RE (wF F G) (vAnd F3 G3) := fun X h0 L ns e ae h S hl =>
 Po.bind S (hF X h0 L ns e ae h S hl) fun d1 t1 h1 ns1 e1 a1 S1 r1 => by
  try dsimp only
  split
  ·rename_i q; rw [iC S1 r1 q]; exact hG X h0 L ns1 e1 ae h1 S1 (Nat.le_trans hl a1.len)
  ·rename_i q; rw [iC S1 r1 q]; exact Po.ret S1 (.bl false)
  ·trivial
theorem Dz (hF : RE F F3) (hG : RE G G3) : RE (eOr F G) (vOr F3 G3) := fun X h0 L ns e ae h S hl =>
 Po.bind S (hF X h0 L ns e ae h S hl) fun d1 t1 h1 ns1 e1 a1 S1 r1 => by
  try dsimp only
  split
  ·rename_i q; rw [iC S1 r1 q]; exact Po.ret S1 (.bl true)
  ·rename_i q; rw [iC S1 r1 q]; exact hG X h0 L ns1 e1 ae h1 S1 (Nat.le_trans hl a1.len)
  ·trivial
theorem zE (hF : RE F F3) : RE (wc F) (vNot F3) := fun X h0 L ns e ae h S hl =>
 Po.bind S (hF X h0 L ns e ae h S hl) fun d1 t1 h1 ns1 e1 a1 S1 r1 => by
  try dsimp only
  split
  ·rename_i q; rw [iC S1 r1 q]; exact Po.ret S1 (.bl _)
  ·trivial
theorem DJ (hF : RE F F3) : RT (tOf F) (cOf F3) := fun X h0 ns e ae h S =>
 Po.bind S (hF X h0 0 ns e ae h S (Nat.zero_le _)) fun d1 t1 h1 ns1 e1 a1 S1 r1 => by
  try dsimp only
  split
  ·rename_i q; rw [iC S1 r1 q]; exact Po.ret S1 rfl
  ·trivial
theorem rt_o (hc : RT c c3) (hd : RT d d3) : RT (tO c d) (cO c3 d3) := fun X h0 ns e ae h S =>
 Po.bind S (hc X h0 ns e ae h S) fun b b' h1 ns1 e1 a1 S1 r1 => by
  cases r1
  try dsimp only
  split
  ·exact Po.ret S1 rfl
  ·exact hd X h0 ns1 e1 ae h1 S1
theorem Ex (hc : RT c c3) : RT (tNo c) (cNo c3) := fun X h0 ns e ae h S =>
 Po.bind S (hc X h0 ns e ae h S) fun b b' h1 ns1 e1 a1 S1 r1 => by
  cases r1
  exact Po.ret S1 rfl
theorem rt_y : RT tY cY := fun X h0 ns e ae h S => Po.ret S rfl
theorem yr {P : Nat -> Prop} {h : AH} {d : D} {v : Val} {b : Bool} (r : ShR P h d v) (q : sH v = some b) : oz d h = .ok b h := by
 have emp : ∀ {ds : List D} {vs : List Val}, Rds P h ds vs -> ds.isEmpty = vs.isEmpty := fun r => by cases r <;> rfl
 cases v with
 | non => cases q; rw [r.non]; rfl
 | bl b => cases q; rw [r.bl]; rfl
 | int i => cases q; rw [r.int]; rfl
 | tup xs => cases q; obtain ⟨ds, rfl, r2⟩ := r.tup; show R.ok (!ds.isEmpty) h = _; rw [emp r2]
 |
  lst xs =>
  cases q
  obtain ⟨n, ds, rfl, _, e1, r1⟩ := r.lst
  rw [<- emp r1]
  unfold oz dB; dsimp only; rw [e1]
 |
  kl xs =>
  cases q
  obtain ⟨ds, r2, rfl | ⟨n, rfl, e1⟩⟩ := r.kl
  ·show R.ok (!ds.isEmpty) h = _; rw [emp r2]
  ·rw [<- emp r2]
   unfold oz dB; dsimp only; rw [e1]
 | _ => cases q
theorem EB (hF : RE F F3) : RT (tTr F) (cTr F3) := fun X h0 ns e ae h S =>
 Po.bind S (hF X h0 0 ns e ae h S (Nat.zero_le _)) fun d1 t1 h1 ns1 e1 a1 S1 r1 => by
  try dsimp only
  split
  ·rename_i b q
   obtain ⟨v, q1, q2⟩ := Option.bind_eq_some_iff.mp q
   rw [yr (r1.sh S1 q1) q2]
   exact Po.ret S1 rfl
  ·trivial
end
end L3
set_option Elab.async false
set_option linter.all false
set_option maxRecDepth 100000
namespace L3
open PySem PySem.Spec PyProof.Rows L2
inductive Rt where
 | val (v : Val) | new (v : Val)
inductive SR3 where
 | nx (e : E3) | rt (r : Rt) (e : E3) | bk (e : E3) | ct (e : E3) | exc (c : Str) (e : E3) | stuck
abbrev MS3 := E3 -> SR3
noncomputable def RtR (X : Nat -> Prop) (h0 : Nat) (ns : Ns) (e : E3) (ae : AE) (h : AH) (d : D) : Rt -> Prop
 | .val v => Sat X h0 ns e ae h /\ Rd (Oc X ns) h d v
 | .new v => ∃ n o, d = .ref n /\ h0 <= n /\ ¬ X n /\ h[n]? = some o /\ bW o /\ Sat (Xn X n) h0 ns e ae h /\ Rc (Oc (Xn X n) ns) h o v
noncomputable def PoS (X : Nat -> Prop) (h0 : Nat) (ns : Ns) (e : E3) (h : AH) (r2 : SR) : SR3 -> Prop
 | .stuck => True
 | .nx e' => ∃ ae' h' ns', r2 = .nx ae' h' /\ Stp ns e h ns' e' h' /\ Sat X h0 ns' e' ae' h'
 | .bk e' => ∃ ae' h' ns', r2 = .bk ae' h' /\ Stp ns e h ns' e' h' /\ Sat X h0 ns' e' ae' h'
 | .ct e' => ∃ ae' h' ns', r2 = .ct ae' h' /\ Stp ns e h ns' e' h' /\ Sat X h0 ns' e' ae' h'
 | .exc c e' => ∃ ae' h' ns', r2 = .exc c ae' h' /\ Stp ns e h ns' e' h' /\ Sat X h0 ns' e' ae' h'
 | .rt r e' => ∃ d ae' h' ns', r2 = .rt d h' /\ Stp ns e h ns' e' h' /\ RtR X h0 ns' e' ae' h' d r
noncomputable def RS (F : MS) (G : MS3) : Prop := ∀ X h0 ns e ae h, Sat X h0 ns e ae h -> PoS X h0 ns e h (F ae h) (G e)
noncomputable def R3.toS {α : Type} (r : R3 α) (f : α -> E3 -> SR3) : SR3 := match r with
 | .ok a e => f a e
 | .exc c e => .exc c e
 | .stuck => .stuck
noncomputable def SR3.then (r : SR3) (f : E3 -> SR3) : SR3 := match r with
 | .nx e => f e
 | r => r
section
variable {X : Nat -> Prop} {h0 L : Nat} {ns ns1 ns' : Ns} {e e1 e' : E3} {ae : AE} {h h1 h' : AH}
theorem PoS.after {r2 : SR} {r3 : SR3} (S : Sat X h0 ns e ae h) (a : Stp ns e h ns1 e1 h1) (p : PoS X h0 ns1 e1 h1 r2 r3) : PoS X h0 ns e h r2 r3 := by
 cases r3 with
 | stuck => trivial
 | nx e' => obtain ⟨ae', h', ns', q, q1, q2⟩ := p; exact ⟨ae', h', ns', q, a.trans S q1, q2⟩
 | bk e' => obtain ⟨ae', h', ns', q, q1, q2⟩ := p; exact ⟨ae', h', ns', q, a.trans S q1, q2⟩
 | ct e' => obtain ⟨ae', h', ns', q, q1, q2⟩ := p; exact ⟨ae', h', ns', q, a.trans S q1, q2⟩
 | exc c e' => obtain ⟨ae', h', ns', q, q1, q2⟩ := p; exact ⟨ae', h', ns', q, a.trans S q1, q2⟩
 | rt r e' => obtain ⟨d, ae', h', ns', q, q1, q2⟩ := p; exact ⟨d, ae', h', ns', q, a.trans S q1, q2⟩
theorem PoS.toS {δ α : Type} {rel : Ns -> E3 -> AH -> δ -> α -> Prop} {r2 : R δ} {r3 : R3 α} {f2 : δ -> AH -> SR} {f3 : α -> E3 -> SR3} (p : Po X h0 ns e ae h rel r2 r3)
  (k : ∀ d t h' ns' e', Stp ns e h ns' e' h' -> Sat X h0 ns' e' ae h' -> rel ns' e' h' d t -> PoS X h0 ns e h (f2 d h') (f3 t e')) : PoS X h0 ns e h (r2.toS ae f2) (r3.toS f3) := by
 cases r3 with
 | stuck => trivial
 | exc c e' => obtain ⟨h', ns', rfl, q1, q2⟩ := p; exact ⟨ae, h', ns', rfl, q1, q2⟩
 | ok t e' => obtain ⟨d, h', ns', rfl, q1, q2, q3⟩ := p; exact k d t h' ns' e' q1 q2 q3
theorem PoS.nx {ae' : AE} (a : Stp ns e h ns' e' h') (S : Sat X h0 ns' e' ae' h') : PoS X h0 ns e h (.nx ae' h') (.nx e') := ⟨ae', h', ns', rfl, a, S⟩
end
noncomputable def wNx : MS3 := fun e => .nx e
noncomputable def wSeq (F G : MS3) : MS3 := fun e => (F e).then G
noncomputable def w9 (F : ME3) : MS3 := fun e => (F e).toS fun _ e1 => .nx e1
noncomputable def wIf (c : MT3) (F G : MS3) : MS3 := fun e => (c e).toS fun b e1 => if b = true then F e1 else G e1
noncomputable def mw (t : Tm) (e : E3) : SR3 := match t with
 | .val v => .rt (.val v) e
 | .new v => .rt (.new v) e
 | .bor i => match e[i]? with
  | some (.sh v) => .rt (.val v) e
  | some (.ow v) => .rt (.new v) (e.set i .no)
  | _ => .stuck
noncomputable def wRet (F : ME3) : MS3 := fun e => (F e).toS mw
noncomputable def ip (o : Bool) (i : Nat) (t : Tm) (e : E3) : SR3 := match e[i]? with
 | some s0 => if s0.pl = true then (match t with
  | .val v => .nx (e.set i (.sh v))
  | .new v => .nx (e.set i (if o = true then .ow v else .sh v))
  | .bor j => match cB e (.bor j) with
   | some (e2, v) => .nx (e2.set i (.sh v))
   | none => .stuck) else .stuck
 | none => .stuck
noncomputable def wAsg (o : Bool) (i : Nat) (F : ME3) : MS3 := fun e => (F e).toS (ip o i)
abbrev MG3 := Val -> E3 -> Option E3
abbrev kJ := List Val -> E3 -> Option E3
noncomputable def pN (i : Nat) : MG3 := fun v e => match e[i]? with
 | some s => if s.pl = true then some (e.set i (.sh v)) else none
 | none => none
noncomputable def psN : kJ := fun vs e => match vs with
 | [] => some e
 | _ => none
noncomputable def psC (g : MG3) (u : kJ) : kJ := fun vs e => match vs with
 | v :: r => (g v e).bind fun e1 => u r e1
 | [] => none
noncomputable def pT (n : Nat) (u : kJ) : MG3 := fun v e => match v with
 | .tup vs => if vs.length = n then u vs e else none
 | _ => none
noncomputable def xq (F : ME3) (g : MG3) : MS3 := fun e => (F e).toS fun t e1 => match cB e1 t with
 | some (e2, v) => match g v e2 with
  | some e3 => .nx e3
  | none => .stuck
 | none => .stuck
noncomputable def wPar (i j : Nat) (A : MA3) : MS3 := fun e => (A e).toS fun ts e1 => match dem e1 ts with
 | some (e2, [v, u]) => match (pN i v e2).bind (pN j u) with
  | some e3 => .nx e3
  | none => .stuck
 | _ => .stuck
noncomputable def ud (c : Str) (A : MA3) : MS3 := fun e => (A e).toS fun ts e1 => if ts.length <= 16777216 then .exc c e1 else .stuck
noncomputable def RG (g2 : MG) (g3 : MG3) : Prop := ∀ X h0 ns e ae h d v e', Sat X h0 ns e ae h -> Rd (Oc X ns) h d v -> g3 v e = some e' -> ∃ ae' ns', g2 d ae h = .ok ae' h /\ Sat X h0 ns' e' ae' h /\ Stp ns e h ns' e' h
noncomputable def RGs (g2 : MGs) (g3 : kJ) : Prop := ∀ X h0 ns e ae h ds vs e', Sat X h0 ns e ae h -> Rds (Oc X ns) h ds vs -> g3 vs e = some e' -> ∃ ae' ns', g2 ds ae h = .ok ae' h /\ Sat X h0 ns' e' ae' h /\ Stp ns e h ns' e' h
section
variable {F G : ME} {F3 G3 : ME3} {A : MA} {A3 : MA3} {c d : MT} {c3 d3 : MT3} {U V : MS} {U3 V3 : MS3} {g : MG} {g3 : MG3} {gs : MGs} {gs3 : kJ}
theorem EM : RS sNx wNx := fun X h0 ns e ae h S => .nx .refl S
theorem CL (hU : RS U U3) (hV : RS V V3) : RS (u4 U V) (wSeq U3 V3) := fun X h0 ns e ae h S => by
 have p := hU X h0 ns e ae h S
 show PoS X h0 ns e h ((U ae h).then V) ((U3 e).then V3)
 generalize U3 e = r at *
 cases r with
 | stuck => trivial
 | nx e' => obtain ⟨ae', h', ns', q, q1, q2⟩ := p; rw [q]; exact PoS.after S q1 (hV X h0 ns' e' ae' h' q2)
 | bk e' => obtain ⟨ae', h', ns', q, q1, q2⟩ := p; rw [q]; exact ⟨ae', h', ns', rfl, q1, q2⟩
 | ct e' => obtain ⟨ae', h', ns', q, q1, q2⟩ := p; rw [q]; exact ⟨ae', h', ns', rfl, q1, q2⟩
 | exc c e' => obtain ⟨ae', h', ns', q, q1, q2⟩ := p; rw [q]; exact ⟨ae', h', ns', rfl, q1, q2⟩
 | rt r e' => obtain ⟨d, ae', h', ns', q, q1, q2⟩ := p; rw [q]; exact ⟨d, ae', h', ns', rfl, q1, q2⟩
theorem ye (hF : RE F F3) : RS (rL F) (w9 F3) := fun X h0 ns e ae h S => PoS.toS (hF X h0 0 ns e ae h S (Nat.zero_le _)) fun d t h1 ns1 e1 a1 S1 r1 => .nx a1 S1
theorem Df (hc : RT c c3) (hU : RS U U3) (hV : RS V V3) : RS (sIf c U V) (wIf c3 U3 V3) := fun X h0 ns e ae h S => PoS.toS (hc X h0 ns e ae h S) fun b b' h1 ns1 e1 a1 S1 r1 => by
 cases r1
 try dsimp only
 split
 ·exact PoS.after S a1 (hU X h0 ns1 e1 ae h1 S1)
 ·exact PoS.after S a1 (hV X h0 ns1 e1 ae h1 S1)
theorem
    BA (hF : RE F F3) : RS (vB F) (wRet F3) := fun X h0 ns e ae h S => PoS.toS (hF X h0 h0 ns e ae h S S.lh) fun d t h1 ns1 e1 a1 S1 r1 => by
 cases t with
 | val v => exact ⟨d, ae, h1, ns1, rfl, a1, S1, r1⟩
 | new v => obtain ⟨n, o, q⟩ := r1; exact ⟨d, ae, h1, ns1, rfl, a1, n, o, q⟩
 |
  bor i =>
  unfold mw
  dsimp only
  have r' : ae[i]? = some (some d) := r1
  split
  ·rename_i v q
   obtain ⟨_, x, e1', e2⟩ := S1.sl i _ q
   rw [r'] at e1'; cases e1'
   exact ⟨d, ae, h1, ns1, rfl, a1, S1, e2⟩
  ·rename_i v q
   obtain ⟨n, o, q1, q2, q3, q4, q5, q6⟩ := S1.sl i _ q
   rw [r'] at q2; cases q2
   have hi := (List.getElem?_eq_some_iff.mp q).1
   have hn : i < ns1.length := by rw [S1.l2]; exact hi
   have mv : Mov (Oc X ns1) (Oc (Xn X n) (ns1.set i none)) h1 h1 := fun m o' p q' => ⟨⟨fun z => by
    rcases z with z | rfl
    ·exact p.1 z
    ·exact p.2 (bo.mpr ⟨i, q1⟩), (ff p).2⟩, q'⟩
   have S2 := S1.putN' hi (s := .no) rfl
   refine ⟨.ref n, ae, h1, ns1.set i none, rfl, a1.put (x := none) hi (fun _ z => by cases z) q rfl rfl S1.l2, n, o, rfl, q3, S1.nx i n q1, q4, q5, ⟨S2.l1, S2.l2, S2.lh, fun m z => ?_, S2.inj, fun j m qj z => ?_, fun j s qj => ?_⟩, q6.mono mv⟩
   ·rcases z with z | rfl
    ·exact S2.xl m z
    ·exact cV q4
   ·rcases z with z | rfl
    ·exact S2.nx j m qj z
    ·rcases bJ hn qj with ⟨_, y⟩ | ⟨y, z⟩
     ·cases y
     ·exact y (S1.inj j i _ z q1)
   ·rcases bJ hi qj with ⟨rfl, rfl⟩ | ⟨z, qj'⟩
    ·rw [bU hn]; rfl
    ·rw [bR z]
     exact (S1.sl j s qj').mono mv fun _ _ _ q => q
  ·trivial
theorem
    Cp (o : Bool) (i : Nat) (hF : RE F F3) : RS (iy F (gN i)) (wAsg o i F3) := fun X h0 ns e ae h S => PoS.toS (hF X h0 h.length ns e ae h S (Nat.le_refl _)) fun d t h1 ns1 e1 a1 S1 r1 => by
 show PoS X h0 ns e h (.nx (ae.set i (some d)) h1) (ip o i t e1)
 unfold ip
 split
 ·rename_i s0 q0
  split
  ·rename_i p0
   have hi := (List.getElem?_eq_some_iff.mp q0).1
   cases t with
   | val v => exact .nx (a1.put (x := none) (s := .sh v) hi (fun _ z => by cases z) q0 p0 rfl S1.l2) (S1.putN hi ⟨rfl, d, rfl, Rd.mono (fun m o p q => ⟨ff p, q⟩) r1⟩)
   |
    new v =>
    try dsimp only
    split
    ·obtain ⟨n, ob, rfl, q1, q2, q3, q4, q5, q6⟩ := r1
     exact .nx (a1.put (x := some n) (s := .ow v) hi (fun m z => by cases z; exact q1) q0 p0 rfl S1.l2) (Sat.putO q5 q2 hi (Nat.le_trans S.lh q1) q3 q4 q6)
    ·exact .nx (a1.put (x := none) (s := .sh v) hi (fun _ z => by cases z) q0 p0 rfl S1.l2) (S1.putN hi ⟨rfl, d, rfl, Rd.mono (fun m o p q => ⟨ff p, q⟩) r1.new⟩)
   |
    bor j =>
    try dsimp only
    split
    ·rename_i e2 v q2
     obtain ⟨ns2, S2, a2, r2⟩ := fm S1 r1 q2
     have hq : ∃ s2, e2[i]? = some s2 /\ s2.pl = true := by
      unfold cB at q2
      dsimp only at q2
      split at q2
      ·cases q2; exact ⟨s0, q0, p0⟩
      ·rename_i u q3
       cases q2
       by_cases z : i = j
       ·subst z; exact ⟨_, bU hi, rfl⟩
       ·exact ⟨s0, by rw [bR z]; exact q0, p0⟩
      ·cases q2
     obtain ⟨s2, hq1, hq2⟩ := hq
     have hi2 := (List.getElem?_eq_some_iff.mp hq1).1
     exact .nx ((a1.trans S a2).put (x := none) (s := .sh v) hi2 (fun _ z => by cases z) hq1 hq2 rfl S2.l2) (S2.putN hi2 ⟨rfl, d, rfl, Rd.mono (fun m o p q => ⟨ff p, q⟩) r2⟩)
    ·trivial
  ·trivial
 ·trivial
theorem uB (i : Nat) : RG (gN i) (pN i) := fun X h0 ns e ae h d v e' S r q => by
 unfold pN at q
 split at q
 ·rename_i s q0
  split at q
  ·rename_i p0
   cases q
   have hi := (List.getElem?_eq_some_iff.mp q0).1
   exact ⟨_, ns.set i none, rfl, S.putN hi ⟨rfl, d, rfl, Rd.mono (fun m o p q => ⟨ff p, q⟩) r⟩, Stp.refl.put (x := none) (s := .sh v) hi (fun _ z => by cases z) q0 p0 rfl S.l2⟩
  ·cases q
 ·cases q
theorem D5 : RGs gsN psN := fun X h0 ns e ae h ds vs e' S r q => by
 cases r with
 | nil => cases q; exact ⟨ae, ns, rfl, S, .refl⟩
 | cons _ _ => cases q
theorem Dr (hg : RG g g3) (hs : RGs gs gs3) : RGs (gsC g gs) (psC g3 gs3) := fun X h0 ns e ae h ds vs e' S r q => by
 cases r with
 | nil => cases q
 |
  cons r rr =>
  obtain ⟨e1, q1, q2⟩ := Option.bind_eq_some_iff.mp q
  obtain ⟨ae1, ns1, p1, S1, a1⟩ := hg _ _ _ _ _ _ _ _ _ S r q1
  obtain ⟨ae2, ns2, p2, S2, a2⟩ := hs _ _ _ _ _ _ _ _ _ S1 (rr.mono (a1.mov S)) q2
  refine ⟨ae2, ns2, ?_, S2, a1.trans S a2⟩
  unfold gsC; dsimp only; rw [p1]; exact p2
theorem rg_t (n : Nat) (hs : RGs gs gs3) : RG (gT fun ds ae h => if ds.length = n then gs ds ae h else .stuck) (pT n gs3) := fun X h0 ns e ae h d v e' S r q => by
 unfold pT at q
 split at q
 ·split at q
  ·rename_i hn
   obtain ⟨ds, rfl, r2⟩ := ShR.tup (.inl r)
   obtain ⟨ae1, ns1, p1, S1, a1⟩ := hs _ _ _ _ _ _ _ _ _ S r2 q
   refine ⟨ae1, ns1, ?_, S1, a1⟩
   unfold gT; dsimp only; rw [if_pos (by rw [r2.len]; exact hn)]; exact p1
  ·cases q
 ·cases q
theorem AO (hg : RG g g3) : RG (fun d ae h => noX (g d ae h)) g3 := fun X h0 ns e ae h d v e' S r q => by
 obtain ⟨ae1, ns1, p1, S1, a1⟩ := hg _ _ _ _ _ _ _ _ _ S r q
 exact ⟨ae1, ns1, by dsimp only; rw [p1]; rfl, S1, a1⟩
theorem y8 (hF : RE F F3) (hg : RG g g3) : RS (iy F g) (xq F3 g3) := fun X h0 ns e ae h S => PoS.toS (hF X h0 0 ns e ae h S (Nat.zero_le _)) fun d t h1 ns1 e1 a1 S1 r1 => by
 try dsimp only
 split
 ·rename_i e2 v q
  obtain ⟨ns2, S2, a2, r2⟩ := fm S1 r1 q
  split
  ·rename_i e3 q3
   obtain ⟨ae3, ns3, p3, S3, a3⟩ := hg _ _ _ _ _ _ _ _ _ S2 r2 q3
   rw [p3]
   exact .nx ((a1.trans S a2).trans S a3) S3
  ·trivial
 ·trivial
theorem
    BH (i j : Nat) (hA : RA A A3) : RS (v5 i j A) (wPar i j A3) := fun X h0 ns e ae h S => PoS.toS (hA X h0 ns e ae h S) fun ds ts h1 ns1 e1 a1 S1 r1 => by
 try dsimp only
 cases q : dem e1 ts with
 | none => trivial
 |
  some w =>
  obtain ⟨e2, vs⟩ := w
  obtain ⟨ns2, S2, a2, r2⟩ := mC S1 r1 q
  match vs, ds, r2 with
  | [], _, _ => trivial
  | [_], _, _ => trivial
  | _ :: _ :: _ :: _, _, _ => trivial
  |
   [v, u], [d, d'], r2 =>
   dsimp only
   split
   ·rename_i e3 q3
    obtain ⟨e4, q4, q5⟩ := Option.bind_eq_some_iff.mp q3
    cases r2 with
    |
     cons r rr =>
     cases rr with
     |
      cons r' rr =>
      obtain ⟨ae3, ns3, p3, S3, a3⟩ := uB i _ _ _ _ _ _ _ _ _ S2 r q4
      obtain ⟨ae4, ns4, p4, S4, a4⟩ := uB j _ _ _ _ _ _ _ _ _ S3 (r'.mono (a3.mov S2)) q5
      have z3 : ae3 = ae.set i (some d) := by have := p3; unfold gN at this; cases this; rfl
      have z4 : ae4 = ae3.set j (some d') := by have := p4; unfold gN at this; cases this; rfl
      subst z4 z3
      exact .nx (((a1.trans S a2).trans S a3).trans S a4) S4
   ·trivial
theorem TsR.len {X : Nat -> Prop} {ns : Ns} {ae : AE} {h : AH} {ds : List D} {ts : List Tm} (r : TsR X ns ae h ds ts) : ds.length = ts.length := by
 induction r with
 | nil => rfl
 | val _ _ ih => rw [List.length_cons, List.length_cons, ih]
 | bor _ _ ih => rw [List.length_cons, List.length_cons, ih]
theorem vO (x : Str) (hA : RA A A3) : RS (nV x A) (ud x A3) := fun X h0 ns e ae h S => PoS.toS (hA X h0 ns e ae h S) fun ds ts h1 ns1 e1 a1 S1 r1 => by
 try dsimp only
 by_cases hl : ts.length <= 16777216
 ·rw [if_pos hl, if_pos (by rw [TsR.len r1]; exact hl)]
  exact ⟨ae, h1, ns1, rfl, a1, S1⟩
 ·rw [if_neg hl]; trivial
end
noncomputable def Sl.re (s : Sl) (u : Val) : Sl := match s with
 | .ow _ => .ow u
 | .mu _ => .mu u
 | s => s
noncomputable def Sl.mv : Sl -> Option Val
 | .ow v => some v
 | .mu v => some v
 | _ => none
section
variable {X : Nat -> Prop} {h0 L : Nat} {ns ns1 ns' : Ns} {e e1 e' : E3} {ae : AE} {h h1 h' : AH}
theorem Sat.write (S : Sat X h0 ns e ae h) {i : Nat} {s : Sl} {u : Val} (q : e[i]? = some s) (hm : s.mv = some u) : ∃ n o, ae[i]? = some (some (.ref n)) /\ h[n]? = some o /\ bW o /\ Rc (Oc X ns) h o u /\
  ∀ o' u', bW o' -> Rc (Oc X ns) h o' u' -> Mov (Oc X ns) (Oc X ns) h (h.set n o') /\ Sat X h0 ns (e.set i (s.re u')) ae (h.set n o') /\ Stp ns e h ns (e.set i (s.re u')) (h.set n o') := by
 have hi := (List.getElem?_eq_some_iff.mp q).1
 have key : ∃ n o, ns[i]? = some (some n) /\ ae[i]? = some (some (.ref n)) /\ h[n]? = some o /\ bW o /\ Rc (Oc X ns) h o u /\ s.mt = true /\ (∀ o' u', bW o' -> Rc (Oc X ns) (h.set n o') o' u' -> SlR (Oc X ns) h0 (some (some n)) (some (some (.ref n))) (h.set n o') (s.re u')) := by
  have y := S.sl i s q
  cases s with
  | ow v => cases hm; obtain ⟨n, o, q1, q2, q3, q4, q5, q6⟩ := y; exact ⟨n, o, q1, q2, q4, q5, q6, rfl, fun o' u' hf r => ⟨n, o', rfl, rfl, q3, bU (cV q4), hf, r⟩⟩
  | mu v => cases hm; obtain ⟨n, o, q1, q2, q4, q5, q6⟩ := y; exact ⟨n, o, q1, q2, q4, q5, q6, rfl, fun o' u' hf r => ⟨n, o', rfl, rfl, bU (cV q4), hf, r⟩⟩
  | _ => cases hm
 obtain ⟨n, o, k1, k2, k3, k4, k5, k6, k7⟩ := key
 refine ⟨n, o, k2, k3, k4, k5, fun o' u' hf r => ?_⟩
 have mv : Mov (Oc X ns) (Oc X ns) h (h.set n o') := fun m ob p q' => ⟨p, by
  have : m ≠ n := fun z => p.2 (bo.mpr ⟨i, by rw [z]; exact k1⟩)
  rw [bR this]; exact q'⟩
 refine ⟨mv, ⟨by rw [List.length_set]; exact S.l1, by rw [List.length_set]; exact S.l2, by rw [List.length_set]; exact S.lh, fun m z => by rw [List.length_set]; exact S.xl m z, S.inj, S.nx, fun j s' qj => ?_⟩, ?_⟩
 ·rcases bJ hi qj with ⟨rfl, rfl⟩ | ⟨z, qj'⟩
  ·rw [k1, k2]; exact k7 o' u' hf (r.mono mv)
  ·refine (S.sl j s' qj').mono mv fun m ob qm qo => ?_
   have : m ≠ n := fun y => by subst y; exact z (S.inj j i m qm k1)
   rw [bR this]; exact qo
 ·refine ⟨by rw [List.length_set]; exact Nat.le_refl _, fun m ob qm hM => ?_, fun _ _ q => .inl q, fun j s' qj hl => ?_, fun j s' qj hl => ?_, fun j v qj => ?_, fun j v qj => ?_⟩
  ·have : m ≠ n := fun y => by subst y; exact hM ⟨i, s, k1, q, k6⟩
   rw [bR this]; exact qm
  ·have z : j ≠ i := fun z => by subst z; rw [q] at qj; cases qj; cases s <;> first | cases hl; done | cases k6; done
   rw [bR z]; exact ⟨qj, rfl⟩
  ·rcases bJ hi qj with ⟨_, y⟩ | ⟨z, qj'⟩
   ·subst y; cases s <;> first | cases hl; done | cases k6; done
   ·exact ⟨qj', rfl⟩
  ·rcases bJ hi qj with ⟨rfl, y⟩ | ⟨z, qj'⟩
   ·cases s with
    | mu w => exact ⟨w, q, rfl⟩
    | ow w => cases y
    | _ => cases k6
   ·exact ⟨v, qj', rfl⟩
  ·by_cases z : j = i
   ·subst z; rw [q] at qj; cases qj; exact ⟨u', bU hi, rfl⟩
   ·exact ⟨v, by rw [bR z]; exact qj, rfl⟩
end
noncomputable def uU (w2 : D -> D -> D -> AH -> R Unit) (w3 : Val -> Val -> Val -> Option Val) : Prop := ∀ P h n o u di vi d v u', ¬ P n -> h[n]? = some o -> bW o -> Rc P h o u -> ShR P h di vi -> Rd P h d v -> w3 u vi v = some u' -> ∃ o', w2 (.ref n) di d h = .ok () (h.set n o') /\ bW o' /\ Rc P h o' u'
noncomputable def wSet (i : Nat) (G : ME3) (F : ME3) (w : Val -> Val -> Val -> Option Val) : MS3 := fun e => (F e).toS fun t e1 => match (e1[i]?).bind Sl.mv with
 | none => .stuck
 | some _ => (G e1).toS fun t2 e2 => match rs e2 t2 with
  | none => .stuck
  | some vi => match cB e2 t.drop with
   | none => .stuck
   | some (e3, v) => match e3[i]? with
    | none => .stuck
    | some s => match s.mv with
     | none => .stuck
     | some u => match w u vi v with
      | some u' => .nx (e3.set i (s.re u'))
      | none => .stuck
noncomputable def RM (m2 : D -> List D -> AH -> R D) (m3 : Val -> List Val -> Option (Val × Val)) : Prop := ∀ P h n o u ds vs u' v, h[n]? = some o -> bW o -> Rc P h o u -> Rds P h ds vs -> m3 u vs = some (u', v) -> lg h (.ref n) = true /\ ∃ o' d, m2 (.ref n) ds h = .ok d (h.set n o') /\ bW o' /\ Rc P h o' u' /\ Rd P h d v
noncomputable def dF : Val -> Bool
 | .lst _ => true
 | _ => false
section
variable {F G : ME} {F3 G3 : ME3} {A : MA} {A3 : MA3}
theorem xF {X : Nat -> Prop} {h0 : Nat} {ns : Ns} {e : E3} {ae : AE} {h : AH} (S : Sat X h0 ns e ae h) {i : Nat} {u : Val} (q : (e[i]?).bind Sl.mv = some u) : ∃ n o, ae[i]? = some (some (.ref n)) /\ h[n]? = some o /\ bW o /\ Rc (Oc X ns) h o u := by
 obtain ⟨s, q1, q2⟩ := Option.bind_eq_some_iff.mp q
 obtain ⟨n, o, k1, k2, k3, k4, _⟩ := S.write q1 q2
 exact ⟨n, o, k1, k2, k3, k4⟩
theorem
    zV {w2 : D -> D -> D -> AH -> R Unit} {w3 : Val -> Val -> Val -> Option Val} (i : Nat) (hw : uU w2 w3) (hG : RE G G3) (hF : RE F F3) : RS (iy F (gS (fu i) G w2)) (wSet i G3 F3 w3) := fun X h0 ns e ae h S => PoS.toS (hF X h0 0 ns e ae h S (Nat.zero_le _)) fun d t h1 ns1 e1 a1 S1 r1 => by
 try dsimp only
 cases qm : (e1[i]?).bind Sl.mv with
 | none => trivial
 |
  some u0 =>
  obtain ⟨n0, o0, b1, b2, b3, b4⟩ := xF S1 qm
  have L2e : ∀ h', (gS (fu i) G w2 d ae h').toS ae (fun ae' h2 => SR.nx ae' h2) = (G ae h').toS ae fun di h2 => (w2 (.ref n0) di d h2).toS ae fun _ h3 => .nx ae h3 := fun h' => by
   unfold gS fu
   rw [b1]
   simp only [iK]
   cases G ae h' with
   |
    ok di h2 =>
    simp only [iK]
    show _ = (w2 (.ref n0) di d h2).toS ae fun _ h3 => .nx ae h3
    cases w2 (.ref n0) di d h2 <;> rfl
   | exc c h2 => rfl
   | stuck => rfl
  rw [L2e]
  refine PoS.after S a1 (PoS.toS (hG X h0 0 ns1 e1 ae h1 S1 (Nat.zero_le _)) fun di t2 h2 ns2 e2 a2 S2 r2 => ?_)
  try dsimp only
  cases qi : rs e2 t2 with
  | none => trivial
  |
   some vi =>
   try dsimp only
   cases qd : cB e2 t.drop with
   | none => trivial
   |
    some w =>
    obtain ⟨e3, v⟩ := w
    try dsimp only
    obtain ⟨r1', hn⟩ := r1.drop
    have r3 := r1'.stp S1 a2 hn
    have si := r2.sh S2 qi
    obtain ⟨ns3, S3, a3, r4⟩ := fm S2 r3 qd
    have si3 : ShR (Oc X ns3) h2 di vi := by
     rcases si with z | ⟨n, o, z1, z2, z3⟩
     ·exact .inl (z.mono (a3.mov S2))
     ·exact .inr ⟨n, o, z1, z2, z3.mono (a3.mov S2)⟩
    cases q3 : e3[i]? with
    | none => trivial
    |
     some s =>
     try dsimp only
     cases q4 : s.mv with
     | none => trivial
     |
      some u =>
      try dsimp only
      cases q5 : w3 u vi v with
      | none => trivial
      |
       some u' =>
       obtain ⟨n, o, k1, k2, k3, k4, k5⟩ := S3.write q3 q4
       rw [b1] at k1; cases k1
       have nP : ¬ Oc X ns3 n0 := fun p => by
        have z1 := ((k5 (.lst []) (.lst []) trivial (.lst .nil)).1 _ _ p k2).2
        have z2 := ((k5 (.lst [.non]) (.lst [.non]) trivial (.lst (.cons .non .nil))).1 _ _ p k2).2
        rw [bU (cV k2)] at z1 z2
        rw [<- z2] at z1
        cases z1
       obtain ⟨o', p1, p2, p3⟩ := hw _ _ _ _ _ _ _ _ _ _ nP k2 k3 k4 si3 r4 q5
       obtain ⟨mv, S4, a4⟩ := k5 o' u' p2 p3
       rw [p1]
       exact .nx ((a2.trans S1 a3).trans S1 a4) S4
end
noncomputable def jx (mro : List Str) (i : Nat) (B U : MS3) : MS3 := fun e => match B e with
 |
  .exc c e1 => if c ∈ mro then match e1[i]? with
   |
    some s0 => if s0.pl = true then match U (e1.set i (.sh (.exc c))) with
     | .nx e2 => (match e2[i]? with | some s => if s.pl = true then .nx (e2.set i .no) else .stuck | none => .stuck)
     | .bk e2 => (match e2[i]? with | some s => if s.pl = true then .bk (e2.set i .no) else .stuck | none => .stuck)
     | .ct e2 => (match e2[i]? with | some s => if s.pl = true then .ct (e2.set i .no) else .stuck | none => .stuck)
     | .rt d e2 => .rt d e2
     | _ => .stuck
    else .stuck
   | none => .stuck
  else .stuck
 | r => r
theorem
    Co {B U : MS} {B3 U3 : MS3} (mro : List Str) (i : Nat) (hB : RS B B3) (hU : RS U U3) : RS (n1 mro i B U) (jx mro i B3 U3) := fun X h0 ns e ae h S => by
 have p := hB X h0 ns e ae h S
 unfold jx n1
 generalize B3 e = r at *
 cases r with
 | stuck => trivial
 | nx e' => obtain ⟨ae', h', ns', q, q1, q2⟩ := p; rw [q]; exact ⟨ae', h', ns', rfl, q1, q2⟩
 | bk e' => obtain ⟨ae', h', ns', q, q1, q2⟩ := p; rw [q]; exact ⟨ae', h', ns', rfl, q1, q2⟩
 | ct e' => obtain ⟨ae', h', ns', q, q1, q2⟩ := p; rw [q]; exact ⟨ae', h', ns', rfl, q1, q2⟩
 | rt r e' => obtain ⟨d, ae', h', ns', q, q1, q2⟩ := p; rw [q]; exact ⟨d, ae', h', ns', rfl, q1, q2⟩
 |
  exc c e1 =>
  obtain ⟨ae1, h1, ns1, q, a1, S1⟩ := p
  rw [q]
  dsimp only
  by_cases hc : c ∈ mro
  ·rw [if_pos hc, if_pos hc]
   cases q0 : e1[i]? with
   | none => trivial
   |
    some s0 =>
    dsimp only
    by_cases p0 : s0.pl = true
    ·rw [if_pos p0]
     have hi := (List.getElem?_eq_some_iff.mp q0).1
     have S2 : Sat X h0 (ns1.set i none) (e1.set i (.sh (.exc c))) (ae1.set i (some (.exc c))) h1 := S1.putN hi ⟨rfl, _, rfl, .exc c⟩
     have a2 : Stp ns e h (ns1.set i none) (e1.set i (.sh (.exc c))) h1 := a1.put (x := none) (s := .sh (.exc c)) hi (fun _ z => by cases z) q0 p0 rfl S1.l2
     have p2 := PoS.after S a2 (hU X h0 _ _ _ _ S2)
     generalize U3 (e1.set i (.sh (.exc c))) = r2 at *
     cases r2 with
     | stuck => trivial
     | exc _ _ => trivial
     | rt r e2 => obtain ⟨d, ae', h', ns', q, q1, q2⟩ := p2; rw [q]; exact ⟨d, ae', h', ns', rfl, q1, q2⟩
     |
      nx e2 =>
      obtain ⟨ae', h', ns', q, q1, q2⟩ := p2
      rw [q]
      dsimp only
      split
      ·rename_i s qs
       split
       ·rename_i ps
        have hi2 := (List.getElem?_eq_some_iff.mp qs).1
        exact ⟨_, h', _, rfl, q1.put (x := none) (s := .no) hi2 (fun _ z => by cases z) qs ps rfl q2.l2, q2.putN hi2 rfl⟩
       ·trivial
      ·trivial
     |
      bk e2 =>
      obtain ⟨ae', h', ns', q, q1, q2⟩ := p2
      rw [q]
      dsimp only
      split
      ·rename_i s qs
       split
       ·rename_i ps
        have hi2 := (List.getElem?_eq_some_iff.mp qs).1
        exact ⟨_, h', _, rfl, q1.put (x := none) (s := .no) hi2 (fun _ z => by cases z) qs ps rfl q2.l2, q2.putN hi2 rfl⟩
       ·trivial
      ·trivial
     |
      ct e2 =>
      obtain ⟨ae', h', ns', q, q1, q2⟩ := p2
      rw [q]
      dsimp only
      split
      ·rename_i s qs
       split
       ·rename_i ps
        have hi2 := (List.getElem?_eq_some_iff.mp qs).1
        exact ⟨_, h', _, rfl, q1.put (x := none) (s := .no) hi2 (fun _ z => by cases z) qs ps rfl q2.l2, q2.putN hi2 rfl⟩
       ·trivial
      ·trivial
    ·rw [if_neg p0]; trivial
  ·rw [if_neg hc, if_neg hc]; trivial
end L3
set_option Elab.async false
set_option linter.all false
set_option maxRecDepth 100000
namespace L3
open PySem PySem.Spec PyProof.Rows L2
noncomputable def jj : Sl -> Sl
 | .ow v => .lo v
 | .mu v => .lm v
 | s => s
noncomputable def kh : Sl -> Sl
 | .lo v => .ow v
 | .lm v => .mu v
 | s => s
noncomputable def lock (e : E3) (k : Nat) : E3 := match e[k]? with
 | some s => e.set k (jj s)
 | none => e
noncomputable def unlock (e : E3) (k : Nat) : E3 := match e[k]? with
 | some s => e.set k (kh s)
 | none => e
noncomputable def lockO (e : E3) : Option Nat -> E3
 | some k => lock e k
 | none => e
noncomputable def eF (e : E3) : Option Nat -> E3
 | some k => unlock e k
 | none => e
section
variable {X : Nat -> Prop} {h0 L : Nat} {ns ns1 ns' : Ns} {e e1 e' : E3} {ae ae' : AE} {h h1 h' : AH}
theorem SlR.lock {P : Nat -> Prop} {n : Option (Option Nat)} {d : Option (Option D)} {s : Sl} (r : SlR P h0 n d h s) : SlR P h0 n d h (jj s) := by cases s <;> exact r
theorem SlR.unlock {P : Nat -> Prop} {n : Option (Option Nat)} {d : Option (Option D)} {s : Sl} (r : SlR P h0 n d h s) : SlR P h0 n d h (kh s) := by cases s <;> exact r
theorem Sat.lock (S : Sat X h0 ns e ae h) (k : Nat) : Sat X h0 ns (lock e k) ae h := by
 unfold L3.lock
 split
 ·rename_i s q
  have hi := (List.getElem?_eq_some_iff.mp q).1
  refine ⟨by rw [List.length_set]; exact S.l1, by rw [List.length_set]; exact S.l2, S.lh, S.xl, S.inj, S.nx, fun j s' qj => ?_⟩
  rcases bJ hi qj with ⟨rfl, rfl⟩ | ⟨z, qj'⟩
  ·exact (S.sl j s q).lock
  ·exact S.sl j s' qj'
 ·exact S
theorem Sat.unlock (S : Sat X h0 ns e ae h) (k : Nat) : Sat X h0 ns (unlock e k) ae h := by
 unfold L3.unlock
 split
 ·rename_i s q
  have hi := (List.getElem?_eq_some_iff.mp q).1
  refine ⟨by rw [List.length_set]; exact S.l1, by rw [List.length_set]; exact S.l2, S.lh, S.xl, S.inj, S.nx, fun j s' qj => ?_⟩
  rcases bJ hi qj with ⟨rfl, rfl⟩ | ⟨z, qj'⟩
  ·exact (S.sl j s q).unlock
  ·exact S.sl j s' qj'
 ·exact S
theorem iE {k j : Nat} (z : j ≠ k) : (lock e k)[j]? = e[j]? := by
 unfold lock; split
 ·rw [bR z]
 ·rfl
theorem ia {k j : Nat} (z : j ≠ k) : (unlock e k)[j]? = e[j]? := by
 unfold unlock; split
 ·rw [bR z]
 ·rfl
theorem mB {k : Nat} {s : Sl} (q : e[k]? = some s) : (lock e k)[k]? = some (jj s) := by
 unfold lock; rw [q]; exact bU (List.getElem?_eq_some_iff.mp q).1
theorem jX {k : Nat} {s : Sl} (q : e[k]? = some s) : (unlock e k)[k]? = some (kh s) := by
 unfold unlock; rw [q]; exact bU (List.getElem?_eq_some_iff.mp q).1
theorem Stp.unlock {k : Nat} {s : Sl} (q : e[k]? = some s) (hs : s.mt = true) (a : Stp ns (L3.lock e k) h ns' e' h') : Stp ns e h ns' (L3.unlock e' k) h' := by
 have hl : (jj s).lk = true := by cases s <;> first | rfl | cases hs
 have hu : kh (jj s) = s := by cases s <;> first | rfl | cases hs
 obtain ⟨qk, nk⟩ := a.lk k _ (mB q) hl
 refine ⟨a.len, fun m o qm hM => a.keep m o qm fun ⟨j, s', z1, z2, z3⟩ => hM ?_, a.nw, fun j s' qj hj => ?_, fun j s' qj hj => ?_, fun j v qj => ?_, fun j v qj => ?_⟩
 ·by_cases z : j = k
  ·subst z; exact ⟨j, s, z1, q, hs⟩
  ·rw [iE z] at z2; exact ⟨j, s', z1, z2, z3⟩
 ·have z : j ≠ k := fun z => by subst z; rw [q] at qj; cases qj; cases s <;> first | cases hs; done | cases hj; done
  rw [ia z]
  exact a.lk j s' (by rw [iE z]; exact qj) hj
 ·have z : j ≠ k := fun z => by
   subst z
   rw [jX qk, hu] at qj; cases qj; cases s <;> first | cases hs; done | cases hj; done
  rw [ia z] at qj
  obtain ⟨y1, y2⟩ := a.lk' j s' qj hj
  rw [iE z] at y1
  exact ⟨y1, y2⟩
 ·by_cases z : j = k
  ·subst z; rw [jX qk, hu] at qj; cases qj; exact ⟨v, q, nk⟩
  ·rw [ia z] at qj
   obtain ⟨u, y1, y2⟩ := a.mu j v qj
   rw [iE z] at y1
   exact ⟨u, y1, y2⟩
 ·by_cases z : j = k
  ·subst z; rw [q] at qj; cases qj; exact ⟨v, by rw [jX qk, hu], nk⟩
  ·obtain ⟨u, y1, y2⟩ := a.mu' j v (by rw [iE z]; exact qj)
   exact ⟨u, by rw [ia z]; exact y1, y2⟩
end
abbrev MI3 := E3 -> R3 (List Val × Option Nat)
noncomputable def Stay (X : Nat -> Prop) (ns : Ns) (k : Option Nat) (h h' : AH) : Prop := ∀ (m : Nat) (o : Ob), h[m]? = some o -> (Oc X ns m \/ ∃ j : Nat, k = some j /\ ns[j]? = some (some m)) -> h'[m]? = some o
noncomputable def pk (X : Nat -> Prop) (ns : Ns) (e : E3) (h : AH) (it : AIt) (p : List Val × Option Nat) : Prop :=
 Rds (Oc X ns) h it.items p.1 /\ (∀ h', Stay X ns p.2 h h' -> it.guard h') /\ ∀ k : Nat, p.2 = some k -> ∃ s, e[k]? = some s /\ s.mt = true
noncomputable def RI (I : MI) (J : MI3) : Prop := ∀ X h0 ns e ae h, Sat X h0 ns e ae h -> Po X h0 ns e ae h (pk X) (I ae h) (J e)
noncomputable def iY : Val -> Option (List Val)
 | .tup xs => some xs
 | .lst xs => some xs
 | _ => none
noncomputable def jz (t : Tm) (e : E3) : Option (List Val × Option Nat) := match t with
 | .val v => (iY v).map fun xs => (xs, none)
 | .new v => (iY v).map fun xs => (xs, none)
 | .bor k => match e[k]? with
  | some (.sh v) => (iY v).map fun xs => (xs, none)
  | some (.ow (.lst xs)) => some (xs, some k)
  | some (.mu (.lst xs)) => some (xs, some k)
  | _ => none
noncomputable def xi (F : ME3) : MI3 := fun e => (F e).bind fun t e1 => match jz t e1 with
 | some p => .ok p e1
 | none => .stuck
noncomputable def fT : Nat -> List Val -> List Val
 | _, [] => []
 | i, d :: ds => .tup [.int (i : Nat), d] :: fT (i + 1) ds
noncomputable def xu (A : MA3) : MI3 := fun e => (A e).bind fun ts e1 => match ts with
 | [t] => (match jz t e1 with
  | some p => .ok (fT 0 p.1, p.2) e1
  | none => .stuck)
 | _ => .stuck
noncomputable def rE (lo : Int) (k : Nat) : List Val := (List.range k).map fun i => Val.int (lo + (i : Nat))
structure RgB (j : Int) : Prop where
 lo : -(2 ^ 62) <= j
 hi : j < 2 ^ 62
noncomputable def jc : List Val -> Option (List Val)
 | [.int j] => @ite _ (RgB j) (Classical.propDecidable _) (some (rE 0 j.toNat)) none
 | _ => none
noncomputable def uO (f : List Val -> Option (List Val)) (A : MA3) : MI3 := fun e => (A e).bind fun ts e1 => match (rss e1 ts).bind f with
 | some xs => .ok (xs, none) e1
 | none => .stuck
section
variable {F : ME} {F3 : ME3} {A : MA} {A3 : MA3}
theorem rD {X : Nat -> Prop} {h0 : Nat} {ns : Ns} {e : E3} {ae : AE} {h : AH} {d : D} {v : Val} {xs : List Val} (S : Sat X h0 ns e ae h) (r : Rd (Oc X ns) h d v) (q : iY v = some xs) : ∃ it, g8 d h = some it /\ pk X ns e h it (xs, none) := by
 cases v with
 |
  tup ys =>
  cases q
  obtain ⟨ds, rfl, r2⟩ := ShR.tup (.inl r)
  exact ⟨_, rfl, r2, fun _ _ => trivial, fun _ z => nomatch z⟩
 |
  lst ys =>
  cases q
  cases r with
  |
   cell p eo rc =>
   rename_i n o
   obtain ⟨ds, _, e1, r1⟩ := Rc.seq eo rc
   refine ⟨.lst n ds, by unfold g8; dsimp only; rw [e1]; rfl, r1, fun h' st => ?_, fun _ z => nomatch z⟩
   show bq h' n = some ds
   have := st n o eo (.inl p)
   unfold bq at e1 ⊢
   rw [eo] at e1
   rw [this]; exact e1
 | _ => cases q
theorem
    tI {X : Nat -> Prop} {h0 L : Nat} {ns : Ns} {e : E3} {ae : AE} {h : AH} {d : D} {t : Tm} {p : List Val × Option Nat} (S : Sat X h0 ns e ae h) (r : relE X h0 L ae ns e h d t) (q : jz t e = some p) : ∃ it, g8 d h = some it /\ pk X ns e h it p := by
 cases t with
 | val v => obtain ⟨xs, q1, rfl⟩ := Option.map_eq_some_iff.mp q; exact rD S r q1
 | new v => obtain ⟨xs, q1, rfl⟩ := Option.map_eq_some_iff.mp q; exact rD S r.new q1
 |
  bor k =>
  have r' : ae[k]? = some (some d) := r
  have own : ∀ {s xs}, e[k]? = some s -> s.mv = some (.lst xs) -> ∃ it, g8 d h = some it /\ pk X ns e h it (xs, some k) := fun {s xs} q qm => by
   have hns : ∃ n, ns[k]? = some (some n) /\ ae[k]? = some (some (.ref n)) := by
    have y := S.sl k s q
    cases s with
    | ow v => obtain ⟨n, o, y1, y2, _⟩ := y; exact ⟨n, y1, y2⟩
    | mu v => obtain ⟨n, o, y1, y2, _⟩ := y; exact ⟨n, y1, y2⟩
    | _ => cases qm
   obtain ⟨n, y1, y2⟩ := hns
   obtain ⟨n', o, k1, k2, k3, k4, _⟩ := S.write q qm
   rw [y2] at k1; cases k1
   rw [r'] at y2; cases y2
   obtain ⟨ds, _, e2, r2⟩ := Rc.seq k2 k4
   refine ⟨.lst n ds, by unfold g8; dsimp only; rw [e2]; rfl, r2, fun h' st => ?_, fun j z => ?_⟩
   ·show bq h' n = some ds
    have := st n o k2 (.inr ⟨k, rfl, y1⟩)
    unfold bq at e2 ⊢
    rw [k2] at e2
    rw [this]; exact e2
   ·cases z; exact ⟨s, q, by cases s <;> first | rfl | cases qm⟩
  unfold jz at q
  dsimp only at q
  split at q
  ·rename_i v qs
   obtain ⟨_, x, e2, r2⟩ := S.sl k _ qs
   rw [r'] at e2; cases e2
   obtain ⟨xs, q1, rfl⟩ := Option.map_eq_some_iff.mp q
   exact rD S r2 q1
  ·rename_i xs qs; cases q; exact own qs rfl
  ·rename_i xs qs; cases q; exact own qs rfl
  ·cases q
noncomputable def wj (d : D) (h : AH) : R AIt := match d with
 | .tup xs => .ok (.tup xs) h
 | .ref n => match bq h n with
  | some xs => .ok (.lst n xs) h
  | none => .stuck
 | _ => .stuck
theorem xR {d : D} {h : AH} {it : AIt} (q : g8 d h = some it) : wj d h = .ok it h := by
 cases d with
 | tup xs => cases q; rfl
 |
  ref n =>
  obtain ⟨xs, y1, rfl⟩ := Option.map_eq_some_iff.mp (show (bq h n).map (AIt.lst n) = some it from q)
  unfold wj; dsimp only; rw [y1]
 | _ => cases q
theorem Cz (hF : RE F F3) : RI (vY F) (xi F3) := fun X h0 ns e ae h S =>
 Po.bind S (hF X h0 0 ns e ae h S (Nat.zero_le _)) fun d t h1 ns1 e1 a1 S1 r1 => by
  show Po X h0 ns1 e1 ae h1 (pk X) (wj d h1) _
  cases q : jz t e1 with
  | none => trivial
  |
   some p =>
   dsimp only
   obtain ⟨it, q1, q2⟩ := tI S1 r1 q
   exact ⟨it, h1, ns1, xR q1, .refl, S1, q2⟩
theorem yZ {P : Nat -> Prop} {h : AH} {ds : List D} {vs : List Val} (k : Nat) (r : Rds P h ds vs) : Rds P h (fN k ds) (fT k vs) :=
 r.ind (M := fun ds vs => ∀ k, Rds P h (fN k ds) (fT k vs)) (fun _ => .nil) (fun r _ ih k => .cons (.tup (.cons (.int _) (.cons r .nil))) (ih (k + 1))) k
theorem tsr1 {X : Nat -> Prop} {h0 : Nat} {ns : Ns} {e : E3} {ae : AE} {h : AH} {ds : List D} {t : Tm} (r : TsR X ns ae h ds [t]) : ∃ d, ds = [d] /\ relE X h0 0 ae ns e h d t := by
 cases r with
 | val r rr => cases rr; exact ⟨_, rfl, r⟩
 | bor r rr => cases rr; exact ⟨_, rfl, r⟩
theorem
    B2 (hA : RA A A3) : RI (wa A) (xu A3) := fun X h0 ns e ae h S =>
 Po.bind S (hA X h0 ns e ae h S) fun ds ts h1 ns1 e1 a1 S1 r1 => by
  match ts, r1 with
  | [], _ => trivial
  | _ :: _ :: _, _ => trivial
  |
   [t], r1 =>
   obtain ⟨d, rfl, r2⟩ := tsr1 (h0 := h0) (e := e1) r1
   dsimp only
   cases q : jz t e1 with
   | none => trivial
   |
    some p =>
    obtain ⟨it, q1, q2, q3, q4⟩ := tI S1 r2 q
    rw [q1]
    exact ⟨.enm it, h1, ns1, rfl, .refl, S1, yZ 0 q2, q3, q4⟩
theorem yY {P : Nat -> Prop} {h : AH} (lo : Int) (k : Nat) : Rds P h (AIt.rng lo k).items (rE lo k) := by
 show Rds P h ((List.range k).map fun i => D.int (lo + (i : Nat))) ((List.range k).map fun i => Val.int (lo + (i : Nat)))
 generalize List.range k = l
 induction l with
 | nil => exact .nil
 | cons i l ih => exact .cons (.int _) ih
theorem eJ {P : Nat -> Prop} {h : AH} {ds : List D} {v : Val} (r : ShRs P h ds [v]) : ∃ d, ds = [d] /\ ShR P h d v := by
 cases r with | cons r rr => cases rr; exact ⟨_, rfl, r⟩
theorem rz {P : Nat -> Prop} {h : AH} {ds : List D} {v u : Val} (r : ShRs P h ds [v, u]) : ∃ d d', ds = [d, d'] /\ ShR P h d v /\ ShR P h d' u := by
 cases r with | cons r rr => cases rr with | cons r' rr => cases rr; exact ⟨_, _, rfl, r, r'⟩
theorem Dx {f2 : List D -> AH -> R AIt} {f3 : List Val -> Option (List Val)} (hf : ∀ P h ds vs xs, ShRs P h ds vs -> f3 vs = some xs -> ∃ lo k, f2 ds h = .ok (.rng lo k) h /\ xs = rE lo k) (hA : RA A A3) : RI (fun ae h => (A ae h).bind f2) (uO f3 A3) := fun X h0 ns e ae h S =>
 Po.bind S (hA X h0 ns e ae h S) fun ds ts h1 ns1 e1 a1 S1 r1 => by
  try dsimp only
  split
  ·rename_i xs q
   obtain ⟨vs, q1, q2⟩ := Option.bind_eq_some_iff.mp q
   obtain ⟨lo, k, p1, rfl⟩ := hf _ _ _ _ _ (TsR.sh S1 r1 q1) q2
   rw [p1]
   exact Po.ret S1 ⟨yY _ _, fun _ _ => trivial, fun _ z => nomatch z⟩
  ·trivial
theorem
    zN (hA : RA A A3) : RI (vX A) (uO jc A3) := Dx (f2 := fun ds h1 => match ds with
 | [.int j] => if -(2 ^ 62) <= j /\ j < 2 ^ 62 then .ok (.rng 0 j.toNat) h1 else .stuck
 |
  _ => .stuck) (fun P h ds vs xs r q => by
  unfold jc at q
  split at q
  ·split at q
   ·rename_i hb
    cases q
    obtain ⟨d, rfl, r2⟩ := eJ r
    obtain rfl := r2.int
    exact ⟨_, _, by dsimp only; rw [if_pos ⟨hb.lo, hb.hi⟩], rfl⟩
   ·cases q
  ·cases q) hA
end
noncomputable def SR3.loop (r : SR3) (f : E3 -> SR3) : SR3 := match r with
 | .nx e => f e
 | .ct e => f e
 | .bk e => .nx e
 | .rt d e => .rt d e
 | .exc c e => .exc c e
 | .stuck => .stuck
noncomputable def eD (g : MG3) (B : MS3) : List Val -> MS3
 | [], e => .nx e
 | v :: vs, e => match g v e with
  | some e1 => (B e1).loop (eD g B vs)
  | none => .stuck
noncomputable def SR3.unl (k : Option Nat) (r : SR3) : SR3 := match r with
 | .nx e => .nx (eF e k)
 | .ct e => .ct (eF e k)
 | .bk e => .bk (eF e k)
 | .rt d e => .rt d (eF e k)
 | .exc c e => .exc c (eF e k)
 | .stuck => .stuck
noncomputable def wFor (I : MI3) (g : MG3) (B : MS3) : MS3 := fun e => (I e).toS fun p e1 => (eD g B p.1 (lockO e1 p.2)).unl p.2
section
variable {I : MI} {I3 : MI3} {g : MG} {g3 : MG3} {B : MS} {B3 : MS3} {c : MT} {c3 : MT3} {F : ME} {F3 : ME3}
theorem PoS.loop {X : Nat -> Prop} {h0 : Nat} {ns : Ns} {e : E3} {ae : AE} {h : AH} {r2 : SR} {r3 : SR3} {f2 : AE -> AH -> SR} {f3 : E3 -> SR3} (p : PoS X h0 ns e h r2 r3)
  (k : ∀ ae' h' ns' e', Stp ns e h ns' e' h' -> Sat X h0 ns' e' ae' h' -> PoS X h0 ns e h (f2 ae' h') (f3 e')) : PoS X h0 ns e h (r2.loop f2) (r3.loop f3) := by
 cases r3 with
 | stuck => trivial
 | nx e' => obtain ⟨ae', h', ns', q, q1, q2⟩ := p; rw [q]; exact k ae' h' ns' e' q1 q2
 | ct e' => obtain ⟨ae', h', ns', q, q1, q2⟩ := p; rw [q]; exact k ae' h' ns' e' q1 q2
 | bk e' => obtain ⟨ae', h', ns', q, q1, q2⟩ := p; rw [q]; exact ⟨ae', h', ns', rfl, q1, q2⟩
 | exc c e' => obtain ⟨ae', h', ns', q, q1, q2⟩ := p; rw [q]; exact ⟨ae', h', ns', rfl, q1, q2⟩
 | rt r e' => obtain ⟨d, ae', h', ns', q, q1, q2⟩ := p; rw [q]; exact ⟨d, ae', h', ns', rfl, q1, q2⟩
theorem yf {X : Nat -> Prop} {h0 : Nat} {ns ns' : Ns} {e e' : E3} {ae : AE} {h h' : AH} {k : Option Nat} (S : Sat X h0 ns e ae h) (hk : ∀ j : Nat, k = some j -> ∃ s, e[j]? = some s /\ s.mt = true) (a : Stp ns (lockO e k) h ns' e' h') : Stay X ns k h h' := fun m o q hm => by
 refine a.keep m o q fun ⟨i, s, z1, z2, z3⟩ => ?_
 rcases hm with hm | ⟨j, rfl, hj⟩
 ·exact hm.2 (bo.mpr ⟨i, z1⟩)
 ·have : i = j := S.inj i j m z1 hj
  subst this
  obtain ⟨s', y1, y2⟩ := hk i rfl
  have : (lockO e (some i))[i]? = some (jj s') := mB y1
  rw [this] at z2; cases z2
  cases s' <;> first | cases y2; done | cases z3; done
theorem PoS.unl {X : Nat -> Prop} {h0 : Nat} {ns : Ns} {e : E3} {h : AH} {k : Option Nat} {r2 : SR} {r3 : SR3} (hk : ∀ j : Nat, k = some j -> ∃ s, e[j]? = some s /\ s.mt = true) (p : PoS X h0 ns (lockO e k) h r2 r3) : PoS X h0 ns e h r2 (r3.unl k) := by
 cases k with
 | none => cases r3 <;> exact p
 |
  some j =>
  obtain ⟨s, y1, y2⟩ := hk j rfl
  cases r3 with
  | stuck => trivial
  | nx e' => obtain ⟨ae', h', ns', q, q1, q2⟩ := p; exact ⟨ae', h', ns', q, q1.unlock y1 y2, q2.unlock j⟩
  | ct e' => obtain ⟨ae', h', ns', q, q1, q2⟩ := p; exact ⟨ae', h', ns', q, q1.unlock y1 y2, q2.unlock j⟩
  | bk e' => obtain ⟨ae', h', ns', q, q1, q2⟩ := p; exact ⟨ae', h', ns', q, q1.unlock y1 y2, q2.unlock j⟩
  | exc c e' => obtain ⟨ae', h', ns', q, q1, q2⟩ := p; exact ⟨ae', h', ns', q, q1.unlock y1 y2, q2.unlock j⟩
  |
   rt r e' =>
   obtain ⟨d, ae', h', ns', q, q1, q2⟩ := p
   refine ⟨d, ae', h', ns', q, q1.unlock y1 y2, ?_⟩
   cases r with
   | val v => exact ⟨q2.1.unlock j, q2.2⟩
   | new v => obtain ⟨n, o, z1, z2, z3, z4, z5, z6, z7⟩ := q2; exact ⟨n, o, z1, z2, z3, z4, z5, z6.unlock j, z7⟩
theorem Sat.lockO {X : Nat -> Prop} {h0 : Nat} {ns : Ns} {e : E3} {ae : AE} {h : AH} (S : Sat X h0 ns e ae h) (k : Option Nat) : Sat X h0 ns (lockO e k) ae h := by
 cases k with
 | none => exact S
 | some k => exact S.lock k
theorem
    yO {X : Nat -> Prop} {h0 : Nat} {ns : Ns} {e : E3} {ae : AE} {h : AH} {G : AH -> Prop} (S : Sat X h0 ns e ae h) (hg : RG g g3) (hB : RS B B3) (hG : ∀ ns' e' h', Stp ns e h ns' e' h' -> G h') :
  ∀ {ds : List D} {vs : List Val}, Rds (Oc X ns) h ds vs -> ∀ {ns1 : Ns} {e1 : E3} {ae1 : AE} {h1 : AH}, Stp ns e h ns1 e1 h1 -> Sat X h0 ns1 e1 ae1 h1 -> PoS X h0 ns e h (jt G g B ds ae1 h1) (eD g3 B3 vs e1) := by
 intro ds
 induction ds with
 |
  nil =>
  intro vs r ns1 e1 ae1 h1 a1 S1
  cases r
  unfold jt
  rw [if_pos (hG _ _ _ a1)]
  exact .nx a1 S1
 |
  cons d0 ds ih =>
  intro vs r ns1 e1 ae1 h1 a1 S1
  cases r with
  |
   cons r rr =>
   unfold jt eD
   rw [if_pos (hG _ _ _ a1)]
   split
   ·rename_i e2 q
    obtain ⟨ae2, ns2, p2, S2, a2⟩ := hg _ _ _ _ _ _ _ _ _ S1 (r.mono (a1.mov S)) q
    rw [p2]
    have a12 := a1.trans S a2
    show PoS X h0 ns e h ((B ae2 h1).loop _) _
    refine PoS.loop (ae := ae) (PoS.after S a12 (hB X h0 ns2 e2 ae2 h1 S2)) fun ae3 h3 ns3 e3 a3 S3 => ih rr a3 S3
   ·trivial
theorem zu (hI : RI I I3) (hg : RG g g3) (hB : RS B B3) : RS (u9 I g B) (wFor I3 g3 B3) := fun X h0 ns e ae h S => PoS.toS (hI X h0 ns e ae h S) fun it p h1 ns1 e1 a1 S1 r1 => by
 obtain ⟨r2, gd, hk⟩ := r1
 refine PoS.after S a1 (PoS.unl hk ?_)
 have S2 := S1.lockO p.2
 exact yO S2 hg hB (fun ns' e' h' a => gd h' (yf S1 hk a)) r2 .refl S2
noncomputable def whV (c : MT3) (B : MS3) : Nat -> MS3
 | 0, _ => .stuck
 | k + 1, e => (c e).toS fun b e1 => if b = true then (B e1).loop (whV c B k) else .nx e1
open Classical in
noncomputable def wWh (c : MT3) (B : MS3) : MS3 := fun e => if q : ∃ k, whV c B k e ≠ .stuck then whV c B q.choose e else .stuck
theorem
    kN {c : MT3} {B : MS3} : ∀ {k : Nat} {e : E3}, whV c B k e ≠ .stuck -> whV c B (k + 1) e = whV c B k e
 | 0, _, q => absurd rfl q
 |
  k + 1, e, q => by
  have e1 : whV c B (k + 2) e = (c e).toS fun b e1 => if b = true then (B e1).loop (whV c B (k + 1)) else .nx e1 := rfl
  have e2 : whV c B (k + 1) e = (c e).toS fun b e1 => if b = true then (B e1).loop (whV c B k) else .nx e1 := rfl
  rw [e2] at q
  rw [e1, e2]
  cases r : c e with
  | exc _ _ => rfl
  | stuck => rfl
  |
   ok b h1 =>
   rw [r] at q
   cases b with
   | false => rfl
   |
    true =>
    have q' : (B h1).loop (whV c B k) ≠ .stuck := q
    show (B h1).loop (whV c B (k + 1)) = (B h1).loop (whV c B k)
    cases s : B h1 with
    | nx a2 => rw [s] at q'; exact kN q'
    | ct a2 => rw [s] at q'; exact kN q'
    | _ => rfl
theorem uu {c : MT3} {B : MS3} {k j : Nat} {e : E3} (q : whV c B k e ≠ .stuck) (hj : k <= j) : whV c B j e = whV c B k e := by
 induction hj with
 | refl => rfl
 | step _ ih => rw [kN (by rw [ih]; exact q), ih]
theorem lj {c : MT3} {B : MS3} {k : Nat} {e : E3} (q : whV c B k e ≠ .stuck) : wWh c B e = whV c B k e := by
 have hq : ∃ k, whV c B k e ≠ .stuck := ⟨k, q⟩
 unfold wWh
 rw [dif_pos hq]
 rcases Nat.le_total hq.choose k with z | z
 ·exact (uu hq.choose_spec z).symm
 ·exact uu q z
theorem
    vb (c : MT3) (B : MS3) (e : E3) : wWh c B e = (c e).toS fun b e1 => if b = true then (B e1).loop (wWh c B) else .nx e1 := by
 by_cases q : ∃ k, whV c B k e ≠ .stuck
 ·obtain ⟨k, q⟩ := q
  rw [lj q]
  cases k with
  | zero => exact absurd rfl q
  |
   succ k =>
   have e2 : whV c B (k + 1) e = (c e).toS fun b e1 => if b = true then (B e1).loop (whV c B k) else .nx e1 := rfl
   rw [e2] at q ⊢
   cases r : c e with
   | exc _ _ => rfl
   | stuck => rfl
   |
    ok b h1 =>
    rw [r] at q
    cases b with
    | false => rfl
    |
     true =>
     have q' : (B h1).loop (whV c B k) ≠ .stuck := q
     show (B h1).loop (whV c B k) = (B h1).loop (wWh c B)
     cases s : B h1 with
     | nx a2 => rw [s] at q'; exact (lj q').symm
     | ct a2 => rw [s] at q'; exact (lj q').symm
     | _ => rfl
 ·have e0 : wWh c B e = .stuck := by unfold wWh; rw [dif_neg q]
  rw [e0]
  have hs : ∀ k, whV c B (k + 1) e = .stuck := fun k => Classical.byContradiction fun z => q ⟨_, z⟩
  cases r : c e with
  | stuck => rfl
  |
   exc c' h' =>
   have := hs 0
   unfold whV at this
   rw [r] at this
   cases this
  |
   ok b h1 =>
   cases b with
   |
    false =>
    have := hs 0
    unfold whV at this
    rw [r] at this
    cases this
   |
    true =>
    have h2 : ∀ k, (B h1).loop (whV c B k) = .stuck := fun k => by
     have := hs k
     unfold whV at this
     rw [r] at this
     exact this
    show SR3.stuck = (B h1).loop (wWh c B)
    have lim : ∀ a2, (∀ k, whV c B k a2 = .stuck) -> wWh c B a2 = .stuck := fun a2 z => by
     unfold wWh
     rw [dif_neg (fun ⟨k, y⟩ => y (z k))]
    cases s : B h1 with
    | nx a2 => rw [s] at h2; exact (lim a2 h2).symm
    | ct a2 => rw [s] at h2; exact (lim a2 h2).symm
    | stuck => rfl
    | _ => have := h2 0; rw [s] at this; cases this
theorem A5 {X : Nat -> Prop} {h0 : Nat} {ns : Ns} {e : E3} {h : AH} {r2 : SR} {r3 : SR3} (p : PoS X h0 ns e h r2 r3) (q : r3 ≠ .stuck) : r2 ≠ .stuck := by
 cases r3 with
 | stuck => exact absurd rfl q
 | nx e' => obtain ⟨ae', h', ns', z, _⟩ := p; rw [z]; intro y; cases y
 | ct e' => obtain ⟨ae', h', ns', z, _⟩ := p; rw [z]; intro y; cases y
 | bk e' => obtain ⟨ae', h', ns', z, _⟩ := p; rw [z]; intro y; cases y
 | exc c e' => obtain ⟨ae', h', ns', z, _⟩ := p; rw [z]; intro y; cases y
 | rt r e' => obtain ⟨d, ae', h', ns', z, _⟩ := p; rw [z]; intro y; cases y
theorem t6 (hc : RT c c3) (hB : RS B B3) : ∀ (k : Nat) (X : Nat -> Prop) (h0 : Nat) (ns : Ns) (e : E3) (ae : AE) (h : AH), Sat X h0 ns e ae h -> PoS X h0 ns e h (whN c B k ae h) (whV c3 B3 k e)
 | 0, _, _, _, _, _, _, _ => trivial
 |
  k + 1, X, h0, ns, e, ae, h, S => by
  refine PoS.toS (hc X h0 ns e ae h S) fun b b' h1 ns1 e1 a1 S1 r1 => ?_
  cases r1
  try dsimp only
  split
  ·exact PoS.after S a1 (PoS.loop (ae := ae) (hB X h0 ns1 e1 ae h1 S1) fun ae2 h2 ns2 e2 a2 S2 => PoS.after S1 a2 (t6 hc hB k X h0 ns2 e2 ae2 h2 S2))
  ·exact .nx a1 S1
theorem Ec (hc : RT c c3) (hB : RS B B3) : RS (sWh c B) (wWh c3 B3) := fun X h0 ns e ae h S => by
 by_cases q : ∃ k, whV c3 B3 k e ≠ .stuck
 ·obtain ⟨k, q⟩ := q
  rw [lj q]
  have p := t6 hc hB k X h0 ns e ae h S
  rw [sX (A5 p q)]
  exact p
 ·unfold wWh; rw [dif_neg q]; trivial
end
end L3
set_option Elab.async false
set_option linter.all false
set_option maxRecDepth 100000
namespace L3
open PySem PySem.Spec PyProof.Rows L2
noncomputable def fi (o : Option Nat) (s : Sl) (e : E3) : E3 := match o, s with
 | some i, .mu v => (match e[i]? with
  | some t => e.set i (t.re v)
  | none => e)
 | _, _ => e
noncomputable def bB : List (Option Nat) -> E3 -> E3 -> E3
 | o :: sub, s :: inner, e => bB sub inner (fi o s e)
 | _, _, e => e
theorem qu {o : Option Nat} {s : Sl} {e : E3} {i : Nat} (hn : ∀ v, o = some i -> s = .mu v -> False) : (fi o s e)[i]? = e[i]? := by
 unfold fi
 split
 ·rename_i i' v
  split
  ·rename_i t q
   by_cases z : i = i'
   ·subst z; exact (hn v rfl rfl).elim
   ·rw [bR z]
  ·rfl
 ·rfl
theorem mh : ∀ {sub : List (Option Nat)} {e2 e : E3} {i : Nat}, (∀ (j : Nat) v, sub[j]? = some (some i) -> e2[j]? = some (.mu v) -> False) -> (bB sub e2 e)[i]? = e[i]?
 | [], _, _, _, _ => rfl
 | _ :: _, [], _, _, _ => rfl
 |
  o :: sub, s :: e2, e, i, hn => by
  show (bB sub e2 (fi o s e))[i]? = _
  rw [mh (fun j v q1 q2 => hn (j + 1) v (by simpa using q1) (by simpa using q2))]
  exact qu fun v z1 z2 => hn 0 v (by rw [z1]; rfl) (by rw [z2]; rfl)
theorem qP : ∀ {sub : List (Option Nat)} {e2 e : E3} {i j : Nat} {v : Val}, (∀ (j k : Nat) i, sub[j]? = some (some i) -> sub[k]? = some (some i) -> j = k) -> sub[j]? = some (some i) -> e2[j]? = some (.mu v) -> (bB sub e2 e)[i]? = (e[i]?).map (Sl.re · v)
 | [], _, _, _, j, _, _, q, _ => by simp at q
 | _ :: _, [], _, _, j, _, _, _, q => by simp at q
 |
  o :: sub, s :: e2, e, i, 0, v, hj, q1, q2 => by
  have z1 : o = some i := by simpa using q1
  have z2 : s = .mu v := by simpa using q2
  subst z1 z2
  show (bB sub e2 (fi (some i) (.mu v) e))[i]? = _
  rw [mh (fun k u y1 _ => by have := hj 0 (k + 1) i rfl (by simpa using y1); omega)]
  unfold fi
  dsimp only
  split
  ·rename_i t q; rw [bU (List.getElem?_eq_some_iff.mp q).1, q]; rfl
  ·rename_i q; rw [q]; rfl
 |
  o :: sub, s :: e2, e, i, j + 1, v, hj, q1, q2 => by
  show (bB sub e2 (fi o s e))[i]? = _
  have q1' : sub[j]? = some (some i) := by simpa using q1
  rw [qP (fun a b c y1 y2 => by have := hj (a + 1) (b + 1) c (by simpa using y1) (by simpa using y2); omega) q1' (by simpa using q2)]
  rw [qu fun v z1 _ => by have := hj 0 (j + 1) i (by rw [z1]; rfl) q1; omega]
noncomputable def bX (sub : List (Option Nat)) (ns : Ns) : Ns := sub.map fun o => o.bind fun i => (ns[i]?).bind id
theorem cm {sub : List (Option Nat)} {ns : Ns} {j n : Nat} (q : (bX sub ns)[j]? = some (some n)) : ∃ i, sub[j]? = some (some i) /\ ns[i]? = some (some n) := by
 unfold bX at q
 rw [List.getElem?_map] at q
 cases z : sub[j]? with
 | none => rw [z] at q; cases q
 |
  some o =>
  rw [z] at q
  cases o with
  | none => cases q
  |
   some i =>
   refine ⟨i, rfl, ?_⟩
   have q' : (ns[i]?).bind id = some n := Option.some.inj q
   cases y : ns[i]? with
   | none => rw [y] at q'; cases q'
   | some w => rw [y] at q'; have : w = some n := q'; rw [this]
theorem yR {sub : List (Option Nat)} {ns : Ns} {j i : Nat} {w : Option Nat} (q : sub[j]? = some (some i)) (q2 : ns[i]? = some w) : (bX sub ns)[j]? = some w := by
 unfold bX
 rw [List.getElem?_map, q]
 show some ((ns[i]?).bind id) = some w
 rw [q2]; rfl
structure Lnk (sub : List (Option Nat)) (e ei : E3) : Prop where
 inj : ∀ (j k : Nat) (i : Nat), sub[j]? = some (some i) -> sub[k]? = some (some i) -> j = k
 mu : ∀ (j : Nat) (v : Val), ei[j]? = some (.mu v) -> ∃ (i : Nat) (s : Sl), sub[j]? = some (some i) /\ e[i]? = some s /\ s.mt = true
 mt : ∀ (j : Nat) (s : Sl), ei[j]? = some s -> s.mt = true -> ∃ v, s = .mu v
theorem
    Sat.back {X Y : Nat -> Prop} {h0 : Nat} {ns ns2 : Ns} {e ei e2 : E3} {ae : AE} {h h2 : AH} {sub : List (Option Nat)} (S : Sat X h0 ns e ae h) (K : Lnk sub e ei) (a : Stp (bX sub ns) ei h ns2 e2 h2)
  (hY : ∀ n, Y n -> n < h2.length /\ (X n \/ h.length <= n)) (hXY : ∀ n, X n -> Y n)
  (hc : ∀ (j : Nat) v n, e2[j]? = some (.mu v) -> ns2[j]? = some (some n) -> ∃ o, h2[n]? = some o /\ bW o /\ Rc (Oc Y ns) h2 o v) : Sat Y h0 ns (bB sub e2 e) ae h2 /\ Stp ns e h ns (bB sub e2 e) h2 := by
 have hM : ∀ n, Mt (bX sub ns) ei n -> Mt ns e n := fun n ⟨j, s, z1, z2, z3⟩ => by
  obtain ⟨v, rfl⟩ := K.mt j s z2 z3
  obtain ⟨i, s', y1, y2, y3⟩ := K.mu j v z2
  obtain ⟨i', y4, y5⟩ := cm z1
  rw [y1] at y4; cases y4
  exact ⟨i, s', y5, y2, y3⟩
 have mv : Mov (Oc X ns) (Oc Y ns) h h2 := fun n o p q => ⟨⟨fun z => by
  rcases (hY n z).2 with z | z
  ·exact p.1 z
  ·have := cV q; omega, p.2⟩, a.keep n o q fun z => by
   obtain ⟨j, s, z1, _⟩ := z
   obtain ⟨i, _, y⟩ := cm z1
   exact p.2 (bo.mpr ⟨i, y⟩)⟩
 have key : ∀ i : Nat, (∃ (j : Nat) (v : Val) (s : Sl), sub[j]? = some (some i) /\ e2[j]? = some (.mu v) /\ e[i]? = some s /\ s.mt = true /\ (bB sub e2 e)[i]? = some (s.re v) /\ ns2[j]? = ns[i]?) \/ ((∀ n, ns[i]? = some (some n) -> ¬ Mt (bX sub ns) ei n) /\ (bB sub e2 e)[i]? = e[i]?) := fun i => by
  by_cases hx : ∃ (j : Nat) (v : Val), sub[j]? = some (some i) /\ e2[j]? = some (.mu v)
  ·obtain ⟨j, v, q1, q2⟩ := hx
   obtain ⟨u, q3, q4⟩ := a.mu j v q2
   obtain ⟨i', s, y1, y2, y3⟩ := K.mu j u q3
   rw [q1] at y1; cases y1
   refine .inl ⟨j, v, s, q1, q2, y2, y3, by rw [qP K.inj q1 q2, y2]; rfl, ?_⟩
   rw [q4]
   have hl : i < ns.length := by rw [S.l2]; exact (List.getElem?_eq_some_iff.mp y2).1
   rw [List.getElem?_eq_getElem hl]
   exact yR q1 (List.getElem?_eq_getElem hl)
  ·refine .inr ⟨fun n q ⟨j, s, z1, z2, z3⟩ => hx ?_, mh fun j v y1 y2 => hx ⟨j, v, y1, y2⟩⟩
   obtain ⟨v, rfl⟩ := K.mt j s z2 z3
   obtain ⟨i', y4, y5⟩ := cm z1
   have : i' = i := S.inj i' i n y5 q
   subst this
   obtain ⟨v', y6, _⟩ := a.mu' j v z2
   exact ⟨j, v', y4, y6⟩
 have lenB : (bB sub e2 e).length = e.length := by
  clear key hc a K S hY hXY hM mv
  induction sub generalizing e2 e with
  | nil => rfl
  |
   cons o sub ih =>
   cases e2 with
   | nil => rfl
   |
    cons s e2 =>
    show (bB sub e2 (fi o s e)).length = _
    rw [ih]
    unfold fi
    split
    ·split
     ·rw [List.length_set]
     ·rfl
    ·rfl
 refine ⟨⟨by rw [lenB]; exact S.l1, by rw [lenB]; exact S.l2, Nat.le_trans S.lh a.len, fun n z => (hY n z).1, S.inj, fun i n q z => ?_, fun i s q => ?_⟩, ⟨a.len, fun m o q hm => a.keep m o q fun z => hm (hM m z), fun _ _ q => .inl q, fun i s q hl => ?_, fun i s q hl => ?_, fun i v q => ?_, fun i v q => ?_⟩⟩
 ·rcases (hY n z).2 with z | z
  ·exact S.nx i n q z
  ·obtain ⟨_, _, _, _, _, _, _, q', _⟩ := S.own q
   have := cV q'; omega
 ·rcases key i with ⟨j, v, s0, k1, k2, k3, k4, k5, k6⟩ | ⟨k1, k2⟩
  ·rw [k5] at q; cases q
   have y := S.sl i s0 k3
   cases s0 with
   |
    ow u =>
    obtain ⟨n, o, y1, y2, y3, _⟩ := y
    obtain ⟨o', z1, z2, z3⟩ := hc j v n k2 (by rw [k6]; exact y1)
    exact ⟨n, o', y1, y2, y3, z1, z2, z3⟩
   |
    mu u =>
    obtain ⟨n, o, y1, y2, _⟩ := y
    obtain ⟨o', z1, z2, z3⟩ := hc j v n k2 (by rw [k6]; exact y1)
    exact ⟨n, o', y1, y2, z1, z2, z3⟩
   | _ => cases k4
  ·rw [k2] at q
   exact (S.sl i s q).mono mv fun n o q1 q2 => a.keep n o q2 (k1 n q1)
 ·rcases key i with ⟨j, v, s0, k1, k2, k3, k4, k5, k6⟩ | ⟨k1, k2⟩
  ·rw [k3] at q; cases q; cases s <;> first | cases hl; done | cases k4; done
  ·rw [k2]; exact ⟨q, rfl⟩
 ·rcases key i with ⟨j, v, s0, k1, k2, k3, k4, k5, k6⟩ | ⟨k1, k2⟩
  ·rw [k5] at q; cases q; cases s0 <;> first | cases hl; done | cases k4; done
  ·rw [k2] at q; exact ⟨q, rfl⟩
 ·rcases key i with ⟨j, u, s0, k1, k2, k3, k4, k5, k6⟩ | ⟨k1, k2⟩
  ·rw [k5] at q
   cases s0 with
   | mu w => exact ⟨w, k3, rfl⟩
   | ow w => cases q
   | _ => cases k4
  ·rw [k2] at q; exact ⟨v, q, rfl⟩
 ·rcases key i with ⟨j, u, s0, k1, k2, k3, k4, k5, k6⟩ | ⟨k1, k2⟩
  ·rw [k3] at q; cases q; exact ⟨u, k5, rfl⟩
  ·exact ⟨v, by rw [k2]; exact q, rfl⟩
noncomputable def inS : Sl -> Sl
 | .ow v => .mu v
 | .lo v => .lm v
 | s => s
noncomputable def cM (sub : List (Option Nat)) (e : E3) : E3 := sub.map fun o => match o with
 | none => .no
 | some i => match e[i]? with
  | some s => inS s
  | none => .no
noncomputable def lcV (g : MG3) (c : MT3) (F : ME3) : List Val -> List Val -> E3 -> R3 (List Val)
 | [], acc, e => .ok acc e
 | v :: vs, acc, e => if acc.length < 16777216 then (match g v e with
  | none => .stuck
  | some e1 => (c e1).bind fun b e2 => if b = true then (F e2).bind fun t e3 => (match cB e3 t with
    | some (e4, y) => lcV g c F vs (acc ++ [y]) e4
    | none => .stuck) else lcV g c F vs acc e2) else .stuck
noncomputable def vLC (I : MI3) (sub : List (Option Nat)) (g : MG3) (c : MT3) (F : ME3) : ME3 := fun e => (I e).bind fun p e1 => match lcV g c F p.1 [] (cM sub (lockO e1 p.2)) with
 | .ok ys e2 => if ys.length <= 16777216 then .ok (.new (.lst ys)) (eF (bB sub e2 (lockO e1 p.2)) p.2) else .stuck
 | _ => .stuck
noncomputable def lJ (sub : List (Option Nat)) : Prop := ∀ (j k : Nat) (i : Nat), sub[j]? = some (some i) -> sub[k]? = some (some i) -> j = k
theorem tQ {sub : List (Option Nat)} (h : (sub.filterMap id).Nodup) : lJ sub := by
 induction sub with
 | nil => intro j k i q; simp at q
 |
  cons o sub ih =>
  have hsub : (sub.filterMap id).Nodup := by
   cases o with
   | none => simpa using h
   | some i => rw [List.filterMap_cons] at h; simp at h; exact h.2
  have hno : ∀ (i k : Nat), o = some i -> sub[k]? = some (some i) -> False := fun i k z q => by
   subst z
   rw [List.filterMap_cons] at h
   simp at h
   exact h.1 (List.mem_of_getElem? q)
  intro j k i q1 q2
  cases j with
  |
   zero =>
   cases k with
   | zero => rfl
   | succ k => exact (hno i k (by simpa using q1) (by simpa using q2)).elim
  |
   succ j =>
   cases k with
   | zero => exact (hno i j (by simpa using q2) (by simpa using q1)).elim
   | succ k => exact congrArg (· + 1) (ih hsub j k i (by simpa using q1) (by simpa using q2))
noncomputable def Xin (X : Nat -> Prop) (ns : Ns) (sub : List (Option Nat)) (n : Nat) : Prop := X n \/ (some n ∈ ns /\ some n ∉ bX sub ns)
theorem k8 {sub : List (Option Nat)} {ns : Ns} {n : Nat} (q : some n ∈ bX sub ns) : some n ∈ ns := by
 obtain ⟨j, q⟩ := bo.mp q
 obtain ⟨i, _, q2⟩ := cm q
 exact bo.mpr ⟨i, q2⟩
theorem jy {sub : List (Option Nat)} {e : E3} {j : Nat} {s : Sl} (q : (cM sub e)[j]? = some s) : (sub[j]? = some none /\ s = .no) \/ (∃ i, sub[j]? = some (some i) /\ ((e[i]? = none /\ s = .no) \/ ∃ t, e[i]? = some t /\ s = inS t)) := by
 unfold cM at q
 rw [List.getElem?_map] at q
 cases z : sub[j]? with
 | none => rw [z] at q; cases q
 |
  some o =>
  rw [z] at q
  cases o with
  | none => cases q; exact .inl ⟨rfl, rfl⟩
  |
   some i =>
   refine .inr ⟨i, rfl, ?_⟩
   have q' := Option.some.inj q
   dsimp only at q'
   cases y : e[i]? with
   | none => rw [y] at q'; exact .inl ⟨rfl, q'.symm⟩
   | some t => rw [y] at q'; exact .inr ⟨t, rfl, q'.symm⟩
theorem
    Sat.inner {X : Nat -> Prop} {h0 : Nat} {ns : Ns} {e : E3} {ae : AE} {h : AH} {sub : List (Option Nat)} (S : Sat X h0 ns e ae h) (hs : lJ sub) : Sat (Xin X ns sub) h0 (bX sub ns) (cM sub e) (jg sub ae) h := by
 refine ⟨by unfold jg cM; rw [List.length_map, List.length_map], by unfold bX cM; rw [List.length_map, List.length_map], S.lh, fun n z => ?_, fun j k n q1 q2 => ?_, fun j n q z => ?_, fun j s q => ?_⟩
 ·rcases z with z | ⟨z, _⟩
  ·exact S.xl n z
  ·obtain ⟨i, z⟩ := bo.mp z
   obtain ⟨_, _, _, _, _, _, _, q', _⟩ := S.own z
   exact cV q'
 ·obtain ⟨i, y1, y2⟩ := cm q1
  obtain ⟨i', y3, y4⟩ := cm q2
  have := S.inj i i' n y2 y4
  subst this
  exact hs j k i y1 y3
 ·rcases z with z | ⟨_, z⟩
  ·obtain ⟨i, y1, y2⟩ := cm q
   exact S.nx i n y2 z
  ·exact z (bo.mpr ⟨j, q⟩)
 ·have mv : Mov (Oc X ns) (Oc (Xin X ns sub) (bX sub ns)) h h := fun n o p q => ⟨⟨fun z => by
   rcases z with z | ⟨z, _⟩
   ·exact p.1 z
   ·exact p.2 z, fun z => p.2 (k8 z)⟩, q⟩
  have hj : ∀ {o}, sub[j]? = some o -> (bX sub ns)[j]? = some (o.bind fun i => (ns[i]?).bind id) /\ (jg sub ae)[j]? = some (o.bind fun i => (ae[i]?).bind id) := fun {o} z => by
   unfold bX jg
   rw [List.getElem?_map, List.getElem?_map, z]
   exact ⟨rfl, rfl⟩
  rcases jy q with ⟨z, rfl⟩ | ⟨i, z, ⟨y, rfl⟩ | ⟨t, y, rfl⟩⟩
  ·rw [(hj z).1]; rfl
  ·rw [(hj z).1]
   show some ((ns[i]?).bind id) = some none
   have : ns[i]? = none := by
    rw [List.getElem?_eq_none_iff] at y ⊢
    rw [S.l2]; exact y
   rw [this]; rfl
  ·have k := (S.sl i t y).mono mv fun _ _ _ q => q
   rw [(hj z).1, (hj z).2]
   show SlR _ h0 (some ((ns[i]?).bind id)) (some ((ae[i]?).bind id)) h (inS t)
   have w1 : ∀ x, ns[i]? = some x -> some ((ns[i]?).bind id) = some x := fun x q => by rw [q]; rfl
   have w2 : ∀ x, ae[i]? = some x -> some ((ae[i]?).bind id) = some x := fun x q => by rw [q]; rfl
   cases t with
   | no => rw [w1 _ k]; rfl
   | sh v => obtain ⟨k1, x, k2, k3⟩ := k; rw [w1 _ k1, w2 _ k2]; exact ⟨rfl, x, rfl, k3⟩
   | ow v => obtain ⟨m, o, k1, k2, _, k3⟩ := k; rw [w1 _ k1, w2 _ k2]; exact ⟨m, o, rfl, rfl, k3⟩
   | lo v => obtain ⟨m, o, k1, k2, _, k3⟩ := k; rw [w1 _ k1, w2 _ k2]; exact ⟨m, o, rfl, rfl, k3⟩
   | mu v => obtain ⟨m, o, k1, k2, k3⟩ := k; rw [w1 _ k1, w2 _ k2]; exact ⟨m, o, rfl, rfl, k3⟩
   | lm v => obtain ⟨m, o, k1, k2, k3⟩ := k; rw [w1 _ k1, w2 _ k2]; exact ⟨m, o, rfl, rfl, k3⟩
theorem qK {sub : List (Option Nat)} {e : E3} (hs : lJ sub) : Lnk sub e (cM sub e) := by
 refine ⟨hs, fun j v q => ?_, fun j s q hm => ?_⟩
 ·rcases jy q with ⟨_, z⟩ | ⟨i, z, ⟨_, y⟩ | ⟨t, y, y2⟩⟩
  ·cases z
  ·cases y
  ·refine ⟨i, t, z, y, ?_⟩
   cases t <;> first | rfl | cases y2
 ·rcases jy q with ⟨_, z⟩ | ⟨i, z, ⟨_, y⟩ | ⟨t, y, y2⟩⟩
  ·subst z; cases hm
  ·subst y; cases hm
  ·subst y2
   cases t with
   | ow v => exact ⟨v, rfl⟩
   | mu v => exact ⟨v, rfl⟩
   | _ => cases hm
section
variable {I : MI} {I3 : MI3} {g : MG} {g3 : MG3} {c : MT} {c3 : MT3} {F : ME} {F3 : ME3}
theorem
    Bp {X : Nat -> Prop} {h0 : Nat} {ns : Ns} {e : E3} {ae : AE} {h : AH} {G : AH -> Prop} (S : Sat X h0 ns e ae h) (hg : RG g g3) (hc : RT c c3) (hF : RE F F3) (hG : ∀ ns' e' h', Stp ns e h ns' e' h' -> G h') {ys : List Val} {e2 : E3} :
  ∀
   {ds : List D} {vs : List Val}, Rds (Oc X ns) h ds vs -> ∀ {acc : List D} {accv : List Val} {ns1 : Ns} {e1 : E3} {ae1 : AE} {h1 : AH}, Stp ns e h ns1 e1 h1 -> Sat X h0 ns1 e1 ae1 h1 -> Rds (Oc X ns1) h1 acc accv -> lcV g3 c3 F3 vs accv e1 = .ok ys e2 ->
   ∃ dy h2 ns2 ae2, lcL G g c F ds acc ae1 h1 = .ok dy h2 /\ Stp ns e h ns2 e2 h2 /\ Sat X h0 ns2 e2 ae2 h2 /\ Rds (Oc X ns2) h2 dy ys := by
 intro ds
 induction ds with
 |
  nil =>
  intro vs r acc accv ns1 e1 ae1 h1 a1 S1 ra q
  cases r
  unfold lcL
  rw [if_pos (hG _ _ _ a1)]
  cases q
  exact ⟨acc, h1, ns1, ae1, rfl, a1, S1, ra⟩
 |
  cons d0 ds ih =>
  intro vs r acc accv ns1 e1 ae1 h1 a1 S1 ra q
  cases r with
  |
   cons r rr =>
   rename_i v vs
   unfold lcV at q
   unfold lcL
   by_cases hl : accv.length < 16777216
   ·rw [if_pos hl] at q
    rw [if_pos ⟨hG _ _ _ a1, by rw [ra.len]; exact hl⟩]
    cases q1 : g3 v e1 with
    | none => rw [q1] at q; cases q
    |
     some e3 =>
     rw [q1] at q
     dsimp only at q
     obtain ⟨ae3, ns3, p3, S3, a3⟩ := hg _ _ _ _ _ _ _ _ _ S1 (r.mono (a1.mov S)) q1
     rw [p3, iK]
     have a13 := a1.trans S a3
     have pc := hc X h0 ns3 e3 ae3 h1 S3
     cases q4 : c3 e3 with
     | stuck => rw [q4] at q; cases q
     | exc _ _ => rw [q4] at q; cases q
     |
      ok b e4 =>
      rw [q4] at q pc
      obtain ⟨b', h4, ns4, p4, a4, S4, rfl⟩ := pc
      rw [p4, iK]
      have a14 := a13.trans S a4
      have ra4 := (ra.mono (a3.mov S1)).mono (a4.mov S3)
      have q' : (if b' = true then (F3 e4).bind fun t e3 => (match cB e3 t with
       | some (e4, y) => lcV g3 c3 F3 _ (accv ++ [y]) e4
       | none => .stuck) else lcV g3 c3 F3 _ accv e4) = .ok ys e2 := q
      by_cases hb : b' = true
      ·rw [if_pos hb] at q' ⊢
       have pF := hF X h0 0 ns4 e4 ae3 h4 S4 (Nat.zero_le _)
       cases q5 : F3 e4 with
       | stuck => rw [q5] at q'; cases q'
       | exc _ _ => rw [q5] at q'; cases q'
       |
        ok t e5 =>
        rw [q5] at q' pF
        obtain ⟨d5, h5, ns5, p5, a5, S5, r5⟩ := pF
        rw [p5, iK]
        have q'' : (match cB e5 t with
         | some (e4, y) => lcV g3 c3 F3 _ (accv ++ [y]) e4
         | none => .stuck) = .ok ys e2 := q'
        cases q6 : cB e5 t with
        | none => rw [q6] at q''; cases q''
        |
         some w =>
         obtain ⟨e6, y⟩ := w
         rw [q6] at q''
         obtain ⟨ns6, S6, a6, r6⟩ := fm S5 r5 q6
         exact ih rr ((a14.trans S a5).trans S a6) S6 (((ra4.mono (a5.mov S4)).mono (a6.mov S5)).append (.cons r6 .nil)) q''
      ·rw [if_neg hb] at q' ⊢
       exact ih rr a14 S4 ra4 q'
   ·rw [if_neg hl] at q; cases q
theorem
    C2 {sub : List (Option Nat)} (hs : (sub.filterMap id).Nodup) (hI : RI I I3) (hg : RG g g3) (hc : RT c c3) (hF : RE F F3) : RE (eLC I sub g c F) (vLC I3 sub g3 c3 F3) := fun X h0 L ns e ae h S hl =>
 Po.bind
     S (hI X h0 ns e ae h S) fun it p h1 ns1 e1 a1 S1 r1 => by
  try dsimp only
  obtain ⟨r2, gd, hk⟩ := r1
  have hs' := tQ hs
  have S2 := S1.lockO p.2
  have S3 := S2.inner hs'
  cases q : lcV g3 c3 F3 p.1 [] (cM sub (lockO e1 p.2)) with
  | stuck => trivial
  | exc _ _ => trivial
  |
   ok ys e2 =>
   dsimp only
   split
   ·rename_i hy
    have gd' : ∀ ns' e' h', Stp (bX sub ns1) (cM sub (lockO e1 p.2)) h1 ns' e' h' -> it.guard h' := fun ns' e' h' a => gd h' fun m o qm hm => a.keep m o qm fun ⟨j, s, z1, z2, z3⟩ => by
     obtain ⟨i, y1, y2⟩ := cm z1
     rcases hm with hm | ⟨k, hk1, hk2⟩
     ·exact hm.2 (bo.mpr ⟨i, y2⟩)
     ·have : i = k := S1.inj i k m y2 hk2
      subst this
      obtain ⟨s', w1, w2⟩ := hk i hk1
      rcases jy z2 with ⟨z, _⟩ | ⟨i', z, y⟩
      ·rw [y1] at z; cases z
      ·rw [y1] at z; cases z
       have hl : (lockO e1 p.2)[i]? = some (jj s') := by rw [hk1]; exact mB w1
       rcases y with ⟨y, _⟩ | ⟨t, y, rfl⟩
       ·rw [hl] at y; cases y
       ·rw [hl] at y; cases y
        cases s' <;> first | cases w2; done | cases z3; done
    have mvi : Mov (Oc X ns1) (Oc (Xin X ns1 sub) (bX sub ns1)) h1 h1 := fun n o p q => ⟨⟨fun z => by
     rcases z with z | ⟨z, _⟩
     ·exact p.1 z
     ·exact p.2 z, fun z => p.2 (k8 z)⟩, q⟩
    obtain ⟨dy, h2, ns2, ae2, p2, a2, S4, r4⟩ := Bp (G := it.guard) S3 hg hc hF gd' (r2.mono mvi) .refl S3 .nil q
    have k3 : ∀ n, Oc (Xin X ns1 sub) ns2 n -> Oc X ns1 n := fun n z => ⟨fun y => z.1 (.inl y), fun y => by
     by_cases w : some n ∈ bX sub ns1
     ·obtain ⟨j, w⟩ := bo.mp w
      obtain ⟨s, v, o, b1, b2, _⟩ := S3.own w
      rcases b2 with b2 | b2
      ·obtain ⟨v', rfl⟩ := (qK (e := lockO e1 p.2) hs').mt j s b1 b2
       obtain ⟨u, c1, c2⟩ := a2.mu' j v' b1
       exact z.2 (bo.mpr ⟨j, by rw [c2]; exact w⟩)
      ·obtain ⟨c1, c2⟩ := a2.lk j s b1 b2
       exact z.2 (bo.mpr ⟨j, by rw [c2]; exact w⟩)
     ·exact z.1 (.inr ⟨y, w⟩)⟩
    have bk := S2.back (Y := X) (qK hs') a2 (fun n z => ⟨Nat.lt_of_lt_of_le (S2.xl n z) a2.len, .inl z⟩) (fun _ z => z) fun j v n q1 q2 => by
     obtain ⟨s, u, o, b1, b2, b3, b4, b5, b6, b7⟩ := S4.own q2
     rw [q1] at b1; cases b1
     cases b3
     exact ⟨o, b5, b6, b7.mono fun m o' z y => ⟨k3 m z, y⟩⟩
    obtain ⟨S5, a5⟩ := bk
    have r5 : Rds (Oc X ns1) h2 dy ys := r4.mono fun m o' z y => ⟨k3 m z, y⟩
    have fin : ∀ (e' : E3), Sat X h0 ns1 e' ae h2 -> Stp ns1 e1 h1 ns1 e' h2 -> Po X h0 ns1 e1 ae h1 (relE X h0 L ae) ((noX (lcL it.guard g c F it.items [] (jg sub ae) h1)).bind dD) (.ok (.new (.lst ys)) e') := fun e' S6 a6 => by
     rw [p2]
     have pp := BvR.po (L := L) (r := dD dy h2) (b := .new (.lst ys)) S6 (Nat.le_trans hl (Nat.le_trans a1.len a6.len)) ⟨.lst dy, by unfold dD; rw [if_pos (by rw [r5.len]; exact hy)], trivial, .lst r5⟩
     obtain ⟨d, h', ns', y, y1, y2, y3⟩ := pp
     exact ⟨d, h', ns', y, a6.trans S1 y1, y2, y3⟩
    cases hp : p.2 with
    |
     none =>
     rw [hp] at S5 a5
     exact fin _ S5 a5
    |
     some k =>
     rw [hp] at S5 a5
     obtain ⟨s, w1, w2⟩ := hk k hp
     exact fin _ (S5.unlock k) (a5.unlock w1 w2)
   ·trivial
end
end L3
set_option Elab.async false
set_option linter.all false
set_option maxRecDepth 100000
namespace L3
open PySem PySem.Spec PyProof.Rows L2
inductive R3F where
 | ok (r : Rt) (mv : List Val) | exc (c : Str) (mv : List Val) | stuck
abbrev Fn3 := List Val -> R3F
noncomputable def sl1 (b : Bool) (v : Val) : Sl := if b = true then .mu v else .sh v
noncomputable def sls (ms : List Bool) (vs : List Val) : E3 := List.zipWith sl1 ms vs
noncomputable def aX : List Bool -> List Val -> E3
 | true :: ms, v :: vs => .mu v :: aX ms vs
 | true :: ms, [] => .no :: aX ms []
 | false :: ms, vs => .no :: aX ms vs
 | [], _ => []
noncomputable def muV : List Bool -> E3 -> Option (List Val)
 | true :: ms, .mu v :: e => (muV ms e).map (v :: ·)
 | true :: _, _ => none
 | false :: ms, _ :: e => muV ms e
 | false :: _, [] => none
 | [], _ => some []
noncomputable def RFp (X : Nat -> Prop) (ps : Ns) (ms : List Bool) (vs : List Val) (ds : List D) (h : AH) (r2 : R D) : R3F -> Prop
 | .stuck => True
 | .ok r mv => ∃ d h', r2 = .ok d h' /\ Stp ps (sls ms vs) h ps (aX ms mv) h' /\ RtR X h.length ps (aX ms mv) (ds.map some) h' d r
 | .exc c mv => ∃ h', r2 = .exc c h' /\ Stp ps (sls ms vs) h ps (aX ms mv) h' /\ Sat X h.length ps (aX ms mv) (ds.map some) h'
noncomputable def RF (ms : List Bool) (G2 : Fn) (G3 : Fn3) : Prop := ∀ X ps ds vs h, vs.length = ms.length -> Sat X h.length ps (sls ms vs) (ds.map some) h -> RFp X ps ms vs ds h (G2 ds h) (G3 vs)
noncomputable def fnV (ms : List Bool) (N : Nat) (F : MS3) : Fn3 := fun vs => if vs.length = ms.length then (match F (sls ms vs ++ List.replicate (N - vs.length) .no) with
 | .nx e => (match muV ms e with | some mv => .ok (.val .non) mv | none => .stuck)
 | .rt r e => (match muV ms e with | some mv => .ok r mv | none => .stuck)
 | .exc c e => (match muV ms e with | some mv => .exc c mv | none => .stuck)
 | _ => .stuck) else .stuck
theorem fj {ms : List Bool} {vs : List Val} {i : Nat} {s : Sl} (q : (sls ms vs)[i]? = some s) : ∃ b v, ms[i]? = some b /\ vs[i]? = some v /\ s = sl1 b v := by
 unfold sls at q
 rw [List.getElem?_zipWith] at q
 cases h1 : ms[i]? with
 | none => rw [h1] at q; cases q
 |
  some b =>
  cases h2 : vs[i]? with
  | none => rw [h1, h2] at q; cases q
  | some v => rw [h1, h2] at q; cases q; exact ⟨b, v, rfl, rfl, rfl⟩
theorem gC : ∀ {ms : List Bool} {e : E3} {mv : List Val} {i : Nat} {s : Sl}, muV ms e = some mv -> (aX ms mv)[i]? = some s -> (ms[i]? = some false /\ s = .no) \/ (ms[i]? = some true /\ ∃ v, e[i]? = some (.mu v) /\ s = .mu v)
 | [], _, _, _, _, _, q => by unfold aX at q; simp at q
 |
  true :: ms, .mu v :: e, mv, i, s, q, q2 => by
  obtain ⟨mv', z1, z2⟩ := Option.map_eq_some_iff.mp (show (muV ms e).map (v :: ·) = some mv from q)
  subst z2
  cases i with
  | zero =>
       right; have : Sl.mu v = s := by simpa [aX] using q2
       subst this; exact ⟨rfl, v, rfl, rfl⟩
  |
   succ i =>
   have := gC (i := i) (s := s) z1 (by simpa [aX] using q2)
   simpa using this
 | true :: ms, [], mv, i, s, q, q2 => by cases q
 | true :: ms, .no :: e, mv, i, s, q, q2 => by cases q
 | true :: ms, .sh v :: e, mv, i, s, q, q2 => by cases q
 | true :: ms, .ow v :: e, mv, i, s, q, q2 => by cases q
 | true :: ms, .lo v :: e, mv, i, s, q, q2 => by cases q
 | true :: ms, .lm v :: e, mv, i, s, q, q2 => by cases q
 | false :: ms, [], mv, i, s, q, q2 => by cases q
 |
  false :: ms, t :: e, mv, i, s, q, q2 => by
  cases i with
  | zero =>
       left; have : Sl.no = s := by simpa [aX] using q2
       exact ⟨rfl, this.symm⟩
  |
   succ i =>
   have := gC (i := i) (s := s) (show muV ms e = some mv from q) (by simpa [aX] using q2)
   simpa using this
theorem mQ : ∀ {ms : List Bool} {e : E3} {mv : List Val} {i : Nat}, muV ms e = some mv -> ms[i]? = some true -> ∃ v, e[i]? = some (.mu v) /\ (aX ms mv)[i]? = some (.mu v)
 | [], _, _, i, _, q => by simp at q
 |
  true :: ms, .mu v :: e, mv, i, q, q2 => by
  obtain ⟨mv', z1, z2⟩ := Option.map_eq_some_iff.mp (show (muV ms e).map (v :: ·) = some mv from q)
  subst z2
  cases i with
  | zero => exact ⟨v, rfl, rfl⟩
  |
   succ i =>
   obtain ⟨u, y1, y2⟩ := mQ (i := i) z1 (by simpa using q2)
   exact ⟨u, by simpa using y1, by simpa [aX] using y2⟩
 | true :: ms, [], mv, i, q, q2 => by cases q
 | true :: ms, .no :: e, mv, i, q, q2 => by cases q
 | true :: ms, .sh v :: e, mv, i, q, q2 => by cases q
 | true :: ms, .ow v :: e, mv, i, q, q2 => by cases q
 | true :: ms, .lo v :: e, mv, i, q, q2 => by cases q
 | true :: ms, .lm v :: e, mv, i, q, q2 => by cases q
 | false :: ms, [], mv, i, q, q2 => by cases q
 |
  false :: ms, t :: e, mv, i, q, q2 => by
  cases i with
  | zero => simp at q2
  |
   succ i =>
   obtain ⟨u, y1, y2⟩ := mQ (i := i) (show muV ms e = some mv from q) (by simpa using q2)
   exact ⟨u, by simpa using y1, by simpa [aX] using y2⟩
theorem gX : ∀ {ms : List Bool} {mv : List Val}, (aX ms mv).length = ms.length
 | [], _ => rfl
 | true :: ms, v :: mv => by show (aX ms mv).length + 1 = ms.length + 1; rw [gX]
 | true :: ms, [] => by show (aX ms []).length + 1 = ms.length + 1; rw [gX]
 | false :: ms, mv => by show (aX ms mv).length + 1 = ms.length + 1; rw [gX]
theorem
    C1 {ms : List Bool} {N : Nat} {F : MS} {F3 : MS3} (hF : RS F F3) : RF ms (fnD N F) (fnV ms N F3) := fun X ps ds vs h hl S => by
 unfold fnV
 rw [if_pos hl]
 have lS : (sls ms vs).length = vs.length := by unfold sls; rw [List.length_zipWith]; omega
 have lD : ds.length = vs.length := by have := S.l1; rw [List.length_map] at this; omega
 have lP : ps.length = vs.length := by have := S.l2; omega
 have S1
     : Sat X h.length (ps ++ List.replicate (N - vs.length) none) (sls ms vs ++ List.replicate (N - vs.length) .no) (ds.map some ++ List.replicate (N - vs.length) none) h := by
  have mns : ∀ n, some n ∈ ps ++ List.replicate (N - vs.length) (none : Option Nat) ↔ some n ∈ ps := fun n => by
   rw [List.mem_append]
   constructor
   ·rintro (z | z)
    ·exact z
    ·have := List.eq_of_mem_replicate z; cases this
   ·exact .inl
  have gns : ∀ {i n : Nat}, (ps ++ List.replicate (N - vs.length) (none : Option Nat))[i]? = some (some n) -> ps[i]? = some (some n) := fun {i n} q => by
   rw [List.getElem?_append] at q
   split at q
   ·exact q
   ·rw [List.getElem?_replicate] at q; split at q <;> cases q
  refine ⟨?_, ?_, S.lh, S.xl, fun i j n q1 q2 => S.inj i j n (gns q1) (gns q2), fun i n q => S.nx i n (gns q), fun i s q => ?_⟩
  ·rw [List.length_append, List.length_append, List.length_replicate, List.length_replicate, S.l1]
  ·rw [List.length_append, List.length_append, List.length_replicate, List.length_replicate, S.l2]
  ·rw [List.getElem?_append] at q
   split at q
   ·rename_i hi
    have k := S.sl i s q
    rw [List.getElem?_append_left (by omega), List.getElem?_append_left (by rw [List.length_map]; omega)]
    exact k.mono (fun n o p q => ⟨⟨p.1, fun z => p.2 ((mns n).mp z)⟩, q⟩) fun _ _ _ q => q
   ·rename_i hi
    rw [List.getElem?_replicate] at q
    split at q
    ·cases q
     rw [List.getElem?_append_right (by omega), List.getElem?_replicate, if_pos (by omega)]
     rfl
    ·cases q
 have p := hF _ _ _ _ _ _ S1
 have e2 : fnD N F ds h = match F (ds.map some ++ List.replicate (N - vs.length) none) h with
  | .nx _ h' => .ok .non h'
  | .rt d h' => .ok d h'
  | .exc c _ h' => .exc c h'
  | _ => .stuck := by rw [<- lD]; rfl
 rw [e2]
 have fin : ∀ (Y : Nat -> Prop) (ns' : Ns) (e' : E3) (ae' : AE) (h' : AH) (mv : List Val), (∀ n, X n -> Y n) -> Stp (ps ++ List.replicate (N - vs.length) none) (sls ms vs ++ List.replicate (N - vs.length) .no) h ns' e' h' -> Sat Y h.length ns' e' ae' h' -> muV ms e' = some mv ->
   Stp ps (sls ms vs) h ps (aX ms mv) h' /\ Sat Y h.length ps (aX ms mv) (ds.map some) h' /\ ∀ n, Oc Y ns' n -> Oc Y ps n := by
  intro Y ns' e' ae' h' mv hXY a S2 qm
  have kmu : ∀ {i : Nat}, ms[i]? = some true -> ∃ v u n o, e'[i]? = some (.mu v) /\ (aX ms mv)[i]? = some (.mu v) /\ (sls ms vs)[i]? = some (.mu u) /\ ns'[i]? = ps[i]? /\ ps[i]? = some (some n) /\ (ds.map some)[i]? = some (some (.ref n)) /\ h'[n]? = some o /\ bW o /\ Rc (Oc Y ns') h' o v := by
   intro i hi
   obtain ⟨v, y1, y2⟩ := mQ qm hi
   have hil : i < ms.length := (List.getElem?_eq_some_iff.mp hi).1
   obtain ⟨u, y3, y4⟩ := a.mu i v y1
   rw [List.getElem?_append_left (by omega)] at y3 y4
   obtain ⟨n, o, z1, z2, _⟩ := S.sl i _ y3
   obtain ⟨n', o', w1, w2, w3, w4, w5⟩ := S2.sl i _ y1
   rw [y4, z1] at w1; cases w1
   exact ⟨v, u, n, o', y1, y2, y3, y4, z1, z2, w3, w4, w5⟩
  have kown : ∀ {i n : Nat}, ps[i]? = some (some n) -> ms[i]? = some true := fun {i n} q => by
   obtain ⟨s, v, o, z1, z2, _⟩ := S.own q
   obtain ⟨b, u, y1, _, y2⟩ := fj z1
   cases b with
   | true => exact y1
   | false => subst y2; rcases z2 with z2 | z2 <;> cases z2
  have koc : ∀ n, Oc Y ns' n -> Oc Y ps n := fun n z => ⟨z.1, fun y => by
   obtain ⟨i, y⟩ := bo.mp y
   obtain ⟨v, u, n', o, _, _, _, k1, k2, _⟩ := kmu (kown y)
   exact z.2 (bo.mpr ⟨i, by rw [k1]; exact y⟩)⟩
  refine ⟨⟨a.len, fun m o q hm => a.keep m o q fun ⟨i, s, z1, z2, z3⟩ => hm ?_, fun _ _ q => .inl q, fun i s q hl' => ?_, fun i s q hl' => ?_, fun i v q => ?_, fun i v q => ?_⟩, ⟨?_, ?_, Nat.le_trans (Nat.le_refl _) a.len, S2.xl, S.inj, fun i n q z => ?_, fun i s q => ?_⟩, koc⟩
  ·rw [List.getElem?_append] at z1
   split at z1
   ·rename_i hi
    rw [List.getElem?_append_left (by omega)] at z2
    exact ⟨i, s, z1, z2, z3⟩
   ·rw [List.getElem?_replicate] at z1; split at z1 <;> cases z1
  ·obtain ⟨b, u, _, _, y⟩ := fj q
   subst y
   cases b <;> cases hl'
  ·rcases gC qm q with ⟨_, z⟩ | ⟨_, v, _, z⟩ <;> subst z <;> cases hl'
  ·rcases gC qm q with ⟨_, z⟩ | ⟨z, _⟩
   ·cases z
   ·obtain ⟨v', u, n, o, _, _, k1, _⟩ := kmu z
    exact ⟨u, k1, rfl⟩
  ·obtain ⟨b, u, y1, _, y2⟩ := fj q
   cases b with
   | false => cases y2
   |
    true =>
    obtain ⟨v', u, n, o, _, k0, k1, _⟩ := kmu y1
    exact ⟨v', k0, rfl⟩
  ·rw [List.length_map, gX]; omega
  ·rw [gX]; omega
  ·obtain ⟨v, u, n', o, _, _, _, k1, k2, _⟩ := kmu (kown q)
   exact S2.nx i n (by rw [k1]; exact q) z
  ·rcases gC qm q with ⟨z, rfl⟩ | ⟨z, v, z2, rfl⟩
   ·have hil : i < ms.length := (List.getElem?_eq_some_iff.mp z).1
    have hi : i < (sls ms vs).length := by omega
    obtain ⟨b, u, y1, _, y2⟩ := fj (List.getElem?_eq_getElem hi)
    rw [z] at y1; cases y1
    have k := S.sl i _ (List.getElem?_eq_getElem hi)
    rw [y2] at k
    exact k.1
   ·obtain ⟨v', u, n, o, k0, _, _, k1, k2, k3, k4, k5, k6⟩ := kmu z
    rw [z2] at k0; cases k0
    exact ⟨n, o, k2, k3, k4, k5, k6.mono fun m o' y q => ⟨koc m y, q⟩⟩
 generalize F3 (sls ms vs ++ List.replicate (N - vs.length) .no) = r3 at *
 cases r3 with
 | stuck => trivial
 | bk _ => trivial
 | ct _ => trivial
 |
  nx e' =>
  obtain ⟨ae', h', ns', q, a, S2⟩ := p
  rw [q]
  dsimp only
  cases qm : muV ms e' with
  | none => trivial
  |
   some mv =>
   obtain ⟨a3, S3, koc⟩ := fin X ns' e' ae' h' mv (fun _ z => z) a S2 qm
   exact ⟨.non, h', rfl, a3, S3, .non⟩
 |
  exc c e' =>
  obtain ⟨ae', h', ns', q, a, S2⟩ := p
  rw [q]
  dsimp only
  cases qm : muV ms e' with
  | none => trivial
  |
   some mv =>
   obtain ⟨a3, S3, koc⟩ := fin X ns' e' ae' h' mv (fun _ z => z) a S2 qm
   exact ⟨h', rfl, a3, S3⟩
 |
  rt r e' =>
  obtain ⟨d, ae', h', ns', q, a, rr⟩ := p
  rw [q]
  dsimp only
  cases qm : muV ms e' with
  | none => trivial
  |
   some mv =>
   cases r with
   |
    val v =>
    obtain ⟨a3, S3, koc⟩ := fin X ns' e' ae' h' mv (fun _ z => z) a rr.1 qm
    exact ⟨d, h', rfl, a3, S3, rr.2.mono fun m o y q => ⟨koc m y, q⟩⟩
   |
    new v =>
    obtain ⟨n, o, z1, z2, z3, z4, z5, z6, z7⟩ := rr
    obtain ⟨a3, S3, koc⟩ := fin (Xn X n) ns' e' ae' h' mv (fun _ z => .inl z) a z6 qm
    exact ⟨d, h', rfl, a3, n, o, z1, z2, z3, z4, z5, S3, z7.mono fun m o y q => ⟨koc m y, q⟩⟩
noncomputable def ie (i : Nat) : List Tm -> Bool
 | .bor j :: ts => (i == j) || ie i ts
 | _ :: ts => ie i ts
 | [] => false
noncomputable def lY (i : Nat) : List Bool -> List Tm -> Bool
 | true :: ms, .bor j :: ts => (i == j) || lY i ms ts
 | _ :: ms, _ :: ts => lY i ms ts
 | _, _ => false
noncomputable def okA (e : E3) : List Bool -> List Tm -> Bool
 | true :: ms, .bor i :: ts => ((e[i]?).bind Sl.mv).isSome && !(ie i ts) && okA e ms ts
 | true :: _, _ :: _ => false
 | false :: ms, .bor i :: ts => !(lY i ms ts) && okA e ms ts
 | false :: ms, _ :: ts => okA e ms ts
 | [], [] => true
 | _, _ => false
noncomputable def mJ (b : Bool) (t : Tm) : Option Nat := match b, t with
 | true, .bor i => some i
 | _, _ => none
noncomputable def bZ (ms : List Bool) (ts : List Tm) : List (Option Nat) := List.zipWith mJ ms ts
noncomputable def bg (e : E3) : List Bool -> List Tm -> List Nat
 | false :: ms, .bor i :: ts => (match e[i]? with
  | some (.sh _) => bg e ms ts
  | _ => i :: bg e ms ts)
 | _ :: ms, _ :: ts => bg e ms ts
 | _, _ => []
mutual
noncomputable def cH : Val -> Bool
 | .tup xs => cE xs
 | .lst _ => false
 | .kl _ => false
 | .dct _ => false
 | .set _ => false
 | _ => true
noncomputable def cE : List Val -> Bool
 | [] => true
 | v :: vs => cH v && cE vs
end
noncomputable def lx : List (Key × Val) -> Bool
 | [] => true
 | (_, v) :: vs => cH v && lx vs
noncomputable def c8 : Val -> Bool
 | .lst xs => cE xs
 | .dct xs => lx xs
 | .set _ => true
 | _ => false
noncomputable def kx : Rt -> Bool
 | .val v => cH v
 | .new v => c8 v
noncomputable def mn (e : E3) : List Nat -> Option E3
 | [] => some e
 | i :: is => match cB e (.bor i) with
  | some (e1, _) => mn e1 is
  | none => none
noncomputable def Rt.tm : Rt -> Tm
 | .val v => .val v
 | .new v => .new v
noncomputable def w6 (ms : List Bool) (G : Fn3) (A : MA3) : ME3 := fun e => (A e).bind fun ts e1 => match rss e1 ts with
 | none => .stuck
 | some vs => if okA e1 ms ts = true then (match G vs with
  | .stuck => .stuck
  | .ok r mv => if (bg e1 ms ts).isEmpty || (kx r && mv.all c8) then .ok r.tm (bB (bZ ms ts) (aX ms mv) e1) else (match mn e1 (bg e1 ms ts) with
   | some e2 => .ok r.tm (bB (bZ ms ts) (aX ms mv) e2)
   | none => .stuck)
  | .exc c mv => if (bg e1 ms ts).isEmpty || mv.all c8 then .exc c (bB (bZ ms ts) (aX ms mv) e1) else .stuck) else .stuck
section
variable {P P' : Nat -> Prop} {h h' : AH}
theorem Rd.flat {d : D} {v : Val} (f : cH v = true) (r : Rd P h d v) : Rd P' h' d v :=
 @Rd.rec P h (fun d v _ => cH v = true -> Rd P' h' d v) (fun o v _ => cH v = true -> Rd P' h' .non v) (fun ds vs _ => cE vs = true -> Rds P' h' ds vs) (fun ws us _ => True) (fun _ => .non) (fun b _ => .bl b) (fun i _ => .int i) (fun x _ => .str x) (fun n _ => .ty n) (fun x _ => .glb x) (fun x _ => .exc x) (fun _ ih f => .tup (ih f)) (fun _ _ f => absurd f Bool.false_ne_true) (fun _ _ r _ f => by cases r <;> exact absurd f Bool.false_ne_true) (fun _ _ f => absurd f Bool.false_ne_true) (fun _ _ f => absurd f Bool.false_ne_true) (fun _ _ f => absurd f Bool.false_ne_true) (fun _ f => absurd f Bool.false_ne_true) (fun _ => .nil) (fun _ _ a b f => .cons (a (Bool.and_eq_true .. ▸ f).1) (b (Bool.and_eq_true .. ▸ f).2)) trivial (fun _ _ _ _ => trivial) d v r f
theorem Rds.flat {d : List D} {v : List Val} (f : cE v = true) (r : Rds P h d v) : Rds P' h' d v :=
 r.ind (M := fun ds vs => cE vs = true -> Rds P' h' ds vs) (fun _ => .nil) (fun r _ ih f => by
  rw [cE, Bool.and_eq_true] at f
  exact .cons (Rd.flat f.1 r) (ih f.2)) f
theorem Rk.flat {d : List (Key × D)} {v : List (Key × Val)} (f : lx v = true) (r : Rk P h d v) : Rk P' h' d v :=
 r.ind (M := fun ds vs => lx vs = true -> Rk P' h' ds vs) (fun _ => .nil) (fun r _ ih f => by
  rw [lx, Bool.and_eq_true] at f
  exact .cons (Rd.flat f.1 r) (ih f.2)) f
theorem Rc.flat {o : Ob} {v : Val} (f : c8 v = true) (r : Rc P h o v) : Rc P' h' o v := by
 cases r with
 | lst r => exact .lst (Rds.flat (by simpa [c8] using f) r)
 | fz r => simp [c8] at f
 | dct r => exact .dct (Rk.flat (by simpa [c8] using f) r)
 | set xs => exact .set xs
end
theorem mO {i : Nat} : ∀ {ts : List Tm} {k : Nat}, ts[k]? = some (.bor i) -> ie i ts = true
 | [], _, q => by simp at q
 |
  t :: ts, 0, q => by
  have : t = .bor i := by simpa using q
  subst this; simp [ie]
 |
  t :: ts, k + 1, q => by
  have := mO (ts := ts) (k := k) (by simpa using q)
  cases t <;> simp [ie, this]
theorem qa {i : Nat} : ∀ {ms : List Bool} {ts : List Tm} {k : Nat}, ms[k]? = some true -> ts[k]? = some (.bor i) -> lY i ms ts = true
 | [], _, _, q, _ => by simp at q
 | _ :: _, [], _, _, q => by simp at q
 |
  b :: ms, t :: ts, 0, q1, q => by
  have : t = .bor i := by simpa using q
  have : b = true := by simpa using q1
  subst_vars; simp [lY]
 |
  b :: ms, t :: ts, k + 1, q1, q => by
  have := qa (ms := ms) (ts := ts) (k := k) (by simpa using q1) (by simpa using q)
  cases b <;> cases t <;> simp [lY, this]
theorem l0 {e : E3} : ∀ {ms : List Bool} {ts : List Tm} {k : Nat}, okA e ms ts = true -> ms[k]? = some true -> ∃ i, ts[k]? = some (.bor i) /\ ∃ u, (e[i]?).bind Sl.mv = some u
 | [], _, _, _, q => by simp at q
 | b :: ms, [], _, o, _ => by cases b <;> simp [okA] at o
 |
  b :: ms, t :: ts, 0, o, q => by
  have : b = true := by simpa using q
  subst this
  cases t with
  |
   bor i =>
   simp only [okA, Bool.and_eq_true] at o
   exact ⟨i, rfl, Option.isSome_iff_exists.mp o.1.1⟩
  | _ => simp [okA] at o
 |
  b :: ms, t :: ts, k + 1, o, q => by
  have o' : okA e ms ts = true := by
   cases b <;> cases t <;> simp only [okA, Bool.and_eq_true] at o <;> first | exact o.2 | exact o | (simp at o; done)
  obtain ⟨i, y⟩ := l0 (k := k) o' (by simpa using q)
  exact ⟨i, by simpa using y⟩
theorem iJ {e : E3} : ∀ {ms : List Bool} {ts : List Tm} {k j i : Nat}, okA e ms ts = true -> ms[k]? = some true -> ts[k]? = some (.bor i) -> ts[j]? = some (.bor i) -> j = k
 | [], _, _, _, _, _, q, _, _ => by simp at q
 | b :: ms, [], _, _, _, o, _, _, _ => by cases b <;> simp [okA] at o
 | b :: ms, t :: ts, 0, 0, i, o, q1, q2, q3 => rfl
 |
  b :: ms, t :: ts, 0, j + 1, i, o, q1, q2, q3 => by
  have h1 : b = true := by simpa using q1
  have h2 : t = .bor i := by simpa using q2
  subst h1 h2
  simp only [okA, Bool.and_eq_true] at o
  have := mO (i := i) (ts := ts) (k := j) (by simpa using q3)
  rw [this] at o
  simp at o
 |
  b :: ms, t :: ts, k + 1, 0, i, o, q1, q2, q3 => by
  have h2 : t = .bor i := by simpa using q3
  subst h2
  have hm := qa (i := i) (ms := ms) (ts := ts) (k := k) (by simpa using q1) (by simpa using q2)
  have hb := mO (i := i) (ts := ts) (k := k) (by simpa using q2)
  cases b <;> simp [okA, hm, hb] at o
 |
  b :: ms, t :: ts, k + 1, j + 1, i, o, q1, q2, q3 => by
  have o' : okA e ms ts = true := by
   cases b <;> cases t <;> simp only [okA, Bool.and_eq_true] at o <;> first | exact o.2 | exact o | (simp at o; done)
  exact congrArg (· + 1) (iJ (k := k) (j := j) (i := i) o' (by simpa using q1) (by simpa using q2) (by simpa using q3))
theorem iN {e : E3} : ∀ {ms : List Bool} {ts : List Tm}, okA e ms ts = true -> ms.length = ts.length
 | [], [], _ => rfl
 | [], _ :: _, o => by simp [okA] at o
 | b :: ms, [], o => by cases b <;> simp [okA] at o
 |
  b :: ms, t :: ts, o => by
  have o' : okA e ms ts = true := by
   cases b <;> cases t <;> simp only [okA, Bool.and_eq_true] at o <;> first | exact o.2 | exact o | (simp at o; done)
  exact congrArg (· + 1) (iN o')
theorem kY {e : E3} : ∀ {ms : List Bool} {ts : List Tm} {k i : Nat}, ms[k]? = some false -> ts[k]? = some (.bor i) -> (∀ v, e[i]? ≠ some (.sh v)) -> i ∈ bg e ms ts
 | [], _, _, _, q, _, _ => by simp at q
 | _ :: _, [], _, _, _, q, _ => by simp at q
 |
  b :: ms, t :: ts, 0, i, q1, q2, hn => by
  have h1 : b = false := by simpa using q1
  have h2 : t = .bor i := by simpa using q2
  subst h1 h2
  unfold bg
  split
  ·rename_i v q; exact absurd q (hn v)
  ·exact List.mem_cons_self ..
 |
  b :: ms, t :: ts, k + 1, i, q1, q2, hn => by
  have ih := kY (ms := ms) (ts := ts) (k := k) (by simpa using q1) (by simpa using q2) hn
  cases b <;> cases t <;> simp only [bg] <;> first | exact ih | (split; exact ih; exact List.mem_cons_of_mem _ ih)
theorem eg {ms : List Bool} {ts : List Tm} {k i : Nat} (q : (bZ ms ts)[k]? = some (some i)) : ms[k]? = some true /\ ts[k]? = some (.bor i) := by
 unfold bZ at q
 rw [List.getElem?_zipWith] at q
 cases h1 : ms[k]? with
 | none => rw [h1] at q; cases q
 |
  some b =>
  cases h2 : ts[k]? with
  | none => rw [h1, h2] at q; cases q
  |
   some t =>
   rw [h1, h2] at q
   have q' : mJ b t = some i := Option.some.inj q
   cases b <;> cases t <;> first | (cases q'; done) | (cases q'; exact ⟨rfl, rfl⟩)
theorem yV {ms : List Bool} {ts : List Tm} {k i : Nat} (q1 : ms[k]? = some true) (q2 : ts[k]? = some (.bor i)) : (bZ ms ts)[k]? = some (some i) := by
 unfold bZ
 rw [List.getElem?_zipWith, q1, q2]; rfl
theorem
    qy {e : E3} : ∀ {ts : List Tm} {vs : List Val} {k : Nat} {v : Val}, rss e ts = some vs -> vs[k]? = some v -> ∃ t, ts[k]? = some t /\ rs e t = some v
 | [], _, _, _, q, q2 => by cases q; simp at q2
 |
  t :: ts, vs, k, v, q, q2 => by
  unfold rss at q
  split at q
  ·rename_i u us e1 e2
   cases q
   cases k with
   | zero =>
        have : u = v := by simpa using q2
        subst this; exact ⟨t, rfl, e1⟩
   |
    succ k =>
    obtain ⟨t', y1, y2⟩ := qy (k := k) e2 (by simpa using q2)
    exact ⟨t', by simpa using y1, y2⟩
  ·cases q
theorem ko {e : E3} : ∀ {ts : List Tm} {vs : List Val}, rss e ts = some vs -> vs.length = ts.length
 | [], _, q => by cases q; rfl
 |
  t :: ts, vs, q => by
  unfold rss at q
  split at q
  ·rename_i u us e1 e2; cases q; exact congrArg (· + 1) (ko e2)
  ·cases q
theorem TsR.get {X : Nat -> Prop} {ns : Ns} {ae : AE} {h : AH} : ∀ {ds : List D} {ts : List Tm} {k : Nat} {t : Tm}, TsR X ns ae h ds ts -> ts[k]? = some t -> ∃ d, ds[k]? = some d /\ ((∃ v, t = .val v /\ Rd (Oc X ns) h d v) \/ ∃ i, t = .bor i /\ ae[i]? = some (some d))
 | _, _, _, _, .nil, q => by simp at q
 | _, _, 0, _, .val r rr, q => by have := (by simpa using q : Tm.val _ = _); subst this; exact ⟨_, rfl, .inl ⟨_, rfl, r⟩⟩
 | _, _, 0, _, .bor r rr, q => by have := (by simpa using q : Tm.bor _ = _); subst this; exact ⟨_, rfl, .inr ⟨_, rfl, r⟩⟩
 | _, _, k + 1, t, .val r rr, q => by obtain ⟨d, y⟩ := rr.get (k := k) (by simpa using q); exact ⟨d, by simpa using y⟩
 | _, _, k + 1, t, .bor r rr, q => by obtain ⟨d, y⟩ := rr.get (k := k) (by simpa using q); exact ⟨d, by simpa using y⟩
noncomputable def Xc (X : Nat -> Prop) (ns : Ns) (e : E3) (ms : List Bool) (ts : List Tm) (n : Nat) : Prop := (X n \/ some n ∈ ns) /\ some n ∉ bX (bZ ms ts) ns /\ ∀ i ∈ bg e ms ts, ns[i]? ≠ some (some n)
theorem
    pJ {X : Nat -> Prop} {h0 : Nat} {ns : Ns} {e : E3} {ae : AE} {h : AH} {ms : List Bool} {ts : List Tm} {ds : List D} {vs : List Val} (S : Sat X h0 ns e ae h) (rt : TsR X ns ae h ds ts) (qv : rss e ts = some vs) (ok : okA e ms ts = true) :
  Sat (Xc X ns e ms ts) h.length (bX (bZ ms ts) ns) (sls ms vs) (ds.map some) h := by
 have l1 := iN ok
 have l2 := ko qv
 have l3 := TsR.len rt
 have hs : lJ (bZ ms ts) := fun j k i q1 q2 => iJ ok (eg q2).1 (eg q2).2 (eg q1).2
 have mv : Mov (Oc X ns) (Oc (Xc X ns e ms ts) (bX (bZ ms ts) ns)) h h := fun n o p q => ⟨⟨fun z => by
  rcases z.1 with z | z
  ·exact p.1 z
  ·exact p.2 z, fun z => p.2 (k8 z)⟩, q⟩
 refine ⟨?_, ?_, Nat.le_refl _, fun n z => ?_, fun j k n q1 q2 => ?_, fun j n q z => z.2.1 (bo.mpr ⟨j, q⟩), fun k s q => ?_⟩
 ·unfold sls; rw [List.length_map, List.length_zipWith]; omega
 ·unfold bX bZ sls; rw [List.length_map, List.length_zipWith, List.length_zipWith]; omega
 ·rcases z.1 with z | z
  ·exact S.xl n z
  ·obtain ⟨i, z⟩ := bo.mp z
   obtain ⟨_, _, _, _, _, _, _, q', _⟩ := S.own z
   exact cV q'
 ·obtain ⟨i, y1, y2⟩ := cm q1
  obtain ⟨i', y3, y4⟩ := cm q2
  have := S.inj i i' n y2 y4
  subst this
  exact hs j k i y1 y3
 ·obtain ⟨b, v,
         q1, q2, rfl⟩ := fj q
  obtain ⟨t, q3, q4⟩ := qy qv q2
  obtain ⟨d, q5, q6⟩ := rt.get q3
  have qd : (ds.map some)[k]? = some (some d) := by rw [List.getElem?_map, q5]; rfl
  rw [qd]
  have qn : (bX (bZ ms ts) ns)[k]? = some ((mJ b t).bind fun i => (ns[i]?).bind id) := by
   unfold bX bZ
   rw [List.getElem?_map, List.getElem?_zipWith, q1, q3]; rfl
  rw [qn]
  cases b with
  |
   true =>
   obtain ⟨i, y1, u, y2⟩ := l0 ok q1
   rw [q3] at y1; cases y1
   have q4' : (e[i]?).bind Sl.val = some v := q4
   obtain ⟨s, z1, z2⟩ := Option.bind_eq_some_iff.mp y2
   rw [z1] at q4'
   have hv : s.val = some v := q4'
   have huv : u = v := by cases s <;> first | cases z2; done | (cases z2; cases hv; rfl)
   subst huv
   have hns : ∃ n, ns[i]? = some (some n) := by
    have y := S.sl i s z1
    cases s with
    | ow v => obtain ⟨n, o, y1, _⟩ := y; exact ⟨n, y1⟩
    | mu v => obtain ⟨n, o, y1, _⟩ := y; exact ⟨n, y1⟩
    | _ => cases z2
   obtain ⟨n, hn⟩ := hns
   obtain ⟨n', o, k1, k2, k3, k4, _⟩ := S.write z1 z2
   rcases q6 with ⟨_, z, _⟩ | ⟨i', z, q6⟩
   ·cases z
   ·cases z
    rw [q6] at k1; cases k1
    obtain ⟨_, _, _, _, _, _, w, _⟩ := S.own hn
    rw [q6] at w; cases w
    exact ⟨n, o, by show some ((ns[i]?).bind id) = _; rw [hn]; rfl, rfl, k2, k3, k4.mono mv⟩
  |
   false =>
   refine ⟨by cases t <;> rfl, d, rfl, ?_⟩
   rcases q6 with ⟨u, rfl, q6⟩ | ⟨i, rfl, q6⟩
   ·cases q4; exact q6.mono mv
   ·have q4' : (
          e[i]?).bind Sl.val = some v := q4
    rcases S.bor q6 q4' with z | ⟨n, o, rfl, z1, z2⟩
    ·exact z.mono mv
    ·refine .cell ⟨fun y => ?_, fun y => ?_⟩ z1 (z2.mono mv)
     ·
      by_cases hsh : ∃ w, e[i]? = some (.sh w)
      ·obtain ⟨w, hsh⟩ := hsh
       obtain ⟨_, x, w1, w2⟩ := S.sl i _ hsh
       rw [q6] at w1; cases w1
       cases w2 with
       | cell p _ _ => rcases y.1 with y | y; exact p.1 y; exact p.2 y
      ·have hl := kY q1 q3 fun w z => hsh ⟨w, z⟩
       cases w : ns[i]? with
       |
        none =>
        have hi : i < e.length := by
         cases z : e[i]? with
         | none => rw [z] at q4'; cases q4'
         | some _ => exact (List.getElem?_eq_some_iff.mp z).1
        rw [List.getElem?_eq_none_iff, S.l2] at w
        omega
       |
        some w' =>
        cases w' with
        |
         none =>
         cases z : e[i]? with
         | none => rw [z] at q4'; cases q4'
         |
          some s =>
          have k := S.sl i s z
          rw [w] at k
          cases s with
          | no => rw [z] at q4'; cases q4'
          | sh w => exact hsh ⟨w, z⟩
          | ow w => obtain ⟨_, _, k, _⟩ := k; cases k
          | lo w => obtain ⟨_, _, k, _⟩ := k; cases k
          | mu w => obtain ⟨_, _, k, _⟩ := k; cases k
          | lm w => obtain ⟨_, _, k, _⟩ := k; cases k
        |
         some n' =>
         obtain ⟨_, _, _, _, _, _, w2, _⟩ := S.own w
         rw [q6] at w2; cases w2
         exact y.2.2 i hl w
     ·obtain ⟨j, y⟩ := bo.mp y
      obtain ⟨i', y1, y2⟩ := cm y
      obtain ⟨y3, y4⟩ := eg y1
      obtain ⟨_, _, _, _, _, _, w2, _⟩ := S.own y2
      have : i'
           = i := by
       cases w : ns[i]? with
       |
        none =>
        have hi : i < e.length := by
         cases z : e[i]? with
         | none => rw [z] at q4'; cases q4'
         | some _ => exact (List.getElem?_eq_some_iff.mp z).1
        rw [List.getElem?_eq_none_iff, S.l2] at w
        omega
       |
        some w' =>
        cases w' with
        |
         some n' =>
         obtain ⟨_, _, _, _, _, _, w3, _⟩ := S.own w
         rw [q6] at w3; cases w3
         exact S.inj i' i n y2 w
        |
         none =>
         cases z : e[i]? with
         | none => rw [z] at q4'; cases q4'
         |
          some s =>
          have k := S.sl i s z
          rw [w, q6] at k
          cases s with
          | no => rw [z] at q4'; cases q4'
          |
           sh w =>
           obtain ⟨_, x, k1, k2⟩ := k
           cases k1
           cases k2 with
           | cell p _ _ => exact (p.2 (bo.mpr ⟨i', y2⟩)).elim
          | ow w => obtain ⟨_, _, k, _⟩ := k; cases k
          | lo w => obtain ⟨_, _, k, _⟩ := k; cases k
          | mu w => obtain ⟨_, _, k, _⟩ := k; cases k
          | lm w => obtain ⟨_, _, k, _⟩ := k; cases k
      subst this
      have := iJ ok y3 y4 q3
      subst this
      rw [q1] at y3; cases y3
end L3
set_option Elab.async false
set_option linter.all false
set_option maxRecDepth 100000
namespace L3
open PySem PySem.Spec PyProof.Rows L2
theorem fb : ∀ {ms : List Bool} {mv : List Val} {j : Nat} {v : Val}, (aX ms mv)[j]? = some (.mu v) -> v ∈ mv
 | [], _, _, _, q => by simp [aX] at q
 | true :: ms, u :: mv, 0, v, q => by
                    have : Sl.mu u = .mu v := by simpa [aX] using q
                    cases this; exact List.mem_cons_self ..
 | true :: ms, u :: mv, j + 1, v, q => List.mem_cons_of_mem _ (fb (ms := ms) (mv := mv) (j := j) (by simpa [aX] using q))
 | true :: ms, [], 0, v, q => by simp [aX] at q
 | true :: ms, [], j + 1, v, q => fb (ms := ms) (mv := []) (j := j) (by simpa [aX] using q)
 | false :: ms, mv, 0, v, q => by simp [aX] at q
 | false :: ms, mv, j + 1, v, q => fb (ms := ms) (mv := mv) (j := j) (by simpa [aX] using q)
theorem kO {e : E3} : ∀ {ms : List Bool} {ts : List Tm} {i : Nat}, i ∈ bg e ms ts -> ∃ k : Nat, ms[k]? = some false /\ ts[k]? = some (.bor i)
 | [], _, _, q => by simp [bg] at q
 | _ :: _, [], _, q => by simp [bg] at q
 |
  b :: ms, t :: ts, i, q => by
  have up : i ∈ bg e ms ts -> ∃ k : Nat, (b :: ms)[k]? = some false /\ (t :: ts)[k]? = some (.bor i) := fun z => by
   obtain ⟨k, y1, y2⟩ := kO z
   exact ⟨k + 1, by simpa using y1, by simpa using y2⟩
  cases b <;> cases t <;> simp only [bg] at q <;> first | exact up q | skip
  split at q
  ·exact up q
  ·rcases List.mem_cons.mp q with rfl | q
   ·exact ⟨0, rfl, rfl⟩
   ·exact up q
theorem x8 {e e1 : E3} {i : Nat} {v : Val} (q : cB e (.bor i) = some (e1, v)) : (∀ j, j ≠ i -> e1[j]? = e[j]?) /\ e1[i]? = some (.sh v) /\ (e[i]?).bind Sl.val = some v := by
 unfold cB at q
 dsimp only at q
 split at q
 ·rename_i u q1; cases q; exact ⟨fun _ _ => rfl, q1, by rw [q1]; rfl⟩
 ·rename_i u q1; cases q; exact ⟨fun j z => bR z, bU (List.getElem?_eq_some_iff.mp q1).1, by rw [q1]; rfl⟩
 ·cases q
theorem
    oE {X : Nat -> Prop} {h0 : Nat} {ae : AE} {h : AH} : ∀ {is : List Nat} {ns : Ns} {e e2 : E3}, Sat X h0 ns e ae h -> (∀ i ∈ is, ∃ d, ae[i]? = some (some d)) -> mn e is = some e2 -> ∃ ns2, Sat X h0 ns2 e2 ae h /\ Stp ns e h ns2 e2 h /\ (∀ i, i ∉ is -> e2[i]? = e[i]?) /\ (∀ i ∈ is, ∃ v, e2[i]? = some (.sh v)) /\ ∀ i : Nat, (e2[i]?).bind Sl.val = (e[i]?).bind Sl.val
 | [], ns, e, e2, S, _, q => by cases q; exact ⟨ns, S, .refl, fun _ _ => rfl, (fun _ z => by cases z), fun _ => rfl⟩
 |
  i :: is, ns, e, e2, S, hd, q => by
  unfold mn at q
  split at q
  ·rename_i e1 v q1
   obtain ⟨d, hd0⟩ := hd i (List.mem_cons_self ..)
   obtain ⟨ns1, S1, a1, r1⟩ := fm (L := 0) (t := .bor i) S hd0 q1
   obtain ⟨ns2, S2, a2, k1, k2, k3⟩ := oE S1 (fun j z => hd j (List.mem_cons_of_mem _ z)) q
   obtain ⟨y1, y2, y3⟩ := x8 q1
   refine ⟨ns2, S2, a1.trans S a2, fun j hj => ?_, fun j hj => ?_, fun j => ?_⟩
   ·rw [List.mem_cons, not_or] at hj
    rw [k1 j hj.2, y1 j hj.1]
   ·by_cases z : j ∈ is
    ·exact k2 j z
    ·rcases List.mem_cons.mp hj with rfl | hj
     ·exact ⟨v, by rw [k1 j z]; exact y2⟩
     ·exact absurd hj z
   ·rw [k3 j]
    by_cases z : j = i
    ·subst z; rw [y2, y3]; rfl
    ·rw [y1 j z]
  ·cases q
theorem
    mZ {e e2 : E3} : ∀ {ms : List Bool} {ts : List Tm}, (∀ (k i : Nat), ms[k]? = some true -> ts[k]? = some (.bor i) -> e2[i]? = e[i]?) -> okA e ms ts = true -> okA e2 ms ts = true
 | [], [], _, o => rfl
 | [], _ :: _, _, o => by simp [okA] at o
 | b :: ms, [], _, o => by cases b <;> simp [okA] at o
 |
  b :: ms, t :: ts, hk, o => by
  have o' : okA e ms ts = true := by
   cases b <;> cases t <;> simp only [okA, Bool.and_eq_true] at o <;> first | exact o.2 | exact o | (simp at o; done)
  have ih := mZ (fun k i q1 q2 => hk (k + 1) i (by simpa using q1) (by simpa using q2)) o'
  cases b with
  | false => cases t <;> simp only [okA, Bool.and_eq_true] at o ⊢ <;> first | exact ⟨o.1, ih⟩ | exact ih
  |
   true =>
   cases t with
   |
    bor i =>
    simp only [okA, Bool.and_eq_true] at o ⊢
    rw [hk 0 i rfl rfl]
    exact ⟨o.1, ih⟩
   | _ => simp [okA] at o
theorem nM {e : E3} : ∀ {ms : List Bool} {ts : List Tm}, (∀ (k i : Nat), ms[k]? = some false -> ts[k]? = some (.bor i) -> ∃ v, e[i]? = some (.sh v)) -> bg e ms ts = []
 | [], _, _ => by simp [bg]
 | _ :: _, [], _ => by simp [bg]
 |
  b :: ms, t :: ts, hk => by
  have ih := nM (fun k i q1 q2 => hk (k + 1) i (by simpa using q1) (by simpa using q2))
  cases b <;> cases t <;> simp only [bg] <;> first | exact ih | skip
  rename_i i
  obtain ⟨v, q⟩ := hk 0 i rfl rfl
  rw [q]; exact ih
theorem mV {e e2 : E3} (hv : ∀ i : Nat, (e2[i]?).bind Sl.val = (e[i]?).bind Sl.val) : ∀ (ts : List Tm), rss e2 ts = rss e ts
 | [] => rfl
 |
  t :: ts => by
  unfold rss
  rw [mV hv ts]
  have : rs e2 t = rs e t := by
   cases t with
   | bor i => exact hv i
   | _ => rfl
  rw [this]
theorem pf {e : E3} {ms : List Bool} {ts : List Tm} {vs : List Val} (ok : okA e ms ts = true) : Lnk (bZ ms ts) e (sls ms vs) := by
 refine ⟨fun j k i q1 q2 => iJ ok (eg q2).1 (eg q2).2 (eg q1).2, fun j v q => ?_, fun j s q hm => ?_⟩
 ·obtain ⟨b, u, q1, _, q2⟩ := fj q
  cases b with
  | false => cases q2
  |
   true =>
   obtain ⟨i, y1, w, y2⟩ := l0 ok q1
   obtain ⟨s, z1, z2⟩ := Option.bind_eq_some_iff.mp y2
   exact ⟨i, s, yV q1 y1, z1, by cases s <;> first | rfl | cases z2⟩
 ·obtain ⟨b, u, q1, _, q2⟩ := fj q
  cases b with
  | false => subst q2; cases hm
  | true => exact ⟨u, q2⟩
section
variable {X : Nat -> Prop} {h0 L : Nat} {ns : Ns} {e : E3} {ae : AE} {h : AH} {ms : List Bool} {ts : List Tm} {ds : List D} {vs : List Val} {S2 : Fn} {G3 : Fn3}
theorem kv (Y : Nat -> Prop) (hY : ∀ n, Y n -> X n \/ Y n) {n : Nat} (hl : bg e ms ts = []) (z : ¬ Xc X ns e ms ts n) (z2 : some n ∉ bX (bZ ms ts) ns) : Oc X ns n := by
 refine ⟨fun y => z ⟨.inl y, z2, fun i hi => by rw [hl] at hi; cases hi⟩, fun y => z ⟨.inr y, z2, fun i hi => by rw [hl] at hi; cases hi⟩⟩
theorem
    qF {r : Rt} {mv : List Val} (S : Sat X h0 ns e ae h) (hL : L <= h.length) (rt : TsR X ns ae h ds ts) (qv : rss e ts = some vs) (ok : okA e ms ts = true) (hG : RF ms S2 G3) (q : G3 vs = .ok r mv) (hf : bg e ms ts = [] \/ (kx r = true /\ mv.all c8 = true)) :
  Po X h0 ns e ae h (relE X h0 L ae) (S2 ds h) (.ok r.tm (bB (bZ ms ts) (aX ms mv) e)) := by
 have p := hG _ _ ds vs h (by rw [ko qv, iN ok]) (pJ S rt qv ok)
 rw [q] at p
 obtain ⟨d, h', p1, a, rr⟩ := p
 have K := pf (vs := vs) ok
 have xcl : ∀ n, X n -> n < h.length := S.xl
 cases r with
 |
  val v =>
  obtain ⟨S3, rv⟩ := rr
  obtain ⟨S4, a4⟩ := S.back (Y := X) K a (fun n z => ⟨Nat.lt_of_lt_of_le (xcl n z) a.len, .inl z⟩) (fun _ z => z) fun j w n q1 q2 => by
   obtain ⟨s, u, o, b1, b2, b3, b4, b5, b6, b7⟩ := S3.own q2
   rw [q1] at b1; cases b1; cases b3
   rcases hf with hf | hf
   ·exact ⟨o, b5, b6, b7.mono fun m o' z y => ⟨kv X (fun _ z => .inl z) hf z.1 z.2, y⟩⟩
   ·exact ⟨o, b5, b6, b7.flat (List.all_eq_true.mp hf.2 w (fb q1))⟩
  refine ⟨d, h', ns, p1, a4, S4, ?_⟩
  rcases hf with hf | hf
  ·exact rv.mono fun m o' z y => ⟨kv X (fun _ z => .inl z) hf z.1 z.2, y⟩
  ·exact rv.flat hf.1
 |
  new v =>
  obtain ⟨n, o, z1, z2, z3, z4, z5, S3, z7⟩ := rr
  have hnx : ¬ X n := fun y => by have := xcl n y; omega
  have kk : ∀ m, Oc (Xn (Xc X ns e ms ts) n) (bX (bZ ms ts) ns) m -> bg e ms ts = [] -> Oc (Xn X n) ns m := fun m z hf => by
   have := kv X (fun _ z => .inl z) hf (fun y => z.1 (.inl y)) z.2
   exact ⟨fun y => by
    rcases y with y | y
    ·exact this.1 y
    ·exact z.1 (.inr y), this.2⟩
  obtain ⟨S4, a4⟩ := S.back (Y := Xn X n) K a (fun m z => by
    rcases z with z | rfl
    ·exact ⟨Nat.lt_of_lt_of_le (xcl m z) a.len, .inl z⟩
    ·exact ⟨cV z4, .inr z2⟩) (fun _ z => .inl z) fun j w n' q1 q2 => by
   obtain ⟨s, u, o, b1, b2, b3, b4, b5, b6, b7⟩ := S3.own q2
   rw [q1] at b1; cases b1; cases b3
   rcases hf with hf | hf
   ·exact ⟨o, b5, b6, b7.mono fun m o' z y => ⟨kk m z hf, y⟩⟩
   ·exact ⟨o, b5, b6, b7.flat (List.all_eq_true.mp hf.2 w (fb q1))⟩
  refine ⟨d, h', ns, p1, a4, S4.weak fun _ z => .inl z, n, o, z1, Nat.le_trans hL z2, hnx, z4, z5, S4, ?_⟩
  rcases hf with hf | hf
  ·exact z7.mono fun m o' z y => ⟨kk m z hf, y⟩
  ·exact z7.flat hf.1
theorem wN {c : Str} {mv : List Val} (S : Sat X h0 ns e ae h) (rt : TsR X ns ae h ds ts) (qv : rss e ts = some vs) (ok : okA e ms ts = true) (hG : RF ms S2 G3) (q : G3 vs = .exc c mv) (hf : bg e ms ts = [] \/ mv.all c8 = true) :
  Po X h0 ns e ae h (relE X h0 L ae) (S2 ds h) (.exc c (bB (bZ ms ts) (aX ms mv) e)) := by
 have p := hG _ _ ds vs h (by rw [ko qv, iN ok]) (pJ S rt qv ok)
 rw [q] at p
 obtain ⟨h', p1, a, S3⟩ := p
 have K := pf (vs := vs) ok
 obtain ⟨S4, a4⟩ := S.back (Y := X) K a (fun n z => ⟨Nat.lt_of_lt_of_le (S.xl n z) a.len, .inl z⟩) (fun _ z => z) fun j w n q1 q2 => by
  obtain ⟨s, u, o, b1, b2, b3, b4, b5, b6, b7⟩ := S3.own q2
  rw [q1] at b1; cases b1; cases b3
  rcases hf with hf | hf
  ·exact ⟨o, b5, b6, b7.mono fun m o' z y => ⟨kv X (fun _ z => .inl z) hf z.1 z.2, y⟩⟩
  ·exact ⟨o, b5, b6, b7.flat (List.all_eq_true.mp hf w (fb q1))⟩
 exact ⟨h', ns, p1, a4, S4⟩
theorem
    xE {A : MA} {A3 : MA3} {n : Nat} (hn : n = ms.length) (hG : RF ms S2 G3) (hA : RA A A3) : RE (rG n S2 A) (w6 ms G3 A3) := fun X h0 L ns e ae h S hl =>
 Po.bind
     S (hA X h0 ns e ae h S) fun ds ts h1 ns1 e1 a1 S1 r1 => by
  try dsimp only
  cases qv : rss e1 ts with
  | none => trivial
  |
   some vs =>
   dsimp only
   by_cases ok : okA e1 ms ts = true
   ·rw [if_pos ok]
    have hlen : ds.length = n := by rw [hn, iN ok]; exact TsR.len r1
    rw [if_pos hlen]
    have hL : L <= h1.length := Nat.le_trans hl a1.len
    cases q : G3 vs with
    | stuck => trivial
    |
     exc c mv =>
     dsimp only
     by_cases hf : ((bg e1 ms ts).isEmpty || mv.all c8) = true
     ·rw [if_pos hf]
      refine wN S1 r1 qv ok hG q ?_
      rw [Bool.or_eq_true] at hf
      rcases hf with hf | hf
      ·exact .inl (List.isEmpty_iff.mp hf)
      ·exact .inr hf
     ·rw [if_neg hf]; trivial
    |
     ok r mv =>
     dsimp only
     by_cases hf : ((bg e1 ms ts).isEmpty || (kx r && mv.all c8)) = true
     ·rw [if_pos hf]
      refine qF S1 hL r1 qv ok hG q ?_
      rw [Bool.or_eq_true, Bool.and_eq_true] at hf
      rcases hf with hf | hf
      ·exact .inl (List.isEmpty_iff.mp hf)
      ·exact .inr hf
     ·rw [if_neg hf]
      cases qd : mn e1 (bg e1 ms ts) with
      | none => trivial
      |
       some e2 =>
       dsimp only
       obtain ⟨ns2, S2', a2, k1, k2, k3⟩ := oE S1 (fun i hi => by
        obtain ⟨k, _, y⟩ := kO hi
        obtain ⟨d, _, z⟩ := r1.get y
        rcases z with ⟨_, z, _⟩ | ⟨j, z, z2⟩
        ·cases z
        ·cases z; exact ⟨d, z2⟩) qd
       have ok2 : okA e2 ms ts = true := mZ (fun k i q1 q2 => k1 i fun z => by
        obtain ⟨k', y1, y2⟩ := kO z
        have := iJ ok q1 q2 y2
        subst this
        rw [q1] at y1; cases y1) ok
       have ln : bg e2 ms ts = [] := nM fun k i q1 q2 => by
        by_cases z : i ∈ bg e1 ms ts
        ·exact k2 i z
        ·rw [k1 i z]
         exact Classical.byContradiction fun w => z (kY q1 q2 fun v y => w ⟨v, y⟩)
       have pp := qF (L := L) S2' hL (r1.stp S1 a2) (by rw [mV k3]; exact qv) ok2 hG q (.inl ln)
       obtain ⟨d, h', ns', y, y1, y2, y3⟩ := pp
       exact ⟨d, h', ns', y, a2.trans S1 y1, y2, y3⟩
   ·rw [if_neg ok]; trivial
end
noncomputable def RMv (m2 : D -> List D -> AH -> R D) (m3 : Val -> List Val -> Bv) : Prop := ∀ P h d v ds vs, ShR P h d v -> dF v = true -> ShRs P h ds vs -> BvR P h (m2 d ds h) (m3 v vs)
noncomputable def xo (m : Val -> List Val -> Bv) (F : ME3) (A : MA3) : ME3 := fun e => (F e).bind fun t e1 => if (rs e1 t).map dF = some true then (A e1).bind fun ts e2 => (match rs e2 t.drop, rss e2 ts with
 | some v, some vs => if dF v = true then (m v vs).at e2 else .stuck
 | _, _ => .stuck) else .stuck
theorem vg {P : Nat -> Prop} {h : AH} {d : D} {v : Val} (r : ShR P h d v) (q : dF v = true) : lg h d = true := by
 cases v with
 | lst xs => obtain ⟨n, ds, rfl, _, e1, _⟩ := r.lst; show (bq h n).isSome = true; rw [e1]; rfl
 | _ => cases q
theorem
    zd {m2 : D -> List D -> AH -> R D} {m3 : Val -> List Val -> Bv} {F : ME} {F3 : ME3} {A : MA} {A3 : MA3} (hm : RMv m2 m3) (hF : RE F F3) (hA : RA A A3) : RE (eM m2 F A) (xo m3 F3 A3) := fun X h0 L ns e ae h S hl =>
 Po.bind
     S (hF X h0 L ns e ae h S hl) fun d t h1 ns1 e1 a1 S1 r1 => by
  try dsimp only
  split
  ·by_cases hq : (rs e1 t).map dF = some true
   ·rw [if_pos hq]
    refine Po.bind S1 (hA X h0 ns1 e1 ae h1 S1) fun ds ts h2 ns2 e2 a2 S2 r2 => ?_
    try dsimp only
    split
    ·rename_i v vs q1 q2
     obtain ⟨r1', hn⟩ := r1.drop
     by_cases hv : dF v = true
     ·rw [if_pos hv]
      exact BvR.po S2 (Nat.le_trans hl (Nat.le_trans a1.len a2.len)) (hm _ _ _ _ _ _ ((r1'.stp S1 a2 hn).sh S2 q1) hv (TsR.sh S2 r2 q2))
     ·rw [if_neg hv]; trivial
    ·trivial
   ·rw [if_neg hq]; trivial
  ·rename_i hL
   by_cases hq : (rs e1 t).map dF = some true
   ·obtain ⟨v, z1, z2⟩ := Option.map_eq_some_iff.mp hq
    exact absurd (vg (r1.sh S1 z1) z2) hL
   ·rw [if_neg hq]; trivial
end L3
set_option Elab.async false
set_option linter.all false
set_option maxRecDepth 100000
namespace L3
open PySem PySem.Spec PyProof.Rows L2
noncomputable def aI (f : Int -> Int -> Val) : Val -> Val -> Bv := fun x y => match x, y with
 | .int i, .int j => .val (f i j)
 | _, _ => .stuck
open Classical in
noncomputable def aIc (C : Int -> Int -> Prop) (f : Int -> Int -> Val) : Val -> Val -> Bv := fun x y => match x, y with
 | .int i, .int j => if C i j then .val (f i j) else .stuck
 | _, _ => .stuck
noncomputable def rA : Val -> Val -> Bv := fun x y => match x, y with
 | .lst xs, .lst ys => if xs.length + ys.length <= 16777216 then .new (.lst (xs ++ ys)) else .stuck
 | .tup xs, .tup ys => if xs.length + ys.length <= 16777216 then .val (.tup (xs ++ ys)) else .stuck
 | _, _ => .stuck
noncomputable def vz : Val -> Val -> Bv := fun x y => match x, y with
 | .int i, .int j => .val (.int (i + j))
 | x, y => rA x y
noncomputable def aMin := aI fun i j => .int (i - j)
noncomputable def sx := aIc CMulA fun i j => .int (i * j)
noncomputable def rF := aIc CDivB fun i j => .int (i.fdiv j)
noncomputable def rp := aIc (fun _ j => j ≠ 0) fun i j => .int (i.fmod j)
noncomputable def sJ := aIc lU fun i j => .int (i ^ j.toNat)
noncomputable def aLt := aI fun i j => .bl (decide (i < j))
noncomputable def aGt := aI fun i j => .bl (decide (j < i))
noncomputable def aGe := aI fun i j => .bl (decide (j <= i))
noncomputable def v8 : Val -> Bv := fun x => match x with
 | .int i => .val (.int (-i))
 | _ => .stuck
noncomputable def aIx : Val -> Val -> Bv := fun x y => match x.items, y with
 | some xs, .int i => (match atI xs i with
  | some v => .val v
  | none => .stuck)
 | _, _ => .stuck
section
theorem sD {f2 : Int -> Int -> D} {f3 : Int -> Int -> Val} (hr : ∀ i j P h, Rd P h (f2 i j) (f3 i j)) : RO (gI f2) (aI f3) := fun P h d1 d2 v1 v2 r1 r2 => by
 unfold aI
 split
 ·obtain rfl := r1.int; obtain rfl := r2.int; exact ⟨_, rfl, hr _ _ P h⟩
 ·trivial
theorem nA {C : Int -> Int -> Prop} {f2 : Int -> Int -> D} {f3 : Int -> Int -> Val} (hr : ∀ i j P h, Rd P h (f2 i j) (f3 i j)) : RO (gIc C f2) (aIc C f3) := fun P h d1 d2 v1 v2 r1 r2 => by
 unfold aIc
 split
 ·obtain rfl := r1.int; obtain rfl := r2.int
  split
  ·rename_i hc; exact ⟨_, by unfold gIc; dsimp only; rw [if_pos hc], hr _ _ P h⟩
  ·trivial
 ·trivial
theorem CA : RO kS rA := fun P h d1 d2 v1 v2 r1 r2 => by
 unfold rA
 split
 ·obtain ⟨n, ds, rfl, e1, _, q1⟩ := r1.lst
  obtain ⟨m, es, rfl, e2, _, q2⟩ := r2.lst
  split
  ·rename_i hl
   exact ⟨.lst (ds ++ es), by unfold kS; dsimp only; rw [e1, e2]; dsimp only; rw [if_pos (by rw [q1.len, q2.len]; exact hl)], trivial, .lst (q1.append q2)⟩
  ·trivial
 ·obtain ⟨ds, rfl, q1⟩ := r1.tup
  obtain ⟨es, rfl, q2⟩ := r2.tup
  split
  ·rename_i hl
   exact ⟨_, by unfold kS; dsimp only; rw [if_pos (by rw [q1.len, q2.len]; exact hl)], .tup (q1.append q2)⟩
  ·trivial
 ·trivial
theorem BS : RO sG vz := fun P h d1 d2 v1 v2 r1 r2 => by
 unfold vz
 split
 ·obtain rfl := r1.int; obtain rfl := r2.int; exact ⟨_, rfl, .int _⟩
 ·rename_i hn
  have k := CA P h d1 d2 v1 v2 r1 r2
  have e : sG d1 d2 h = kS d1 d2 h \/ rA v1 v2 = .stuck := by
   cases v1 <;> first | (right; rfl) | (left; skip)
   ·obtain ⟨ds, rfl, _⟩ := r1.tup; rfl
   ·obtain ⟨n, ds, rfl, _⟩ := r1.lst; rfl
  rcases e with e | e
  ·rw [e]; exact k
  ·rw [e]; trivial
theorem Bs : RO vm aMin := sD fun _ _ _ _ => .int _
theorem zZ : RO vk sx := nA fun _ _ _ _ => .int _
theorem Aw : RO vH rF := nA fun _ _ _ _ => .int _
theorem Av : RO wb rp := nA fun _ _ _ _ => .int _
theorem Bt : RO vR sJ := nA fun _ _ _ _ => .int _
theorem DL : RO gLt aLt := sD fun _ _ _ _ => .bl _
theorem Dc : RO gGt aGt := sD fun _ _ _ _ => .bl _
theorem DB : RO gGe aGe := sD fun _ _ _ _ => .bl _
theorem BV : RU rC v8 := fun P h d v r => by
 unfold v8
 split
 ·obtain rfl := r.int; exact ⟨_, rfl, .int _⟩
 ·trivial
theorem Dw {P : Nat -> Prop} {h : AH} {ds : List D} {vs : List Val} (r : Rds P h ds vs) {i : Int} {v : Val} (e : atI vs i = some v) : ∃ d, atI ds i = some d /\ Rd P h d v := by
 unfold atI at e ⊢
 rw [r.len]
 cases q : ixN vs.length i with
 | none => rw [q] at e; cases e
 | some j => rw [q] at e; exact r.get e
theorem C4 : RO gIx aIx := fun P h d1 d2 v1 v2 r1 r2 => by
 unfold aIx
 split
 ·rename_i xs i e1
  obtain ⟨ds, e2, q⟩ := r1.items e1
  obtain rfl := r2.int
  split
  ·rename_i v e3
   obtain ⟨d, e4, q2⟩ := Dw q e3
   exact ⟨d, by unfold gIx; rw [e2]; dsimp only; rw [e4], q2⟩
  ·trivial
 ·trivial
end
mutual
noncomputable def cF : Nat -> Val -> Option PyData
 | 0, _ => none
 | _ + 1, .non => some .none
 | _ + 1, .bl b => some (.bool b)
 | _ + 1, .int i => some (.int i)
 | _ + 1, .str x => some (.str x)
 | k + 1, .tup xs => (dX k xs).map .tuple
 | k + 1, .lst xs => (dX k xs).map .list
 | _ + 1, _ => none
noncomputable def dX : Nat -> List Val -> Option (List PyData)
 | _, [] => some []
 | k, x :: xs => match cF k x, dX k xs with
  | some a, some b => some (a :: b)
  | _, _ => none
end
theorem
    wA {P : Nat -> Prop} {h : AH} {k : Nat} (hk : ∀ d v pd, Rd P h d v -> cF k v = some pd -> cx k h d = some pd) : ∀ {ds : List D} {vs : List Val} {ps : List PyData}, Rds P h ds vs -> dX k vs = some ps -> ds.mapM (cx k h) = some ps := by
 intro ds
 induction ds with
 |
  nil =>
  intro vs ps r q
  cases r
  unfold dX at q
  cases q
  rfl
 |
  cons d0 ds ih =>
  intro vs ps r q
  cases r with
  |
   cons r rr =>
   unfold dX at q
   split at q
   ·rename_i a b e1 e2
    cases q
    rw [List.mapM_cons, hk _ _ _ r e1, ih rr e2]; rfl
   ·cases q
theorem kj {P : Nat -> Prop} {h : AH} : ∀ (k : Nat) (d : D) (v : Val) (pd : PyData), ShR P h d v -> cF k v = some pd -> cx k h d = some pd
 | 0, _, _, _, _, q => by unfold cF at q; cases q
 |
  k + 1, d, v, pd, r, q => by
  have ih : ∀ {ds : List D} {vs : List Val} {ps : List PyData}, Rds P h ds vs -> dX k vs = some ps -> ds.mapM (cx k h) = some ps := wA fun d v pd r q => kj k d v pd (.inl r) q
  cases v with
  | non => obtain rfl := r.non; simp only [cF] at q; cases q; rfl
  | bl b => obtain rfl := r.bl; simp only [cF] at q; cases q; rfl
  | int b => obtain rfl := r.int; simp only [cF] at q; cases q; rfl
  | str b => obtain rfl := r.str; simp only [cF] at q; cases q; rfl
  |
   tup xs =>
   obtain ⟨ds, rfl, r2⟩ := r.tup
   simp only [cF] at q
   obtain ⟨ps, q1, rfl⟩ := Option.map_eq_some_iff.mp q
   show (ds.mapM (cx k h)).map PyData.tuple = _
   rw [ih r2 q1]; rfl
  |
   lst xs =>
   obtain ⟨n, ds, rfl, _, e1, r2⟩ := r.lst
   simp only [cF] at q
   obtain ⟨ps, q1, rfl⟩ := Option.map_eq_some_iff.mp q
   unfold cx
   rw [e1]
   show (ds.mapM (cx k h)).map PyData.list = _
   rw [ih r2 q1]; rfl
  | _ => simp only [cF] at q; cases q
noncomputable def eY (x y : Val) : Option Bool := match cF 64 x, cF 64 y with
 | some a, some b => if SeqAt.shaped a = true /\ SeqAt.shaped b = true then some (PyData.eqv a b) else none
 | _, _ => none
noncomputable def aEq (neg : Bool) : Val -> Val -> Bv := fun x y => match eY x y with
 | some b => .val (.bl (if neg then !b else b))
 | none => .stuck
theorem uw {P : Nat -> Prop} {h : AH} {d1 d2 : D} {v1 v2 : Val} {b : Bool} (r1 : ShR P h d1 v1) (r2 : ShR P h d2 v2) (q : eY v1 v2 = some b) : jH h d1 d2 = some b := by
 unfold eY at q
 split at q
 ·rename_i a c e1 e2
  unfold jH
  rw [kj 64 _ _ _ r1 e1, kj 64 _ _ _ r2 e2]
  exact q
 ·cases q
theorem xC (neg : Bool) : RO (gEq neg) (aEq neg) := fun P h d1 d2 v1 v2 r1 r2 => by
 unfold aEq
 split
 ·rename_i b q
  exact ⟨_, by unfold gEq; rw [uw r1 r2 q], .bl _⟩
 ·trivial
noncomputable def wM (neg : Bool) : Val -> Val -> Bv := fun x y => match x, y with
 | .non, .non => .val (.bl (!neg))
 | _, .non => .val (.bl neg)
 | _, _ => .stuck
theorem Cs (neg : Bool) : RO (oK neg) (wM neg) := fun P h d1 d2 v1 v2 r1 r2 => by
 unfold wM
 split
 ·obtain rfl := r1.non; obtain rfl := r2.non; exact ⟨_, rfl, .bl _⟩
 ·rename_i hn
  obtain rfl := r2.non
  have : d1 ≠ .non := by
   rintro rfl
   rcases r1 with r | ⟨n, o, z, _⟩
   ·cases r; exact hn rfl
   ·cases z
  refine ⟨_, ?_, .bl neg⟩
  unfold oK
  split
  ·exact absurd rfl this
  ·rfl
  ·rename_i h1 h2; exact (h1 rfl).elim
 ·trivial
noncomputable def wC : List Val -> Bv := fun vs => match vs with
 | [v] => (match v.items with
  | some xs => .val (.int xs.length)
  | none => (match v with
   | .str z => if z.length <= 16777216 then .val (.int z.length) else .stuck
   | _ => .stuck))
 | _ => .stuck
noncomputable def wH : List Val -> Bv := fun vs => match vs with
 | [.int i] => .val (.int (if i < 0 then -i else i))
 | _ => .stuck
noncomputable def rh : List Val -> Bv := fun vs => match vs with
 | [.int i, .int j] => .val (.int (if j > i then j else i))
 | _ => .stuck
noncomputable def su : List Val -> Bv := fun vs => match vs with
 | [.int i, .int j] => .val (.int (if j < i then j else i))
 | _ => .stuck
noncomputable def j0 : List Val -> Option (List Bool)
 | [] => some []
 | .bl b :: r => (j0 r).map (b :: ·)
 | _ => none
noncomputable def jq : List Val -> Option (List Int)
 | [] => some []
 | .int b :: r => (jq r).map (b :: ·)
 | _ => none
noncomputable def wI : List Val -> Bv := fun vs => match vs with
 | [.lst xs] => (match j0 xs with
  | some bs => .val (.bl (bs.all id))
  | none => .stuck)
 | _ => .stuck
noncomputable def vG : List Val -> Bv := fun vs => match vs with
 | [.lst xs] => (match jq xs with
  | some bs => .val (.int bs.sum)
  | none => .stuck)
 | _ => .stuck
noncomputable def sO : List Val -> Bv := fun vs => match vs with
 | [v] => (match v.items with
  | some xs => .new (.lst xs)
  | none => .stuck)
 | _ => .stuck
noncomputable def oP : List Val -> Bv := fun vs => match vs with
 | [v] => (match v.items with
  | some xs => .val (.tup xs)
  | none => .stuck)
 | _ => .stuck
noncomputable def uH : List Val -> Bv := fun vs => match vs with
 | [.int i] => .val (.int i)
 | [.bl b] => .val (.int (if b then 1 else 0))
 | _ => .stuck
theorem
    BM : RFn pA wC := fun P h ds vs r => by
 unfold wC
 split
 ·obtain ⟨d, hd, rr1⟩ := eJ r; subst hd; clear r; have r := rr1
  split
  ·rename_i xs e
   obtain ⟨es, e2, q⟩ := r.items e
   exact ⟨_, by unfold pA; dsimp only; rw [e2], by rw [<- q.len]; exact .int _⟩
  ·split
   ·rename_i z _
    obtain rfl := r.str
    split
    ·rename_i hl; exact ⟨_, by show (if z.length <= 16777216 then _ else _) = _; rw [if_pos hl], .int _⟩
    ·trivial
   ·trivial
 ·trivial
theorem AJ : RFn sy wH := fun P h ds vs r => by
 unfold wH
 split
 ·obtain ⟨d, hd, rr1⟩ := eJ r; subst hd; clear r; have r := rr1; obtain rfl := r.int; exact ⟨_, rfl, .int _⟩
 ·trivial
theorem ym : RFn nC rh := fun P h ds vs r => by
 unfold rh
 split
 ·obtain ⟨d, d', hd, rr1, r'⟩ := rz r; subst hd; clear r; have r := rr1; obtain rfl := r.int; obtain rfl := r'.int; exact ⟨_, rfl, .int _⟩
 ·trivial
theorem yn : RFn nB su := fun P h ds vs r => by
 unfold su
 split
 ·obtain ⟨d, d', hd, rr1, r'⟩ := rz r; subst hd; clear r; have r := rr1; obtain rfl := r.int; obtain rfl := r'.int; exact ⟨_, rfl, .int _⟩
 ·trivial
theorem
    DQ {P : Nat -> Prop} {h : AH} : ∀ {ds : List D} {vs : List Val} {bs : List Bool}, Rds P h ds vs -> j0 vs = some bs -> g0 ds = some bs := by
 intro ds
 induction ds with
 |
  nil =>
  intro vs bs r q
  cases r
  cases q
  rfl
 |
  cons d0 ds ih =>
  intro vs bs r q
  cases r with
  |
   cons r rr =>
   rename_i v vs
   cases v with
   |
    bl b =>
    obtain rfl := ShR.bl (.inl r)
    obtain ⟨b', q1, rfl⟩ := Option.map_eq_some_iff.mp (show (j0 vs).map (b :: ·) = some bs from q)
    show (g0 _).map (b :: ·) = _
    rw [ih rr q1]; rfl
   | _ => cases q
theorem
    BN {P : Nat -> Prop} {h : AH} : ∀ {ds : List D} {vs : List Val} {bs : List Int}, Rds P h ds vs -> jq vs = some bs -> fJ ds = some bs := by
 intro ds
 induction ds with
 |
  nil =>
  intro vs bs r q
  cases r
  cases q
  rfl
 |
  cons d0 ds ih =>
  intro vs bs r q
  cases r with
  |
   cons r rr =>
   rename_i v vs
   cases v with
   |
    int b =>
    obtain rfl := ShR.int (.inl r)
    obtain ⟨b', q1, rfl⟩ := Option.map_eq_some_iff.mp (show (jq vs).map (b :: ·) = some bs from q)
    show (fJ _).map (b :: ·) = _
    rw [ih rr q1]; rfl
   | _ => cases q
theorem AS : RFn pq wI := fun P h ds vs r => by
 unfold wI
 split
 ·obtain ⟨d, hd, rr1⟩ := eJ r; subst hd; clear r; have r := rr1
  obtain ⟨n, es, rfl, _, e1, q⟩ := r.lst
  split
  ·rename_i bs e2
   exact ⟨_, by unfold pq; dsimp only; rw [e1]; show (match g0 es with | some bs => _ | none => _) = _; rw [DQ q e2], .bl _⟩
  ·trivial
 ·trivial
theorem Cc : RFn pj vG := fun P h ds vs r => by
 unfold vG
 split
 ·obtain ⟨d, hd, rr1⟩ := eJ r; subst hd; clear r; have r := rr1
  obtain ⟨n, es, rfl, _, e1, q⟩ := r.lst
  split
  ·rename_i bs e2
   exact ⟨_, by unfold pj; dsimp only; rw [e1]; show (match fJ es with | some bs => _ | none => _) = _; rw [BN q e2], .int _⟩
  ·trivial
 ·trivial
theorem xW : RFn lb sO := fun P h ds vs r => by
 unfold sO
 split
 ·obtain ⟨d, hd, rr1⟩ := eJ r; subst hd; clear r; have r := rr1
  split
  ·rename_i xs e
   obtain ⟨es, e2, q⟩ := r.items e
   exact ⟨.lst es, by unfold lb; dsimp only; rw [e2], trivial, .lst q⟩
  ·trivial
 ·trivial
theorem wB : RFn j3 oP := fun P h ds vs r => by
 unfold oP
 split
 ·obtain ⟨d, hd, rr1⟩ := eJ r; subst hd; clear r; have r := rr1
  split
  ·rename_i xs e
   obtain ⟨es, e2, q⟩ := r.items e
   exact ⟨_, by unfold j3; dsimp only; rw [e2], .tup q⟩
  ·trivial
 ·trivial
theorem Af : RFn sA uH := fun P h ds vs r => by
 unfold uH
 split
 ·obtain ⟨d, hd, rr1⟩ := eJ r; subst hd; clear r; have r := rr1; obtain rfl := r.int; exact ⟨_, rfl, .int _⟩
 ·obtain ⟨d, hd, rr1⟩ := eJ r; subst hd; clear r; have r := rr1; obtain rfl := r.bl; exact ⟨_, rfl, .int _⟩
 ·trivial
noncomputable def tyC : Val -> Option Cl
 | .non => some (.b "NoneType")
 | .bl _ => some (.b "bool")
 | .int _ => some (.b "int")
 | .str _ => some (.b "str")
 | .tup _ => some (.b "tuple")
 | .exc x => some (.o x)
 | .lst _ => some (.b "list")
 | .dct _ => some (.b "dict")
 | _ => none
noncomputable def clV : Val -> Option Cl
 | .ty n => some (.b n)
 | .glb x => some (.o x)
 | _ => none
noncomputable def rT : List Val -> Option (List Cl)
 | [] => some []
 | v :: vs => match clV v, rT vs with
  | some c, some cs => some (c :: cs)
  | _, _ => none
noncomputable def Ei : Val -> Option (List Cl)
 | .tup cs => rT cs
 | v => (clV v).map ([·])
noncomputable def uY (kt : eI) : List Val -> Bv := fun vs => match vs with
 | [v, c] => (match tyC v, Ei c with
  | some t, some (c0 :: cr) => (match fc kt t (c0 :: cr), kit kt t c0 with
   | some b, some _ => .val (.bl b)
   | _, _ => .stuck)
  | _, _ => .stuck)
 | _ => .stuck
theorem E4 {P : Nat -> Prop} {h : AH} {d : D} {v : Val} {t : Cl} (r : ShR P h d v) (q : tyC v = some t) : tyD h d = some t := by
 cases v with
 | non => obtain rfl := r.non; exact q
 | bl b => obtain rfl := r.bl; exact q
 | int b => obtain rfl := r.int; exact q
 | str b => obtain rfl := r.str; exact q
 | exc b => obtain rfl := r.exc; exact q
 | tup b => obtain ⟨ds, rfl, _⟩ := r.tup; exact q
 | lst b => obtain ⟨n, ds, rfl, e, _⟩ := r.lst; unfold tyD; dsimp only; rw [e]; exact q
 | dct b => obtain ⟨n, ds, rfl, e, _⟩ := r.dct; unfold tyD; dsimp only; rw [e]; exact q
 | _ => cases q
theorem xa {P : Nat -> Prop} {h : AH} {d : D} {v : Val} {c : Cl} (r : ShR P h d v) (q : clV v = some c) : clD d = some c := by
 cases v with
 | ty b => obtain rfl := r.ty; exact q
 | glb b => obtain rfl := r.glb; exact q
 | _ => cases q
theorem
    B6 {P : Nat -> Prop} {h : AH} : ∀ {ds : List D} {vs : List Val} {cs : List Cl}, Rds P h ds vs -> rT vs = some cs -> ds.mapM clD = some cs := by
 intro ds
 induction ds with
 |
  nil =>
  intro vs cs r q
  cases r
  cases q
  rfl
 |
  cons d0 ds ih =>
  intro vs cs r q
  cases r with
  |
   cons r rr =>
   unfold rT at q
   split at q
   ·rename_i c cs' e1 e2
    cases q
    rw [List.mapM_cons, xa (.inl r) e1, ih rr e2]; rfl
   ·cases q
theorem
    Aa (kt : eI) : RFn (pb kt) (uY kt) := fun P h ds vs r => by
 unfold uY
 split
 ·rename_i v c
  obtain ⟨d, d', rfl, r1, r2⟩ := rz r
  split
  ·rename_i t c0 cr e1 e2
   have e3 := E4 r1 e1
   split
   ·rename_i b b' e4 e5
    refine ⟨.bl b, ?_, .bl b⟩
    unfold pb
    dsimp only
    rw [e3]
    dsimp only
    by_cases ht : ∃ cs, c = .tup cs
    ·obtain ⟨cs, rfl⟩ := ht
     obtain ⟨es, rfl, q⟩ := r2.tup
     dsimp only
     rw [B6 q e2]
     dsimp only
     rw [e4, e5]
    ·have e2' : (clV c).map ([·]) = some (c0 :: cr) := by
      cases c with
      | tup cs => exact absurd ⟨cs, rfl⟩ ht
      | _ => exact e2
     obtain ⟨cl, y1, y2⟩ := Option.map_eq_some_iff.mp e2'
     cases y2
     have y3 := xa r2 y1
     have hd : ∀ cs, d' ≠ .tup cs := fun cs z => by subst z; cases y3
     split
     ·rename_i cs; exact absurd rfl (hd cs)
     ·rw [y3]
      dsimp only
      have : kit kt t c0 = some b := by
       unfold fc at e4
       rw [e5] at e4 ⊢
       cases b' with
       | true => exact e4
       | false => unfold fc at e4; exact e4
      rw [this]
   ·trivial
  ·trivial
 ·trivial
noncomputable def rP (xs : List Val) (lo hi : Option Int) : List Val := (xs.drop (HT.sIx xs.length 0 lo)).take (HT.sIx xs.length xs.length hi - HT.sIx xs.length 0 lo)
abbrev MO3 := E3 -> R3 (Option Int)
noncomputable def vf (_ : Ns) (_ : E3) (_ : AH) (b c : Option Int) : Prop := b = c
noncomputable def ROp (F : MO) (G : MO3) : Prop := ∀ X h0 ns e ae h, Sat X h0 ns e ae h -> Po X h0 ns e ae h vf (F ae h) (G e)
noncomputable def uf : MO3 := fun e => .ok none e
noncomputable def ux (F : ME3) : MO3 := fun e => (F e).bind fun t e1 => match rs e1 t with
 | some (.int i) => .ok (some i) e1
 | _ => .stuck
noncomputable def aSl (x : Val) (lo hi : Option Int) : Bv := match x with
 | .tup xs => if HT.sIx xs.length 0 lo = 0 /\ HT.sIx xs.length xs.length hi = xs.length then .stuck else .val (.tup (rP xs lo hi))
 | .lst xs => .new (.lst (rP xs lo hi))
 | _ => .stuck
noncomputable def vSl (F : ME3) (L U : MO3) : ME3 := fun e => (F e).bind fun t e1 => (L e1).bind fun lo e2 => (U e2).bind fun hi e3 => match rs e3 t.drop with
 | some v => (aSl v lo hi).at e3
 | none => .stuck
theorem x3 : ROp rq uf := fun X h0 ns e ae h S => Po.ret S rfl
theorem
    yP {F : ME} {F3 : ME3} (hF : RE F F3) : ROp (rQ F) (ux F3) := fun X h0 ns e ae h S =>
 Po.bind S (hF X h0 0 ns e ae h S (Nat.zero_le _)) fun d t h1 ns1 e1 a1 S1 r1 => by
  by_cases hq : ∃ i, rs e1 t = some (.int i)
  ·obtain ⟨i, hq⟩ := hq
   have hd := (r1.sh S1 hq).int
   subst hd
   show Po X h0 ns1 e1 ae h1 vf (R.ok (some i) h1) (match rs e1 t with | some (.int i) => R3.ok (some i) e1 | _ => .stuck)
   rw [hq]
   exact Po.ret S1 rfl
  ·have : (match rs e1 t with | some (.int i) => R3.ok (some i) e1 | _ => .stuck) = (.stuck : R3 (Option Int)) := by
    split
    ·rename_i i q; exact absurd ⟨i, q⟩ hq
    ·rfl
   show Po X h0 ns1 e1 ae h1 vf _ (match rs e1 t with | some (.int i) => R3.ok (some i) e1 | _ => .stuck)
   rw [this]; trivial
theorem
    Dt {F : ME} {F3 : ME3} {L U : MO} {L3' U3 : MO3} (hF : RE F F3) (hL : ROp L L3') (hU : ROp U U3) : RE (eSl F L U) (vSl F3 L3' U3) := fun X h0 LL ns e ae h S hl =>
 Po.bind
     S (hF X h0 LL ns e ae h S hl) fun d t h1 ns1 e1 a1 S1 r1 => Po.bind S1 (hL X h0 ns1 e1 ae h1 S1) fun lo lo' h2 ns2 e2 a2 S2 r2 => Po.bind S2 (hU X h0 ns2 e2 ae h2 S2) fun hi hi' h3 ns3 e3 a3 S3 r3 => by
  cases r2; cases r3
  obtain ⟨r1', hn⟩ := r1.drop
  have r4 := (r1'.stp S1 a2 hn).stp S2 a3 hn
  try dsimp only
  split
  ·rename_i v q
   have rr := r4.sh S3 q
   refine BvR.po S3 (Nat.le_trans hl (Nat.le_trans a1.len (Nat.le_trans a2.len a3.len))) ?_
   unfold aSl
   split
   ·rename_i xs
    obtain ⟨ds, rfl, q1⟩ := rr.tup
    split
    ·trivial
    ·rename_i hne
     refine ⟨_, by unfold gSl; dsimp only; rw [if_neg (by rw [q1.len]; exact hne)], .tup ?_⟩
     unfold L2.cutD rP
     rw [q1.len]
     exact (q1.drop _).take _
   ·rename_i xs
    obtain ⟨n, ds, rfl, _, e1, q1⟩ := rr.lst
    refine ⟨.lst (L2.cutD ds lo hi), by unfold gSl; dsimp only; rw [e1], trivial, .lst ?_⟩
    unfold L2.cutD rP
    rw [q1.len]
    exact (q1.drop _).take _
   ·trivial
  ·trivial
section
variable {P : Nat -> Prop} {h : AH}
theorem EA {n : Nat} {o : Ob} {xs : List Val} (e : h[n]? = some o) (r : Rc P h o (.lst xs)) : lg h (.ref n) = true /\ ∃ ds, h[n]? = some (.lst ds) /\ Rds P h ds xs /\ ∀ f, wX h (.ref n) f = f n ds := by
 obtain ⟨ds, e1, e2, q⟩ := Rc.seq e r
 refine ⟨by show (bq h n).isSome = true; rw [e2]; rfl, ds, e1, q, fun f => ?_⟩
 unfold wX; dsimp only; rw [e1]
end
noncomputable def sL : Val -> Val -> Val -> Option Val := fun u i v => match u, i with
 | .lst xs, .int k => (match ixN xs.length k with
  | some j => some (.lst (xs.set j v))
  | none => none)
 | _, _ => none
theorem CQ : uU wL sL := fun P h n o u di vi d v u' _ e hf r ri rd q => by
 unfold sL at q
 split at q
 ·split at q
  ·rename_i j hj
   cases q
   obtain ⟨q1, es, q2, q3, q4⟩ := EA e r
   obtain rfl := ri.int
   refine ⟨.lst (es.set j d), ?_, trivial, .lst (q3.set rd j)⟩
   unfold wL; dsimp only; rw [q2]; dsimp only; rw [q3.len, hj]
  ·cases q
 ·cases q
noncomputable def nZ (d : Val) : List Val -> Option (List Bool)
 | [] => some []
 | x :: r => match eY x d, nZ d r with
  | some b, some bs => some (b :: bs)
  | _, _ => none
noncomputable def ml : Val -> List Val -> Bv := fun x vs => match x, vs with
 | .lst xs, [d] => (match nZ d xs with
  | some bs => if bs.idxOf true < bs.length then .val (.int (bs.idxOf true : Nat)) else .stuck
  | none => .stuck)
 | _, _ => .stuck
noncomputable def my : Val -> List Val -> Bv := fun x vs => match x, vs with
 | .lst xs, [d] => if ((cF 64 d).map SeqAt.shaped) = some true then (match nZ d xs with
  | some bs => .val (.int (bs.count true : Nat))
  | none => .stuck) else .stuck
 | _, _ => .stuck
theorem
    wZ {P : Nat -> Prop} {h : AH} {d : D} {v : Val} (rd : ShR P h d v) : ∀ {ds : List D} {vs : List Val} {bs : List Bool}, Rds P h ds vs -> nZ v vs = some bs -> eQ h d ds = some bs := by
 intro ds
 induction ds with
 |
  nil =>
  intro vs bs r q
  cases r
  cases q
  rfl
 |
  cons d0 ds ih =>
  intro vs bs r q
  cases r with
  |
   cons r rr =>
   unfold nZ at q
   split at q
   ·rename_i b bs' e1 e2
    cases q
    unfold eQ
    rw [uw (.inl r) rd e1, ih rr e2]
   ·cases q
theorem
    t5 : RMv jK ml := fun P h d v ds vs r hv rs => by
 unfold ml
 split
 ·rename_i xs w
  obtain ⟨n, es, rfl, _, e1, q⟩ := r.lst
  obtain ⟨d', rfl, r'⟩ := eJ rs
  split
  ·rename_i bs eb
   split
   ·rename_i hl
    refine ⟨_, ?_, .int _⟩
    unfold jK
    dsimp only
    rw [e1]
    show (match eQ h d' es with | some bs => _ | none => _) = _
    rw [wZ r' q eb]
    dsimp only
    rw [if_pos hl]
   ·trivial
  ·trivial
 ·trivial
theorem
    tX : RMv j8 my := fun P h d v ds vs r hv rs => by
 unfold my
 split
 ·rename_i xs w
  obtain ⟨n, es, rfl, _, e1, q⟩ := r.lst
  obtain ⟨d', rfl, r'⟩ := eJ rs
  split
  ·rename_i hs
   obtain ⟨pd, s1, s2⟩ := Option.map_eq_some_iff.mp hs
   have s3 := kj 64 _ _ _ r' s1
   split
   ·rename_i bs eb
    refine ⟨_, ?_, .int _⟩
    unfold j8
    dsimp only
    rw [s3]
    rw [if_pos ⟨rfl, by show some (SeqAt.shaped pd) = _; rw [s2]⟩]
    unfold lp
    dsimp only
    rw [e1]
    show (match eQ h d' es with | some bs => _ | none => _) = _
    rw [wZ r' q eb]
   ·trivial
  ·trivial
 ·trivial
noncomputable def vD0 : ME3 := fun e => .ok (.new (.dct [])) e
theorem DM : RE eD0 vD0 := fun X h0 L ns e ae h S hl => BvR.po (r := eD0 ae h) (b := .new (.dct [])) S hl ⟨.dct [], rfl, trivial, .dct .nil⟩
end L3
set_option Elab.async false
set_option linter.all false
set_option maxRecDepth 100000
namespace L3
open PySem PySem.Spec PyProof.Rows L2
structure PEx where
 F : ME
 G : ME3
 ok : RE F G
structure PTs where
 F : MT
 G : MT3
 ok : RT F G
structure PAs where
 F : MA
 G : MA3
 ok : RA F G
structure PSt where
 F : MS
 G : MS3
 ok : RS F G
structure PGt where
 F : MG
 G : MG3
 ok : RG F G
structure PGs where
 F : MGs
 G : kJ
 ok : RGs F G
structure PIt where
 F : MI
 G : MI3
 ok : RI F G
structure POp where
 F : MO
 G : MO3
 ok : ROp F G
structure PO2 where
 F : D -> D -> AH -> R D
 G : Val -> Val -> Bv
 ok : RO F G
structure PU1 where
 F : D -> AH -> R D
 G : Val -> Bv
 ok : RU F G
structure PBf where
 F : Fn
 G : List Val -> Bv
 ok : RFn F G
structure PMm where
 F : D -> List D -> AH -> R D
 G : Val -> List Val -> Option (Val × Val)
 ok : RM F G
structure PMv where
 F : D -> List D -> AH -> R D
 G : Val -> List Val -> Bv
 ok : RMv F G
structure PSe where
 F : D -> D -> D -> AH -> R Unit
 G : Val -> Val -> Val -> Option Val
 ok : uU F G
structure PFn where
 ms : List Bool
 F : Fn
 G : Fn3
 ok : RF ms F G
structure PFx (ms : List Bool) where
 F : Fn
 G : Fn3
 ok : RF ms F G
noncomputable section
noncomputable def PFx.fn {ms : List Bool} (p : PFx ms) : PFn := ⟨ms, p.F, p.G, p.ok⟩
noncomputable def ai (i : Nat) : PEx := ⟨fu i, uG i, Bc i⟩
noncomputable def aq (i : Int) : PEx := ⟨eC (.int i), vC (.int i), kI fun _ _ => .int i⟩
noncomputable def pBl (i : Bool) : PEx := ⟨eC (.bl i), vC (.bl i), kI fun _ _ => .bl i⟩
noncomputable def dQ (i : Str) : PEx := ⟨eC (.str i), vC (.str i), kI fun _ _ => .str i⟩
noncomputable def fS : PEx := ⟨eC .non, vC .non, kI fun _ _ => .non⟩
noncomputable def pTy (i : String) : PEx := ⟨eC (.ty i), vC (.ty i), kI fun _ _ => .ty i⟩
noncomputable def iq (i : Str) : PEx := ⟨eC (.glb i), vC (.glb i), kI fun _ _ => .glb i⟩
noncomputable def sU (d : D) (v : Val) (r : ∀ P h, Rd P h d v) : PEx := ⟨eC d, vC v, kI r⟩
noncomputable def pUn (o : PU1) (a : PEx) : PEx := ⟨eUn o.F a.F, vUn o.G a.G, Ey o.ok a.ok⟩
noncomputable def pOp (o : PO2) (a b : PEx) : PEx := ⟨eOp o.F a.F b.F, vOp o.G a.G b.G, DV o.ok a.ok b.ok⟩
noncomputable def ao : PAs := ⟨uM, vNil, Bd⟩
noncomputable def af (a : PEx) (r : PAs) : PAs := ⟨sI a.F r.F, wW a.G r.G, zg a.ok r.ok⟩
noncomputable def pFn (o : PBf) (a : PAs) : PEx := ⟨eFn o.F a.F, vFn o.G a.G, CV o.ok a.ok⟩
noncomputable def bT (a : PAs) : PEx := ⟨eFn lN a.F, vTup a.G, z9 a.ok⟩
noncomputable def d9 (a : PAs) : PEx := ⟨eFn dD a.F, vLst a.G, CJ a.ok⟩
noncomputable def fW (a b : PEx) : PEx := ⟨wF a.F b.F, vAnd a.G b.G, zx a.ok b.ok⟩
noncomputable def pOr (a b : PEx) : PEx := ⟨eOr a.F b.F, vOr a.G b.G, Dz a.ok b.ok⟩
noncomputable def kL (a : PEx) : PEx := ⟨wc a.F, vNot a.G, zE a.ok⟩
noncomputable def qOf (a : PEx) : PTs := ⟨tOf a.F, cOf a.G, DJ a.ok⟩
noncomputable def qTr (a : PEx) : PTs := ⟨tTr a.F, cTr a.G, EB a.ok⟩
noncomputable def qO (a b : PTs) : PTs := ⟨tO a.F b.F, cO a.G b.G, rt_o a.ok b.ok⟩
noncomputable def qNo (a : PTs) : PTs := ⟨tNo a.F, cNo a.G, Ex a.ok⟩
noncomputable def qY : PTs := ⟨tY, cY, rt_y⟩
noncomputable def xNx : PSt := ⟨sNx, wNx, EM⟩
noncomputable def aW (a : PEx) : PSt := ⟨vB a.F, wRet a.G, BA a.ok⟩
noncomputable def lz (a : PEx) : PSt := ⟨rL a.F, w9 a.G, ye a.ok⟩
noncomputable def aD (a b : PSt) : PSt := ⟨u4 a.F b.F, wSeq a.G b.G, CL a.ok b.ok⟩
noncomputable def xIf (c : PTs) (a b : PSt) : PSt := ⟨sIf c.F a.F b.F, wIf c.G a.G b.G, Df c.ok a.ok b.ok⟩
noncomputable def bc (o : Bool) (i : Nat) (a : PEx) : PSt := ⟨iy a.F (gN i), wAsg o i a.G, Cp o i a.ok⟩
noncomputable def gtN (i : Nat) : PGt := ⟨gN i, pN i, uB i⟩
noncomputable def dH : PGs := ⟨gsN, psN, D5⟩
noncomputable def aY (a : PGt) (b : PGs) : PGs := ⟨gsC a.F b.F, psC a.G b.G, Dr a.ok b.ok⟩
noncomputable def gtT (n : Nat) (a : PGs) : PGt := ⟨gT fun ds ae h => if ds.length = n then a.F ds ae h else .stuck, pT n a.G, rg_t n a.ok⟩
noncomputable def gtX (a : PGt) : PGt := ⟨fun d ae h => noX (a.F d ae h), a.G, AO a.ok⟩
noncomputable def g7 (a : PEx) (g : PGt) : PSt := ⟨iy a.F g.F, xq a.G g.G, y8 a.ok g.ok⟩
noncomputable def fR (i j : Nat) (a : PAs) : PSt := ⟨v5 i j a.F, wPar i j a.G, BH i j a.ok⟩
noncomputable def gL (c : Str) (a : PAs) : PSt := ⟨nV c a.F, ud c a.G, vO c a.ok⟩
noncomputable def nO (i : Nat) (w : PSe) (k a : PEx) : PSt := ⟨iy a.F (gS (fu i) k.F w.F), wSet i k.G a.G w.G, zV i w.ok k.ok a.ok⟩
noncomputable def uN (mro : List Str) (i : Nat) (b u : PSt) : PSt := ⟨n1 mro i b.F u.F, jx mro i b.G u.G, Co mro i b.ok u.ok⟩
noncomputable def nE (m : PMv) (a : PEx) (b : PAs) : PEx := ⟨eM m.F a.F b.F, xo m.G a.G b.G, zd m.ok a.ok b.ok⟩
noncomputable def ku (a : PEx) : PIt := ⟨vY a.F, xi a.G, Cz a.ok⟩
noncomputable def jw (a : PAs) : PIt := ⟨vX a.F, uO jc a.G, zN a.ok⟩
noncomputable def ki (a : PAs) : PIt := ⟨wa a.F, xu a.G, B2 a.ok⟩
noncomputable def iW (i : PIt) (g : PGt) (b : PSt) : PSt := ⟨u9 i.F g.F b.F, wFor i.G g.G b.G, zu i.ok g.ok b.ok⟩
noncomputable def xWh (c : PTs) (b : PSt) : PSt := ⟨sWh c.F b.F, wWh c.G b.G, Ec c.ok b.ok⟩
noncomputable def pLC (i : PIt) (sub : List (Option Nat)) (hs : (sub.filterMap id).Nodup) (g : PGt) (c : PTs) (a : PEx) : PEx := ⟨eLC i.F sub g.F c.F a.F, vLC i.G sub g.G c.G a.G, C2 hs i.ok g.ok c.ok a.ok⟩
noncomputable def az (f : PFn) (a : PAs) : PEx := ⟨rG f.ms.length f.F a.F, w6 f.ms f.G a.G, xE rfl f.ok a.ok⟩
noncomputable def oN : POp := ⟨rq, uf, x3⟩
noncomputable def oS (a : PEx) : POp := ⟨rQ a.F, ux a.G, yP a.ok⟩
noncomputable def pSl (a : PEx) (l u : POp) : PEx := ⟨eSl a.F l.F u.F, vSl a.G l.G u.G, Dt a.ok l.ok u.ok⟩
noncomputable def pD0 : PEx := ⟨eD0, vD0, DM⟩
noncomputable def fnP (ms : List Bool) (N : Nat) (c : PSt) : PFn := ⟨ms, fnD N c.F, fnV ms N c.G, C1 c.ok⟩
noncomputable def bO : PO2 := ⟨sG, vz, BS⟩
noncomputable def eL : PO2 := ⟨vm, aMin, Bs⟩
noncomputable def cZ : PO2 := ⟨vk, sx, zZ⟩
noncomputable def kZ : PO2 := ⟨vH, rF, Aw⟩
noncomputable def cS : PO2 := ⟨wb, rp, Av⟩
noncomputable def jC : PO2 := ⟨vR, sJ, Bt⟩
noncomputable def bLt : PO2 := ⟨gLt, aLt, DL⟩
noncomputable def bGt : PO2 := ⟨gGt, aGt, Dc⟩
noncomputable def bGe : PO2 := ⟨gGe, aGe, DB⟩
noncomputable def bIx : PO2 := ⟨gIx, aIx, C4⟩
noncomputable def bEq : PO2 := ⟨gEq false, aEq false, xC false⟩
noncomputable def bNe : PO2 := ⟨gEq true, aEq true, xC true⟩
noncomputable def bIs : PO2 := ⟨oK false, wM false, Cs false⟩
noncomputable def v7 : PU1 := ⟨rC, v8, BV⟩
noncomputable def d7 : PBf := ⟨pA, wC, BM⟩
noncomputable def gf : PBf := ⟨sy, wH, AJ⟩
noncomputable def o6 : PBf := ⟨nC, rh, ym⟩
noncomputable def oT : PBf := ⟨nB, su, yn⟩
noncomputable def lq : PBf := ⟨pq, wI, AS⟩
noncomputable def qX : PBf := ⟨pj, vG, Cc⟩
noncomputable def oB : PBf := ⟨lb, sO, xW⟩
noncomputable def mD : PBf := ⟨j3, oP, wB⟩
noncomputable def rM : PBf := ⟨sA, uH, Af⟩
noncomputable def a8 (kt : eI) : PBf := ⟨pb kt, uY kt, Aa kt⟩
noncomputable def iG : PMv := ⟨jK, ml, t5⟩
noncomputable def iH : PMv := ⟨j8, my, tX⟩
noncomputable def seL : PSe := ⟨wL, sL, CQ⟩
end
theorem l7 {P : Nat -> Prop} {h : AH} : ∀ (ns : List Int), Rds P h (ns.map D.int) (ns.map Val.int)
 | [] => .nil
 | _ :: r => .cons (.int _) (l7 r)
theorem
    law3 (p : PFn) (hm : p.ms = [false]) (hG : ∀ ns : List Int, ns.length <= 63 -> p.G [.kl (ns.map .int)] = .ok (.val (.bl true)) []) (d : D) (h : AH) (ns : List Int) (hl : ns.length <= 63) (sc : Script h d ns) : ∃ h', p.F [d] h = .ok (.bl true) h' := by
 have hp := p.ok
 rw [hm] at hp
 have rd : Rd (Oc (fun _ => False) [none]) h d (.kl (ns.map .int)) := by
  rcases sc.form with ⟨n, rfl, e⟩ | rfl
  ·exact .cell ⟨fun z => z, by simp⟩ e (.fz (l7 ns))
  ·exact .kl (l7 ns)
 have S : Sat (fun _ => False) h.length [none] (sls [false] [.kl (ns.map .int)]) ([d].map some) h := by
  refine ⟨rfl, rfl, Nat.le_refl _, fun _ z => z.elim, fun i j n q => ?_, fun i n q z => z, fun i s q => ?_⟩
  ·cases i with
   | zero => simp at q
   | succ i => simp at q
  ·cases i with
   |
    zero =>
    have : sl1 false (.kl (ns.map .int)) = s := by simpa [sls] using q
    subst this
    exact ⟨rfl, d, rfl, rd⟩
   | succ i => simp [sls] at q
 have := hp _ _ [d] [.kl (ns.map .int)] h rfl S
 rw [hG ns hl] at this
 obtain ⟨d', h', e, _, _, r⟩ := this
 cases r with
 | bl => exact ⟨h', e⟩
 | cell p e r => cases r
section
variable (e : E3)
@[simp] theorem g6 {α β : Type} (a : α) (f : α -> E3 -> R3 β) : (R3.ok a e).bind f = f a e := rfl
@[simp] theorem EC {α : Type} (a : α) (f : α -> E3 -> SR3) : (R3.ok a e).toS f = f a e := rfl
@[simp] theorem Ae {α : Type} (c : Str) (f : α -> E3 -> SR3) : (R3.exc c e : R3 α).toS f = .exc c e := rfl
@[simp] theorem Ew (f : E3 -> SR3) : (SR3.nx e).then f = f e := rfl
@[simp] theorem E2 (r : Rt) (f : E3 -> SR3) : (SR3.rt r e).then f = .rt r e := rfl
@[simp] theorem BC (c : Str) (f : E3 -> SR3) : (SR3.exc c e).then f = .exc c e := rfl
@[simp] theorem rW (f : E3 -> SR3) : (SR3.nx e).loop f = f e := rfl
@[simp] theorem xv (f : E3 -> SR3) : (SR3.ct e).loop f = f e := rfl
@[simp] theorem CS (r : Rt) (f : E3 -> SR3) : (SR3.rt r e).loop f = .rt r e := rfl
@[simp] theorem Ea (r : SR3) : r.unl none = r := by cases r <;> rfl
@[simp] theorem vI : lockO e none = e := rfl
@[simp] theorem rb : eF e none = e := rfl
@[simp] theorem Cb (v : Val) : (Bv.val v).at e = .ok (.val v) e := rfl
@[simp] theorem zO (v : Val) : (Bv.new v).at e = .ok (.new v) e := rfl
@[simp] theorem B1 (v : Val) : rs e (.val v) = some v := rfl
@[simp] theorem zD (v : Val) : rs e (.new v) = some v := rfl
@[simp] theorem zA (i : Nat) : rs e (.bor i) = (e[i]?).bind Sl.val := rfl
@[simp] theorem Ab (v : Val) : (Tm.val v).drop = .val v := rfl
@[simp] theorem AL (v : Val) : (Tm.new v).drop = .val v := rfl
@[simp] theorem CG (i : Nat) : (Tm.bor i).drop = .bor i := rfl
@[simp] theorem x6 : rss e [] = some [] := rfl
@[simp] theorem uS (t : Tm) (ts : List Tm) : rss e (t :: ts) = match rs e t, rss e ts with
  | some v, some vs => some (v :: vs)
  | _, _ => none := rfl
@[simp] theorem An (v : Val) : cB e (.val v) = some (e, v) := rfl
@[simp] theorem Ao : dem e [] = some (e, []) := rfl
@[simp] theorem yI (t : Tm) (ts : List Tm) : dem e (t :: ts) = match cB e t with
  | some (e1, v) => match dem e1 ts with
   | some (e2, vs) => some (e2, v :: vs)
   | none => none
  | none => none := rfl
@[simp] theorem zB (b : Bool) : bOf (some (.bl b)) = some b := rfl
@[simp] theorem DC (i : Nat) : (ai i).G e = match e[i]? with
 | some (.sh v) => .ok (.val v) e
 | some .no => .stuck
 | some _ => .ok (.bor i) e
 | none => .stuck := rfl
@[simp] theorem Dq (i : Int) : (aq i).G e = .ok (.val (.int i)) e := rfl
@[simp] theorem v_bl (i : Bool) : (pBl i).G e = .ok (.val (.bl i)) e := rfl
@[simp] theorem Du (i : Str) : (dQ i).G e = .ok (.val (.str i)) e := rfl
@[simp] theorem Ez : fS.G e = .ok (.val .non) e := rfl
@[simp] theorem v_ty (i : String) : (pTy i).G e = .ok (.val (.ty i)) e := rfl
@[simp] theorem D6 (i : Str) : (iq i).G e = .ok (.val (.glb i)) e := rfl
@[simp] theorem v_un (o : PU1) (a : PEx) : (pUn o a).G e = (a.G e).bind fun t e1 => match rs e1 t with
 | some v => (o.G v).at e1
 | none => .stuck := rfl
@[simp] theorem v_op (o : PO2) (a b : PEx) : (pOp o a b).G e = (a.G e).bind fun t1 e1 => (b.G e1).bind fun t2 e2 => match rs e2 t1.drop, rs e2 t2 with
 | some v1, some v2 => (o.G v1 v2).at e2
 | _, _ => .stuck := rfl
@[simp] theorem EH : ao.G e = .ok [] e := rfl
@[simp] theorem Bk (a : PEx) (r : PAs) : (af a r).G e = (a.G e).bind fun t e1 => (r.G e1).bind fun ts e2 => .ok (t.drop :: ts) e2 := rfl
@[simp] theorem v_fn (o : PBf) (a : PAs) : (pFn o a).G e = (a.G e).bind fun ts e1 => match rss e1 ts with
 | some vs => (o.G vs).at e1
 | none => .stuck := rfl
@[simp] theorem C0 (a : PAs) : (bT a).G e = (a.G e).bind fun ts e1 => match dem e1 ts with
 | some (e2, vs) => if vs.length <= 16777216 then .ok (.val (.tup vs)) e2 else .stuck
 | none => .stuck := rfl
@[simp] theorem Dp (a : PAs) : (d9 a).G e = (a.G e).bind fun ts e1 => match dem e1 ts with
 | some (e2, vs) => if vs.length <= 16777216 then .ok (.new (.lst vs)) e2 else .stuck
 | none => .stuck := rfl
@[simp] theorem DX (a b : PEx) : (fW a b).G e = (a.G e).bind fun t e1 => match bOf (rs e1 t) with
 | some true => b.G e1
 | some false => .ok (.val (.bl false)) e1
 | none => .stuck := rfl
@[simp] theorem y_or (a b : PEx) : (pOr a b).G e = (a.G e).bind fun t e1 => match bOf (rs e1 t) with
 | some true => .ok (.val (.bl true)) e1
 | some false => b.G e1
 | none => .stuck := rfl
@[simp] theorem Dy (a : PEx) : (kL a).G e = (a.G e).bind fun t e1 => match bOf (rs e1 t) with
 | some b => .ok (.val (.bl (!b))) e1
 | none => .stuck := rfl
@[simp] theorem c_of (a : PEx) : (qOf a).G e = (a.G e).bind fun t e1 => match bOf (rs e1 t) with
 | some b => .ok b e1
 | none => .stuck := rfl
@[simp] theorem c_tr (a : PEx) : (qTr a).G e = (a.G e).bind fun t e1 => match (rs e1 t).bind sH with
 | some b => .ok b e1
 | none => .stuck := rfl
@[simp] theorem c_o (a b : PTs) : (qO a b).G e = (a.G e).bind fun k e1 => if k = true then .ok true e1 else b.G e1 := rfl
@[simp] theorem c_no (a : PTs) : (qNo a).G e = (a.G e).bind fun k e1 => .ok (!k) e1 := rfl
@[simp] theorem x_nx : xNx.G e = .nx e := rfl
@[simp] theorem Dh (a : PEx) : (aW a).G e = (a.G e).toS mw := rfl
@[simp] theorem zo (v : Val) : mw (.val v) e = .rt (.val v) e := rfl
@[simp] theorem xQ (v : Val) : mw (.new v) e = .rt (.new v) e := rfl
@[simp] theorem yh (i : Nat) : mw (.bor i) e = match e[i]? with
  | some (.sh v) => .rt (.val v) e
  | some (.ow v) => .rt (.new v) (e.set i .no)
  | _ => .stuck := rfl
@[simp] theorem Ax (a : PEx) : (lz a).G e = (a.G e).toS fun _ e1 => .nx e1 := rfl
@[simp] theorem xb (a b : PSt) : (aD a b).G e = (a.G e).then b.G := rfl
@[simp] theorem x_if (c : PTs) (a b : PSt) : (xIf c a b).G e = (c.G e).toS fun k e1 => if k = true then a.G e1 else b.G e1 := rfl
@[simp] theorem CU (o : Bool) (i : Nat) (a : PEx) : (bc o i a).G e = (a.G e).toS (ip o i) := rfl
@[simp] theorem EL : Sl.no.pl = true := rfl
@[simp] theorem EV (v : Val) : (Sl.sh v).pl = true := rfl
@[simp] theorem yE (o : Bool) (i : Nat) (v : Val) : ip o i (.val v) e = match e[i]? with
 | some s0 => if s0.pl = true then .nx (e.set i (.sh v)) else .stuck
 | none => .stuck := by unfold ip; rfl
@[simp] theorem vV (i : Nat) (v : Val) : ip true i (.new v) e = match e[i]? with
 | some s0 => if s0.pl = true then .nx (e.set i (.ow v)) else .stuck
 | none => .stuck := by unfold ip; rfl
@[simp] theorem wR (i : Nat) (v : Val) : ip false i (.new v) e = match e[i]? with
 | some s0 => if s0.pl = true then .nx (e.set i (.sh v)) else .stuck
 | none => .stuck := by unfold ip; rfl
@[simp] theorem g_n (i : Nat) (v : Val) : (gtN i).G v e = match e[i]? with
 | some s => if s.pl = true then some (e.set i (.sh v)) else none
 | none => none := rfl
@[simp] theorem g_sn : dH.G [] e = some e := rfl
@[simp] theorem g_sc (a : PGt) (b : PGs) (v : Val) (vs : List Val) : (aY a b).G (v :: vs) e = (a.G v e).bind fun e1 => b.G vs e1 := rfl
@[simp] theorem g_t (n : Nat) (a : PGs) (vs : List Val) : (gtT n a).G (.tup vs) e = if vs.length = n then a.G vs e else none := rfl
@[simp] theorem g_x (a : PGt) (v : Val) : (gtX a).G v e = a.G v e := rfl
@[simp] theorem Bi (a : PEx) (g : PGt) : (g7 a g).G e = (a.G e).toS fun t e1 => match cB e1 t with
 | some (e2, v) => match g.G v e2 with
  | some e3 => .nx e3
  | none => .stuck
 | none => .stuck := rfl
@[simp] theorem D9 (i j : Nat) (a : PAs) : (fR i j a).G e = (a.G e).toS fun ts e1 => match dem e1 ts with
 | some (e2, [v, u]) => match (pN i v e2).bind (pN j u) with
  | some e3 => .nx e3
  | none => .stuck
 | _ => .stuck := rfl
@[simp] theorem D7 (i : Nat) (v : Val) : pN i v e = match e[i]? with
 | some s => if s.pl = true then some (e.set i (.sh v)) else none
 | none => none := rfl
@[simp] theorem yj (c : Str) (a : PAs) : (gL c a).G e = (a.G e).toS fun ts e1 => if ts.length <= 16777216 then .exc c e1 else .stuck := rfl
@[simp] theorem DN (i : Nat) (w : PSe) (k a : PEx) : (nO i w k a).G e = (a.G e).toS fun t e1 => match (e1[i]?).bind Sl.mv with
 | none => .stuck
 | some _ => (k.G e1).toS fun t2 e2 => match rs e2 t2 with
  | none => .stuck
  | some vi => match cB e2 t.drop with
   | none => .stuck
   | some (e3, v) => match e3[i]? with
    | none => .stuck
    | some s => match s.mv with
     | none => .stuck
     | some u => match w.G u vi v with
      | some u' => .nx (e3.set i (s.re u'))
      | none => .stuck := rfl
@[simp] theorem E8 (v : Val) : (Sl.ow v).mv = some v := rfl
@[simp] theorem D2 (v : Val) : (Sl.mu v).mv = some v := rfl
@[simp] theorem Dg (v u : Val) : (Sl.ow v).re u = .ow u := rfl
@[simp] theorem C5 (v u : Val) : (Sl.mu v).re u = .mu u := rfl
@[simp] theorem BI (v : Val) : (Sl.ow v).val = some v := rfl
@[simp] theorem B7 (v : Val) : (Sl.mu v).val = some v := rfl
@[simp] theorem DU (mro : List Str) (i : Nat) (b u : PSt) : (uN mro i b u).G e = jx mro i b.G u.G e := rfl
@[simp] theorem n6 (xs : List Val) : dF (.lst xs) = true := rfl
@[simp] theorem BF (m : PMv) (a : PEx) (b : PAs) : (nE m a b).G e = (a.G e).bind fun t e1 => if (rs e1 t).map dF = some true then (b.G e1).bind fun ts e2 => (match rs e2 t.drop, rss e2 ts with
 | some v, some vs => if dF v = true then (m.G v vs).at e2 else .stuck
 | _, _ => .stuck) else .stuck := rfl
@[simp] theorem DD (a : PEx) : (ku a).G e = (a.G e).bind fun t e1 => match jz t e1 with
 | some p => .ok p e1
 | none => .stuck := rfl
@[simp] theorem EX (a : PAs) : (ki a).G e = (a.G e).bind fun ts e1 => match ts with
 | [t] => (match jz t e1 with
  | some p => .ok (fT 0 p.1, p.2) e1
  | none => .stuck)
 | _ => .stuck := rfl
@[simp] theorem Ah (v : Val) : jz (.val v) e = (iY v).map fun xs => (xs, none) := rfl
@[simp] theorem B0 (xs : List Val) : iY (.tup xs) = some xs := rfl
@[simp] theorem Al (xs : List Val) : iY (.lst xs) = some xs := rfl
@[simp] theorem E7 (a : PAs) : (jw a).G e = (a.G e).bind fun ts e1 => match (rss e1 ts).bind jc with
 | some xs => .ok (xs, none) e1
 | none => .stuck := rfl
@[simp] theorem En (i : PIt) (g : PGt) (b : PSt) : (iW i g b).G e = (i.G e).toS fun p e1 => (eD g.G b.G p.1 (lockO e1 p.2)).unl p.2 := rfl
@[simp] theorem x5 (g : MG3) (B : MS3) : eD g B [] e = .nx e := rfl
theorem kM (g : MG3) (B : MS3) (v : Val) (vs : List Val) : eD g B (v :: vs) e = match g v e with
  | some e1 => (B e1).loop (eD g B vs)
  | none => .stuck := rfl
theorem sN (c : PTs) (b : PSt) : (xWh c b).G e = (c.G e).toS fun k e1 => if k = true then (b.G e1).loop (xWh c b).G else .nx e1 := vb c.G b.G e
@[simp] theorem v_lc (i : PIt) (sub : List (Option Nat)) (hs : (sub.filterMap id).Nodup) (g : PGt) (c : PTs) (a : PEx) : (pLC i sub hs g c a).G e = (i.G e).bind fun p e1 => match lcV g.G c.G a.G p.1 [] (cM sub (lockO e1 p.2)) with
 | .ok ys e2 => if ys.length <= 16777216 then .ok (.new (.lst ys)) (eF (bB sub e2 (lockO e1 p.2)) p.2) else .stuck
 | _ => .stuck := rfl
@[simp] theorem AW (f : PFn) (a : PAs) : (az f a).G e = (a.G e).bind fun ts e1 => match rss e1 ts with
 | none => .stuck
 | some vs => if okA e1 f.ms ts = true then (match f.G vs with
  | .stuck => .stuck
  | .ok r mv => if (bg e1 f.ms ts).isEmpty || (kx r && mv.all c8) then .ok r.tm (bB (bZ f.ms ts) (aX f.ms mv) e1) else (match mn e1 (bg e1 f.ms ts) with
   | some e2 => .ok r.tm (bB (bZ f.ms ts) (aX f.ms mv) e2)
   | none => .stuck)
  | .exc c mv => if (bg e1 f.ms ts).isEmpty || mv.all c8 then .exc c (bB (bZ f.ms ts) (aX f.ms mv) e1) else .stuck) else .stuck := rfl
@[simp] theorem zL (v : Val) : (Rt.val v).tm = .val v := rfl
@[simp] theorem zR (v : Val) : (Rt.new v).tm = .new v := rfl
@[simp] theorem o_n : oN.G e = .ok none e := rfl
@[simp] theorem o_s (a : PEx) : (oS a).G e = (a.G e).bind fun t e1 => match rs e1 t with
 | some (.int i) => .ok (some i) e1
 | _ => .stuck := rfl
@[simp] theorem v_sl (a : PEx) (l u : POp) : (pSl a l u).G e = (a.G e).bind fun t e1 => (l.G e1).bind fun lo e2 => (u.G e2).bind fun hi e3 => match rs e3 t.drop with
 | some v => (aSl v lo hi).at e3
 | none => .stuck := rfl
@[simp] theorem v_d0 : pD0.G e = .ok (.new (.dct [])) e := rfl
theorem bF (ms : List Bool) (N : Nat) (c : PSt) (vs : List Val) : (fnP ms N c).G vs = if vs.length = ms.length then (match c.G (sls ms vs ++ List.replicate (N - vs.length) .no) with
 | .nx e => (match muV ms e with | some mv => .ok (.val .non) mv | none => .stuck)
 | .rt r e => (match muV ms e with | some mv => .ok r mv | none => .stuck)
 | .exc c e => (match muV ms e with | some mv => .exc c mv | none => .stuck)
 | _ => .stuck) else .stuck := rfl
end
@[simp] theorem EF (i j : Int) : bO.G (.int i) (.int j) = .val (.int (i + j)) := rfl
@[simp] theorem EI (i j : Int) : eL.G (.int i) (.int j) = .val (.int (i - j)) := rfl
@[simp] theorem k_lt (i j : Int) : bLt.G (.int i) (.int j) = .val (.bl (decide (i < j))) := rfl
@[simp] theorem k_gt (i j : Int) : bGt.G (.int i) (.int j) = .val (.bl (decide (j < i))) := rfl
@[simp] theorem k_ge (i j : Int) : bGe.G (.int i) (.int j) = .val (.bl (decide (j <= i))) := rfl
@[simp] theorem Dv (i : Int) : v7.G (.int i) = .val (.int (-i)) := rfl
theorem dN {i j : Int} (c : CMulA i j) : cZ.G (.int i) (.int j) = .val (.int (i * j)) := by show sx (.int i) (.int j) = _; unfold sx aIc; dsimp only; rw [if_pos c]
theorem lL {i j : Int} (c : CDivB i j) : kZ.G (.int i) (.int j) = .val (.int (i.fdiv j)) := by show rF (.int i) (.int j) = _; unfold rF aIc; dsimp only; rw [if_pos c]
theorem fZ {i j : Int} (c : j ≠ 0) : cS.G (.int i) (.int j) = .val (.int (i.fmod j)) := by show rp (.int i) (.int j) = _; unfold rp aIc; dsimp only; rw [if_pos c]
theorem sk {i j : Int} (c : lU i j) : jC.G (.int i) (.int j) = .val (.int (i ^ j.toNat)) := by show sJ (.int i) (.int j) = _; unfold sJ aIc; dsimp only; rw [if_pos c]
@[simp] theorem k_ix (x : Val) (i : Int) : bIx.G x (.int i) = match x.items with
 | some xs => (match atI xs i with
  | some v => .val v
  | none => .stuck)
 | none => .stuck := by show aIx x (.int i) = _; unfold aIx; cases x.items <;> rfl
@[simp] theorem Bu (xs : List Val) : (Val.tup xs).items = some xs := rfl
@[simp] theorem Cd (xs : List Val) : (Val.lst xs).items = some xs := rfl
@[simp] theorem Eu (xs : List Val) : (Val.kl xs).items = some xs := rfl
@[simp] theorem k_eq (x y : Val) : bEq.G x y = match eY x y with
 | some b => .val (.bl b)
 | none => .stuck := by show aEq false x y = _; unfold aEq; cases eY x y <;> rfl
@[simp] theorem k_ne (x y : Val) : bNe.G x y = match eY x y with
 | some b => .val (.bl (!b))
 | none => .stuck := by show aEq true x y = _; unfold aEq; cases eY x y <;> rfl
@[simp] theorem EU (x y : Int) : eY (.int x) (.int y) = some (x == y) := rfl
@[simp] theorem k_is (x : Val) : bIs.G x .non = match x with
 | .non => .val (.bl true)
 | _ => .val (.bl false) := by cases x <;> rfl
@[simp] theorem Di (v : Val) : d7.G [v] = match v.items with
  | some xs => .val (.int xs.length)
  | none => (match v with
   | .str z => if z.length <= 16777216 then .val (.int z.length) else .stuck
   | _ => .stuck) := rfl
@[simp] theorem Et (i : Int) : gf.G [.int i] = .val (.int (if i < 0 then -i else i)) := rfl
@[simp] theorem Dj (i j : Int) : o6.G [.int i, .int j] = .val (.int (if j > i then j else i)) := rfl
@[simp] theorem DK (i j : Int) : oT.G [.int i, .int j] = .val (.int (if j < i then j else i)) := rfl
@[simp] theorem DP (xs : List Val) : lq.G [.lst xs] = match j0 xs with
  | some bs => .val (.bl (bs.all id))
  | none => .stuck := rfl
@[simp] theorem DR (xs : List Val) : qX.G [.lst xs] = match jq xs with
  | some bs => .val (.int bs.sum)
  | none => .stuck := rfl
@[simp] theorem zj (v : Val) : mD.G [v] = match v.items with
  | some xs => .val (.tup xs)
  | none => .stuck := rfl
@[simp] theorem BD (b : Bool) : rM.G [.bl b] = .val (.int (if b then 1 else 0)) := rfl
@[simp] theorem m8 : ∀ (bs : List Int), jq (bs.map Val.int) = some bs
 | [] => rfl
 | b :: r => by show (jq (r.map Val.int)).map (b :: ·) = _; rw [m8 r]; rfl
end L3
set_option Elab.async false
set_option linter.all false
set_option maxRecDepth 100000
namespace L3
open PySem PySem.Spec PyProof.Rows L2
section
variable {K : PySem.W.Frag} {mg : Str -> Option Value} {X : Cx} {ES : L2.St -> XK} {e a b c o i tg iter elt : Expr} {es : List Expr} {st : Stmt} {sts sts' : List Stmt} {p q r : PEx} {A : PAs} {t u : PTs} {x y : PSt} {g : PGt} {gs : PGs} {I : PIt} {pos : Pos}
theorem ag (i : Nat) {x : Str} (hN : X.N[i]? = some x := by rfl) (hv : Vis X.env.scope x := by first | exact Or.inl rfl | exact Or.inr (Or.inl rfl) | exact Or.inr (Or.inr rfl)) (hd : (x == ("__debug__" : Str)) = false := by decide) (hcd : (x == ("__classdict__" : Str)) = false := by decide) : DE K mg X ES (.Name x pos) (ai i).F := zH i hN hv hd hcd
theorem aj {i : Int} {j : Nat} : DE K mg X ES (.Constant (.int i) j pos) (aq i).F := CO
theorem d6 {i : Bool} {j : Nat} : DE K mg X ES (.Constant (.bool i) j pos) (pBl i).F := Ep
theorem eV {j : Nat} : DE K mg X ES (.Constant .none j pos) fS.F := CK
theorem cN {i : Str} {j : Nat} : DE K mg X ES (.Constant (.str i) j pos) (dQ i).F := zv
theorem fK {x : Str} (hg : Gl X x) (ha : ∃ a, mg x = some (.ref a)) (hm : X.mg = mg := by rfl) (hd : (x == ("__debug__" : Str)) = false := by decide) : DE K mg X ES (.Name x pos) (iq x).F := z0 hg ha hm hd
theorem Ds {x : Str} {d : D} {v : Val} {r : ∀ P h, Rd P h d v} (hg : Gl X x) (ha : GC K mg x d) (hm : X.mg = mg := by rfl) (hd : (x == ("__debug__" : Str)) = false := by decide) : DE K mg X ES (.Name x pos) (sU d v r).F := Eo hg ha hm hd
theorem gn {x : Str} {n : String} (hg : Gl X x) (hm : mg x = none) (hv : bootBuiltins x = some (.type n)) (he : X.mg = mg := by rfl) (hn : x ≠ "__name__" := by decide) (hd : (x == ("__debug__" : Str)) = false := by decide) : DE K mg X ES (.Name x pos) (pTy n).F := EE hg hm hv he hn hd
theorem aC {op : Operator} {r' : R2} {k : PO2} (ho : OpR X (binaryOp op) r') (hd : OpD K mg r' k.F) (ha : DE K mg X ES a p.F) (hb : DE K mg X ES b q.F) : DE K mg X ES (.BinOp a op b pos) (pOp k p q).F := El ho hd ha hb
theorem aN {r' : R2} {k : PO2} (hr : IxR X r') (hd : OpD K mg r' k.F) (ha : DE K mg X ES a p.F) (hb : DE K mg X ES b q.F) (hs : mj b) : DE K mg X ES (.Subscript a b pos) (pOp k p q).F := Er hr hd ha hb hs
theorem eK {op : CmpOp} {r' : R2} {k : PO2} (ho : OpR X (compareOp op) r') (hd : OpD K mg r' k.F) (ha : DE K mg X ES a p.F) (hb : DE K mg X ES b q.F) (hm : behindInMarks op b = false) : DE K mg X ES (.Compare a [op] [b] pos) (pOp k p q).F := Ac ho hd ha hb hm
theorem ba {op : CmpOp} {r' : R2} {k : PO2} (ho : OpR X (compareOp op) r') (hd : OpD K mg r' k.F) (ha : DE K mg X ES a p.F) (hb : DE K mg X ES b q.F) (hm : behindInMarks op b = false) : DT K mg X ES (.Compare a [op] [b] pos) (qOf (pOp k p q)).F := Bh ho hd ha hb hm
theorem bN (ha : DE K mg X ES a p.F) (he : ∀ whole, isTrue a X.env whole = (do let v <- whole; standAt a.pos; holding [v] (truthy v)) := by intro _; rfl) : DT K mg X ES a (qOf p).F := BE ha he
theorem pE (hK : X.K = K) (ha : DE K mg X ES a p.F) (he : ∀ whole, isTrue a X.env whole = (do let v <- whole; standAt a.pos; holding [v] (truthy v)) := by intro _; rfl) : DT K mg X ES a (qTr p).F := wt hK ha he
theorem b8 (ha : DT K mg X ES a t.F) : DT K mg X ES (.UnaryOp .Not a pos) (qNo t).F := zI ha
theorem fH (ha : DT K mg X ES a t.F) : DW K mg X ES (.BoolOp .Or [a] pos) t.F := BU ha
theorem g9 (ha : DT K mg X ES a t.F) (hb : DW K mg X ES (.BoolOp .Or (b :: es) pos) u.F) : DW K mg X ES (.BoolOp .Or (a :: b :: es) pos) (qO t u).F := EZ ha hb
theorem ZW.dt (h : DW K mg X ES a t.F) : DT K mg X ES a t.F := DW.dt h
theorem fI {op} (h : DE K mg X ES a p.F) : DE K mg X ES (.BoolOp op [a] pos) p.F := zU h
theorem fE (ha : DE K mg X ES a p.F) (hb : DE K mg X ES (.BoolOp .And (b :: es) pos) q.F) : DE K mg X ES (.BoolOp .And (a :: b :: es) pos) (fW p q).F := AQ ha hb
theorem EN (ha : DE K mg X ES a p.F) (hb : DE K mg X ES (.BoolOp .Or (b :: es) pos) q.F) : DE K mg X ES (.BoolOp .Or (a :: b :: es) pos) (pOr p q).F := EO ha hb
theorem lE (ha : DE K mg X ES a p.F) : DE K mg X ES (.UnaryOp .Not a pos) (kL p).F := Cq ha
theorem EW {op : UnaryOp} {r' : V -> Hp -> VK -> Prop} {k : PU1} (ho : UnR X (unaryOp op) r') (hd : UnD K mg r' k.F) (ha : DE K mg X ES a p.F) : DE K mg X ES (.UnaryOp op a pos) (pUn k p).F := ER ho hd ha
theorem ah : DA K mg X ES [] ao.F := Bb
theorem aa (ha : DE K mg X ES e p.F) (hr : DA K mg X ES es A.F) (hs : starEach (e :: es) X.env = (false, eval e X.env) :: starEach es X.env := by rfl) : DA K mg X ES (e :: es) (af p A).F := yo ha hr hs
theorem bf {x1} (h : DA K mg X ES es A.F) : DE K mg X ES (.Tuple es x1 pos) (bT A).F := AB h
theorem dh (h : DA K mg X ES es A.F) : DE K mg X ES (.List es pos) (d9 A).F := zC h
theorem aE {id : String} {r' : List V -> Hp -> VK -> Prop} {k : PBf} {x : Str} {p0 : Pos} (hc : CallR X (.builtin id) r') (hd : bC K mg r' k.F) (hg : Gl X x) (hm : mg x = none) (hv : bootBuiltins x = some (.builtin id)) (ha : DA K mg X ES (e :: es) A.F) (hk : X.mg = mg := by rfl) (hn : x ≠ "__name__" := by decide) (hdb : (x == ("__debug__" : Str)) = false := by decide) (he : starEach (e :: es) X.env = (false, eval e X.env) :: starEach es X.env := by rfl) (hpl : (backTo pos (starEach es X.env)).any (·.1) = false := by rfl) : DE K mg X ES (.Call (.Name x p0) (e :: es) [] pos) (pFn k A).F := vQ hc hd hg hm hv ha hk hn hdb he hpl
theorem j5 {id : String} {r' : List V -> Hp -> VK -> Prop} {k : PBf} {x : Str} {p0 : Pos} (hc : CallR X (.type id) r') (hd : bC K mg r' k.F) (hg : Gl X x) (hm : mg x = none) (hv : bootBuiltins x = some (.type id)) (ha : DA K mg X ES (e :: es) A.F) (hk : X.mg = mg := by rfl) (hn : x ≠ "__name__" := by decide) (hdb : (x == ("__debug__" : Str)) = false := by decide) (he : starEach (e :: es) X.env = (false, eval e X.env) :: starEach es X.env := by rfl) (hpl : (backTo pos (starEach es X.env)).any (·.1) = false := by rfl) : DE K mg X ES (.Call (.Name x p0) (e :: es) [] pos) (pFn k A).F := tJ hc hd hg hm hv ha hk hn hdb he hpl
theorem au {f : PFn} {x : Str} {p0 : Pos} {k n : Nat} {ps : List Str} (C : Callee X.prog X.w X.K X.mg X.base x k ps (spD K mg n f.F)) (hr : Room k X.A) (hg : Gl X x) (hx : gg X ES) (ha : DA K mg X ES (e :: es) A.F) (hn : f.ms.length = n := by rfl) (hdb : (x == ("__debug__" : Str)) = false := by decide) (he : starEach (e :: es) X.env = (false, eval e X.env) :: starEach es X.env := by rfl) (hpl : (backTo pos (starEach es X.env)).any (·.1) = false := by rfl) : DE K mg X ES (.Call (.Name x p0) (e :: es) [] pos) (az f A).F := by
 subst hn
 exact uR C hr hg hx ha hdb he hpl
theorem aK : DSs K mg X ES [] xNx.F := xH
theorem ax (h1 : DS K mg X ES st x.F) : DSs K mg X ES [st] x.F := zf h1
theorem av (h1 : DS K mg X ES st x.F) (h2 : DSs K mg X ES sts y.F) : DSs K mg X ES (st :: sts) (aD x y).F := wm h1 h2
theorem aG (he : DE K mg X ES e p.F) : DS K mg X ES (.Return (some e) pos) (aW p).F := Cw he
theorem mI (he : DE K mg X ES e p.F) (hs : swapsWith e none pos.line X.env = pure false := by rfl) : DS K mg X ES (.Expr e pos) (lz p).F := x4 he hs
theorem aV (hc : DT K mg X ES c t.F) (ha : DSs K mg X ES sts x.F) (hb : DSs K mg X ES sts' y.F) : DS K mg X ES (.If c sts sts' pos) (xIf t x y).F := Eb hc ha hb
theorem aF {i : Nat} {x : Str} (hN : X.N.Nodup) (hi : X.N[i]? = some x) (hx : Loc X.env.scope x) (hf : X.fn x = true \/ X.env.scope.names.lookup x = some .local := by first | exact .inl rfl | exact .inr rfl | assumption) : DG K mg X ES (.Name x pos) (gtN i).F := zk hN hi hx hf
theorem dA : DGs K mg X ES [] dH.F := ya
theorem aH (h1 : DG K mg X (fun _ => E0) e g.F) (h2 : DGs K mg X (fun _ => E0) es gs.F) (hs : (assignEach (e :: es) X.env).map (·.2) = assign e X.env :: (assignEach es X.env).map (·.2) := by rfl) : DGs K mg X (fun _ => E0) (e :: es) (aY g gs).F := uZ h1 h2 hs
theorem dY {k n : Nat} (hK : X.K = K) (hc : X.calm = true) (h : DGs K mg X (fun _ => E0) es gs.F) (hn : (assignEach es X.env).length = n := by rfl) (hst : (assignEach es X.env).findIdx? (·.1) = none := by rfl) : DG K mg X (fun _ => E0) (.Tuple es k pos) (gtT n gs).F := zy hK hc h hn hst
theorem ZG.weak (hg : DG K mg X (fun _ => E0) e g.F) : DG K mg X ES e (gtX g).F := DG.weak hg
theorem gv (he : DE K mg X ES e p.F) (hg : DG K mg X ES a g.F) (hs : swapsWithSole [a] e pos.line X.env = pure false := by rfl) (hw : swappedStores [a] e X.env = pure none := by rfl) (h1 : (assignEach [a] X.env).map (·.2) = [assign a X.env] := by rfl) : DS K mg X ES (.Assign [a] e pos) (g7 p g).F := sV he hg hs hw h1
theorem lW {j : Nat} {w : PSe} {r' : lZ} {p1 : Pos} (he : DE K mg X ES e p.F) (ho : DE K mg X ES o (ai j).F) (hi : DE K mg X ES i q.F) (hs' : so X r') (hd : qT K mg r' w.F) (hs : swapsWithSole [.Subscript o i p1] e pos.line X.env = pure false := by rfl) (hw : swappedStores [.Subscript o i p1] e X.env = pure none := by rfl) (h1 : (assignEach [.Subscript o i p1] X.env).map (·.2) = [assign (.Subscript o i p1) X.env] := by rfl)
  (ha : ∀ v, assign (.Subscript o i p1) X.env v = (do
   let ov <- holding [v] (eval o X.env)
   let iv <- holding [v, ov] (eval i X.env)
   standAt p1
   holding [v, ov, iv] (setItem ov iv v)
   release [v, ov, iv] []) := by intro _; rfl) : DS K mg X ES (.Assign [.Subscript o i p1] e pos) (nO j w q p).F := sV he (Cu ho hi hs' hd ha) hs hw h1
theorem aS {ow : Bool} {i : Nat} {x : Str} {pos' : Pos} (hN : X.N.Nodup) (hi : X.N[i]? = some x) (hx : Loc X.env.scope x) (he : DE K mg X ES e p.F) (hs : swapsWith e (some (.Name x pos')) pos.line X.env = pure false := by rfl) (hf : X.fn x = true \/ X.env.scope.names.lookup x = some .local := by first | exact .inl rfl | exact .inr rfl | assumption) : DS K mg X ES (.Assign [.Name x pos'] e pos) (bc ow i p).F := BW hN hi hx he hs hf
theorem dS {i j : Nat} {x y : Str} {px py pt : Pos} {kt k2 pt2} (hc : X.calm = true) (hN : X.N.Nodup) (hi : X.N[i]? = some x) (hj : X.N[j]? = some y) (hij : i ≠ j) (hx : X.env.scope.names.lookup x = some .local) (hy : X.env.scope.names.lookup y = some .local) (ha : DA K mg X ES [a, b] A.F) (hw : swappedStores [.Tuple [.Name x px, .Name y py] kt pt] (.Tuple [a, b] k2 pt2) X.env = pure (some [x, y])) (hs : swapsWithSole [.Tuple [.Name x px, .Name y py] kt pt] (.Tuple [a, b] k2 pt2) pos.line X.env = pure false := by rfl) : DS K mg X ES (.Assign [.Tuple [.Name x px, .Name y py] kt pt] (.Tuple [a, b] k2 pt2) pos) (fR i j A).F := BJ hc hN hi hj hij hx hy ha hw hs
theorem gP {x : Str} {C : Addr} {E : XK} {np cpos : Pos} (hc : X.calm = true) (hR : Rz X E) (hg : Gl X x) (hm : mg x = some (.ref C)) (hq : PySem.W.excIn X.K C fk "ValueError.__new__" = true) (ha : DA K mg X (fun _ => E) (e :: es) A.F) (hk : X.mg = mg := by rfl) (he : starEach (e :: es) X.env = (false, eval e X.env) :: starEach es X.env := by rfl) (hplain : (backTo cpos (starEach es X.env)).any (·.1) = false := by rfl) (hd : (x == ("__debug__" : Str)) = false := by decide) : DS K mg X (fun _ => E) (.Raise (some (.Call (.Name x np) (e :: es) [] cpos)) none pos) (gL x A).F := uP hc hR hg hm hq ha hk he hplain hd
theorem lM (hK : X.K = K) (he : DE K mg X ES e p.F) : DI K mg X ES tg e (ku p).F := Ct hK he
theorem fG {p0 : Pos} (hg : Gl X "range") (hm : mg "range" = none) (ha : DA K mg X ES [a] A.F) (hk : X.mg = mg := by rfl) (hs : starEach [a] X.env = [(false, eval a X.env)] := by rfl) : DI K mg X ES tg (.Call (.Name "range" p0) [a] [] pos) (jw A).F := uy hg hm ha hk hs
theorem kg {elts : List Expr} {x1 : Nat} {tp p0 : Pos} (hK : X.K = K) (hg : Gl X "enumerate") (hm : mg "enumerate" = none) (ha : DA K mg X ES [a] A.F) (hk : X.mg = mg := by rfl) (hs : starEach [a] X.env = [(false, eval a X.env)] := by rfl) : DI K mg X ES (.Tuple elts x1 tp) (.Call (.Name "enumerate" p0) [a] [] pos) (ki A).F := x2 hK hg hm ha hk hs
theorem gU (hp : PassesOwn (model X.prog X.w) X.A X.env X.xe) (hc : X.calm = true) (hi : DI K mg X ES tg iter I.F) (hg : DG K mg X ES tg g.F) (hb : DSs K mg X ES sts x.F) (hs : ∀ x, foldedSetIterable iter X.env x = pure x := by intro _; rfl) : DS K mg X ES (.For tg iter sts [] pos) (iW I g x).F := CP hp hc hi hg hb hs
theorem oU (hp : PassesOwn (model X.prog X.w) X.A X.env X.xe) (hc : DT K mg X ES c t.F) (hb : DSs K mg X ES sts x.F) : DS K mg X ES (.While c sts [] pos) (xWh t x).F := vc hp hc hb
theorem rl {scope : Scope} (M : List Str) (kn : List (Str × NameKind)) (N : List Str) (sub : List (Option Nat)) {hsb : (sub.filterMap id).Nodup} (hc : X.calm = true) (hi : DI K mg X ES tg iter I.F) (hg : ∀ cl C s₂ H fp, DG K mg (bu X N scope cl C s₂ H fp) (fun _ => E0) tg g.F) (he : ∀ cl C s₂ H fp, DE K mg (bu X N scope cl C s₂ H fp) (fun _ => E0) elt p.F) (hM : X.N = M := by rfl) (hkn : X.env.scope.names = kn := by rfl) (hsub : hE M scope.names sub N = true := by decide +kernel) (hk : scope.kind = .function := by rfl) (hnc : ∀ x ∈ scope.names, x.2 ≠ .cell := by decide +kernel) (hnames : ∀ x ∈ scope.names, x.2 = .local -> scope.names.lookup x.1 = some .local := by decide +kernel) (hfr : jP kn scope.names = true := by decide +kernel) (hsl : sub.length = N.length := by rfl) (hs : ∀ x, foldedSetIterable iter X.env x = pure x := by intro _; rfl) : DE K mg X ES (.ListComp elt [⟨tg, iter, [], 0⟩] scope pos) (pLC I sub hsb g qY p).F := Ed M kn N sub hc hi hg he hM hkn hsub hk hnc hnames hfr hsl hs
theorem qZ {ow : Bool} {px spos : Pos} {iT : Nat} {xT : Str} {scope : Scope} (M : List Str) (kn : List (Str × NameKind)) (N : List Str) (sub : List (Option Nat)) {hsb : (sub.filterMap id).Nodup} (hc : X.calm = true) (hN : X.N.Nodup) (hix : X.N[iT]? = some xT) (hxl : Loc X.env.scope xT) (hi : DI K mg X ES tg iter I.F) (hg : ∀ cl C s₂ H fp, DG K mg (bu X N scope cl C s₂ H fp) (fun _ => E0) tg g.F) (he : ∀ cl C s₂ H fp, DE K mg (bu X N scope cl C s₂ H fp) (fun _ => E0) elt p.F) (hsw : swapsWith (.ListComp elt [⟨tg, iter, [], 0⟩] scope pos) (some (.Name xT px)) spos.line X.env = pure true := by rfl) (hM : X.N = M := by rfl) (hkn : X.env.scope.names = kn := by rfl) (hsub : hE M scope.names sub N = true := by decide +kernel) (hk : scope.kind = .function := by rfl) (hnc : ∀ x ∈ scope.names, x.2 ≠ .cell := by decide +kernel) (hnames : ∀ x ∈ scope.names, x.2 = .local -> scope.names.lookup x.1 = some .local := by decide +kernel) (hfr : jP kn scope.names = true := by decide +kernel) (hsl : sub.length = N.length := by rfl) (hs : ∀ x, foldedSetIterable iter X.env x = pure x := by intro _; rfl) (hf : X.fn xT = true \/ X.env.scope.names.lookup xT = some .local := by first | exact .inl rfl | exact .inr rfl | assumption) : DS K mg X ES (.Assign [.Name xT px] (.ListComp elt [⟨tg, iter, [], 0⟩] scope pos) spos) (bc ow iT (pLC I sub hsb g qY p)).F := D3 M kn N sub hc hN hix hxl hi hg he hsw hM hkn hsub hk hnc hnames hfr hsl hs hf
theorem qE {name : Str} {id : String} {apos cpos : Pos} {r' : V -> List V -> Hp -> VK -> Prop} {k : PMv} (hK : X.K = K) (slot : Slot "list" name id) (hty : typeOf (.builtin id) = pure (.type "method_descriptor")) (hm : MtM X id r') (hd : MtD K mg r' k.F) (ho : DE K mg X ES o p.F) (ha : DA K mg X ES (e :: es) A.F) (hbase : attributeBase o name X.env (eval o X.env) = eval o X.env := by rfl) (hfew : ((backTo cpos (starEach (e :: es) X.env)).all (fun x => !x.1) && (backToKw cpos (keywordEach [] X.env)).all (fun x => x.1.isSome) && decide ((e :: es).length + ([] : List Keyword).length + (if ([] : List Keyword).isEmpty then 0 else 1) < 30)) = true := by rfl) (hline : (apos.endLine == cpos.line) = true := by rfl) (hs : starEach (e :: es) X.env = (false, eval e X.env) :: starEach es X.env := by rfl) (hplain : (backTo cpos (starEach es X.env)).any (·.1) = false := by rfl) : DE K mg X ES (.Call (.Attribute o name apos) (e :: es) [] cpos) (nE k p A).F := de_m hK slot hty hm hd ho ha hbase hfew hline hs hplain
theorem j6 : DO K mg X ES none oN.F := yJ
theorem km (he : DE K mg X ES e p.F) : DO K mg X ES (some e) (oS p).F := xP he
theorem iQ {l u : POp} {lo hi : Option Expr} {p2 : Pos} (hK : X.K = K) (he : DE K mg X ES e p.F) (hl : DO K mg X ES lo l.F) (hu : DO K mg X ES hi u.F) : DE K mg X ES (.Subscript e (.Slice lo hi none p2) pos) (pSl p l u).F := uQ hK he hl hu
theorem Eh : DE K mg X ES (.Dict [] [] pos) pD0.F := C9
theorem zF {cn n : Str} {C : Addr} {i : Nat} {body suite : List Stmt} {b₀ : Stmt} {np hpos : Pos} {mro : List Str} (T : X.Top) (hN : X.N.Nodup) (hi : X.N[i]? = some n) (hl : X.env.kindOf n = some .local) (hg : Gl X cn) (hm : mg cn = some (.ref C)) (hh : XHand K C) (hmro : ∀ c ∈ mro, ∀ Ce, mg c = some (.ref Ce) -> PySem.W.mroIn K Ce (.ref C) = some true) (hb : ∀ (pn : List (Addr × Obj)) (xe : Value -> Shared -> Prop) (ES' : L2.St -> XK), gg (cxT X pn xe) ES' -> DSs K mg (cxT X pn xe) ES' body x.F) (hs : ∀ ea, DSs K mg (gp X ea) (fun _ => E0) (b₀ :: suite) y.F) (hK : X.K = K := by rfl) (hk : X.mg = mg := by rfl) (hd : (cn == ("__debug__" : Str)) = false := by decide) : DS K mg X ES (.Try body [.ExceptHandler (some (.Name cn np)) (some n) (b₀ :: suite) hpos] [] [] pos) (uN mro i x y).F := BQ T hN hi hl hg hm hh hmro hb hs hK hk hd
theorem bt : OpD K mg (fun x y H Q => rI0 (fun i j => .int (i + j)) x y H Q \/ (l6 x y H Q \/ (ka K x y H Q \/ kf K x y H Q))) bO.F := By
theorem dk : OpD K mg (rI0 fun i j => .int (i - j)) eL.F := zT
theorem cR : OpD K mg (rI CMulA fun i j => .int (i * j)) cZ.F := Aq
theorem jZ : OpD K mg (rI CDivB fun i j => .int (i.fdiv j)) kZ.F := zG
theorem dZ : OpD K mg (rI (fun _ j => j ≠ 0) fun i j => .int (i.fmod j)) cS.F := zQ
theorem lH : OpD K mg (rI lU fun i j => .int (i ^ j.toNat)) jC.F := A4
theorem nD : OpD K mg (rI0 fun i j => .bl (decide (i < j))) bLt.F := Ef
theorem jh : OpD K mg (rI0 fun i j => .bl (decide (j < i))) bGt.F := Dl
theorem sM : OpD K mg (rI0 fun i j => .bl (decide (j <= i))) bGe.F := C8
theorem aM : OpD K mg (fun x y H Q => sq K x y H Q \/ sf K x y H Q) bIx.F := Cy
theorem eN : OpD K mg (qS K) bEq.F := Bj
theorem iS : OpD K mg (sE K) bNe.F := Ai
theorem xB : OpD K mg (fun x y H Q => y = .non /\ Q (.bl (decide (x = .non))) H) bIs.F := yU
theorem dU : bC K mg (fun xs H Q => (∃ p ys, xs = [.ref p] /\ (SqL K H p ys \/ SqT K H p ys) /\ Q (.int ys.length) H) \/ (∃ z, xs = [.str z] /\ z.length <= sizeLine /\ Q (.int z.length) H)) d7.F := Ar
theorem gF : bC K mg (fun xs H Q => ∃ i, xs = [.int i] /\ Q (.int (if i < 0 then -i else i)) H) gf.F := B8
theorem yb : bC K mg (fun xs H Q => ∃ i j, xs = [.int i, .int j] /\ Q (.int (if j > i then j else i)) H) o6.F := yu
theorem yN : bC K mg (fun xs H Q => ∃ i j, xs = [.int i, .int j] /\ Q (.int (if j < i then j else i)) H) oT.F := yL
theorem ou : bC K mg (fun xs H Q => ∃ (a : Addr) (bs : List Bool), xs = [.ref a] /\ SqL K H a (bs.map V.bl) /\ Q (.bl (bs.all id)) H) lq.F := Cg
theorem Bo : bC K mg (fun xs H Q => ∃ (a : Addr) (ns : List Int), xs = [.ref a] /\ SqL K H a (ns.map V.int) /\ Q (.int ns.sum) H) qX.F := CB
theorem zb : bC K mg (fun xs H Q => ∃ p ys, xs = [.ref p] /\ (SqL K H p ys \/ SqT K H p ys) /\ ∀ l, H l = none -> Q (.ref l) (upd H l (.lst ys))) oB.F := xO
theorem uX : bC K mg (fun xs H Q => ∃ p ys, xs = [.ref p] /\ ((SqL K H p ys /\ ∀ l, H l = none -> Q (.ref l) (upd H l (.tup ys))) \/ (SqT K H p ys /\ Q (.ref p) H))) mD.F := wG
theorem Aj : bC K mg (fun xs H Q => (∃ i, xs = [.int i] /\ Q (.int i) H) \/ ∃ k, xs = [.bl k] /\ Q (.int (if k then 1 else 0)) H) rM.F := AK
theorem cU {kt : eI} (ok : KitsOk K mg kt) : bC K mg (fun xs H Q => (∃ x c t v b, xs = [x, c] /\ TyX K H x t /\ eW c = some v /\ PySem.W.kitOne K t v = some b /\ Q (.bl b) H) \/
  (∃ x tp cs t vs b, xs = [x, .ref tp] /\ SqT K H tp cs /\ TyX K H x t /\ cs.mapM eW = some vs /\ PySem.W.kitAny K t vs = some b /\ Q (.bl b) H)) (a8 kt).F := A6 ok
theorem v3 : MtD K mg (j7 K) iG.F := uF
theorem tF : MtD K mg (iF K) iH.F := uj
theorem mP : qT K mg qU seL.F := xM
theorem CI : UnD K mg (rU fun i => .int (-i)) v7.F := AA
variable {P : Program} {w : World} {base : Heap} {fx : Str} {fst : Stmt} {k n m : Nat} {ps N : List Str} {ms : List Bool}
theorem okP (D : Def K mg fx fst) (S : FnScope N ps (ay fst))
  (hb : ∀ (kV doc pm : Value) (an : Option Addr) (cdv ct : Value) (us : List Value), us.length = ps.length -> bindArgs (PySem.W.fnOf fx fx (dI fst) (ck fst) (ay fst) .none kV doc pm an cdv ct) ⟨us, []⟩ = pure (ps.zip us))
  (hbody : ∀ (f : Addr) (cdv : Value) (A : Around) (outer : List Env) (s : Shared) (H : Hp) (E : XK), Room k (A.deeper (envOfC fx (ay fst) s.heap.objs.size f cdv)) ->
   DSs K mg (ef (CX1 P w) P w K mg base N fx (ay fst) f cdv A outer s H E) (fun _ => E) (ck fst) x.F) (hn : ps.length = n := by rfl) (hm : N.length = m := by rfl) : Callee P w K mg base fx (k + 1) ps (spD K mg n (fnP ms m x).F) := by
 subst hn hm
 exact D.okD S hb hbody
end
end L3
set_option Elab.async false
set_option linter.all false
set_option maxRecDepth 100000
namespace L3
open PySem PySem.Spec PyProof.Rows L2
theorem Bq (b : Bool) (ms : List Bool) (v : Val) (vs : List Val) : sls (b :: ms) (v :: vs) = sl1 b v :: sls ms vs := rfl
theorem yx : sls [] [] = [] := rfl
theorem DY (v : Val) : sl1 true v = .mu v := rfl
theorem C3 (v : Val) : sl1 false v = .sh v := rfl
section
variable (e : E3)
theorem yK : okA e [] [] = true := rfl
theorem Ck (i : Nat) (ms : List Bool) (ts : List Tm) : okA e (true :: ms) (.bor i :: ts) = (((e[i]?).bind Sl.mv).isSome && !(ie i ts) && okA e ms ts) := rfl
theorem Bz (v : Val) (ms : List Bool) (ts : List Tm) : okA e (false :: ms) (.val v :: ts) = okA e ms ts := rfl
theorem wg (i : Nat) : ie i [] = false := rfl
theorem zw (i : Nat) (v : Val) (ts : List Tm) : ie i (.val v :: ts) = ie i ts := rfl
theorem tf : bg e [] [] = [] := rfl
theorem za (v : Val) (ms : List Bool) (ts : List Tm) : bg e (false :: ms) (.val v :: ts) = bg e ms ts := rfl
theorem zt (t : Tm) (ms : List Bool) (ts : List Tm) : bg e (true :: ms) (t :: ts) = bg e ms ts := by cases t <;> rfl
end
theorem uh : bZ [] [] = [] := rfl
theorem xK (b : Bool) (t : Tm) (ms : List Bool) (ts : List Tm) : bZ (b :: ms) (t :: ts) = mJ b t :: bZ ms ts := rfl
theorem yB (i : Nat) : mJ true (.bor i) = some i := rfl
theorem Bw (t : Tm) : mJ false t = none := by cases t <;> rfl
theorem vd (e : E3) : bB [] [] e = e := rfl
theorem Ad (o : Option Nat) (sub : List (Option Nat)) (s : Sl) (i e : E3) : bB (o :: sub) (s :: i) e = bB sub i (fi o s e) := rfl
theorem yG (i : Nat) (v : Val) (e : E3) : fi (some i) (.mu v) e = match e[i]? with
  | some t => e.set i (t.re v)
  | none => e := rfl
theorem Bm (s : Sl) (e : E3) : fi none s e = e := rfl
theorem wk (vs : List Val) : aX [] vs = [] := rfl
theorem AD (ms : List Bool) (v : Val) (vs : List Val) : aX (true :: ms) (v :: vs) = .mu v :: aX ms vs := rfl
theorem Cv (ms : List Bool) (vs : List Val) : aX (false :: ms) vs = .no :: aX ms vs := by cases vs <;> rfl
theorem yH (e : E3) : muV [] e = some [] := by cases e <;> rfl
theorem Ek (ms : List Bool) (v : Val) (e : E3) : muV (true :: ms) (.mu v :: e) = (muV ms e).map (v :: ·) := rfl
theorem D1 (ms : List Bool) (s : Sl) (e : E3) : muV (false :: ms) (s :: e) = muV ms e := by cases s <;> rfl
theorem tj (v : Val) : kx (.val v) = cH v := rfl
theorem tE (v : Val) : kx (.new v) = c8 v := rfl
theorem tx (xs : List Val) : c8 (.lst xs) = cE xs := rfl
theorem rj : cE [] = true := by simp [cE]
theorem pR (v : Val) (vs : List Val) : cE (v :: vs) = (cH v && cE vs) := by simp [cE]
theorem ur (i : Int) : cH (.int i) = true := by simp [cH]
theorem u6 (i : Bool) : cH (.bl i) = true := by simp [cH]
theorem sR : cH .non = true := by simp [cH]
theorem sY (xs : List Val) : cH (.tup xs) = cE xs := by simp [cH]
theorem gh {α : Type} {l : List α} {i : Int} {x : α} (h0 : 0 <= i) (h : l[i.toNat]? = some x) : atI l i = some x := by
 have hl := (List.getElem?_eq_some_iff.mp h).1
 unfold atI ixN
 rw [if_pos h0, if_pos (by omega)]
 exact h
theorem lI {n : Nat} {i : Int} (h0 : 0 <= i) (h : i.toNat < n) : ixN n i = some i.toNat := by
 unfold ixN
 rw [if_pos h0, if_pos (by omega)]
section
variable {α : Type} (a b c d e f g h : α) (l : List α)
theorem mK : atI (a :: l) 0 = some a := gh (by decide) rfl
theorem mG : atI (a :: b :: l) 1 = some b := gh (by decide) rfl
theorem pI : atI (a :: b :: c :: l) 2 = some c := gh (by decide) rfl
theorem nK : atI (a :: b :: c :: d :: l) 3 = some d := gh (by decide) rfl
theorem vJ : atI (a :: b :: c :: d :: e :: l) 4 = some e := gh (by decide) rfl
theorem wU : atI (a :: b :: c :: d :: e :: f :: l) 5 = some f := gh (by decide) rfl
end
theorem ixn0 (n : Nat) : ixN (n + 1) 0 = some 0 := lI (i := 0) (by decide) (by show 0 < n + _; omega)
theorem ixn1 (n : Nat) : ixN (n + 2) 1 = some 1 := lI (i := 1) (by decide) (by show 1 < n + _; omega)
theorem Ej (xs : List Val) (k : Int) (v : Val) : seL.G (.lst xs) (.int k) v = match ixN xs.length k with
  | some j => some (.lst (xs.set j v))
  | none => none := rfl
end L3
set_option Elab.async false
set_option linter.all false
set_option maxRecDepth 100000
namespace L3
open PySem PySem.Spec PyProof.Rows L2
mutual
noncomputable def vq : Val -> Val -> Bool
 | .non, .non => true
 | .bl a, .bl b => a == b
 | .bl a, .int j => (if a then 1 else 0) == j
 | .int i, .bl b => i == (if b then 1 else 0)
 | .int i, .int j => i == j
 | .str x, .str y => x == y
 | .tup xs, .tup ys => vqs xs ys
 | .lst xs, .lst ys => vqs xs ys
 | _, _ => false
noncomputable def vqs : List Val -> List Val -> Bool
 | [], [] => true
 | x :: xs, y :: ys => vq x y && vqs xs ys
 | _, _ => false
end
mutual
noncomputable def wfV : Nat -> Val -> Bool
 | _, .non => true
 | _, .bl _ => true
 | _, .int _ => true
 | _, .str x => PyData.strOk x
 | k + 1, .tup xs => cW k xs
 | k + 1, .lst xs => cW k xs
 | _, _ => false
noncomputable def cW : Nat -> List Val -> Bool
 | _, [] => true
 | k, x :: xs => wfV k x && cW k xs
end
mutual
noncomputable def fO : Val -> PyData
 | .bl b => .bool b
 | .int i => .int i
 | .str x => .str x
 | .tup xs => .tuple (dO xs)
 | .lst xs => .list (dO xs)
 | _ => .none
noncomputable def dO : List Val -> List PyData
 | [] => []
 | x :: xs => fO x :: dO xs
end
mutual
theorem mL : ∀ (k : Nat) (v : Val), wfV k v = true -> (∀ j, k < j -> cF j v = some (fO v)) /\ (fO v).canLay0 = true /\ (fO v).depth <= k
 | k, .non, _ => ⟨fun j hj => by cases j with | zero => exact absurd hj (Nat.not_lt_zero _) | succ j => rfl, rfl, Nat.zero_le _⟩
 | k, .bl b, _ => ⟨fun j hj => by cases j with | zero => exact absurd hj (Nat.not_lt_zero _) | succ j => rfl, rfl, Nat.zero_le _⟩
 | k, .int b, _ => ⟨fun j hj => by cases j with | zero => exact absurd hj (Nat.not_lt_zero _) | succ j => rfl, rfl, Nat.zero_le _⟩
 | k, .str b, w => ⟨fun j hj => by cases j with | zero => exact absurd hj (Nat.not_lt_zero _) | succ j => rfl, by cases k <;> exact w, Nat.zero_le _⟩
 | 0, .tup xs, w => absurd w Bool.false_ne_true
 | 0, .lst xs, w => absurd w Bool.false_ne_true
 |
  k + 1, .tup xs, w => by
  obtain ⟨h1, h2, h3⟩ := kU k xs w
  exact ⟨fun j hj => by cases j with | zero => exact absurd hj (Nat.not_lt_zero _) | succ j => simp only [cF, fO, h1 j (Nat.lt_of_succ_lt_succ hj), Option.map_some], h2, by simpa [fO, PyData.depth] using h3⟩
 |
  k + 1, .lst xs, w => by
  obtain ⟨h1, h2, h3⟩ := kU k xs w
  exact ⟨fun j hj => by cases j with | zero => exact absurd hj (Nat.not_lt_zero _) | succ j => simp only [cF, fO, h1 j (Nat.lt_of_succ_lt_succ hj), Option.map_some], h2, by simpa [fO, PyData.depth] using h3⟩
 | k, .ty _, w => by cases k <;> exact absurd w Bool.false_ne_true
 | k, .glb _, w => by cases k <;> exact absurd w Bool.false_ne_true
 | k, .exc _, w => by cases k <;> exact absurd w Bool.false_ne_true
 | k, .kl _, w => by cases k <;> exact absurd w Bool.false_ne_true
 | k, .dct _, w => by cases k <;> exact absurd w Bool.false_ne_true
 | k, .set _, w => by cases k <;> exact absurd w Bool.false_ne_true
theorem kU : ∀ (k : Nat) (vs : List Val), cW k vs = true -> (∀ j, k < j -> dX j vs = some (dO vs)) /\ PyData.canLayAll0 (dO vs) = true /\ PyData.depthAll (dO vs) <= k
 | k, [], _ => ⟨fun j hj => by simp [dX, dO], rfl, Nat.zero_le _⟩
 |
  k, v :: vs, w => by
  have w' : (wfV k v && cW k vs) = true := w
  rw [Bool.and_eq_true] at w'
  obtain ⟨h1, h2, h3⟩ := mL k v w'.1
  obtain ⟨i1, i2, i3⟩ := kU k vs w'.2
  exact ⟨fun j hj => by simp [dX, dO, h1 j hj, i1 j hj], by simp [dO, PyData.canLayAll0, h2, i2], Nat.max_le.mpr ⟨h3, i3⟩⟩
end
mutual
theorem tS : ∀ (k : Nat) (v u : Val), wfV k v = true -> wfV k u = true -> PyData.eqv (fO v) (fO u) = vq v u
 |
  k, v, u, hv, hu => by
  cases v <;> first | (cases k <;> exact absurd hv Bool.false_ne_true) | skip
  all_goals (cases u <;> first | (cases k <;> exact absurd hu Bool.false_ne_true) | rfl | (cases k with | zero => exact absurd hv Bool.false_ne_true | succ k => exact qA k _ _ hv hu))
theorem qA : ∀ (k : Nat) (v u : List Val), cW k v = true -> cW k u = true -> PyData.eqvAll (dO v) (dO u) = vqs v u
 | _, [], [], _, _ => rfl
 | _, [], _ :: _, _, _ => rfl
 | _, _ :: _, [], _, _ => rfl
 |
  k, x :: xs, y :: ys, hv, hu => by
  have h1 : (wfV k x && cW k xs) = true := hv
  have h2 : (wfV k y && cW k ys) = true := hu
  rw [Bool.and_eq_true] at h1 h2
  show (PyData.eqv (fO x) (fO y) && PyData.eqvAll (dO xs) (dO ys)) = (vq x y && vqs xs ys)
  rw [tS k x y h1.1 h2.1, qA k xs ys h1.2 h2.2]
end
theorem xk {x y : Val} (hx : wfV 60 x = true) (hy : wfV 60 y = true) : eY x y = some (vq x y) := by
 obtain ⟨h1, h2, h3⟩ := mL 60 x hx
 obtain ⟨i1, i2, i3⟩ := mL 60 y hy
 unfold eY
 rw [h1 64 (by omega), i1 64 (by omega)]
 dsimp only
 rw [if_pos ⟨m6 h2 (by omega), m6 i2 (by omega)⟩, tS 60 x y hx hy]
mutual
noncomputable def kT : Val -> Bool
 | .bl _ => false
 | .tup xs => hX xs
 | .lst xs => hX xs
 | .non => true
 | .int _ => true
 | .str _ => true
 | _ => false
noncomputable def hX : List Val -> Bool
 | [] => true
 | x :: xs => kT x && hX xs
end
mutual
theorem uo : ∀ (v u : Val), kT v = true -> kT u = true -> (vq v u = true ↔ v = u)
 |
  v, u, hv, hu => by
  cases v <;> first | exact absurd hv Bool.false_ne_true | skip
  all_goals (cases u <;> first | exact absurd hu Bool.false_ne_true | exact ⟨fun z => absurd z Bool.false_ne_true, fun z => nomatch z⟩ | (simp [vq]; done) | skip)
  all_goals
   refine Iff.trans (ql _ _ hv hu) ?_
   constructor
   ·rintro rfl; rfl
   ·intro z; cases z; rfl
theorem ql : ∀ (v u : List Val), hX v = true -> hX u = true -> (vqs v u = true ↔ v = u)
 | [], [], _, _ => ⟨fun _ => rfl, fun _ => rfl⟩
 | [], _ :: _, _, _ => ⟨fun z => absurd z Bool.false_ne_true, fun z => nomatch z⟩
 | _ :: _, [], _, _ => ⟨fun z => absurd z Bool.false_ne_true, fun z => nomatch z⟩
 |
  x :: xs, y :: ys, hv, hu => by
  have h1 : (kT x && hX xs) = true := hv
  have h2 : (kT y && hX ys) = true := hu
  rw [Bool.and_eq_true] at h1 h2
  show (vq x y && vqs xs ys) = true ↔ _
  rw [Bool.and_eq_true, uo x y h1.1 h2.1, ql xs ys h1.2 h2.2, List.cons.injEq]
end
noncomputable def fV (q : Rat) : Val := .tup [.int q.num, .int q.den]
structure Bx where
 l : Rat
 t : Rat
 w : Rat
 h : Rat
structure Bx.Ok (b : Bx) : Prop where
 w : 0 < b.w
 h : 0 < b.h
structure Bx.Sz (n : Nat) (b : Bx) : Prop where
 l : L2.Sz n b.l
 t : L2.Sz n b.t
 w : L2.Sz n b.w
 h : L2.Sz n b.h
noncomputable def bV (b : Bx) : Val := .tup [fV b.l, fV b.t, fV b.w, fV b.h]
theorem A1 {p q : Rat} (e : fV p = fV q) : p = q := by
 unfold fV at e
 simp only [Val.tup.injEq, List.cons.injEq, Val.int.injEq, and_true] at e
 rw [gr p, gr q, e.1, e.2]
theorem xn (q : Rat) (k : Nat) : wfV (k + 1) (fV q) = true := by simp [fV, wfV, cW]
theorem xw (q : Rat) : kT (fV q) = true := by simp [fV, kT, hX]
theorem CZ (p q : Rat) : eY (fV p) (fV q) = some (decide (p = q)) := by
 rw [xk (xn p 59) (xn q 59)]
 congr 1
 rw [Bool.eq_iff_iff, uo _ _ (xw p) (xw q), decide_eq_true_eq]
 exact ⟨A1, fun z => by rw [z]⟩
noncomputable def knV : Val -> Bool
 | .exc _ => false
 | v => (tyC v).isSome
noncomputable def de : Nat -> Val -> Bool
 | k + 1, .tup xs => xs.all (de k)
 | _, v => knV v
noncomputable def gQ : Val -> Bool
 | .int _ => true
 | _ => false
noncomputable def aQ : Val -> Bool
 | .tup [.int a, .int b] => decide (1 <= b) && decide (Int.gcd a b = 1)
 | _ => false
noncomputable def d8 : Val -> Bool
 | .tup (.int a :: _) => decide (0 < a)
 | _ => false
noncomputable def bE : Val -> Bool
 | .tup [a, b, c, d] => aQ a && (aQ b && (aQ c && (aQ d && (d8 c && d8 d))))
 | _ => false
noncomputable def dC : Val -> Bool
 | .int i => decide (1 <= i)
 | _ => false
noncomputable def ek : Val -> Bool
 | .tup _ => true
 | _ => false
theorem EJ {a b : Int} (h1 : 1 <= b) (h2 : Int.gcd a b = 1) : Val.tup [.int a, .int b] = fV ((a : Rat) / (b : Rat)) := by
 have hb : b ≠ 0 := by omega
 have h := lA (a := a) hb
 have s := Fr.self (by omega) h2
 unfold fV
 rw [<- h.1, <- h.2, s.1, s.2]
theorem je (q : Rat) : aQ (fV q) = true := by
 show (decide (1 <= (q.den : Int)) && decide (Int.gcd q.num q.den = 1)) = true
 have := q.den_pos
 rw [decide_eq_true (by omega), decide_eq_true (qM q)]; rfl
theorem tU {d : Val} (h : aQ d = true) : ∃ q, d = fV q := by
 unfold aQ at h
 split at h
 ·simp only [Bool.and_eq_true, decide_eq_true_eq] at h
  exact ⟨_, EJ h.1 h.2⟩
 ·cases h
theorem qb (q : Rat) : d8 (fV q) = decide (0 < q) := by
 show decide (0 < q.num) = decide (0 < q)
 rw [decide_eq_decide]
 exact qR
theorem pB {b : Bx} (h : b.Ok) : bE (bV b) = true := by
 show (aQ (fV b.l) && (aQ (fV b.t) && (aQ (fV b.w) && (aQ (fV b.h) && (d8 (fV b.w) && d8 (fV b.h)))))) = true
 rw [je, je, je, je, qb, qb, decide_eq_true h.w, decide_eq_true h.h]; rfl
theorem oR (b : Bx) : de 2 (bV b) = true := by simp [bV, fV, de, knV, tyC]
theorem kc {g : MG3} {F : ME3} {f : Val -> Val} (P : E3 -> Prop) : ∀ (vs acc : List Val) (e : E3), P e -> (∀ v ∈ vs, ∀ e, P e -> ∃ e1 t e2, g v e = some e1 /\ F e1 = .ok t e2 /\ cB e2 t = some (e2, f v) /\ P e2) -> acc.length + vs.length <= 16777216 -> ∃ e', P e' /\ lcV g cY F vs acc e = .ok (acc ++ vs.map f) e'
 | [], acc, e, hp, _, _ => ⟨e, hp, by simp [lcV]⟩
 |
  v :: vs, acc, e, hp, hf, hl => by
  obtain ⟨e1, t, e2, q1, q2, q3, q4⟩ := hf v (List.mem_cons_self ..) e hp
  obtain ⟨e', p', q5⟩ := kc P vs (acc ++ [f v]) e2 q4 (fun u hu => hf u (List.mem_cons_of_mem _ hu)) (by simp at hl ⊢; omega)
  refine ⟨e', p', ?_⟩
  unfold lcV
  rw [if_pos (by simp at hl; omega), q1]
  simp only [cY, g6, if_true, q2, q3, q5]
  simp
theorem ox {g : MG3} {B : MS3} (P : E3 -> Prop) : ∀ (vs : List Val) (e : E3), P e -> (∀ v ∈ vs, ∀ e, P e -> ∃ e1 e2, g v e = some e1 /\ (B e1 = .nx e2 \/ B e1 = .ct e2) /\ P e2) -> ∃ e', P e' /\ eD g B vs e = .nx e'
 | [], e, hp, _ => ⟨e, hp, rfl⟩
 |
  v :: vs, e, hp, hf => by
  obtain ⟨e1, e2, q1, q2, q3⟩ := hf v (List.mem_cons_self ..) e hp
  obtain ⟨e', p', q4⟩ := ox P vs e2 q3 fun u hu => hf u (List.mem_cons_of_mem _ hu)
  refine ⟨e', p', ?_⟩
  rw [kM, q1]
  rcases q2 with q2 | q2 <;> simp only [q2, rW, xv, q4]
end L3
set_option Elab.async false
set_option linter.all false
set_option maxRecDepth 100000
namespace L3
open PySem PySem.Spec PyProof.Rows L2
theorem iD {α : Type} (f : α -> Val) : ∀ (l : List α) (k : Nat), fT k (l.map f) = (l.zipIdx k).map fun p => .tup [.int (p.2 : Nat), f p.1]
 | [], k => rfl
 |
  a :: l, k => by
  show Val.tup [.int (k : Nat), f a] :: fT (k + 1) (l.map f) = _
  rw [iD f l (k + 1), List.zipIdx_cons]
  rfl
theorem xJ (l : List Val) (k : Nat) : fT k l = (l.zipIdx k).map fun p => .tup [.int (p.2 : Nat), p.1] := by
 have := iD id l k
 rwa [List.map_id] at this
noncomputable def rgV (k : Nat) : List Val := (List.range k).map fun j => Val.int (j : Nat)
theorem qI {k : Nat} (h : k < 1000000) : jc [.int (k : Nat)] = some (rgV k) := by
 simp only [jc]
 rw [if_pos (⟨by omega, by omega⟩ : RgB _), Int.toNat_natCast]
 unfold rE rgV
 simp only [Int.zero_add]
theorem j9 {i : Int} (h0 : 0 <= i) (h : i < 1000000) : jc [.int i] = some (rgV i.toNat) := by
 have := qI (k := i.toNat) (by omega)
 rwa [show ((i.toNat : Nat) : Int) = i from by omega] at this
noncomputable def fdS {α : Type} (r : α -> Rt) (e : E3) : Option α -> SR3
 | some a => .rt (r a) e
 | none => .nx e
theorem gH {α : Type} (r : α -> Rt) (e : E3) (a : α) : fdS r e (some a) = .rt (r a) e := rfl
theorem gA {α : Type} (r : α -> Rt) (e : E3) : fdS r e none = .nx e := rfl
theorem eH {g : MG3} {B : MS3} {α : Type} (f : α -> Val) (p : α -> Bool) (r : α -> Rt) (P : E3 -> Prop) : ∀ (l : List α) (e : E3), P e -> (∀ a ∈ l, ∀ e, P e -> ∃ e1 e2, g (f a) e = some e1 /\ P e2 /\ ((p a = true /\ B e1 = .rt (r a) e2) \/ (p a = false /\ (B e1 = .nx e2 \/ B e1 = .ct e2)))) -> ∃ e', P e' /\ eD g B (l.map f) e = fdS r e' (l.find? p)
 | [], e, hp, _ => ⟨e, hp, rfl⟩
 |
  a :: l, e, hp, hf => by
  obtain ⟨e1, e2, q1, q2, q3⟩ := hf a (List.mem_cons_self ..) e hp
  rw [List.map_cons, kM, q1]
  rcases q3 with ⟨c, q3⟩ | ⟨c, q3⟩
  ·exact ⟨e2, q2, by rw [List.find?_cons, c]; simp only [q3, CS, fdS]⟩
  ·obtain ⟨e', p', q4⟩ := eH f p r P l e2 q2 fun u hu => hf u (List.mem_cons_of_mem _ hu)
   refine ⟨e', p', ?_⟩
   rw [List.find?_cons, c]
   rcases q3 with q3 | q3 <;> simp only [q3, rW, xv, q4]
theorem oI {g : MG3} {F : ME3} {α : Type} (fv fw : α -> Val) (P : E3 -> Prop) : ∀ (l : List α) (acc : List Val) (e : E3), P e -> (∀ a ∈ l, ∀ e, P e -> ∃ e1 t e2, g (fv a) e = some e1 /\ F e1 = .ok t e2 /\ cB e2 t = some (e2, fw a) /\ P e2) -> acc.length + l.length <= 16777216 -> ∃ e', P e' /\ lcV g qY.G F (l.map fv) acc e = .ok (acc ++ l.map fw) e'
 | [], acc, e, hp, _, _ => ⟨e, hp, by simp [lcV]⟩
 |
  v :: vs, acc, e, hp, hf, hl => by
  obtain ⟨e1, t, e2, q1, q2, q3, q4⟩ := hf v (List.mem_cons_self ..) e hp
  obtain ⟨e', p', q5⟩ := oI fv fw P vs (acc ++ [fw v]) e2 q4 (fun u hu => hf u (List.mem_cons_of_mem _ hu)) (by simp at hl ⊢; omega)
  refine ⟨e', p', ?_⟩
  rw [List.map_cons]
  unfold lcV
  have cy : qY.G = cY := rfl
  rw [cy] at q5 ⊢
  rw [if_pos (by simp at hl; omega), q1]
  simp only [cY, g6, if_true, q2, q3, q5]
  simp
theorem j4 {g : MG3} {F : ME3} {β : Type} (fw : β -> Val) (R : β -> Prop) (P : E3 -> Prop) : ∀ (vs acc : List Val) (e : E3), P e -> (∀ v ∈ vs, ∀ e, P e -> ∃ e1 t e2 b, g v e = some e1 /\ F e1 = .ok t e2 /\ cB e2 t = some (e2, fw b) /\ P e2 /\ R b) -> acc.length + vs.length <= 16777216 -> ∃ (e' : E3) (bs : List β), P e' /\ bs.length = vs.length /\ (∀ b ∈ bs, R b) /\ lcV g qY.G F vs acc e = .ok (acc ++ bs.map fw) e'
 | [], acc, e, hp, _, _ => ⟨e, [], hp, rfl, (fun _ h => nomatch h), by simp [lcV]⟩
 |
  v :: vs, acc, e, hp, hf, hl => by
  obtain ⟨e1, t, e2, b, q1, q2, q3, q4, q5⟩ := hf v (List.mem_cons_self ..) e hp
  obtain ⟨e', bs, p', hlen, hR, q6⟩ := j4 fw R P vs (acc ++ [fw b]) e2 q4 (fun u hu => hf u (List.mem_cons_of_mem _ hu)) (by simp at hl ⊢; omega)
  refine ⟨e', b :: bs, p', by simp [hlen], ?_, ?_⟩
  ·intro u hu
   rcases List.mem_cons.mp hu with rfl | hu
   ·exact q5
   ·exact hR u hu
  ·unfold lcV
   have cy : qY.G = cY := rfl
   rw [cy] at q6 ⊢
   rw [if_pos (by simp at hl; omega), q1]
   simp only [cY, g6, if_true, q2, q3, q6]
   simp
theorem tT (v : Val) : inS (.mu v) = .mu v := rfl
theorem Ak (v : Val) : inS (.ow v) = .mu v := rfl
theorem Bf (v : Val) : inS (.sh v) = .sh v := rfl
theorem kG (k : Nat) : ∀ xs : List Val, cW k xs = xs.all (wfV k)
 | [] => by simp [cW]
 | x :: xs => by simp [cW, kG k xs]
mutual
theorem oY : ∀ (k : Nat) (v : Val), wfV k v = true -> wfV (k + 1) v = true
 | k, .non, _ => by simp [wfV]
 | k, .bl _, _ => by simp [wfV]
 | k, .int _, _ => by simp [wfV]
 | k, .str x, h => by cases k <;> simpa [wfV] using h
 | 0, .tup _, h => by simp [wfV] at h
 | 0, .lst _, h => by simp [wfV] at h
 |
  k + 1, .tup xs, h => by
  have := jN k xs (by simpa [wfV] using h)
  simpa [wfV] using this
 |
  k + 1, .lst xs, h => by
  have := jN k xs (by simpa [wfV] using h)
  simpa [wfV] using this
 | k, .ty _, h => by cases k <;> simp [wfV] at h
 | k, .glb _, h => by cases k <;> simp [wfV] at h
 | k, .exc _, h => by cases k <;> simp [wfV] at h
 | k, .kl _, h => by cases k <;> simp [wfV] at h
 | k, .dct _, h => by cases k <;> simp [wfV] at h
 | k, .set _, h => by cases k <;> simp [wfV] at h
theorem jN : ∀ (k : Nat) (vs : List Val), cW k vs = true -> cW (k + 1) vs = true
 | k, [], _ => by simp [cW]
 |
  k, v :: vs, h => by
  have h' : wfV k v = true /\ cW k vs = true := by simpa [cW] using h
  simp only [cW, oY k v h'.1, jN k vs h'.2, Bool.and_self]
end
theorem Br {k m : Nat} {v : Val} (h : wfV k v = true) (l : k <= m) : wfV m v = true := by
 induction l with
 | refl => exact h
 | step _ ih => exact oY _ _ ih
theorem yC {xs : List Val} {k : Nat} (hw : wfV k (.lst xs) = true) (hk : k <= 60) : eY (.lst xs) (.lst []) = some (decide (xs = [])) := by
 rw [xk (Br hw hk) (by simp [wfV, cW])]
 cases xs <;> rfl
theorem yT (i : Nat) (v : Val) (e : E3) : fi (some i) (.sh v) e = e := rfl
theorem As (b : Bool) : sH (.bl b) = some b := rfl
noncomputable def rZ (ms : List Bool) (r : SR3) : R3F := match r with
 | .nx e => (match muV ms e with | some mv => .ok (.val .non) mv | none => .stuck)
 | .rt r e => (match muV ms e with | some mv => .ok r mv | none => .stuck)
 | .exc c e => (match muV ms e with | some mv => .exc c mv | none => .stuck)
 | _ => .stuck
theorem xp {ms : List Bool} {N : Nat} {c : PSt} {vs : List Val} (h : vs.length = ms.length) : (fnP ms N c).G vs = rZ ms (c.G (sls ms vs ++ List.replicate (N - vs.length) .no)) := by
 rw [bF, if_pos h]; rfl
theorem rB (ms : List Bool) (r : Rt) (e : E3) : rZ ms (.rt r e) = match muV ms e with | some mv => .ok r mv | none => .stuck := rfl
theorem bD {Q : SR3 -> Prop} (I : E3 -> Prop) {a b : PSt} {e : E3} (h1 : ∃ e1, a.G e = .nx e1 /\ I e1) (h2 : ∀ e1, I e1 -> Q (b.G e1)) : Q ((aD a b).G e) := by
 obtain ⟨e1, q, i⟩ := h1
 rw [xb, q]
 exact h2 e1 i
theorem iV (i : Int) : Val.tup [.int i, .int 1] = fV (i : Rat) := rfl
theorem sm8 {m : Int} (h : m.natAbs < 1099511627776) : Sm 8000 m := Nat.lt_of_lt_of_le (show m.natAbs < 2 ^ 40 from h) (Nat.pow_le_pow_right (by decide) (by decide))
theorem lu {m : Int} (h : m.natAbs <= 2000000000000000000000000000000) : Sm 101 m := by unfold Sm; exact Nat.lt_of_le_of_lt h (by decide)
theorem fF {m : Int} (h : m.natAbs <= 2000000000000000000000000000000) : Sz 101 (m : Rat) := ⟨lu h, lu (by show (1 : Int).natAbs <= _; decide)⟩
theorem gu {a b : Int} (hb : b ≠ 0) (h1 : a.natAbs <= 2000000000000000000000000000000) (h2 : b.natAbs <= 2000000000000000000000000000000) : Sz 101 ((a : Rat) / (b : Rat)) := Sz.div hb (lu h1) (lu h2) 101 (Nat.le_refl _) (Nat.le_refl _)
theorem fg {m : Int} (h : 0 < m) : (0 : Rat) < (m : Rat) := Rat.intCast_pos.mpr h
theorem kQ {a b : Int} (h1 : 0 < a) (h2 : 0 < b) : (0 : Rat) < (a : Rat) / (b : Rat) := by
 rw [Rat.div_def]
 exact Rat.mul_pos (fg h1) (Rat.inv_pos.mpr (fg h2))
structure Good (b : Bx) : Prop where
 ok : b.Ok
 sz : b.Sz 101
theorem kr {m : Int} (h : m.natAbs <= 2000000000000000000000000000000) : Sm 8000 m := (lu h).mono (by decide)
end L3
set_option Elab.async false
set_option linter.all false
set_option maxRecDepth 100000
namespace L3
open PySem PySem.Spec PyProof.Rows L2
section
variable {K : PySem.W.Frag} {mg : Str -> Option Value} {X : Cx} {ES : L2.St -> XK} {e : Expr} {es : List Expr} {A : PAs} {pos : Pos}
end
end L3
set_option Elab.async false
set_option linter.all false
set_option maxRecDepth 100000
namespace L3
open PySem PySem.Spec PyProof.Rows L2
section
variable {K : PySem.W.Frag} {mg : Str -> Option Value} {X : Cx} {ES : L2.St -> XK} {e a b c o lo hi : Expr} {p q r : PEx} {pos p1 p2 : Pos}
end
theorem ar1 {α : Type} {P : List α -> Prop} (h : ∀ a, P [a]) : ∀ us : List α, us.length = 1 -> P us
 | [a], _ => h a
theorem ar2 {α : Type} {P : List α -> Prop} (h : ∀ a b, P [a, b]) : ∀ us : List α, us.length = 2 -> P us
 | [a, b], _ => h a b
theorem ar3 {α : Type} {P : List α -> Prop} (h : ∀ a b c, P [a, b, c]) : ∀ us : List α, us.length = 3 -> P us
 | [a, b, c], _ => h a b c
end L3
set_option Elab.async false
set_option linter.all false
set_option maxRecDepth 100000
set_option maxHeartbeats 4000000
namespace KK
open PySem PySem.Spec PyProof.Rows L2 L3
theorem gO : bootBuiltins "abs" = some (.builtin "abs") := by decide +kernel
theorem nN : bootBuiltins "all" = some (.builtin "all") := by decide +kernel
theorem qg : bootBuiltins "bool" = some (.type "bool") := by decide +kernel
theorem n9 : bootBuiltins "int" = some (.type "int") := by decide +kernel
theorem aU : bootBuiltins "isinstance" = some (.builtin "isinstance") := by decide +kernel
theorem dW : bootBuiltins "len" = some (.builtin "len") := by decide +kernel
theorem ma : bootBuiltins "list" = some (.type "list") := by decide +kernel
theorem Cm : bootBuiltins "max" = some (.builtin "max") := by decide +kernel
theorem AX : bootBuiltins "min" = some (.builtin "min") := by decide +kernel
theorem A7 : bootBuiltins "sum" = some (.builtin "sum") := by decide +kernel
theorem iO : bootBuiltins "tuple" = some (.type "tuple") := by decide +kernel
noncomputable def top (i : Nat) : Stmt := PySem.Challenge.pw_weightrooms_k09_looked_at_refused.main.body.getD i (.Pass ⟨0, 0, 0, 0⟩)
abbrev js : Stmt := top 33
theorem pO : FnScope ["_law_script", "_law_k"] ["_law_script", "_law_k"] (ay js) := ⟨rfl, rfl, rfl, by decide +kernel, rfl, by decide +kernel, by decide +kernel⟩
abbrev jE : Stmt := top 34
theorem fD : FnScope ["_law_feed_here", "_law_many", "_law_digit", "_law_mixed"] ["_law_feed_here", "_law_many"] (ay jE) := ⟨rfl, rfl, rfl, by decide +kernel, rfl, by decide +kernel, by decide +kernel⟩
abbrev jV : Stmt := top 36
theorem fY : FnScope ["_law_top", "_law_bottom", "_law_one", "_law_two"] ["_law_top", "_law_bottom"] (ay jV) := ⟨rfl, rfl, rfl, by decide +kernel, rfl, by decide +kernel, by decide +kernel⟩
abbrev iw : Stmt := top 35
theorem eU : FnScope ["_law_feed_here", "_law_far", "_law_number", "_law_k"] ["_law_feed_here", "_law_far"] (ay iw) := ⟨rfl, rfl, rfl, by decide +kernel, rfl, by decide +kernel, by decide +kernel⟩
abbrev jo : Stmt := top 37
theorem bp : FnScope ["_law_feed_here", "_law_way", "_law_left", "_law_top", "_law_wide", "_law_high", "_law_far"] ["_law_feed_here"] (ay jo) := ⟨rfl, rfl, rfl, by decide +kernel, rfl, by decide +kernel, by decide +kernel⟩
abbrev gk : Stmt := top 38
theorem fy : FnScope ["_law_feed_here", "_law_many", "_law_some", "_law_way"] ["_law_feed_here"] (ay gk) := ⟨rfl, rfl, rfl, by decide +kernel, rfl, by decide +kernel, by decide +kernel⟩
abbrev f6 : Stmt := top 39
theorem pU : FnScope ["_law_thing"] ["_law_thing"] (ay f6) := ⟨rfl, rfl, rfl, by decide +kernel, rfl, by decide +kernel, by decide +kernel⟩
abbrev jl : Stmt := top 12
theorem pP : FnScope ["thing"] ["thing"] (ay jl) := ⟨rfl, rfl, rfl, by decide +kernel, rfl, by decide +kernel, by decide +kernel⟩
abbrev eB : Stmt := top 13
theorem dR : FnScope ["one", "other"] ["one", "other"] (ay eB) := ⟨rfl, rfl, rfl, by decide +kernel, rfl, by decide +kernel, by decide +kernel⟩
abbrev fM : Stmt := top 14
theorem fq : FnScope ["thing", "top", "bottom"] ["thing"] (ay fM) := ⟨rfl, rfl, rfl, by decide +kernel, rfl, by decide +kernel, by decide +kernel⟩
abbrev jm : Stmt := top 21
theorem tZ : FnScope ["thing"] ["thing"] (ay jm) := ⟨rfl, rfl, rfl, by decide +kernel, rfl, by decide +kernel, by decide +kernel⟩
abbrev ic : Stmt := top 22
theorem oD : FnScope ["thing"] ["thing"] (ay ic) := ⟨rfl, rfl, rfl, by decide +kernel, rfl, by decide +kernel, by decide +kernel⟩
abbrev iA : Stmt := top 23
theorem oJ : FnScope ["thing"] ["thing"] (ay iA) := ⟨rfl, rfl, rfl, by decide +kernel, rfl, by decide +kernel, by decide +kernel⟩
abbrev dE : Stmt := top 24
theorem kX : FnScope ["thing"] ["thing"] (ay dE) := ⟨rfl, rfl, rfl, by decide +kernel, rfl, by decide +kernel, by decide +kernel⟩
abbrev jA : Stmt := top 15
theorem iu : FnScope ["top", "bottom", "divisor"] ["top", "bottom"] (ay jA) := ⟨rfl, rfl, rfl, by decide +kernel, rfl, by decide +kernel, by decide +kernel⟩
abbrev mq : Stmt := top 17
theorem uC : FnScope ["one", "other"] ["one", "other"] (ay mq) := ⟨rfl, rfl, rfl, by decide +kernel, rfl, by decide +kernel, by decide +kernel⟩
abbrev oZ : Stmt := top 25
theorem yw : FnScope ["box"] ["box"] (ay oZ) := ⟨rfl, rfl, rfl, by decide +kernel, rfl, by decide +kernel, by decide +kernel⟩
abbrev mM : Stmt := top 16
theorem vo : FnScope ["one", "other"] ["one", "other"] (ay mM) := ⟨rfl, rfl, rfl, by decide +kernel, rfl, by decide +kernel, by decide +kernel⟩
abbrev l8 : Stmt := top 28
theorem gE : FnScope ["box", "left", "top", "wide", "high"] ["box"] (ay l8) := ⟨rfl, rfl, rfl, by decide +kernel, rfl, by decide +kernel, by decide +kernel⟩
abbrev jW : Stmt := top 18
theorem rf : FnScope ["one", "other"] ["one", "other"] (ay jW) := ⟨rfl, rfl, rfl, by decide +kernel, rfl, by decide +kernel, by decide +kernel⟩
abbrev fP : Stmt := top 29
theorem br : FnScope ["room", "box", "left", "right", "top", "bottom", "begin", "end", "upper", "lower"] ["room", "box"] (ay fP) := ⟨rfl, rfl, rfl, by decide +kernel, rfl, by decide +kernel, by decide +kernel⟩
abbrev cz : Stmt := top 30
theorem aJ : FnScope ["one", "other", "left", "right", "top", "bottom", "begin", "end", "upper", "lower"] ["one", "other"] (ay cz) := ⟨rfl, rfl, rfl, by decide +kernel, rfl, by decide +kernel, by decide +kernel⟩
abbrev eR : Stmt := top 31
theorem dm : FnScope ["boxes", "drawn", "at", "later", "ahead"] ["boxes"] (ay eR) := ⟨rfl, rfl, rfl, by decide +kernel, rfl, by decide +kernel, by decide +kernel⟩
abbrev mx : Stmt := top 27
theorem ez : FnScope ["room", "weights", "boxes", "at", "box"] ["room", "weights", "boxes"] (ay mx) := ⟨rfl, rfl, rfl, by decide +kernel, rfl, by decide +kernel, by decide +kernel⟩
abbrev iB : Stmt := top 40
theorem cq : FnScope ["_law_room_here", "_law_weights", "_law_boxes", "_law_caught", "_law_found", "e", "_law_some"] ["_law_room_here", "_law_weights", "_law_boxes"] (ay iB) := ⟨rfl, rfl, rfl, by decide +kernel, rfl, by decide +kernel, by decide +kernel⟩
abbrev lF : Stmt := top 41
theorem cG : FnScope ["_law_script", "_law_k", "_law_feed_here", "_law_room_here", "_law_boxes", "_law_is_right", "_law_below", "_law_odd", "_law_weights", "_law_due"] ["_law_script"] (ay lF) := ⟨rfl, rfl, rfl, by decide +kernel, rfl, by decide +kernel, by decide +kernel⟩
noncomputable def kits : eI := [((.o "NoFraction"), (.o "NoBox"), false), ((.o "NoBox"), (.o "NoBox"), true), ((.o "NoWeights"), (.o "NoBox"), false), ((.o "TooMany"), (.o "NoBox"), false), ((.o "NoFraction"), (.o "NoRule"), false), ((.o "NoBox"), (.o "NoRule"), false), ((.o "NoWeights"), (.o "NoRule"), false), ((.o "TooMany"), (.o "NoRule"), false), ((.o "NoFraction"), (.o "NoText"), false), ((.o "NoBox"), (.o "NoText"), false), ((.o "NoWeights"), (.o "NoText"), false), ((.o "TooMany"), (.o "NoText"), false), ((.o "NoFraction"), (.o "NoTree"), false), ((.o "NoBox"), (.o "NoTree"), false), ((.o "NoWeights"), (.o "NoTree"), false), ((.o "TooMany"), (.o "NoTree"), false), ((.o "NoFraction"), (.o "NoWay"), false), ((.o "NoBox"), (.o "NoWay"), false), ((.o "NoWeights"), (.o "NoWay"), false), ((.o "TooMany"), (.o "NoWay"), false), ((.o "NoFraction"), (.o "NoWeights"), false), ((.o "NoBox"), (.o "NoWeights"), false), ((.o "NoWeights"), (.o "NoWeights"), true), ((.o "TooMany"), (.o "NoWeights"), false), ((.o "NoFraction"), (.o "TooMany"), false), ((.o "NoBox"), (.o "TooMany"), false), ((.o "NoWeights"), (.o "TooMany"), false), ((.o "TooMany"), (.o "TooMany"), true), ((.o "NoFraction"), (.o "Unknown"), false), ((.o "NoBox"), (.o "Unknown"), false), ((.o "NoWeights"), (.o "Unknown"), false), ((.o "TooMany"), (.o "Unknown"), false), ((.b "NoneType"), (.b "bool"), false), ((.b "bool"), (.b "bool"), true), ((.b "int"), (.b "bool"), false), ((.b "str"), (.b "bool"), false), ((.b "tuple"), (.b "bool"), false), ((.b "list"), (.b "bool"), false), ((.b "dict"), (.b "bool"), false), ((.b "NoneType"), (.b "int"), false), ((.b "bool"), (.b "int"), true), ((.b "int"), (.b "int"), true), ((.b "str"), (.b "int"), false), ((.b "tuple"), (.b "int"), false), ((.b "list"), (.b "int"), false), ((.b "dict"), (.b "int"), false), ((.b "NoneType"), (.b "list"), false), ((.b "bool"), (.b "list"), false), ((.b "int"), (.b "list"), false), ((.b "str"), (.b "list"), false), ((.b "tuple"), (.b "list"), false), ((.b "list"), (.b "list"), true), ((.b "dict"), (.b "list"), false), ((.b "NoneType"), (.b "tuple"), false), ((.b "bool"), (.b "tuple"), false), ((.b "int"), (.b "tuple"), false), ((.b "str"), (.b "tuple"), false), ((.b "tuple"), (.b "tuple"), true), ((.b "list"), (.b "tuple"), false), ((.b "dict"), (.b "tuple"), false)]
noncomputable def cC : List Str := ["NoFraction", "NoBox", "NoWeights", "TooMany"]
noncomputable def ft : D := (.int 40)
structure Txt (K : PySem.W.Frag) (mg : Str -> Option Value) (a_RoomError : Addr) (a_NoFraction : Addr) (a_NoBox : Addr) (a_NoWay : Addr) (a_NoWeights : Addr) (a_TooMany : Addr) (a_NoTree : Addr) (a_NoRule : Addr) (a_Unknown : Addr) (a_NoText : Addr) : Prop where
 g_MOST_WEIGHTS : GC K mg "MOST_WEIGHTS" ft
 m_NoBox : mg "NoBox" = some (.ref a_NoBox)
 m_NoFraction : mg "NoFraction" = some (.ref a_NoFraction)
 m_NoRule : mg "NoRule" = some (.ref a_NoRule)
 m_NoText : mg "NoText" = some (.ref a_NoText)
 m_NoTree : mg "NoTree" = some (.ref a_NoTree)
 m_NoWay : mg "NoWay" = some (.ref a_NoWay)
 m_NoWeights : mg "NoWeights" = some (.ref a_NoWeights)
 m_RoomError : mg "RoomError" = some (.ref a_RoomError)
 m_TooMany : mg "TooMany" = some (.ref a_TooMany)
 m_Unknown : mg "Unknown" = some (.ref a_Unknown)
 n_abs : mg "abs" = none
 n_all : mg "all" = none
 n_bool : mg "bool" = none
 n_enumerate : mg "enumerate" = none
 n_int : mg "int" = none
 n_isinstance : mg "isinstance" = none
 n_len : mg "len" = none
 n_list : mg "list" = none
 n_max : mg "max" = none
 n_min : mg "min" = none
 n_range : mg "range" = none
 n_sum : mg "sum" = none
 n_tuple : mg "tuple" = none
 h_RoomError : XHand K a_RoomError
 r_RoomError : ∀ c ∈ cC, ∀ Ce, mg c = some (.ref Ce) -> PySem.W.mroIn K Ce (.ref a_RoomError) = some true
 x_NoFraction : PySem.W.excIn K a_NoFraction fk "ValueError.__new__" = true
 x_NoBox : PySem.W.excIn K a_NoBox fk "ValueError.__new__" = true
 x_NoWeights : PySem.W.excIn K a_NoWeights fk "ValueError.__new__" = true
 x_TooMany : PySem.W.excIn K a_TooMany fk "ValueError.__new__" = true
 kits : KitsOk K mg kits
section
variable {P : Program} {w : World} {K : PySem.W.Frag} {mg : Str -> Option Value} {base : Heap} {a_RoomError a_NoFraction a_NoBox a_NoWay a_NoWeights a_TooMany a_NoTree a_NoRule a_Unknown a_NoText : Addr}
noncomputable def eT : PEx := sU ft (.int 40) (fun _ _ => .int _)
theorem lG (e : E3) : eT.G e = .ok (.val (.int 40)) e := rfl
noncomputable def ji : PSt :=
 (aD (xIf (qOf (pOp bEq (pFn d7 (af (ai 0) ao)) (aq 0))) (aW (d9 (af (aq 0) (af (aq 0) (af (ai 1) ao))))) xNx)
  (aW (d9 (af (pOp bIx (ai 0) (pOp cS (ai 1) (pFn d7 (af (ai 0) ao)))) (af (aq 0) (af (ai 1) ao))))))
noncomputable def df : PFn := fnP [false, false] 2 ji
theorem pV : df.ms = [false, false] := rfl
theorem oq (T : Txt K mg a_RoomError a_NoFraction a_NoBox a_NoWay a_NoWeights a_TooMany a_NoTree a_NoRule a_Unknown a_NoText) (D : Def K mg "_law_feed" js)  : Callee P w K mg base "_law_feed" (0 + 1) ["_law_script", "_law_k"] (spD K mg 2 df.F) := by
 unfold df ji
 exact okP D pO (fun _ _ _ _ _ _ => ar2 fun _ _ => rfl) fun f cdv A outer s H E hr =>
  (av (aV (ba (gY (K := K) rfl hr.units) eN (aE (fA (K := K) rfl) dU rfl T.n_len dW (aa (ag 0) ah)) aj (aP _)) (ax (aG (dh (aa aj (aa aj (aa (ag 1) ah)))))) aK)
   (ax (aG (dh (aa (aN (ixK (K := K) rfl) aM (ag 0) (aC dz dZ (ag 1) (aE (fA (K := K) rfl) dU rfl T.n_len dW (aa (ag 0) ah))) (fun _ _ => rfl)) (aa aj (aa (ag 1) ah)))))))
noncomputable def iP : PSt :=
 (aD (nO 0 seL (aq 1) (pOp bO (pOp bIx (ai 0) (aq 1)) (aq 1)))
  (aD (xIf (qOf (pOp bGe (pOp bIx (ai 0) (aq 0)) (pOp jC (aq 10) (aq 18)))) (aD (bc false 2 (pOp cS (pOp bIx (ai 0) (aq 0)) (ai 1)))
  (aD (nO 0 seL (aq 0) (pOp kZ (pOp bIx (ai 0) (aq 0)) (ai 1)))
  (aW (ai 2)))) xNx)
  (aD (bc false 3 (pOp bO (pOp bO (pOp cS (pOp bIx (ai 0) (aq 0)) (aq 1000003)) (pOp cZ (aq 7919) (pOp bIx (ai 0) (aq 2)))) (pOp cZ (aq 104729) (pOp bIx (ai 0) (aq 1)))))
  (aD (bc false 3 (pOp cS (pOp cZ (ai 3) (aq 48271)) (aq 2147483647)))
  (aW (pOp cS (pOp cS (pOp cZ (ai 3) (pOp bO (pOp cS (ai 3) (aq 65521)) (pOp bIx (ai 0) (aq 1)))) (aq 2147483629)) (ai 1)))))))
noncomputable def aA : PFn := fnP [true, false] 4 iP
theorem pQ : aA.ms = [true, false] := rfl
theorem ph (T : Txt K mg a_RoomError a_NoFraction a_NoBox a_NoWay a_NoWeights a_TooMany a_NoTree a_NoRule a_Unknown a_NoText) (D : Def K mg "_law_next" jE)  : Callee P w K mg base "_law_next" (0 + 1) ["_law_feed_here", "_law_many"] (spD K mg 2 aA.F) := by
 unfold aA iP
 exact okP D fD (fun _ _ _ _ _ _ => ar2 fun _ _ => rfl) fun f cdv A outer s H E hr =>
  (av (lW (aC (bw (K := K) rfl) bt (aN (ixK (K := K) rfl) aM (ag 0) aj (fun _ _ => rfl)) aj) (ag 0) aj kB mP)
   (av (aV (ba rV sM (aN (ixK (K := K) rfl) aM (ag 0) aj (fun _ _ => rfl)) (aC ll lH aj aj) (aP _)) (av (aS (i := 2) fD.nd rfl (by first | exact Or.inl rfl | exact Or.inr rfl) (aC dz dZ (aN (ixK (K := K) rfl) aM (ag 0) aj (fun _ _ => rfl)) (ag 1)))
   (av (lW (aC gB jZ (aN (ixK (K := K) rfl) aM (ag 0) aj (fun _ _ => rfl)) (ag 1)) (ag 0) aj kB mP)
   (ax (aG (ag 2))))) aK)
   (av (aS (i := 3) fD.nd rfl (by first | exact Or.inl rfl | exact Or.inr rfl) (aC (bw (K := K) rfl) bt (aC (bw (K := K) rfl) bt (aC dz dZ (aN (ixK (K := K) rfl) aM (ag 0) aj (fun _ _ => rfl)) aj) (aC cQ cR aj (aN (ixK (K := K) rfl) aM (ag 0) aj (fun _ _ => rfl)))) (aC cQ cR aj (aN (ixK (K := K) rfl) aM (ag 0) aj (fun _ _ => rfl)))))
   (av (aS (i := 3) fD.nd rfl (by first | exact Or.inl rfl | exact Or.inr rfl) (aC dz dZ (aC cQ cR (ag 3) aj) aj))
   (ax (aG (aC dz dZ (aC dz dZ (aC cQ cR (ag 3) (aC (bw (K := K) rfl) bt (aC dz dZ (ag 3) aj) (aN (ixK (K := K) rfl) aM (ag 0) aj (fun _ _ => rfl)))) aj) (ag 1))))))))
noncomputable def eO : PSt :=
 (fR 2 3 (af (ai 3) (af (pOp cS (ai 2) (ai 3)) ao)))
noncomputable def jU : PSt :=
 (aD (fR 2 3 (af (pFn gf (af (ai 0) ao)) (af (pFn gf (af (ai 1) ao)) ao)))
  (aD (xWh (qOf (pOp bGt (ai 3) (aq 0))) (eO))
  (aD (xIf (qOf (pOp bLt (ai 1) (aq 0))) (bc false 2 (pOp eL (aq 0) (ai 2))) xNx)
  (aW (bT (af (pOp kZ (ai 0) (ai 2)) (af (pOp kZ (ai 1) (ai 2)) ao)))))))
noncomputable def bL : PFn := fnP [false, false] 4 jU
theorem sF : bL.ms = [false, false] := rfl
theorem pX (T : Txt K mg a_RoomError a_NoFraction a_NoBox a_NoWay a_NoWeights a_TooMany a_NoTree a_NoRule a_Unknown a_NoText) (D : Def K mg "_law_low" jV)  : Callee P w K mg base "_law_low" (0 + 1) ["_law_top", "_law_bottom"] (spD K mg 2 bL.F) := by
 unfold bL jU eO
 exact okP D fY (fun _ _ _ _ _ _ => ar2 fun _ _ => rfl) fun f cdv A outer s H E hr =>
  (av (dS (i := 2) (j := 3) rfl fY.nd rfl rfl (by decide) rfl rfl (aa (aE eh gF rfl T.n_abs gO (aa (ag 0) ah)) (aa (aE eh gF rfl T.n_abs gO (aa (ag 1) ah)) ah)) rfl)
   (av (oU iU (ba jf jh (ag 3) aj (aP _)) (ax (dS (i := 2) (j := 3) rfl fY.nd rfl rfl (by decide) rfl rfl (aa (ag 3) (aa (aC dz dZ (ag 2) (ag 3)) ah)) rfl)))
   (av (aV (ba nI nD (ag 1) aj (aP _)) (ax (aS (i := 2) fY.nd rfl (by first | exact Or.inl rfl | exact Or.inr rfl) (aC dw dk aj (ag 2)))) aK)
   (ax (aG (bf (aa (aC gB jZ (ag 0) (ag 2)) (aa (aC gB jZ (ag 1) (ag 2)) ah))))))))
noncomputable def gy : PSt :=
 (bc false 2 (pOp bO (pOp cZ (ai 2) (pOp jC (aq 10) (aq 6))) (az aA (af (ai 0) (af (pOp jC (aq 10) (aq 6)) ao)))))
noncomputable def ir : PSt :=
 (aD (bc false 2 (aq 0))
  (aD (iW (jw (af (aq 6) ao)) (gtN 3) (gy))
  (aW (pOp eL (pOp cS (ai 2) (pOp bO (pOp cZ (aq 2) (ai 1)) (aq 1))) (ai 1)))))
noncomputable def bA : PFn := fnP [true, false] 4 ir
theorem oV : bA.ms = [true, false] := rfl
theorem ng (T : Txt K mg a_RoomError a_NoFraction a_NoBox a_NoWay a_NoWeights a_TooMany a_NoTree a_NoRule a_Unknown a_NoText) (D : Def K mg "_law_great" iw) (c_law_next : Callee P w K mg base "_law_next" 1 ["_law_feed_here", "_law_many"] (spD K mg 2 aA.F)) : Callee P w K mg base "_law_great" (1 + 1) ["_law_feed_here", "_law_far"] (spD K mg 2 bA.F) := by
 unfold bA ir gy
 exact okP D eU (fun _ _ _ _ _ _ => ar2 fun _ _ => rfl) fun f cdv A outer s H E hr =>
  (av (aS (i := 2) eU.nd rfl (by first | exact Or.inl rfl | exact Or.inr rfl) aj)
   (av (gU iU rfl (fG rfl T.n_range (aa aj ah)) (aF (i := 3) eU.nd rfl (by first | exact Or.inl rfl | exact Or.inr rfl)) (ax (aS (i := 2) eU.nd rfl (by first | exact Or.inl rfl | exact Or.inr rfl) (aC (bw (K := K) rfl) bt (aC cQ cR (ag 2) (aC ll lH aj aj)) (au c_law_next (hr.mono (by omega)) rfl (ak aB) (aa (ag 0) (aa (aC ll lH aj aj) ah)))))))
   (ax (aG (aC dw dk (aC dz dZ (ag 2) (aC (bw (K := K) rfl) bt (aC cQ cR aj (ag 1)) aj)) (ag 1))))))
noncomputable def gj : PSt :=
 (aD (bc false 1 (az aA (af (ai 0) (af (aq 6) ao))))
  (aD (fR 2 3 (af (bT (af (pOp eL (az aA (af (ai 0) (af (aq 19) ao))) (aq 9)) (af (aq 1) ao))) (af (bT (af (pOp eL (az aA (af (ai 0) (af (aq 19) ao))) (aq 9)) (af (aq 1) ao))) ao)))
  (aD (fR 4 5 (af (bT (af (pOp bO (aq 1) (az aA (af (ai 0) (af (aq 12) ao)))) (af (aq 1) ao))) (af (bT (af (pOp bO (aq 1) (az aA (af (ai 0) (af (aq 12) ao)))) (af (aq 1) ao))) ao)))
  (aD (xIf (qOf (pOp bEq (ai 1) (aq 1))) (bc false 5 (ai 4)) xNx)
  (aD (xIf (qOf (pOp bEq (ai 1) (aq 2))) (bc false 4 (bT (af (pOp bO (aq 1) (az aA (af (ai 0) (af (aq 99) ao)))) (af (aq 1) ao)))) xNx)
  (aD (xIf (qOf (pOp bEq (ai 1) (aq 3))) (bc false 5 (bT (af (pOp bO (aq 1) (az aA (af (ai 0) (af (aq 99) ao)))) (af (aq 1) ao)))) xNx)
  (aD (xIf (qOf (pOp bEq (ai 1) (aq 4))) (aD (fR 2 3 (af (az bL (af (pOp eL (az aA (af (ai 0) (af (aq 199) ao))) (aq 99)) (af (pOp bO (aq 1) (az aA (af (ai 0) (af (aq 30) ao)))) ao))) (af (az bL (af (az aA (af (ai 0) (af (aq 9) ao))) (af (aq 7) ao))) ao)))
  (fR 4 5 (af (az bL (af (pOp bO (aq 1) (az aA (af (ai 0) (af (aq 99) ao)))) (af (pOp bO (aq 1) (az aA (af (ai 0) (af (aq 30) ao)))) ao))) (af (az bL (af (pOp bO (aq 1) (az aA (af (ai 0) (af (aq 99) ao)))) (af (aq 11) ao))) ao)))) xNx)
  (aD (xIf (qOf (pOp bEq (ai 1) (aq 5))) (aD (bc false 6 (pOp eL (pOp jC (aq 10) (aq 30)) (aq 1)))
  (aD (fR 2 3 (af (az bL (af (az bA (af (ai 0) (af (ai 6) ao))) (af (pOp bO (aq 1) (pFn gf (af (az bA (af (ai 0) (af (pOp eL (ai 6) (aq 1)) ao))) ao))) ao))) (af (bT (af (az bA (af (ai 0) (af (ai 6) ao))) (af (aq 1) ao))) ao)))
  (fR 4 5 (af (bT (af (pOp bO (aq 1) (pFn gf (af (az bA (af (ai 0) (af (pOp eL (ai 6) (aq 1)) ao))) ao))) (af (aq 1) ao))) (af (az bL (af (pOp bO (aq 1) (pFn gf (af (az bA (af (ai 0) (af (pOp eL (ai 6) (aq 1)) ao))) ao))) (af (ai 6) ao))) ao))))) xNx)
  (aW (bT (af (ai 2) (af (ai 3) (af (ai 4) (af (ai 5) ao))))))))))))))
noncomputable def c9 : PFn := fnP [true] 7 gj
theorem pL : c9.ms = [true] := rfl
theorem o9 (T : Txt K mg a_RoomError a_NoFraction a_NoBox a_NoWay a_NoWeights a_TooMany a_NoTree a_NoRule a_Unknown a_NoText) (D : Def K mg "_law_room" jo) (c_law_next : Callee P w K mg base "_law_next" 1 ["_law_feed_here", "_law_many"] (spD K mg 2 aA.F)) (c_law_low : Callee P w K mg base "_law_low" 1 ["_law_top", "_law_bottom"] (spD K mg 2 bL.F)) (c_law_great : Callee P w K mg base "_law_great" 2 ["_law_feed_here", "_law_far"] (spD K mg 2 bA.F)) : Callee P w K mg base "_law_room" (2 + 1) ["_law_feed_here"] (spD K mg 1 c9.F) := by
 unfold c9 gj
 exact okP D bp (fun _ _ _ _ _ _ => ar1 fun _ => rfl) fun f cdv A outer s H E hr =>
  (av (aS (i := 1) bp.nd rfl (by first | exact Or.inl rfl | exact Or.inr rfl) (au c_law_next (hr.mono (by omega)) rfl (ak aB) (aa (ag 0) (aa aj ah))))
   (av (dS (i := 2) (j := 3) rfl bp.nd rfl rfl (by decide) rfl rfl (aa (bf (aa (aC dw dk (au c_law_next (hr.mono (by omega)) rfl (ak aB) (aa (ag 0) (aa aj ah))) aj) (aa aj ah))) (aa (bf (aa (aC dw dk (au c_law_next (hr.mono (by omega)) rfl (ak aB) (aa (ag 0) (aa aj ah))) aj) (aa aj ah))) ah)) rfl)
   (av (dS (i := 4) (j := 5) rfl bp.nd rfl rfl (by decide) rfl rfl (aa (bf (aa (aC (bw (K := K) rfl) bt aj (au c_law_next (hr.mono (by omega)) rfl (ak aB) (aa (ag 0) (aa aj ah)))) (aa aj ah))) (aa (bf (aa (aC (bw (K := K) rfl) bt aj (au c_law_next (hr.mono (by omega)) rfl (ak aB) (aa (ag 0) (aa aj ah)))) (aa aj ah))) ah)) rfl)
   (av (aV (ba (gY (K := K) rfl hr.units) eN (ag 1) aj (aP _)) (ax (aS (i := 5) bp.nd rfl (by first | exact Or.inl rfl | exact Or.inr rfl) (ag 4))) aK)
   (av (aV (ba (gY (K := K) rfl hr.units) eN (ag 1) aj (aP _)) (ax (aS (i := 4) bp.nd rfl (by first | exact Or.inl rfl | exact Or.inr rfl) (bf (aa (aC (bw (K := K) rfl) bt aj (au c_law_next (hr.mono (by omega)) rfl (ak aB) (aa (ag 0) (aa aj ah)))) (aa aj ah))))) aK)
   (av (aV (ba (gY (K := K) rfl hr.units) eN (ag 1) aj (aP _)) (ax (aS (i := 5) bp.nd rfl (by first | exact Or.inl rfl | exact Or.inr rfl) (bf (aa (aC (bw (K := K) rfl) bt aj (au c_law_next (hr.mono (by omega)) rfl (ak aB) (aa (ag 0) (aa aj ah)))) (aa aj ah))))) aK)
   (av (aV (ba (gY (K := K) rfl hr.units) eN (ag 1) aj (aP _)) (av (dS (i := 2) (j := 3) rfl bp.nd rfl rfl (by decide) rfl rfl (aa (au c_law_low (hr.mono (by omega)) rfl (ak aB) (aa (aC dw dk (au c_law_next (hr.mono (by omega)) rfl (ak aB) (aa (ag 0) (aa aj ah))) aj) (aa (aC (bw (K := K) rfl) bt aj (au c_law_next (hr.mono (by omega)) rfl (ak aB) (aa (ag 0) (aa aj ah)))) ah))) (aa (au c_law_low (hr.mono (by omega)) rfl (ak aB) (aa (au c_law_next (hr.mono (by omega)) rfl (ak aB) (aa (ag 0) (aa aj ah))) (aa aj ah))) ah)) rfl)
   (ax (dS (i := 4) (j := 5) rfl bp.nd rfl rfl (by decide) rfl rfl (aa (au c_law_low (hr.mono (by omega)) rfl (ak aB) (aa (aC (bw (K := K) rfl) bt aj (au c_law_next (hr.mono (by omega)) rfl (ak aB) (aa (ag 0) (aa aj ah)))) (aa (aC (bw (K := K) rfl) bt aj (au c_law_next (hr.mono (by omega)) rfl (ak aB) (aa (ag 0) (aa aj ah)))) ah))) (aa (au c_law_low (hr.mono (by omega)) rfl (ak aB) (aa (aC (bw (K := K) rfl) bt aj (au c_law_next (hr.mono (by omega)) rfl (ak aB) (aa (ag 0) (aa aj ah)))) (aa aj ah))) ah)) rfl))) aK)
   (av (aV (ba (gY (K := K) rfl hr.units) eN (ag 1) aj (aP _)) (av (aS (i := 6) bp.nd rfl (by first | exact Or.inl rfl | exact Or.inr rfl) (aC dw dk (aC ll lH aj aj) aj))
   (av (dS (i := 2) (j := 3) rfl bp.nd rfl rfl (by decide) rfl rfl (aa (au c_law_low (hr.mono (by omega)) rfl (ak aB) (aa (au c_law_great (hr.mono (by omega)) rfl (ak aB) (aa (ag 0) (aa (ag 6) ah))) (aa (aC (bw (K := K) rfl) bt aj (aE eh gF rfl T.n_abs gO (aa (au c_law_great (hr.mono (by omega)) rfl (ak aB) (aa (ag 0) (aa (aC dw dk (ag 6) aj) ah))) ah))) ah))) (aa (bf (aa (au c_law_great (hr.mono (by omega)) rfl (ak aB) (aa (ag 0) (aa (ag 6) ah))) (aa aj ah))) ah)) rfl)
   (ax (dS (i := 4) (j := 5) rfl bp.nd rfl rfl (by decide) rfl rfl (aa (bf (aa (aC (bw (K := K) rfl) bt aj (aE eh gF rfl T.n_abs gO (aa (au c_law_great (hr.mono (by omega)) rfl (ak aB) (aa (ag 0) (aa (aC dw dk (ag 6) aj) ah))) ah))) (aa aj ah))) (aa (au c_law_low (hr.mono (by omega)) rfl (ak aB) (aa (aC (bw (K := K) rfl) bt aj (aE eh gF rfl T.n_abs gO (aa (au c_law_great (hr.mono (by omega)) rfl (ak aB) (aa (ag 0) (aa (aC dw dk (ag 6) aj) ah))) ah))) (aa (ag 6) ah))) ah)) rfl)))) aK)
   (ax (aG (bf (aa (ag 2) (aa (ag 3) (aa (ag 4) (aa (ag 5) ah)))))))))))))))
noncomputable def gm : PSt :=
 (aD (bc false 1 (pOp bIx (d9 (af (pOp bO (aq 1) (az aA (af (ai 0) (af (aq 9) ao)))) (af (aq 40) (af (aq 41) ao)))) (az aA (af (ai 0) (af (aq 3) ao)))))
  (aD (bc true 2 (pLC (jw (af (ai 1) ao)) [none, some 0] (by decide) (gtN 0) qY (pOp bO (aq 1) (az aA (af (ai 1) (af (aq 99) ao))))))
  (aD (bc false 3 (az aA (af (ai 0) (af (aq 6) ao))))
  (aD (xIf (qOf (pOp bLt (ai 3) (aq 2))) (nO 2 seL (pOp bIx (d9 (af (az aA (af (ai 0) (af (ai 1) ao))) (af (pOp eL (ai 1) (aq 1)) ao))) (ai 3)) (pOp bIx (d9 (af (aq 0) (af (pOp eL (aq 0) (aq 7)) (af (pBl true) (af (dQ "5") (af fS (af (bT (af (aq 1) ao)) ao))))))) (az aA (af (ai 0) (af (aq 6) ao))))) xNx)
  (aD (xIf (qOf (pOp bEq (ai 3) (aq 2))) (aW (pOp bIx (d9 (af (d9 ao) (af fS (af (pFn mD (af (ai 2) ao)) (af (dQ "12") (af (aq 3) (af pD0 ao))))))) (az aA (af (ai 0) (af (aq 6) ao))))) xNx)
  (aW (ai 2)))))))
noncomputable def dg : PFn := fnP [true] 4 gm
theorem pS : dg.ms = [true] := rfl
theorem nT (T : Txt K mg a_RoomError a_NoFraction a_NoBox a_NoWay a_NoWeights a_TooMany a_NoTree a_NoRule a_Unknown a_NoText) (D : Def K mg "_law_list" gk) (c_law_next : Callee P w K mg base "_law_next" 1 ["_law_feed_here", "_law_many"] (spD K mg 2 aA.F)) : Callee P w K mg base "_law_list" (1 + 1) ["_law_feed_here"] (spD K mg 1 dg.F) := by
 unfold dg gm
 exact okP D fy (fun _ _ _ _ _ _ => ar1 fun _ => rfl) fun f cdv A outer s H E hr =>
  (av (aS (i := 1) fy.nd rfl (by first | exact Or.inl rfl | exact Or.inr rfl) (aN (ixK (K := K) rfl) aM (dh (aa (aC (bw (K := K) rfl) bt aj (au c_law_next (hr.mono (by omega)) rfl (ak aB) (aa (ag 0) (aa aj ah)))) (aa aj (aa aj ah)))) (au c_law_next (hr.mono (by omega)) rfl (ak aB) (aa (ag 0) (aa aj ah))) (fun _ _ => rfl)))
   (av (qZ (iT := 2) ["_law_feed_here", "_law_many", "_law_some", "_law_way"] (ay gk).names ["_law_k", "_law_feed_here"] [none, some 0] rfl fy.nd rfl (by first | exact Or.inl rfl | exact Or.inr rfl) (fG rfl T.n_range (aa (ag 1) ah)) (fun _ _ _ _ _ => (aF (i := 0) (show List.Nodup (["_law_k", "_law_feed_here"] : List Str) from by decide +kernel) rfl (by first | exact Or.inl rfl | exact Or.inr rfl))) (fun _ _ _ _ _ => (aC (bw (K := K) rfl) bt aj (au c_law_next (hr.mono (by omega)) rfl gM (aa (ag 1) (aa aj ah))))))
   (av (aS (i := 3) fy.nd rfl (by first | exact Or.inl rfl | exact Or.inr rfl) (au c_law_next (hr.mono (by omega)) rfl (ak aB) (aa (ag 0) (aa aj ah))))
   (av (aV (ba nI nD (ag 3) aj (aP _)) (ax (lW (aN (ixK (K := K) rfl) aM (dh (aa aj (aa (aC dw dk aj aj) (aa d6 (aa cN (aa eV (aa (bf (aa aj ah)) ah))))))) (au c_law_next (hr.mono (by omega)) rfl (ak aB) (aa (ag 0) (aa aj ah))) (fun _ _ => rfl)) (ag 2) (aN (ixK (K := K) rfl) aM (dh (aa (au c_law_next (hr.mono (by omega)) rfl (ak aB) (aa (ag 0) (aa (ag 1) ah))) (aa (aC dw dk (ag 1) aj) ah))) (ag 3) (fun _ _ => rfl)) kB mP)) aK)
   (av (aV (ba (gY (K := K) rfl hr.units) eN (ag 3) aj (aP _)) (ax (aG (aN (ixK (K := K) rfl) aM (dh (aa (dh ah) (aa eV (aa (j5 (xN (K := K) rfl) uX rfl T.n_tuple iO (aa (ag 2) ah)) (aa cN (aa aj (aa Eh ah))))))) (au c_law_next (hr.mono (by omega)) rfl (ak aB) (aa (ag 0) (aa aj ah))) (fun _ _ => rfl)))) aK)
   (ax (aG (ag 2))))))))
noncomputable def ju : PSt :=
 (aD (xIf (qO (qNo (qOf (pFn (a8 kits) (af (ai 0) (af (pTy "list") ao))))) (qOf (pOp bEq (ai 0) (d9 ao)))) (aW (pBl false)) xNx)
  (aW (pFn lq (af (pLC (ku (ai 0)) [none] (by decide) (gtN 0) qY (fW (pFn (a8 kits) (af (ai 0) (af (pTy "int") ao))) (fW (kL (pFn (a8 kits) (af (ai 0) (af (pTy "bool") ao)))) (pOp bGt (ai 0) (aq 0))))) ao))))
noncomputable def c7 : PFn := fnP [false] 1 ju
theorem p6 : c7.ms = [false] := rfl
theorem pv (T : Txt K mg a_RoomError a_NoFraction a_NoBox a_NoWay a_NoWeights a_TooMany a_NoTree a_NoRule a_Unknown a_NoText) (D : Def K mg "_law_good" f6)  : Callee P w K mg base "_law_good" (0 + 1) ["_law_thing"] (spD K mg 1 c7.F) := by
 unfold c7 ju
 exact okP D pU (fun _ _ _ _ _ _ => ar1 fun _ => rfl) fun f cdv A outer s H E hr =>
  (av (aV (ZW.dt (g9 (b8 (bN (aE (dP (K := K) rfl) (cU T.kits) rfl T.n_isinstance aU (aa (ag 0) (aa (gn rfl T.n_list ma) ah))))) (fH (ba (gY (K := K) rfl hr.units) eN (ag 0) (dh ah) (aP _))))) (ax (aG d6)) aK)
   (ax (aG (aE (uL (K := K) rfl rfl) ou rfl T.n_all nN (aa (rl ["_law_thing"] (ay f6).names ["_law_one"] [none] rfl (lM rfl (ag 0)) (fun _ _ _ _ _ => (aF (i := 0) (show List.Nodup (["_law_one"] : List Str) from by decide +kernel) rfl (by first | exact Or.inl rfl | exact Or.inr rfl))) (fun _ _ _ _ _ => (fE (aE (dP (K := K) rfl) (cU T.kits) rfl T.n_isinstance aU (aa (ag 0) (aa (gn rfl T.n_int n9) ah))) (fE (lE (aE (dP (K := K) rfl) (cU T.kits) rfl T.n_isinstance aU (aa (ag 0) (aa (gn rfl T.n_bool qg) ah)))) (fI (eK jf jh (ag 0) aj (aP _))))))) ah)))))
noncomputable def iR : PSt :=
 (aW (fW (pFn (a8 kits) (af (ai 0) (af (pTy "int") ao))) (kL (pFn (a8 kits) (af (ai 0) (af (pTy "bool") ao))))))
noncomputable def bQ : PFn := fnP [false] 1 iR
theorem p7 : bQ.ms = [false] := rfl
theorem nR (T : Txt K mg a_RoomError a_NoFraction a_NoBox a_NoWay a_NoWeights a_TooMany a_NoTree a_NoRule a_Unknown a_NoText) (D : Def K mg "is_whole" jl)  : Callee P w K mg base "is_whole" (0 + 1) ["thing"] (spD K mg 1 bQ.F) := by
 unfold bQ iR
 exact okP D pP (fun _ _ _ _ _ _ => ar1 fun _ => rfl) fun f cdv A outer s H E hr =>
  (ax (aG (fE (aE (dP (K := K) rfl) (cU T.kits) rfl T.n_isinstance aU (aa (ag 0) (aa (gn rfl T.n_int n9) ah))) (fI (lE (aE (dP (K := K) rfl) (cU T.kits) rfl T.n_isinstance aU (aa (ag 0) (aa (gn rfl T.n_bool qg) ah))))))))
noncomputable def b0 : PSt :=
 (fR 0 1 (af (ai 1) (af (pOp cS (ai 0) (ai 1)) ao)))
noncomputable def eA : PSt :=
 (aD (fR 0 1 (af (pFn gf (af (ai 0) ao)) (af (pFn gf (af (ai 1) ao)) ao)))
  (aD (xWh (qOf (pOp bNe (ai 1) (aq 0))) (b0))
  (aW (ai 0))))
noncomputable def a9 : PFn := fnP [false, false] 2 eA
theorem ky : a9.ms = [false, false] := rfl
theorem jL (T : Txt K mg a_RoomError a_NoFraction a_NoBox a_NoWay a_NoWeights a_TooMany a_NoTree a_NoRule a_Unknown a_NoText) (D : Def K mg "common_divisor" eB)  : Callee P w K mg base "common_divisor" (0 + 1) ["one", "other"] (spD K mg 2 a9.F) := by
 unfold a9 eA b0
 exact okP D dR (fun _ _ _ _ _ _ => ar2 fun _ _ => rfl) fun f cdv A outer s H E hr =>
  (av (dS (i := 0) (j := 1) rfl dR.nd rfl rfl (by decide) rfl rfl (aa (aE eh gF rfl T.n_abs gO (aa (ag 0) ah)) (aa (aE eh gF rfl T.n_abs gO (aa (ag 1) ah)) ah)) rfl)
   (av (oU iU (ba (kE (K := K) rfl hr.units) iS (ag 1) aj (aP _)) (ax (dS (i := 0) (j := 1) rfl dR.nd rfl rfl (by decide) rfl rfl (aa (ag 1) (aa (aC dz dZ (ag 0) (ag 1)) ah)) rfl)))
   (ax (aG (ag 0)))))
noncomputable def fU : PSt :=
 (aD (xIf (qO (qNo (qOf (pFn (a8 kits) (af (ai 0) (af (pTy "tuple") ao))))) (qOf (pOp bNe (pFn d7 (af (ai 0) ao)) (aq 2)))) (aW (pBl false)) xNx)
  (aD (g7 (ai 0) (gtX (gtT 2 (aY (gtN 1) (aY (gtN 2) dH)))))
  (aD (xIf (qO (qNo (qOf (az bQ (af (ai 1) ao)))) (qNo (qOf (az bQ (af (ai 2) ao))))) (aW (pBl false)) xNx)
  (aW (fW (pOp bGe (ai 2) (aq 1)) (pOp bEq (az a9 (af (ai 1) (af (ai 2) ao))) (aq 1)))))))
noncomputable def bM : PFn := fnP [false] 3 fU
theorem mf : bM.ms = [false] := rfl
theorem lO (T : Txt K mg a_RoomError a_NoFraction a_NoBox a_NoWay a_NoWeights a_TooMany a_NoTree a_NoRule a_Unknown a_NoText) (D : Def K mg "is_fraction" fM) (c_is_whole : Callee P w K mg base "is_whole" 1 ["thing"] (spD K mg 1 bQ.F)) (c_common_divisor : Callee P w K mg base "common_divisor" 1 ["one", "other"] (spD K mg 2 a9.F)) : Callee P w K mg base "is_fraction" (1 + 1) ["thing"] (spD K mg 1 bM.F) := by
 unfold bM fU
 exact okP D fq (fun _ _ _ _ _ _ => ar1 fun _ => rfl) fun f cdv A outer s H E hr =>
  (av (aV (ZW.dt (g9 (b8 (bN (aE (dP (K := K) rfl) (cU T.kits) rfl T.n_isinstance aU (aa (ag 0) (aa (gn rfl T.n_tuple iO) ah))))) (fH (ba (kE (K := K) rfl hr.units) iS (aE (fA (K := K) rfl) dU rfl T.n_len dW (aa (ag 0) ah)) aj (aP _))))) (ax (aG d6)) aK)
   (av (gv (ag 0) (ZG.weak (dY rfl rfl (aH (aF (i := 1) fq.nd rfl (by first | exact Or.inl rfl | exact Or.inr rfl)) (aH (aF (i := 2) fq.nd rfl (by first | exact Or.inl rfl | exact Or.inr rfl)) dA)))))
   (av (aV (ZW.dt (g9 (b8 (bN (au c_is_whole (hr.mono (by omega)) rfl (ak aB) (aa (ag 1) ah)))) (fH (b8 (bN (au c_is_whole (hr.mono (by omega)) rfl (ak aB) (aa (ag 2) ah))))))) (ax (aG d6)) aK)
   (ax (aG (fE (eK rV sM (ag 2) aj (aP _)) (fI (eK (gY (K := K) rfl hr.units) eN (au c_common_divisor (hr.mono (by omega)) rfl (ak aB) (aa (ag 1) (aa (ag 2) ah))) aj (aP _)))))))))
noncomputable def kW : PSt :=
 (aD (xIf (qO (qNo (qOf (pFn (a8 kits) (af (ai 0) (af (pTy "tuple") ao))))) (qOf (pOp bNe (pFn d7 (af (ai 0) ao)) (aq 4)))) (aW (pBl false)) xNx)
  (aD (xIf (qNo (qOf (pFn lq (af (pLC (ku (ai 0)) [none] (by decide) (gtN 0) qY (az bM (af (ai 0) ao))) ao)))) (aW (pBl false)) xNx)
  (aW (fW (pOp bGt (pOp bIx (pOp bIx (ai 0) (aq 2)) (aq 0)) (aq 0)) (pOp bGt (pOp bIx (pOp bIx (ai 0) (aq 3)) (aq 0)) (aq 0))))))
noncomputable def cX : PFn := fnP [false] 1 kW
theorem t9 : cX.ms = [false] := rfl
theorem sC (T : Txt K mg a_RoomError a_NoFraction a_NoBox a_NoWay a_NoWeights a_TooMany a_NoTree a_NoRule a_Unknown a_NoText) (D : Def K mg "is_box" jm) (c_is_fraction : Callee P w K mg base "is_fraction" 2 ["thing"] (spD K mg 1 bM.F)) : Callee P w K mg base "is_box" (2 + 1) ["thing"] (spD K mg 1 cX.F) := by
 unfold cX kW
 exact okP D tZ (fun _ _ _ _ _ _ => ar1 fun _ => rfl) fun f cdv A outer s H E hr =>
  (av (aV (ZW.dt (g9 (b8 (bN (aE (dP (K := K) rfl) (cU T.kits) rfl T.n_isinstance aU (aa (ag 0) (aa (gn rfl T.n_tuple iO) ah))))) (fH (ba (kE (K := K) rfl hr.units) iS (aE (fA (K := K) rfl) dU rfl T.n_len dW (aa (ag 0) ah)) aj (aP _))))) (ax (aG d6)) aK)
   (av (aV (b8 (bN (aE (uL (K := K) rfl rfl) ou rfl T.n_all nN (aa (rl ["thing"] (ay jm).names ["part"] [none] rfl (lM rfl (ag 0)) (fun _ _ _ _ _ => (aF (i := 0) (show List.Nodup (["part"] : List Str) from by decide +kernel) rfl (by first | exact Or.inl rfl | exact Or.inr rfl))) (fun _ _ _ _ _ => (au c_is_fraction (hr.mono (by omega)) rfl gM (aa (ag 0) ah)))) ah)))) (ax (aG d6)) aK)
   (ax (aG (fE (eK jf jh (aN (ixK (K := K) rfl) aM (aN (ixK (K := K) rfl) aM (ag 0) aj (fun _ _ => rfl)) aj (fun _ _ => rfl)) aj (aP _)) (fI (eK jf jh (aN (ixK (K := K) rfl) aM (aN (ixK (K := K) rfl) aM (ag 0) aj (fun _ _ => rfl)) aj (fun _ _ => rfl)) aj (aP _))))))))
noncomputable def ig : PSt :=
 (xIf (qNo (qOf (az cX (af (ai 0) ao)))) (gL "NoBox" (af (dQ "this is no box") ao)) xNx)
noncomputable def bG : PFn := fnP [false] 1 ig
theorem pG : bG.ms = [false] := rfl
theorem nu (T : Txt K mg a_RoomError a_NoFraction a_NoBox a_NoWay a_NoWeights a_TooMany a_NoTree a_NoRule a_Unknown a_NoText) (D : Def K mg "check_box" ic) (c_is_box : Callee P w K mg base "is_box" 3 ["thing"] (spD K mg 1 cX.F)) : Callee P w K mg base "check_box" (3 + 1) ["thing"] (spD K mg 1 bG.F) := by
 unfold bG ig
 exact okP D oD (fun _ _ _ _ _ _ => ar1 fun _ => rfl) fun f cdv A outer s H E hr =>
  (ax (aV (b8 (bN (au c_is_box (hr.mono (by omega)) rfl (ak aB) (aa (ag 0) ah)))) (ax (gP rfl rz1 rfl T.m_NoBox T.x_NoBox (aa cN ah))) aK))
noncomputable def ik : PSt :=
 (aW (fW (az bQ (af (ai 0) ao)) (pOp bGe (ai 0) (aq 1))))
noncomputable def b9 : PFn := fnP [false] 1 ik
theorem oF : b9.ms = [false] := rfl
theorem nq (T : Txt K mg a_RoomError a_NoFraction a_NoBox a_NoWay a_NoWeights a_TooMany a_NoTree a_NoRule a_Unknown a_NoText) (D : Def K mg "is_weight" iA) (c_is_whole : Callee P w K mg base "is_whole" 1 ["thing"] (spD K mg 1 bQ.F)) : Callee P w K mg base "is_weight" (1 + 1) ["thing"] (spD K mg 1 b9.F) := by
 unfold b9 ik
 exact okP D oJ (fun _ _ _ _ _ _ => ar1 fun _ => rfl) fun f cdv A outer s H E hr =>
  (ax (aG (fE (au c_is_whole (hr.mono (by omega)) rfl (ak aB) (aa (ag 0) ah)) (fI (eK rV sM (ag 0) aj (aP _))))))
noncomputable def eP : PSt :=
 (aD (xIf (qO (qNo (qOf (pFn (a8 kits) (af (ai 0) (af (pTy "list") ao))))) (qOf (pOp bEq (pFn d7 (af (ai 0) ao)) (aq 0)))) (gL "NoWeights" (af (dQ "this is no list of weights") ao)) xNx)
  (aD (xIf (qNo (qOf (pFn lq (af (pLC (ku (ai 0)) [none] (by decide) (gtN 0) qY (az b9 (af (ai 0) ao))) ao)))) (gL "NoWeights" (af (dQ "a weight is a whole number from 1 on") ao)) xNx)
  (xIf (qOf (pOp bGt (pFn d7 (af (ai 0) ao)) eT)) (gL "TooMany" (af (dQ "these are more weights than forty") ao)) xNx)))
noncomputable def bx : PFn := fnP [false] 1 eP
theorem kP : bx.ms = [false] := rfl
theorem kz (T : Txt K mg a_RoomError a_NoFraction a_NoBox a_NoWay a_NoWeights a_TooMany a_NoTree a_NoRule a_Unknown a_NoText) (D : Def K mg "check_weights" dE) (c_is_weight : Callee P w K mg base "is_weight" 2 ["thing"] (spD K mg 1 b9.F)) : Callee P w K mg base "check_weights" (2 + 1) ["thing"] (spD K mg 1 bx.F) := by
 unfold bx eP eT
 exact okP D kX (fun _ _ _ _ _ _ => ar1 fun _ => rfl) fun f cdv A outer s H E hr =>
  (av (aV (ZW.dt (g9 (b8 (bN (aE (dP (K := K) rfl) (cU T.kits) rfl T.n_isinstance aU (aa (ag 0) (aa (gn rfl T.n_list ma) ah))))) (fH (ba (gY (K := K) rfl hr.units) eN (aE (fA (K := K) rfl) dU rfl T.n_len dW (aa (ag 0) ah)) aj (aP _))))) (ax (gP rfl rz1 rfl T.m_NoWeights T.x_NoWeights (aa cN ah))) aK)
   (av (aV (b8 (bN (aE (uL (K := K) rfl rfl) ou rfl T.n_all nN (aa (rl ["thing"] (ay dE).names ["weight"] [none] rfl (lM rfl (ag 0)) (fun _ _ _ _ _ => (aF (i := 0) (show List.Nodup (["weight"] : List Str) from by decide +kernel) rfl (by first | exact Or.inl rfl | exact Or.inr rfl))) (fun _ _ _ _ _ => (au c_is_weight (hr.mono (by omega)) rfl gM (aa (ag 0) ah)))) ah)))) (ax (gP rfl rz1 rfl T.m_NoWeights T.x_NoWeights (aa cN ah))) aK)
   (ax (aV (ba jf jh (aE (fA (K := K) rfl) dU rfl T.n_len dW (aa (ag 0) ah)) (Ds rfl T.g_MOST_WEIGHTS) (aP _)) (ax (gP rfl rz1 rfl T.m_TooMany T.x_TooMany (aa cN ah))) aK))))
noncomputable def jk : PSt :=
 (aD (xIf (qOf (pOp bEq (ai 1) (aq 0))) (gL "NoFraction" (af (dQ "a fraction has no bottom of 0") ao)) xNx)
  (aD (bc false 2 (az a9 (af (ai 0) (af (ai 1) ao))))
  (aD (xIf (qOf (pOp bLt (ai 1) (aq 0))) (bc false 2 (pUn v7 (ai 2))) xNx)
  (aW (bT (af (pOp kZ (ai 0) (ai 2)) (af (pOp kZ (ai 1) (ai 2)) ao)))))))
noncomputable def bI : PFn := fnP [false, false] 3 jk
theorem pW : bI.ms = [false, false] := rfl
theorem nX (T : Txt K mg a_RoomError a_NoFraction a_NoBox a_NoWay a_NoWeights a_TooMany a_NoTree a_NoRule a_Unknown a_NoText) (D : Def K mg "fraction" jA) (c_common_divisor : Callee P w K mg base "common_divisor" 1 ["one", "other"] (spD K mg 2 a9.F)) : Callee P w K mg base "fraction" (1 + 1) ["top", "bottom"] (spD K mg 2 bI.F) := by
 unfold bI jk
 exact okP D iu (fun _ _ _ _ _ _ => ar2 fun _ _ => rfl) fun f cdv A outer s H E hr =>
  (av (aV (ba (gY (K := K) rfl hr.units) eN (ag 1) aj (aP _)) (ax (gP rfl rz1 rfl T.m_NoFraction T.x_NoFraction (aa cN ah))) aK)
   (av (aS (i := 2) iu.nd rfl (by first | exact Or.inl rfl | exact Or.inr rfl) (au c_common_divisor (hr.mono (by omega)) rfl (ak aB) (aa (ag 0) (aa (ag 1) ah))))
   (av (aV (ba nI nD (ag 1) aj (aP _)) (ax (aS (i := 2) iu.nd rfl (by first | exact Or.inl rfl | exact Or.inr rfl) (EW Bl CI (ag 2)))) aK)
   (ax (aG (bf (aa (aC gB jZ (ag 0) (ag 2)) (aa (aC gB jZ (ag 1) (ag 2)) ah))))))))
noncomputable def mr : PSt :=
 (aW (az bI (af (pOp cZ (pOp bIx (ai 0) (aq 0)) (pOp bIx (ai 1) (aq 0))) (af (pOp cZ (pOp bIx (ai 0) (aq 1)) (pOp bIx (ai 1) (aq 1))) ao))))
noncomputable def dJ : PFn := fnP [false, false] 2 mr
theorem va : dJ.ms = [false, false] := rfl
theorem uc (T : Txt K mg a_RoomError a_NoFraction a_NoBox a_NoWay a_NoWeights a_TooMany a_NoTree a_NoRule a_Unknown a_NoText) (D : Def K mg "times" mq) (c_fraction : Callee P w K mg base "fraction" 2 ["top", "bottom"] (spD K mg 2 bI.F)) : Callee P w K mg base "times" (2 + 1) ["one", "other"] (spD K mg 2 dJ.F) := by
 unfold dJ mr
 exact okP D uC (fun _ _ _ _ _ _ => ar2 fun _ _ => rfl) fun f cdv A outer s H E hr =>
  (ax (aG (au c_fraction (hr.mono (by omega)) rfl (ak aB) (aa (aC cQ cR (aN (ixK (K := K) rfl) aM (ag 0) aj (fun _ _ => rfl)) (aN (ixK (K := K) rfl) aM (ag 1) aj (fun _ _ => rfl))) (aa (aC cQ cR (aN (ixK (K := K) rfl) aM (ag 0) aj (fun _ _ => rfl)) (aN (ixK (K := K) rfl) aM (ag 1) aj (fun _ _ => rfl))) ah)))))
noncomputable def o3 : PSt :=
 (aD (lz (az bG (af (ai 0) ao)))
  (aW (az dJ (af (pOp bIx (ai 0) (aq 2)) (af (pOp bIx (ai 0) (aq 3)) ao)))))
noncomputable def fL : PFn := fnP [false] 1 o3
theorem yW : fL.ms = [false] := rfl
theorem wD (T : Txt K mg a_RoomError a_NoFraction a_NoBox a_NoWay a_NoWeights a_TooMany a_NoTree a_NoRule a_Unknown a_NoText) (D : Def K mg "area" oZ) (c_check_box : Callee P w K mg base "check_box" 4 ["thing"] (spD K mg 1 bG.F)) (c_times : Callee P w K mg base "times" 3 ["one", "other"] (spD K mg 2 dJ.F)) : Callee P w K mg base "area" (4 + 1) ["box"] (spD K mg 1 fL.F) := by
 unfold fL o3
 exact okP D yw (fun _ _ _ _ _ _ => ar1 fun _ => rfl) fun f cdv A outer s H E hr =>
  (av (mI (au c_check_box (hr.mono (by omega)) rfl (ak aB) (aa (ag 0) ah)))
   (ax (aG (au c_times (hr.mono (by omega)) rfl (ak aB) (aa (aN (ixK (K := K) rfl) aM (ag 0) aj (fun _ _ => rfl)) (aa (aN (ixK (K := K) rfl) aM (ag 0) aj (fun _ _ => rfl)) ah))))))
noncomputable def l9 : PSt :=
 (aW (az bI (af (pOp bO (pOp cZ (pOp bIx (ai 0) (aq 0)) (pOp bIx (ai 1) (aq 1))) (pOp cZ (pOp bIx (ai 1) (aq 0)) (pOp bIx (ai 0) (aq 1)))) (af (pOp cZ (pOp bIx (ai 0) (aq 1)) (pOp bIx (ai 1) (aq 1))) ao))))
noncomputable def eG : PFn := fnP [false, false] 2 l9
theorem uW : eG.ms = [false, false] := rfl
theorem td (T : Txt K mg a_RoomError a_NoFraction a_NoBox a_NoWay a_NoWeights a_TooMany a_NoTree a_NoRule a_Unknown a_NoText) (D : Def K mg "added" mM) (c_fraction : Callee P w K mg base "fraction" 2 ["top", "bottom"] (spD K mg 2 bI.F)) : Callee P w K mg base "added" (2 + 1) ["one", "other"] (spD K mg 2 eG.F) := by
 unfold eG l9
 exact okP D vo (fun _ _ _ _ _ _ => ar2 fun _ _ => rfl) fun f cdv A outer s H E hr =>
  (ax (aG (au c_fraction (hr.mono (by omega)) rfl (ak aB) (aa (aC (bw (K := K) rfl) bt (aC cQ cR (aN (ixK (K := K) rfl) aM (ag 0) aj (fun _ _ => rfl)) (aN (ixK (K := K) rfl) aM (ag 1) aj (fun _ _ => rfl))) (aC cQ cR (aN (ixK (K := K) rfl) aM (ag 1) aj (fun _ _ => rfl)) (aN (ixK (K := K) rfl) aM (ag 0) aj (fun _ _ => rfl)))) (aa (aC cQ cR (aN (ixK (K := K) rfl) aM (ag 0) aj (fun _ _ => rfl)) (aN (ixK (K := K) rfl) aM (ag 1) aj (fun _ _ => rfl))) ah)))))
noncomputable def mF : PSt :=
 (aD (g7 (ai 0) (gtX (gtT 4 (aY (gtN 1) (aY (gtN 2) (aY (gtN 3) (aY (gtN 4) dH)))))))
  (aW (bT (af (ai 1) (af (az eG (af (ai 1) (af (ai 3) ao))) (af (ai 2) (af (az eG (af (ai 2) (af (ai 4) ao))) ao)))))))
noncomputable def cT : PFn := fnP [false] 5 mF
theorem vy : cT.ms = [false] := rfl
theorem sQ (T : Txt K mg a_RoomError a_NoFraction a_NoBox a_NoWay a_NoWeights a_TooMany a_NoTree a_NoRule a_Unknown a_NoText) (D : Def K mg "walls" l8) (c_added : Callee P w K mg base "added" 3 ["one", "other"] (spD K mg 2 eG.F)) : Callee P w K mg base "walls" (3 + 1) ["box"] (spD K mg 1 cT.F) := by
 unfold cT mF
 exact okP D gE (fun _ _ _ _ _ _ => ar1 fun _ => rfl) fun f cdv A outer s H E hr =>
  (av (gv (ag 0) (ZG.weak (dY rfl rfl (aH (aF (i := 1) gE.nd rfl (by first | exact Or.inl rfl | exact Or.inr rfl)) (aH (aF (i := 2) gE.nd rfl (by first | exact Or.inl rfl | exact Or.inr rfl)) (aH (aF (i := 3) gE.nd rfl (by first | exact Or.inl rfl | exact Or.inr rfl)) (aH (aF (i := 4) gE.nd rfl (by first | exact Or.inl rfl | exact Or.inr rfl)) dA)))))))
   (ax (aG (bf (aa (ag 1) (aa (au c_added (hr.mono (by omega)) rfl (ak aB) (aa (ag 1) (aa (ag 3) ah))) (aa (ag 2) (aa (au c_added (hr.mono (by omega)) rfl (ak aB) (aa (ag 2) (aa (ag 4) ah))) ah))))))))
noncomputable def jS : PSt :=
 (aW (pOp bLt (pOp cZ (pOp bIx (ai 0) (aq 0)) (pOp bIx (ai 1) (aq 1))) (pOp cZ (pOp bIx (ai 1) (aq 0)) (pOp bIx (ai 0) (aq 1)))))
noncomputable def bj : PFn := fnP [false, false] 2 jS
theorem rN : bj.ms = [false, false] := rfl
theorem pZ (T : Txt K mg a_RoomError a_NoFraction a_NoBox a_NoWay a_NoWeights a_TooMany a_NoTree a_NoRule a_Unknown a_NoText) (D : Def K mg "is_less" jW)  : Callee P w K mg base "is_less" (0 + 1) ["one", "other"] (spD K mg 2 bj.F) := by
 unfold bj jS
 exact okP D rf (fun _ _ _ _ _ _ => ar2 fun _ _ => rfl) fun f cdv A outer s H E hr =>
  (ax (aG (eK nI nD (aC cQ cR (aN (ixK (K := K) rfl) aM (ag 0) aj (fun _ _ => rfl)) (aN (ixK (K := K) rfl) aM (ag 1) aj (fun _ _ => rfl))) (aC cQ cR (aN (ixK (K := K) rfl) aM (ag 1) aj (fun _ _ => rfl)) (aN (ixK (K := K) rfl) aM (ag 0) aj (fun _ _ => rfl))) (aP _))))
noncomputable def fX : PSt :=
 (aD (g7 (az cT (af (ai 1) ao)) (gtX (gtT 4 (aY (gtN 2) (aY (gtN 3) (aY (gtN 4) (aY (gtN 5) dH)))))))
  (aD (g7 (az cT (af (ai 0) ao)) (gtX (gtT 4 (aY (gtN 6) (aY (gtN 7) (aY (gtN 8) (aY (gtN 9) dH)))))))
  (aD (xIf (qO (qOf (az bj (af (ai 2) (af (ai 6) ao)))) (qOf (az bj (af (ai 7) (af (ai 3) ao))))) (aW (pBl false)) xNx)
  (aW (fW (kL (az bj (af (ai 4) (af (ai 8) ao)))) (kL (az bj (af (ai 9) (af (ai 5) ao)))))))))
noncomputable def bY : PFn := fnP [false, false] 10 fX
theorem lV : bY.ms = [false, false] := rfl
theorem lr (T : Txt K mg a_RoomError a_NoFraction a_NoBox a_NoWay a_NoWeights a_TooMany a_NoTree a_NoRule a_Unknown a_NoText) (D : Def K mg "lies_within" fP) (c_walls : Callee P w K mg base "walls" 4 ["box"] (spD K mg 1 cT.F)) (c_is_less : Callee P w K mg base "is_less" 1 ["one", "other"] (spD K mg 2 bj.F)) : Callee P w K mg base "lies_within" (4 + 1) ["room", "box"] (spD K mg 2 bY.F) := by
 unfold bY fX
 exact okP D br (fun _ _ _ _ _ _ => ar2 fun _ _ => rfl) fun f cdv A outer s H E hr =>
  (av (gv (au c_walls (hr.mono (by omega)) rfl (ak aB) (aa (ag 1) ah)) (ZG.weak (dY rfl rfl (aH (aF (i := 2) br.nd rfl (by first | exact Or.inl rfl | exact Or.inr rfl)) (aH (aF (i := 3) br.nd rfl (by first | exact Or.inl rfl | exact Or.inr rfl)) (aH (aF (i := 4) br.nd rfl (by first | exact Or.inl rfl | exact Or.inr rfl)) (aH (aF (i := 5) br.nd rfl (by first | exact Or.inl rfl | exact Or.inr rfl)) dA)))))))
   (av (gv (au c_walls (hr.mono (by omega)) rfl (ak aB) (aa (ag 0) ah)) (ZG.weak (dY rfl rfl (aH (aF (i := 6) br.nd rfl (by first | exact Or.inl rfl | exact Or.inr rfl)) (aH (aF (i := 7) br.nd rfl (by first | exact Or.inl rfl | exact Or.inr rfl)) (aH (aF (i := 8) br.nd rfl (by first | exact Or.inl rfl | exact Or.inr rfl)) (aH (aF (i := 9) br.nd rfl (by first | exact Or.inl rfl | exact Or.inr rfl)) dA)))))))
   (av (aV (ZW.dt (g9 (bN (au c_is_less (hr.mono (by omega)) rfl (ak aB) (aa (ag 2) (aa (ag 6) ah)))) (fH (bN (au c_is_less (hr.mono (by omega)) rfl (ak aB) (aa (ag 7) (aa (ag 3) ah))))))) (ax (aG d6)) aK)
   (ax (aG (fE (lE (au c_is_less (hr.mono (by omega)) rfl (ak aB) (aa (ag 4) (aa (ag 8) ah)))) (fI (lE (au c_is_less (hr.mono (by omega)) rfl (ak aB) (aa (ag 9) (aa (ag 5) ah)))))))))))
noncomputable def cA : PSt :=
 (aD (g7 (ai 0) (gtX (gtT 4 (aY (gtN 2) (aY (gtN 3) (aY (gtN 4) (aY (gtN 5) dH)))))))
  (aD (g7 (ai 1) (gtX (gtT 4 (aY (gtN 6) (aY (gtN 7) (aY (gtN 8) (aY (gtN 9) dH)))))))
  (aD (xIf (qO (qNo (qOf (az bj (af (ai 2) (af (ai 7) ao))))) (qNo (qOf (az bj (af (ai 6) (af (ai 3) ao)))))) (aW (pBl false)) xNx)
  (aW (fW (az bj (af (ai 4) (af (ai 9) ao))) (az bj (af (ai 8) (af (ai 5) ao))))))))
noncomputable def aT : PFn := fnP [false, false] 10 cA
theorem gD : aT.ms = [false, false] := rfl
theorem gc (T : Txt K mg a_RoomError a_NoFraction a_NoBox a_NoWay a_NoWeights a_TooMany a_NoTree a_NoRule a_Unknown a_NoText) (D : Def K mg "share_more_than_walls" cz) (c_is_less : Callee P w K mg base "is_less" 1 ["one", "other"] (spD K mg 2 bj.F)) : Callee P w K mg base "share_more_than_walls" (1 + 1) ["one", "other"] (spD K mg 2 aT.F) := by
 unfold aT cA
 exact okP D aJ (fun _ _ _ _ _ _ => ar2 fun _ _ => rfl) fun f cdv A outer s H E hr =>
  (av (gv (ag 0) (ZG.weak (dY rfl rfl (aH (aF (i := 2) aJ.nd rfl (by first | exact Or.inl rfl | exact Or.inr rfl)) (aH (aF (i := 3) aJ.nd rfl (by first | exact Or.inl rfl | exact Or.inr rfl)) (aH (aF (i := 4) aJ.nd rfl (by first | exact Or.inl rfl | exact Or.inr rfl)) (aH (aF (i := 5) aJ.nd rfl (by first | exact Or.inl rfl | exact Or.inr rfl)) dA)))))))
   (av (gv (ag 1) (ZG.weak (dY rfl rfl (aH (aF (i := 6) aJ.nd rfl (by first | exact Or.inl rfl | exact Or.inr rfl)) (aH (aF (i := 7) aJ.nd rfl (by first | exact Or.inl rfl | exact Or.inr rfl)) (aH (aF (i := 8) aJ.nd rfl (by first | exact Or.inl rfl | exact Or.inr rfl)) (aH (aF (i := 9) aJ.nd rfl (by first | exact Or.inl rfl | exact Or.inr rfl)) dA)))))))
   (av (aV (ZW.dt (g9 (b8 (bN (au c_is_less (hr.mono (by omega)) rfl (ak aB) (aa (ag 2) (aa (ag 7) ah))))) (fH (b8 (bN (au c_is_less (hr.mono (by omega)) rfl (ak aB) (aa (ag 6) (aa (ag 3) ah)))))))) (ax (aG d6)) aK)
   (ax (aG (fE (au c_is_less (hr.mono (by omega)) rfl (ak aB) (aa (ag 4) (aa (ag 9) ah))) (fI (au c_is_less (hr.mono (by omega)) rfl (ak aB) (aa (ag 8) (aa (ag 5) ah))))))))))
noncomputable def du : PSt :=
 (xIf (qOf (az aT (af (pOp bIx (ai 1) (ai 4)) (af (ai 3) ao)))) (aW (bT (af (dQ "over") (af (ai 4) (af (ai 2) ao))))) xNx)
noncomputable def dn : PSt :=
 (iW (jw (af (ai 2) ao)) (gtN 4) (du))
noncomputable def gW : PSt :=
 (aD (bc false 1 (pLC (ku (ai 0)) [none] (by decide) (gtN 0) qY (az cT (af (ai 0) ao))))
  (aD (iW (ki (af (ai 1) ao)) (gtX (gtT 2 (aY (gtN 2) (aY (gtN 3) dH)))) (dn))
  (aW fS)))
noncomputable def cw : PFn := fnP [false] 5 gW
theorem ni : cw.ms = [false] := rfl
theorem mi (T : Txt K mg a_RoomError a_NoFraction a_NoBox a_NoWay a_NoWeights a_TooMany a_NoTree a_NoRule a_Unknown a_NoText) (D : Def K mg "first_over" eR) (c_walls : Callee P w K mg base "walls" 4 ["box"] (spD K mg 1 cT.F)) (c_share_more_than_walls : Callee P w K mg base "share_more_than_walls" 2 ["one", "other"] (spD K mg 2 aT.F)) : Callee P w K mg base "first_over" (4 + 1) ["boxes"] (spD K mg 1 cw.F) := by
 unfold cw gW dn du
 exact okP D dm (fun _ _ _ _ _ _ => ar1 fun _ => rfl) fun f cdv A outer s H E hr =>
  (av (qZ (iT := 1) ["boxes", "drawn", "at", "later", "ahead"] (ay eR).names ["box"] [none] rfl dm.nd rfl (by first | exact Or.inl rfl | exact Or.inr rfl) (lM rfl (ag 0)) (fun _ _ _ _ _ => (aF (i := 0) (show List.Nodup (["box"] : List Str) from by decide +kernel) rfl (by first | exact Or.inl rfl | exact Or.inr rfl))) (fun _ _ _ _ _ => (au c_walls (hr.mono (by omega)) rfl gM (aa (ag 0) ah))))
   (av (gU iU rfl (kg rfl rfl T.n_enumerate (aa (ag 1) ah)) (ZG.weak (dY rfl rfl (aH (aF (i := 2) dm.nd rfl (by first | exact Or.inl rfl | exact Or.inr rfl)) (aH (aF (i := 3) dm.nd rfl (by first | exact Or.inl rfl | exact Or.inr rfl)) dA)))) (ax (gU iU rfl (fG rfl T.n_range (aa (ag 2) ah)) (aF (i := 4) dm.nd rfl (by first | exact Or.inl rfl | exact Or.inr rfl)) (ax (aV (bN (au c_share_more_than_walls (hr.mono (by omega)) rfl (ak aB) (aa (aN (ixK (K := K) rfl) aM (ag 1) (ag 4) (fun _ _ => rfl)) (aa (ag 3) ah)))) (ax (aG (bf (aa cN (aa (ag 4) (aa (ag 2) ah)))))) aK)))))
   (ax (aG eV))))
noncomputable def iZ : PSt :=
 (xIf (qNo (qOf (az cX (af (ai 4) ao)))) (aW (bT (af (dQ "box") (af (ai 3) ao)))) xNx)
noncomputable def jB : PSt :=
 (xIf (qOf (pOp bNe (az fL (af (ai 4) ao)) (az dJ (af (az fL (af (ai 0) ao)) (af (az bI (af (pOp bIx (ai 1) (ai 3)) (af (pFn qX (af (ai 1) ao)) ao))) ao))))) (aW (bT (af (dQ "area") (af (ai 3) ao)))) xNx)
noncomputable def iX : PSt :=
 (xIf (qNo (qOf (az bY (af (ai 0) (af (ai 4) ao))))) (aW (bT (af (dQ "out") (af (ai 3) ao)))) xNx)
noncomputable def fh : PSt :=
 (aD (lz (az bG (af (ai 0) ao)))
  (aD (lz (az bx (af (ai 1) ao)))
  (aD (xIf (qOf (pOp bNe (pFn d7 (af (ai 2) ao)) (pFn d7 (af (ai 1) ao)))) (aW (bT (af (dQ "count") ao))) xNx)
  (aD (iW (ki (af (ai 2) ao)) (gtX (gtT 2 (aY (gtN 3) (aY (gtN 4) dH)))) (iZ))
  (aD (iW (ki (af (ai 2) ao)) (gtX (gtT 2 (aY (gtN 3) (aY (gtN 4) dH)))) (jB))
  (aD (iW (ki (af (ai 2) ao)) (gtX (gtT 2 (aY (gtN 3) (aY (gtN 4) dH)))) (iX))
  (aW (az cw (af (ai 2) ao)))))))))
noncomputable def bz : PFn := fnP [false, false, false] 5 fh
theorem vN : bz.ms = [false, false, false] := rfl
theorem uz (T : Txt K mg a_RoomError a_NoFraction a_NoBox a_NoWay a_NoWeights a_TooMany a_NoTree a_NoRule a_Unknown a_NoText) (D : Def K mg "fault" mx) (c_check_box : Callee P w K mg base "check_box" 4 ["thing"] (spD K mg 1 bG.F)) (c_check_weights : Callee P w K mg base "check_weights" 3 ["thing"] (spD K mg 1 bx.F)) (c_is_box : Callee P w K mg base "is_box" 3 ["thing"] (spD K mg 1 cX.F)) (c_area : Callee P w K mg base "area" 5 ["box"] (spD K mg 1 fL.F)) (c_times : Callee P w K mg base "times" 3 ["one", "other"] (spD K mg 2 dJ.F)) (c_fraction : Callee P w K mg base "fraction" 2 ["top", "bottom"] (spD K mg 2 bI.F)) (c_lies_within : Callee P w K mg base "lies_within" 5 ["room", "box"] (spD K mg 2 bY.F)) (c_first_over : Callee P w K mg base "first_over" 5 ["boxes"] (spD K mg 1 cw.F)) : Callee P w K mg base "fault" (5 + 1) ["room", "weights", "boxes"] (spD K mg 3 bz.F) := by
 unfold bz fh iX jB iZ
 exact okP D ez (fun _ _ _ _ _ _ => ar3 fun _ _ _ => rfl) fun f cdv A outer s H E hr =>
  (av (mI (au c_check_box (hr.mono (by omega)) rfl (ak aB) (aa (ag 0) ah)))
   (av (mI (au c_check_weights (hr.mono (by omega)) rfl (ak aB) (aa (ag 1) ah)))
   (av (aV (ba (kE (K := K) rfl hr.units) iS (aE (fA (K := K) rfl) dU rfl T.n_len dW (aa (ag 2) ah)) (aE (fA (K := K) rfl) dU rfl T.n_len dW (aa (ag 1) ah)) (aP _)) (ax (aG (bf (aa cN ah)))) aK)
   (av (gU iU rfl (kg rfl rfl T.n_enumerate (aa (ag 2) ah)) (ZG.weak (dY rfl rfl (aH (aF (i := 3) ez.nd rfl (by first | exact Or.inl rfl | exact Or.inr rfl)) (aH (aF (i := 4) ez.nd rfl (by first | exact Or.inl rfl | exact Or.inr rfl)) dA)))) (ax (aV (b8 (bN (au c_is_box (hr.mono (by omega)) rfl (ak aB) (aa (ag 4) ah)))) (ax (aG (bf (aa cN (aa (ag 3) ah))))) aK)))
   (av (gU iU rfl (kg rfl rfl T.n_enumerate (aa (ag 2) ah)) (ZG.weak (dY rfl rfl (aH (aF (i := 3) ez.nd rfl (by first | exact Or.inl rfl | exact Or.inr rfl)) (aH (aF (i := 4) ez.nd rfl (by first | exact Or.inl rfl | exact Or.inr rfl)) dA)))) (ax (aV (ba (kE (K := K) rfl hr.units) iS (au c_area (hr.mono (by omega)) rfl (ak aB) (aa (ag 4) ah)) (au c_times (hr.mono (by omega)) rfl (ak aB) (aa (au c_area (hr.mono (by omega)) rfl (ak aB) (aa (ag 0) ah)) (aa (au c_fraction (hr.mono (by omega)) rfl (ak aB) (aa (aN (ixK (K := K) rfl) aM (ag 1) (ag 3) (fun _ _ => rfl)) (aa (aE (sW (K := K) rfl rfl) Bo rfl T.n_sum A7 (aa (ag 1) ah)) ah))) ah))) (aP _)) (ax (aG (bf (aa cN (aa (ag 3) ah))))) aK)))
   (av (gU iU rfl (kg rfl rfl T.n_enumerate (aa (ag 2) ah)) (ZG.weak (dY rfl rfl (aH (aF (i := 3) ez.nd rfl (by first | exact Or.inl rfl | exact Or.inr rfl)) (aH (aF (i := 4) ez.nd rfl (by first | exact Or.inl rfl | exact Or.inr rfl)) dA)))) (ax (aV (b8 (bN (au c_lies_within (hr.mono (by omega)) rfl (ak aB) (aa (ag 0) (aa (ag 4) ah))))) (ax (aG (bf (aa cN (aa (ag 3) ah))))) aK)))
   (ax (aG (au c_first_over (hr.mono (by omega)) rfl (ak aB) (aa (ag 2) ah))))))))))
noncomputable def fC : PSt :=
 (aD (bc false 3 fS)
  (aD (bc false 4 fS)
  (aD (uN cC 5 (bc false 4 (az bz (af (ai 0) (af (ai 1) (af (ai 2) ao))))) (bc false 3 (ai 5)))
  (aD (xIf (qOf (pOp bIs (ai 3) fS)) (aW (pOp bIx (d9 (af (aq 9) (af (aq 3) ao))) (pFn rM (af (pOr (pOp bIs (ai 4) fS) (pFn (a8 kits) (af (ai 4) (af (pTy "tuple") ao)))) ao)))) xNx)
  (aD (bc false 6 (d9 (af (pFn (a8 kits) (af (ai 3) (af (iq "NoBox") ao))) (af (pFn (a8 kits) (af (ai 3) (af (iq "NoWeights") ao))) (af (pFn (a8 kits) (af (ai 3) (af (iq "TooMany") ao))) ao)))))
  (aD (xIf (qO (qOf (pOp bNe (nE iH (ai 6) (af (pBl true) ao)) (aq 1))) (qOf (pFn (a8 kits) (af (ai 3) (af (bT (af (iq "NoRule") (af (iq "NoText") (af (iq "NoTree") (af (iq "NoWay") (af (iq "Unknown") ao)))))) ao))))) (aW (aq 9)) xNx)
  (aW (nE iG (ai 6) (af (pBl true) ao)))))))))
noncomputable def bH : PFn := fnP [false, false, false] 7 fC
theorem o7 : bH.ms = [false, false, false] := rfl
theorem nr (T : Txt K mg a_RoomError a_NoFraction a_NoBox a_NoWay a_NoWeights a_TooMany a_NoTree a_NoRule a_Unknown a_NoText) (D : Def K mg "_law_class" iB) (c_fault : Callee P w K mg base "fault" 6 ["room", "weights", "boxes"] (spD K mg 3 bz.F)) : Callee P w K mg base "_law_class" (6 + 1) ["_law_room_here", "_law_weights", "_law_boxes"] (spD K mg 3 bH.F) := by
 unfold bH fC
 exact okP D cq (fun _ _ _ _ _ _ => ar3 fun _ _ _ => rfl) fun f cdv A outer s H E hr =>
  (av (aS (i := 3) cq.nd rfl (by first | exact Or.inl rfl | exact Or.inr rfl) eV)
   (av (aS (i := 4) cq.nd rfl (by first | exact Or.inl rfl | exact Or.inr rfl) eV)
   (av (zF (i := 5) se cq.nd rfl rfl rfl T.m_RoomError T.h_RoomError T.r_RoomError (fun _ _ _ hx => (ax (aS (i := 4) cq.nd rfl (by first | exact Or.inl rfl | exact Or.inr rfl) (au c_fault (hr.mono (by omega)) rfl hx (aa (ag 0) (aa (ag 1) (aa (ag 2) ah))))))) (fun _ => (ax (aS (i := 3) cq.nd rfl (by first | exact Or.inl rfl | exact Or.inr rfl) (ag 5)))))
   (av (aV (ba t4 xB (ag 3) eV (aP _)) (ax (aG (aN (ixK (K := K) rfl) aM (dh (aa aj (aa aj ah))) (j5 ub Aj rfl T.n_int n9 (aa (EN (eK t4 xB (ag 4) eV (aP _)) (fI (aE (dP (K := K) rfl) (cU T.kits) rfl T.n_isinstance aU (aa (ag 4) (aa (gn rfl T.n_tuple iO) ah))))) ah)) (fun _ _ => rfl)))) aK)
   (av (aS (i := 6) cq.nd rfl (by first | exact Or.inl rfl | exact Or.inr rfl) (dh (aa (aE (dP (K := K) rfl) (cU T.kits) rfl T.n_isinstance aU (aa (ag 3) (aa (fK rfl ⟨_, T.m_NoBox⟩) ah))) (aa (aE (dP (K := K) rfl) (cU T.kits) rfl T.n_isinstance aU (aa (ag 3) (aa (fK rfl ⟨_, T.m_NoWeights⟩) ah))) (aa (aE (dP (K := K) rfl) (cU T.kits) rfl T.n_isinstance aU (aa (ag 3) (aa (fK rfl ⟨_, T.m_TooMany⟩) ah))) ah)))))
   (av (aV (ZW.dt (g9 (ba (kE (K := K) rfl hr.units) iS (qE rfl PySem.F.slot_list_count PySem.F.type_list_count (zX (K := K) rfl hr.u100) tF (ag 6) (aa d6 ah)) aj (aP _)) (fH (bN (aE (dP (K := K) rfl) (cU T.kits) rfl T.n_isinstance aU (aa (ag 3) (aa (bf (aa (fK rfl ⟨_, T.m_NoRule⟩) (aa (fK rfl ⟨_, T.m_NoText⟩) (aa (fK rfl ⟨_, T.m_NoTree⟩) (aa (fK rfl ⟨_, T.m_NoWay⟩) (aa (fK rfl ⟨_, T.m_Unknown⟩) ah)))))) ah))))))) (ax (aG aj)) aK)
   (ax (aG (qE rfl PySem.F.slot_list_index PySem.F.type_list_index (zK (K := K) rfl hr.u100) v3 (ag 6) (aa d6 ah))))))))))
noncomputable def jI : PSt :=
 (aD (bc true 2 (az df (af (ai 0) (af (ai 1) ao))))
  (aD (bc false 3 (az c9 (af (ai 2) ao)))
  (aD (bc false 4 (pLC (jw (af (az aA (af (ai 2) (af (aq 9) ao))) ao)) [none, some 3, some 2] (by decide) (gtN 0) qY (pOp bIx (d9 (af (ai 1) (af fS (af (pSl (ai 1) oN (oS (aq 3))) (af (dQ "box") ao))))) (az aA (af (ai 2) (af (aq 4) ao))))))
  (aD (bc false 5 (pOp bGt (az aA (af (ai 2) (af (aq 3) ao))) (aq 0)))
  (aD (xIf (qNo (qTr (ai 5))) (aD (bc false 6 (bT (af (pOp eL (aq 0) (pOp bIx (pOp bIx (ai 3) (aq 2)) (aq 0))) (af (pOp bIx (pOp bIx (ai 3) (aq 2)) (aq 1)) ao))))
  (aD (bc false 7 (d9 (af fS (af (pFn oB (af (ai 3) ao)) (af (pSl (ai 3) oN (oS (aq 3))) (af (pOp bO (pSl (ai 3) oN (oS (aq 3))) (bT (af (bT (af (aq 0) (af (aq 1) ao))) ao))) (af (pOp bO (pSl (ai 3) oN (oS (aq 2))) (bT (af (ai 6) (af (pOp bIx (ai 3) (aq 3)) ao)))) (af (bT (af (ai 3) (af (ai 3) ao))) ao))))))))
  (bc false 3 (pOp bIx (ai 7) (az aA (af (ai 2) (af (aq 6) ao))))))) xNx)
  (aD (bc false 8 (az dg (af (ai 2) ao)))
  (aD (bc false 9 (aq 3))
  (aD (xIf (qNo (qTr (ai 5))) (bc false 9 (aq 0)) (xIf (qNo (qOf (az c7 (af (ai 8) ao)))) (bc false 9 (aq 1)) (xIf (qOf (pOp bGt (pFn d7 (af (ai 8) ao)) (aq 40))) (bc false 9 (aq 2)) xNx)))
  (xIf (qOf (pOp bNe (az bH (af (ai 3) (af (ai 8) (af (ai 4) ao)))) (ai 9))) (aW (pBl false)) xNx)))))))))
noncomputable def sd : PSt :=
 (aD (iW (jw (af (pFn o6 (af (aq 1) (af (pFn oT (af (aq 16) (af (pFn d7 (af (ai 0) ao)) ao))) ao))) ao)) (gtN 1) (jI))
  (aW (pBl true)))
noncomputable def lT : PFn := fnP [false] 10 sd
theorem y9 (T : Txt K mg a_RoomError a_NoFraction a_NoBox a_NoWay a_NoWeights a_TooMany a_NoTree a_NoRule a_Unknown a_NoText) (D : Def K mg "law" lF) (c_law_feed : Callee P w K mg base "_law_feed" 1 ["_law_script", "_law_k"] (spD K mg 2 df.F)) (c_law_room : Callee P w K mg base "_law_room" 3 ["_law_feed_here"] (spD K mg 1 c9.F)) (c_law_next : Callee P w K mg base "_law_next" 1 ["_law_feed_here", "_law_many"] (spD K mg 2 aA.F)) (c_law_list : Callee P w K mg base "_law_list" 2 ["_law_feed_here"] (spD K mg 1 dg.F)) (c_law_good : Callee P w K mg base "_law_good" 1 ["_law_thing"] (spD K mg 1 c7.F)) (c_law_class : Callee P w K mg base "_law_class" 7 ["_law_room_here", "_law_weights", "_law_boxes"] (spD K mg 3 bH.F)) : Callee P w K mg base "law" (7 + 1) ["_law_script"] (spD K mg 1 lT.F) := by
 unfold lT sd jI
 exact okP D cG (fun _ _ _ _ _ _ => ar1 fun _ => rfl) fun f cdv A outer s H E hr =>
  (av (gU iU rfl (fG rfl T.n_range (aa (aE (sZ rfl) yb rfl T.n_max Cm (aa aj (aa (aE (tL rfl) yN rfl T.n_min AX (aa aj (aa (aE (fA (K := K) rfl) dU rfl T.n_len dW (aa (ag 0) ah)) ah))) ah))) ah)) (aF (i := 1) cG.nd rfl (by first | exact Or.inl rfl | exact Or.inr rfl)) (av (aS (i := 2) cG.nd rfl (by first | exact Or.inl rfl | exact Or.inr rfl) (au c_law_feed (hr.mono (by omega)) rfl (ak aB) (aa (ag 0) (aa (ag 1) ah))))
   (av (aS (i := 3) cG.nd rfl (by first | exact Or.inl rfl | exact Or.inr rfl) (au c_law_room (hr.mono (by omega)) rfl (ak aB) (aa (ag 2) ah)))
   (av (qZ (iT := 4) ["_law_script", "_law_k", "_law_feed_here", "_law_room_here", "_law_boxes", "_law_is_right", "_law_below", "_law_odd", "_law_weights", "_law_due"] (ay lF).names ["_law_again", "_law_room_here", "_law_feed_here"] [none, some 3, some 2] rfl cG.nd rfl (by first | exact Or.inl rfl | exact Or.inr rfl) (fG rfl T.n_range (aa (au c_law_next (hr.mono (by omega)) rfl (ak aB) (aa (ag 2) (aa aj ah))) ah)) (fun _ _ _ _ _ => (aF (i := 0) (show List.Nodup (["_law_again", "_law_room_here", "_law_feed_here"] : List Str) from by decide +kernel) rfl (by first | exact Or.inl rfl | exact Or.inr rfl))) (fun _ _ _ _ _ => (aN (ixK (K := K) rfl) aM (dh (aa (ag 1) (aa eV (aa (iQ rfl (ag 1) j6 (km aj)) (aa cN ah))))) (au c_law_next (hr.mono (by omega)) rfl gM (aa (ag 2) (aa aj ah))) (fun _ _ => rfl))))
   (av (aS (i := 5) cG.nd rfl (by first | exact Or.inl rfl | exact Or.inr rfl) (eK jf jh (au c_law_next (hr.mono (by omega)) rfl (ak aB) (aa (ag 2) (aa aj ah))) aj (aP _)))
   (av (aV (b8 (pE rfl (ag 5))) (av (aS (i := 6) cG.nd rfl (by first | exact Or.inl rfl | exact Or.inr rfl) (bf (aa (aC dw dk aj (aN (ixK (K := K) rfl) aM (aN (ixK (K := K) rfl) aM (ag 3) aj (fun _ _ => rfl)) aj (fun _ _ => rfl))) (aa (aN (ixK (K := K) rfl) aM (aN (ixK (K := K) rfl) aM (ag 3) aj (fun _ _ => rfl)) aj (fun _ _ => rfl)) ah))))
   (av (aS (i := 7) cG.nd rfl (by first | exact Or.inl rfl | exact Or.inr rfl) (dh (aa eV (aa (j5 (zS (K := K) rfl) zb rfl T.n_list ma (aa (ag 3) ah)) (aa (iQ rfl (ag 3) j6 (km aj)) (aa (aC (bw (K := K) rfl) bt (iQ rfl (ag 3) j6 (km aj)) (bf (aa (bf (aa aj (aa aj ah))) ah))) (aa (aC (bw (K := K) rfl) bt (iQ rfl (ag 3) j6 (km aj)) (bf (aa (ag 6) (aa (aN (ixK (K := K) rfl) aM (ag 3) aj (fun _ _ => rfl)) ah)))) (aa (bf (aa (ag 3) (aa (ag 3) ah))) ah))))))))
   (ax (aS (i := 3) cG.nd rfl (by first | exact Or.inl rfl | exact Or.inr rfl) (aN (ixK (K := K) rfl) aM (ag 7) (au c_law_next (hr.mono (by omega)) rfl (ak aB) (aa (ag 2) (aa aj ah))) (fun _ _ => rfl)))))) aK)
   (av (aS (i := 8) cG.nd rfl (by first | exact Or.inl rfl | exact Or.inr rfl) (au c_law_list (hr.mono (by omega)) rfl (ak aB) (aa (ag 2) ah)))
   (av (aS (i := 9) cG.nd rfl (by first | exact Or.inl rfl | exact Or.inr rfl) aj)
   (av (aV (b8 (pE rfl (ag 5))) (ax (aS (i := 9) cG.nd rfl (by first | exact Or.inl rfl | exact Or.inr rfl) aj)) (ax (aV (b8 (bN (au c_law_good (hr.mono (by omega)) rfl (ak aB) (aa (ag 8) ah)))) (ax (aS (i := 9) cG.nd rfl (by first | exact Or.inl rfl | exact Or.inr rfl) aj)) (ax (aV (ba jf jh (aE (fA (K := K) rfl) dU rfl T.n_len dW (aa (ag 8) ah)) aj (aP _)) (ax (aS (i := 9) cG.nd rfl (by first | exact Or.inl rfl | exact Or.inr rfl) aj)) aK)))))
   (ax (aV (ba (kE (K := K) rfl hr.units) iS (au c_law_class (hr.mono (by omega)) rfl (ak aB) (aa (ag 3) (aa (ag 8) (aa (ag 4) ah)))) (ag 9) (aP _)) (ax (aG d6)) aK)))))))))))
   (ax (aG d6)))
end
noncomputable def fdV (a b k : Int) : Val := .lst [.int a, .int b, .int k]
theorem wY : jC.G (.int 10) (.int 18) = .val (.int (10 ^ 18)) := sk ⟨by decide, by decide, by decide⟩
theorem eZ {a m : Int} (h : 0 < m) : 0 <= a.fmod m /\ a.fmod m < m := ⟨Int.fmod_nonneg_of_pos a h, Int.fmod_lt_of_pos a h⟩
set_option hygiene false in
local macro_rules | `(tactic| simp! [$args,*]) => `(tactic| simp only [g6, EC, Ae, Ew, E2, BC, rW, Ea, vI, rb, Cb, zO, B1, zD, zA, Ab, AL, CG, x6, uS, An, Ao, yI, zB, DC, Dq, v_bl, Du, Ez, v_ty, D6, v_un, v_op, EH, Bk, v_fn, C0, Dp, DX, y_or, Dy, c_of, c_tr, c_o, c_no, x_nx, Dh, zo, xQ, yh, Ax, xb, x_if, CU, EL, EV, yE, vV, wR, g_n, g_sn, g_sc, g_t, g_x, Bi, D9, D7, yj, DN, E8, D2, Dg, C5, BI, B7, DU, n6, BF, DD, EX, Ah, B0, Al, E7, En, x5, v_lc, AW, zL, zR, o_n, o_s, v_sl, v_d0, EF, EI, k_lt, k_gt, k_ge, Dv, k_ix, Bu, Cd, Eu, k_eq, k_ne, EU, k_is, Di, Et, Dj, DK, DP, DR, zj, BD, m8, List.getElem?_cons_zero, List.getElem?_cons_succ, List.set_cons_zero, List.set_cons_succ, List.length_cons, List.length_nil, List.length_set, Option.bind_some, Option.map_some, Option.isSome_some, if_true, if_false, Bool.not_true, Bool.not_false, Bool.and_true, Bool.true_and, Bool.and_false, Bool.false_and, Bool.or_true, Bool.true_or, Bool.or_false, Nat.reduceLeDiff, Nat.reduceAdd, Nat.reduceSub, Nat.zero_add, Nat.sub_self, List.cons_append, List.nil_append, List.append_nil, List.replicate, reduceCtorEq, decide_true, decide_false, Bool.false_eq_true, List.all_cons, List.all_nil, List.isEmpty_nil, List.map_cons, List.map_nil, Int.reduceBEq, Int.reduceAdd, Int.reduceSub, Int.reduceMul, Int.cast_ofNat_Int, Bq, yx, Ck, Bz, yK, wg, zw, tf, za, zt, xK, uh, yB, Bw, vd, Ad, yG, Bm, wk, AD, Cv, yH, Ek, D1, DY, C3, tj, tE, tx, rj, pR, ur, u6, sR, sY, mK, mG, pI, nK, ixn0, ixn1, Ej, cM, tT, Ak, Bf, Int.reduceNeg, yT, As, pV, pQ, sF, oV, pL, pS, p6, p7, ky, mf, t9, pG, oF, kP, pW, va, yW, uW, vy, rN, lV, gD, ni, vN, o7, lG, $args,*])
theorem aO {a b k m : Int} (h0 : 0 < m) (hm : Sm 8000 m) : ∃ r a' b', aA.G [fdV a b k, .int m] = .ok (.val (.int r)) [fdV a' b' k] /\ 0 <= r /\ r < m := by
 unfold aA
 rw [bF]
 unfold iP fdV
 have m0 : m ≠ 0 := by omega
 have d1 := fun i => fZ (i := i) m0
 have d2 := fun i => lL (i := i) (CDivB.of m0 hm)
 have ca : ∀ x : Int, CMulA 7919 x := fun x => CMulA.left (by decide) (by decide)
 have cb : ∀ x : Int, CMulA 104729 x := fun x => CMulA.left (by decide) (by decide)
 have cc : ∀ x : Int, CMulA x 48271 := fun x => CMulA.right (by decide) (by decide)
 have e1 : cS.G (.int a) (.int 1000003) = .val (.int (a.fmod 1000003)) := fZ (by decide)
 have e2 : cZ.G (.int 7919) (.int k) = .val (.int (7919 * k)) := dN (ca k)
 have e3 := fun x => dN (cb x)
 have e4 := fun x => dN (cc x)
 have e5 : ∀ x : Int, cS.G (.int x) (.int 2147483647) = .val (.int (x.fmod 2147483647)) := fun x => fZ (by decide)
 have e6 : ∀ x : Int, cS.G (.int x) (.int 65521) = .val (.int (x.fmod 65521)) := fun x => fZ (by decide)
 have e7 : ∀ x y : Int, cZ.G (.int (x.fmod 2147483647)) (.int y) = .val (.int (x.fmod 2147483647 * y)) := fun x y => dN (CMulA.left (by have := (eZ (a := x) (m := 2147483647) (by decide)).1; omega) (by have := (eZ (a := x) (m := 2147483647) (by decide)).2; omega))
 have e8 : ∀ x : Int, cS.G (.int x) (.int 2147483629) = .val (.int (x.fmod 2147483629)) := fun x => fZ (by decide)
 by_cases hc : (10 ^ 18 : Int) <= a
 ·have hc' : decide ((10 ^ 18 : Int) <= a) = true := decide_eq_true hc
  refine ⟨a.fmod m, a.fdiv m, b + 1, ?_, eZ h0⟩
  simp! [wY, hc', d1, d2]
  done
 ·have hc' : decide ((10 ^ 18 : Int) <= a) = false := decide_eq_false hc
  refine ⟨Int.fmod (Int.fmod (Int.fmod ((Int.fmod a 1000003 + 7919 * k + 104729 * (b + 1)) * 48271) 2147483647 * (Int.fmod (Int.fmod ((Int.fmod a 1000003 + 7919 * k + 104729 * (b + 1)) * 48271) 2147483647) 65521 + (b + 1))) 2147483629) m, a, b + 1, ?_, eZ h0⟩
  simp! [wY, hc', d1, e1, e2, e3, e4, e5, e6, e7, e8]
theorem gq (a : Int) : (if a < 0 then -a else a) = ((a.natAbs : Nat) : Int) := by split <;> omega
theorem o4 : ∀ (n one other : Nat), other <= n -> (xWh (qOf (pOp bNe (ai 1) (aq 0))) b0).G [.sh (.int (one : Nat)), .sh (.int (other : Nat))] = .nx [.sh (.int (Nat.gcd one other : Nat)), .sh (.int 0)]
 |
  n, one, 0, _ => by
  rw [sN]
  simp! [g6]
  rw [Nat.gcd_zero_right]
  try rfl
 | 0, one, other + 1, hl => absurd hl (by omega)
 |
  n + 1, one, other + 1, hl => by
  rw [sN]
  have e : ((((other + 1 : Nat) : Int) == 0)) = false := by rw [beq_eq_false_iff_ne]; omega
  have e1 : cS.G (.int (one : Nat)) (.int ((other + 1 : Nat) : Int)) = .val (.int (((one : Nat) : Int).fmod ((other + 1 : Nat) : Int))) := fZ (by omega)
  have e2 : ((one : Nat) : Int).fmod ((other + 1 : Nat) : Int) = ((one % (other + 1) : Nat) : Int) := by
   rw [Int.fmod_eq_emod_of_nonneg _ (by omega)]; rfl
  have ih := o4 n (other + 1) (one % (other + 1)) (by have := Nat.mod_lt one (show other + 1 > 0 by omega); omega)
  rw [Fr.euc] at ih
  rw [e2] at e1
  have bb : b0.G [.sh (.int (one : Nat)), .sh (.int ((other + 1 : Nat) : Int))] = .nx [.sh (.int ((other + 1 : Nat) : Int)), .sh (.int ((one % (other + 1) : Nat) : Int))] := by
   unfold b0
   simp! [e1]
  simp! [e, bb, ih]
theorem cL (a b : Int) : a9.G [.int a, .int b] = .ok (.val (.int (Int.gcd a b : Nat))) [] := by
 unfold a9
 rw [bF]
 unfold eA
 have := o4 b.natAbs a.natAbs b.natAbs (Nat.le_refl _)
 simp! [gq, this]
 rfl
theorem iz {a b : Int} (hb : b ≠ 0) (hs : Sm 8000 b) : bI.G [.int a, .int b] = .ok (.val (fV ((a : Rat) / (b : Rat)))) [] := by
 unfold bI
 rw [bF]
 unfold jk
 have e : (b == 0) = false := by rw [beq_eq_false_iff_ne]; exact hb
 have c : ∀ x, CDivB x (Fr.dv a b) := fun x => CDivB.of (Fr.dv_ne hb) (hs.of_le (by
   rw [Fr.dv_abs]
   exact Nat.le_of_dvd (by omega) (Nat.gcd_dvd_right a.natAbs b.natAbs)))
 have k1 := lL (c a)
 have k2 := lL (c b)
 have hh := lA (a := a) hb
 have fin : Val.tup [.int (a.fdiv (Fr.dv a b)), .int (b.fdiv (Fr.dv a b))] = fV ((a : Rat) / (b : Rat)) := by
  unfold fV
  rw [<- hh.1, <- hh.2]
  rfl
 by_cases hn : b < 0
 ·have hd : Fr.dv a b = -((Int.gcd a b : Nat) : Int) := by unfold Fr.dv; rw [if_pos hn]
  rw [hd] at k1 k2 fin
  simp! [e, cL, decide_eq_true hn, k1, k2, fin]
 ·have hd : Fr.dv a b = ((Int.gcd a b : Nat) : Int) := by unfold Fr.dv; rw [if_neg hn]
  rw [hd] at k1 k2 fin
  simp! [e, cL, decide_eq_false hn, k1, k2, fin]
theorem oA {p q : Rat} {n m : Nat} (hp : Sz n p) (hq : Sz m q) (h : n + m <= 8000) : eG.G [fV p, fV q] = .ok (.val (fV (p + q))) [] := by
 have c1 := dN (CMulA.of hp.top hq.bot (by omega) (by omega))
 have c2 := dN (CMulA.of hq.top hp.bot (by omega) (by omega))
 have c3 := dN (CMulA.of hp.bot hq.bot (by omega) (by omega))
 have fe := iz (a := p.num * q.den + q.num * p.den) (b := p.den * q.den) (Int.mul_ne_zero (dq p) (dq q)) ((hp.bot.mul hq.bot).mono h)
 rw [<- qc] at fe
 unfold eG
 rw [bF]
 unfold l9
 rw [show fV p = .tup [.int p.num, .int p.den] from rfl, show fV q = .tup [.int q.num, .int q.den] from rfl]
 simp! [c1, c2, c3, fe]
theorem oM {p q : Rat} {n m : Nat} (hp : Sz n p) (hq : Sz m q) (h : n + m <= 8000) : dJ.G [fV p, fV q] = .ok (.val (fV (p * q))) [] := by
 have c1 := dN (CMulA.of hp.top hq.top (by omega) (by omega))
 have c2 := dN (CMulA.of hp.bot hq.bot (by omega) (by omega))
 have fe := iz (a := p.num * q.num) (b := p.den * q.den) (Int.mul_ne_zero (dq p) (dq q)) ((hp.bot.mul hq.bot).mono h)
 rw [<- qw] at fe
 unfold dJ
 rw [bF]
 unfold mr
 rw [show fV p = .tup [.int p.num, .int p.den] from rfl, show fV q = .tup [.int q.num, .int q.den] from rfl]
 simp! [c1, c2, fe]
theorem cI {p q : Rat} {n m : Nat} (hp : Sz n p) (hq : Sz m q) (h1 : n <= 100000) (h2 : m <= 100000) : bj.G [fV p, fV q] = .ok (.val (.bl (decide (p < q)))) [] := by
 have c1 := dN (CMulA.of hp.top hq.bot h1 h2)
 have c2 := dN (CMulA.of hq.top hp.bot h2 h1)
 unfold bj
 rw [bF]
 unfold jS
 rw [show fV p = .tup [.int p.num, .int p.den] from rfl, show fV q = .tup [.int q.num, .int q.den] from rfl]
 simp! [c1, c2]
 rw [show decide (p.num * (q.den : Int) < q.num * (p.den : Int)) = decide (p < q) from decide_eq_decide.mpr (BY p q).symm]
theorem iM {v : Val} (hk : knV v = true) : (a8 kits).G [v, .ty "tuple"] = .val (.bl (ek v)) := by
 cases v <;> first | rfl | cases hk
theorem ij {v : Val} (hk : knV v = true) : bQ.G [v] = .ok (.val (.bl (gQ v))) [] := by
 unfold bQ
 rw [bF]
 unfold iR
 cases v <;> first | rfl | cases hk
theorem og (v : Val) : ek v = false \/ ∃ xs, v = .tup xs := by
 cases v <;> first | exact .inr ⟨_, rfl⟩ | exact .inl rfl
theorem jD (v : Val) : gQ v = false \/ ∃ i, v = .int i := by
 cases v <;> first | exact .inr ⟨_, rfl⟩ | exact .inl rfl
theorem E9 {v : Val} (h : ek v = false) : aQ v = false := by
 cases v <;> first | rfl | cases h
theorem C6 {v : Val} (h : ek v = false) : bE v = false := by
 cases v <;> first | rfl | cases h
theorem AY {a b : Val} (h : gQ a = false) : aQ (.tup [a, b]) = false := by
 cases a <;> first | rfl | cases h
theorem B5 {i : Int} {b : Val} (h : gQ b = false) : aQ (.tup [.int i, b]) = false := by
 cases b <;> first | rfl | cases h
theorem DZ {xs : List Val} (hl : xs.length ≠ 2) : aQ (.tup xs) = false := by
 unfold aQ
 split
 ·rename_i e; injection e with e; subst e; exact absurd rfl hl
 ·rfl
theorem Fb {xs : List Val} (hl : xs.length ≠ 4) : bE (.tup xs) = false := by
 unfold bE
 split
 ·rename_i e; injection e with e; subst e; exact absurd rfl hl
 ·rfl
theorem xx {k : Nat} {v : Val} (ha : de k v = true) (h : ek v = false) : knV v = true := by
 cases v with
 | tup xs => cases h
 | _ => cases k <;> exact ha
theorem
    me {v : Val} (ha : de 1 v = true) : bM.G [v] = .ok (.val (.bl (aQ v))) [] := by
 unfold bM
 rw [bF]
 unfold fU
 rcases og v with ht | ⟨xs, rfl⟩
 ·have it := iM (xx ha ht)
  rw [ht] at it
  simp! [it, E9 ht]
 have it := iM (v := .tup xs) rfl
 by_cases hl : xs.length = 2
 ·match xs, hl, ha with
  |
   [a, b], _, ha =>
   have ha' : (knV a && (knV b && true)) = true := by simpa [de] using ha
   simp only [Bool.and_eq_true] at ha'
   have w1 := ij ha'.1
   have w2 := ij ha'.2.1
   rcases jD a with h1 | ⟨i, rfl⟩
   ·rw [h1] at w1
    simp! [it, ek, w1, AY h1]
   rcases jD b with h2 | ⟨j, rfl⟩
   ·rw [h2] at w2
    simp! [it, ek, w1, gQ, w2, B5 h2]
   have f : aQ (.tup [.int i, .int j]) = (decide (1 <= j) && decide (Int.gcd i j = 1)) := rfl
   have g : ((((Int.gcd i j : Nat) : Int) == 1) : Bool) = decide (Int.gcd i j = 1) := by
    rw [Bool.eq_iff_iff, beq_iff_eq, decide_eq_true_eq]; omega
   by_cases hj : 1 <= j
   ·simp! [it, ek, w1, w2, gQ, cL, decide_eq_true hj, f, g]
   ·simp! [it, ek, w1, w2, gQ, cL, decide_eq_false hj, f, g]
 ·have e : (((xs.length : Nat) : Int) == 2) = false := by rw [beq_eq_false_iff_ne]; omega
  simp! [it, ek, e, DZ hl]
theorem
    jM {v : Val} (ha : de 2 v = true) : cX.G [v] = .ok (.val (.bl (bE v))) [] := by
 unfold cX
 rw [bF]
 unfold kW
 rcases og v with ht | ⟨xs, rfl⟩
 ·have it := iM (xx ha ht)
  rw [ht] at it
  simp! [it, C6 ht]
 have it := iM (v := .tup xs) rfl
 by_cases hl : xs.length = 4
 ·match
     xs, hl, ha with
  |
   [a, b, c, d], _, ha =>
   have e1 : bE (.tup [a, b, c, d]) = (aQ a && (aQ b && (aQ c && (aQ d && (d8 c && d8 d))))) := rfl
   have bl4 : ∀ x y z w : Bool, j0 [.bl x, .bl y, .bl z, .bl w] = some [x, y, z, w] := fun _ _ _ _ => rfl
   obtain ⟨e', ⟨s', rfl, _⟩, lc⟩ := kc (g := (gtN 0).G) (F := (az bM (af (ai 0) ao)).G) (f := fun v => .bl (aQ v)) (fun e => ∃ s, e = [s] /\ s.pl = true) [a, b, c, d] [] [.no] ⟨.no, rfl, rfl⟩ (by
    rintro v hv e ⟨s, rfl, hs⟩
    have hv' : de 1 v = true := List.all_eq_true.mp (by simpa [de] using ha) v hv
    refine ⟨[.sh v], .val (.bl (aQ v)), [.sh v], ?_, ?_, rfl, ⟨_, rfl, rfl⟩⟩
    ·simp! [hs]
    ·simp! [me hv']) (by simp)
   have cy : cY = qY.G := rfl
   rw [cy, List.nil_append] at lc
   simp only [List.map_cons, List.map_nil] at lc
   cases hA : (aQ a && (aQ b && (aQ c && aQ d))) with
   |
    true =>
    simp only [Bool.and_eq_true] at hA
    obtain ⟨p, rfl⟩ := tU hA.2.2.1
    obtain ⟨q, rfl⟩ := tU hA.2.2.2
    rw [hA.1, hA.2.1, hA.2.2.1, hA.2.2.2] at e1 lc
    have e2 : bE (.tup [a, b, fV p, fV q]) = (decide (0 < p.num) && decide (0 < q.num)) := by rw [e1]; rfl
    rw [e2]
    have i1 : (fV p).items = some [.int p.num, .int p.den] := rfl
    have i2 : (fV q).items = some [.int q.num, .int q.den] := rfl
    by_cases hp : 0 < p.num
    ·simp! [it, ek, lc, cM, bl4, id, i1, i2, decide_eq_true hp]
    ·simp! [it, ek, lc, cM, bl4, id, i1, decide_eq_false hp]
   |
    false =>
    have e2 : bE (.tup [a, b, c, d]) = false := by
     rw [e1]
     revert hA
     generalize aQ a = a', aQ b = b', aQ c = c', aQ d = d', (d8 c && d8 d) = z
     revert a' b' c' d' z
     decide
    rw [e2]
    simp! [it, ek, lc, cM, bl4, id, hA]
 ·have e : (((xs.length : Nat) : Int) == 4) = false := by rw [beq_eq_false_iff_ne]; omega
  simp! [it, ek, e, Fb hl]
theorem jQ {v : Val} (ha : de 2 v = true) : bG.G [v] = if bE v = true then .ok (.val .non) [] else .exc "NoBox" [] := by
 unfold bG
 rw [bF]
 unfold ig
 cases h : bE v with
 | true => simp! [jM ha, h]
 | false => simp! [jM ha, h]
theorem dG {b : Bx} (hb : b.Ok) : bG.G [bV b] = .ok (.val .non) [] := by rw [jQ (oR b), pB hb]; rfl
theorem xh {v : Val} (h : gQ v = false) : dC v = false := by
 cases v <;> first | rfl | cases h
theorem vj (v : Val) : dF v = false \/ ∃ xs, v = .lst xs := by
 cases v <;> first | exact .inr ⟨_, rfl⟩ | exact .inl rfl
theorem oy {v : Val} (hk : knV v = true) : b9.G [v] = .ok (.val (.bl (dC v))) [] := by
 have w := ij hk
 unfold b9
 rw [bF]
 unfold ik
 rcases jD v with h | ⟨i, rfl⟩
 ·rw [h] at w
  simp! [w, xh h]
 ·simp! [w, gQ]; rfl
theorem kq {v : Val} (hk : knV v = true) : (a8 kits).G [v, .ty "list"] = .val (.bl (dF v)) := by
 cases v <;> first | rfl | cases hk
noncomputable def eX (v : Val) : R3F := match v with
 | .lst xs => if xs = [] then .exc "NoWeights" [] else if xs.all dC = true then (if xs.length <= 40 then .ok (.val .non) [] else .exc "TooMany" []) else .exc "NoWeights" []
 | _ => .exc "NoWeights" []
theorem CD {v : Val} (h : dF v = false) : eX v = .exc "NoWeights" [] := by
 cases v <;> first | rfl | cases h
noncomputable def fQ : Val -> Bool
 | .lst xs => decide (xs.length <= 1000) && xs.all knV
 | v => knV v
theorem qQ {v : Val} (h : fQ v = true) (hl : dF v = false) : knV v = true := by cases v <;> first | (cases hl; done) | exact h
theorem gz (f : Val -> Bool) : ∀ xs : List Val, j0 (xs.map fun v => .bl (f v)) = some (xs.map f)
 | [] => rfl
 | x :: xs => by show (j0 (xs.map fun v => .bl (f v))).map (f x :: ·) = _; rw [gz f xs]; rfl
theorem f9 (f : Val -> Bool) (xs : List Val) : (xs.map f).all id = xs.all f := by rw [List.all_map]; rfl
theorem
    gG {v : Val} (ha : fQ v = true) : bx.G [v] = eX v := by
 unfold bx
 rw [bF]
 unfold eP
 rcases vj v with hv | ⟨xs, rfl⟩
 ·have il := kq (qQ ha hv)
  rw [hv] at il
  rw [CD hv]
  simp! [il]
 ·have ha' : xs.length <= 1000 /\ xs.all knV = true := by simpa [fQ] using ha
  have il := kq (v := .lst xs) rfl
  unfold eX
  dsimp only
  by_cases h0 : xs = []
  ·subst h0
   simp! [il]
  ·have e0 : (((xs.length : Nat) : Int) == 0) = false := by
    rw [beq_eq_false_iff_ne]
    intro z
    exact h0 (List.length_eq_zero_iff.mp (by omega))
   rw [if_neg h0]
   obtain ⟨e', p', lc⟩ := kc (g := (gtN 0).G) (F := (az b9 (af (ai 0) ao)).G) (f := fun v => .bl (dC v)) (fun e => ∃ s, e = [s] /\ s.pl = true) xs [] [.no] ⟨.no, rfl, rfl⟩ (by
    rintro v hv e ⟨s, rfl, hs⟩
    refine ⟨[.sh v], .val (.bl (dC v)), [.sh v], ?_, ?_, rfl, ⟨_, rfl, rfl⟩⟩
    ·simp! [hs]
    ·simp! [oy (List.all_eq_true.mp ha'.2 v hv)]) (by simp; omega)
   obtain ⟨s', rfl, _⟩ := p'
   have cy : cY = qY.G := rfl
   rw [cy, List.nil_append] at lc
   have hlen : (xs.map fun v => Val.bl (dC v)).length <= 16777216 := by rw [List.length_map]; omega
   by_cases hw : xs.all dC = true
   ·rw [if_pos hw]
    by_cases h40 : xs.length <= 40
    ·have hd : decide ((40 : Int) < ((xs.length : Nat) : Int)) = false := decide_eq_false (by omega)
     rw [if_pos h40]
     simp! [il, e0, cM, lc, hlen, gz, f9, hw, hd]
    ·have hd : decide ((40 : Int) < ((xs.length : Nat) : Int)) = true := decide_eq_true (by omega)
     rw [if_neg h40]
     simp! [il, e0, cM, lc, hlen, gz, f9, hw, hd]
   ·have hw' : xs.all dC = false := Bool.eq_false_iff.mpr hw
    rw [if_neg hw]
    simp! [il, e0, cM, lc, hlen, gz, f9, hw']
theorem oQ {ws : List Int} (h0 : ws ≠ []) (h1 : ∀ w ∈ ws, 1 <= w) (h2 : ws.length <= 40) : bx.G [.lst (ws.map .int)] = .ok (.val .non) [] := by
 have ha : fQ (.lst (ws.map .int)) = true := by
  simp only [fQ, Bool.and_eq_true, decide_eq_true_eq, List.length_map]
  exact ⟨by omega, by rw [List.all_eq_true]; intro v hv; obtain ⟨w, _, rfl⟩ := List.mem_map.mp hv; rfl⟩
 rw [gG ha]
 unfold eX
 dsimp only
 rw [if_neg (by intro z; exact h0 (List.map_eq_nil_iff.mp z)), if_pos (by
  rw [List.all_eq_true]; intro v hv
  obtain ⟨w, hw, rfl⟩ := List.mem_map.mp hv
  exact decide_eq_true (h1 w hw)), if_pos (by rw [List.length_map]; exact h2)]
theorem p9 {b : Bx} {n : Nat} (hb : b.Ok) (hs : b.Sz n) (h : n + n <= 8000) : fL.G [bV b] = .ok (.val (fV (b.w * b.h))) [] := by
 have c := dG hb
 have t := oM hs.w hs.h h
 unfold fL
 rw [bF]
 unfold o3
 rw [show bV b = .tup [fV b.l, fV b.t, fV b.w, fV b.h] from rfl] at *
 simp! [c, t]
structure Wl where
 l : Rat
 r : Rat
 t : Rat
 b : Rat
noncomputable def wlV (w : Wl) : Val := .tup [fV w.l, fV w.r, fV w.t, fV w.b]
noncomputable def wlB (b : Bx) : Wl := ⟨b.l, b.l + b.w, b.t, b.t + b.h⟩
structure Wl.Sz (n : Nat) (w : Wl) : Prop where
 l : L2.Sz n w.l
 r : L2.Sz n w.r
 t : L2.Sz n w.t
 b : L2.Sz n w.b
theorem n8 {b : Bx} {n : Nat} (hs : b.Sz n) : (wlB b).Sz (n + n + 1) := ⟨hs.l.mono (by omega), (hs.l.add hs.w).mono (by omega), hs.t.mono (by omega), (hs.t.add hs.h).mono (by omega)⟩
theorem kF {b : Bx} {n : Nat} (hs : b.Sz n) (h : n + n <= 8000) : cT.G [bV b] = .ok (.val (wlV (wlB b))) [] := by
 have a1 := oA hs.l hs.w h
 have a2 := oA hs.t hs.h h
 unfold cT
 rw [bF]
 unfold mF
 rw [show bV b = .tup [fV b.l, fV b.t, fV b.w, fV b.h] from rfl]
 simp! [a1, a2]
 rfl
noncomputable def inB (a b : Wl) : Bool := !decide (b.l < a.l) && !decide (a.r < b.r) && (!decide (b.t < a.t) && !decide (a.b < b.b))
theorem mm {a b : Bx} {n m : Nat} (ha : a.Sz n) (hb : b.Sz m) (h1 : n + n <= 8000) (h2 : m + m <= 8000) : bY.G [bV a, bV b] = .ok (.val (.bl (inB (wlB a) (wlB b)))) [] := by
 have w1 := kF ha h1
 have w2 := kF hb h2
 have s1 := n8 ha
 have s2 := n8 hb
 generalize wlB a = A at *
 generalize wlB b = B at *
 have l1 := cI s2.l s1.l (by omega) (by omega)
 have l2 := cI s1.r s2.r (by omega) (by omega)
 have l3 := cI s2.t s1.t (by omega) (by omega)
 have l4 := cI s1.b s2.b (by omega) (by omega)
 unfold bY
 rw [bF]
 unfold fX inB
 rw [show wlV A = .tup [fV A.l, fV A.r, fV A.t, fV A.b] from rfl] at w1
 rw [show wlV B = .tup [fV B.l, fV B.r, fV B.t, fV B.b] from rfl] at w2
 by_cases c1 : B.l < A.l <;> by_cases c2 : A.r < B.r <;> by_cases c3 : B.t < A.t <;> (simp only [c1, c2, c3, decide_true, decide_false] at l1 l2 l3; simp! [w1, w2, l1, l2, l3, l4, c1, c2, c3])
noncomputable def ovB (a b : Wl) : Bool := decide (a.l < b.r) && decide (b.l < a.r) && (decide (a.t < b.b) && decide (b.t < a.b))
theorem vM {a b : Wl} {n m : Nat} (ha : a.Sz n) (hb : b.Sz m) (h1 : n <= 100000) (h2 : m <= 100000) : aT.G [wlV a, wlV b] = .ok (.val (.bl (ovB a b))) [] := by
 have l1 := cI ha.l hb.r h1 h2
 have l2 := cI hb.l ha.r h2 h1
 have l3 := cI ha.t hb.b h1 h2
 have l4 := cI hb.t ha.b h2 h1
 unfold aT
 rw [bF]
 unfold cA ovB
 rw [show wlV a = .tup [fV a.l, fV a.r, fV a.t, fV a.b] from rfl, show wlV b = .tup [fV b.l, fV b.r, fV b.t, fV b.b] from rfl]
 by_cases c1 : a.l < b.r <;> by_cases c2 : b.l < a.r <;> by_cases c3 : a.t < b.b <;> (simp only [c1, c2, c3, decide_true, decide_false] at l1 l2 l3; simp! [l1, l2, l3, l4, c1, c2, c3])
noncomputable def ovJ (D : List Wl) (w : Wl) (j : Nat) : Bool := match D[j]? with
 | some u => ovB u w
 | none => false
noncomputable def ovP (D : List Wl) (p : Wl × Nat) : Bool := ((List.range p.2).find? (ovJ D p.1)).isSome
noncomputable def ovR (D : List Wl) (p : Wl × Nat) : Val := .tup [.str "over", .int (((List.range p.2).find? (ovJ D p.1)).getD 0 : Nat), .int (p.2 : Nat)]
noncomputable def nz (bs : List Bx) : Val := match ((bs.map wlB).zipIdx).find? (ovP (bs.map wlB)) with
 | some p => ovR (bs.map wlB) p
 | none => .non
theorem
    y0 {bs : List Val} {D : List Wl} {w : Wl} {i : Nat} {m : Nat} (hW : ∀ w ∈ D, w.Sz m) (hw : w ∈ D) (hi : i < D.length) (hm : m <= 100000) {s4 : Sl} (h4 : s4.pl = true) : ∃ s4' : Sl, s4'.pl = true /\ eD (gtN 4).G du.G (rgV i) [.sh (.lst bs), .sh (.lst (D.map wlV)), .sh (.int (i : Nat)), .sh (wlV w), s4] = fdS (fun j : Nat => .val (.tup [.str "over", .int (j : Nat), .int (i : Nat)])) [.sh (.lst bs), .sh (.lst (D.map wlV)), .sh (.int (i : Nat)), .sh (wlV w), s4'] ((List.range i).find? (ovJ D w)) := by
 obtain ⟨e2, ⟨s4', rfl, h4'⟩, fr⟩ := eH (g := (gtN 4).G) (B := du.G) (fun j : Nat => Val.int (j : Nat)) (ovJ D w) (fun j => .val (.tup [.str "over", .int (j : Nat), .int (i : Nat)])) (fun e => ∃ s4, e = [.sh (.lst bs), .sh (.lst (D.map wlV)), .sh (.int (i : Nat)), .sh (wlV w), s4] /\ s4.pl = true) (List.range i) [.sh (.lst bs), .sh (.lst (D.map wlV)), .sh (.int (i : Nat)), .sh (wlV w), s4] ⟨_, rfl, h4⟩ (by
   rintro j hj e ⟨s4, rfl, h4⟩
   have hj := List.mem_range.mp hj
   have hjl : j < D.length := by omega
   have ej : D[j]? = some D[j] := List.getElem?_eq_getElem hjl
   have at1 : atI (D.map wlV) ((j : Nat) : Int) = some (wlV D[j]) := gh (by omega) (by rw [Int.toNat_natCast, List.getElem?_map, ej]; rfl)
   have sh := vM (hW D[j] (List.getElem_mem hjl)) (hW w hw) hm hm
   have oe : ovJ D w j = ovB D[j] w := by unfold ovJ; rw [ej]
   refine ⟨[.sh (.lst bs), .sh (.lst (D.map wlV)), .sh (.int (i : Nat)), .sh (wlV w), .sh (.int (j : Nat))], [.sh (.lst bs), .sh (.lst (D.map wlV)), .sh (.int (i : Nat)), .sh (wlV w), .sh (.int (j : Nat))], ?_, ⟨_, rfl, rfl⟩, ?_⟩
   ·simp! [h4]
   ·rw [oe]
    unfold du
    cases hc : ovB D[j] w with
    | true => left; simp! [at1, sh, hc, and_true]
    | false => right; simp! [at1, sh, hc, and_true, or_false, true_or])
 exact ⟨s4', h4', fr⟩
theorem
    vh {bs : List Val} {D : List Wl} {m : Nat} (hW : ∀ w ∈ D, w.Sz m) (hm : m <= 100000) (hl : D.length <= 1000) : ∃ s2 s3 s4 : Sl, eD (gtX (gtT 2 (aY (gtN 2) (aY (gtN 3) dH)))).G dn.G (fT 0 (D.map wlV)) [.sh (.lst bs), .sh (.lst (D.map wlV)), .no, .no, .no] = fdS (fun p => .val (ovR D p)) [.sh (.lst bs), .sh (.lst (D.map wlV)), s2, s3, s4] (D.zipIdx.find? (ovP D)) := by
 obtain ⟨e2, ⟨p2, p3, p4, rfl, h2, h3, h4⟩, fr⟩ := eH (g := (gtX (gtT 2 (aY (gtN 2) (aY (gtN 3) dH)))).G) (B := dn.G) (fun p : Wl × Nat => .tup [.int (p.2 : Nat), wlV p.1]) (ovP D) (fun p => .val (ovR D p)) (fun e => ∃ s2 s3 s4, e = [.sh (.lst bs), .sh (.lst (D.map wlV)), s2, s3, s4] /\ s2.pl = true /\ s3.pl = true /\ s4.pl = true) D.zipIdx [.sh (.lst bs), .sh (.lst (D.map wlV)), .no, .no, .no] ⟨_, _, _, rfl, rfl, rfl, rfl⟩ (by
  rintro ⟨w, i⟩ hwi e ⟨s2, s3, s4, rfl, h2, h3, h4⟩
  have hi := List.mem_zipIdx hwi
  obtain ⟨s4', h4', fr⟩ := y0 (bs := bs) (i := i) hW (List.fst_mem_of_mem_zipIdx hwi) (by omega) hm h4
  have rg := qI (k := i) (by omega)
  refine ⟨[.sh (.lst bs), .sh (.lst (D.map wlV)), .sh (.int (i : Nat)), .sh (wlV w), s4], [.sh (.lst bs), .sh (.lst (D.map wlV)), .sh (.int (i : Nat)), .sh (wlV w), s4'], ?_, ⟨_, _, _, rfl, rfl, rfl, h4'⟩, ?_⟩
  ·simp! [h2, h3]
  ·have op : ovP D (w, i) = ((List.range i).find? (ovJ D w)).isSome := rfl
   have or : ovR D (w, i) = .tup [.str "over", .int (((List.range i).find? (ovJ D w)).getD 0 : Nat), .int (i : Nat)] := rfl
   unfold dn
   rw [op, or]
   cases hf : (List.range i).find? (ovJ D w) with
   |
    some j =>
    rw [hf, gH] at fr
    left
    simp! [rg, fr, Option.getD_some, and_true]
   |
    none =>
    rw [hf, gA] at fr
    right
    simp! [rg, fr, Option.isSome_none, and_true, or_false, true_or])
 refine ⟨p2, p3, p4, ?_⟩
 rw [iD wlV D 0, fr]
theorem nv {bs : List Bx} {n : Nat} (hl : bs.length <= 1000) (hs : ∀ b ∈ bs, b.Sz n) (h : n + n <= 8000) : cw.G [.lst (bs.map bV)] = .ok (.val (nz bs)) [] := by
 obtain ⟨e', ⟨s', rfl, hs'⟩, lc⟩ := oI (g := (gtN 0).G) (F := (az cT (af (ai 0) ao)).G) bV (fun b => wlV (wlB b)) (fun e => ∃ s, e = [s] /\ s.pl = true) bs [] [.no] ⟨.no, rfl, rfl⟩ (by
  rintro b hb e ⟨s, rfl, hp⟩
  refine ⟨[.sh (bV b)], .val (wlV (wlB b)), [.sh (bV b)], ?_, ?_, rfl, ⟨_, rfl, rfl⟩⟩
  ·simp! [hp]
  ·simp! [kF (hs b hb) h]) (by simp; omega)
 rw [List.nil_append] at lc
 have hW : ∀ w ∈ bs.map wlB, w.Sz (n + n + 1) := by
  intro w hw
  obtain ⟨b, hb, rfl⟩ := List.mem_map.mp hw
  exact n8 (hs b hb)
 have hm : bs.map (fun b => wlV (wlB b)) = (bs.map wlB).map wlV := by rw [List.map_map]; rfl
 have hlen : (bs.map fun b => wlV (wlB b)).length <= 16777216 := by rw [List.length_map]; omega
 rw [hm] at lc hlen
 obtain ⟨s2, s3, s4, fr⟩ := vh (bs := bs.map bV) hW (by omega) (by rw [List.length_map]; exact hl)
 unfold nz
 generalize bs.map wlB = D at *
 unfold cw
 rw [bF]
 unfold gW
 cases hf : D.zipIdx.find? (ovP D) with
 |
  some p =>
  rw [hf, gH] at fr
  simp! [cM, lc, hlen, fr]
 |
  none =>
  rw [hf, gA] at fr
  simp! [cM, lc, hlen, fr]
theorem lB : ∀ {ws : List Int}, (∀ w ∈ ws, 1 <= w) -> (ws.length : Int) <= ws.sum
 | [], _ => by simp
 |
  w :: ws, h => by
  have h1 := h w (List.mem_cons_self ..)
  have h2 := lB (ws := ws) fun u hu => h u (List.mem_cons_of_mem _ hu)
  rw [List.sum_cons, List.length_cons]
  omega
theorem rJ {ws : List Int} (h : ∀ w ∈ ws, 1 <= w) (h0 : ws ≠ []) : 1 <= ws.sum := by
 have := lB h
 have : ws.length ≠ 0 := fun z => h0 (List.length_eq_zero_iff.mp z)
 omega
noncomputable def ftE (r w b : Val) (e : E3) : Prop := ∃ s t : Sl, e = [.sh r, .sh w, .sh b, s, t] /\ s.pl = true /\ t.pl = true
theorem tW {r w : Val} {bs : List Val} (ha : ∀ b ∈ bs, de 2 b = true) {e : E3} (he : ftE r w (.lst bs) e) : ∃ e', ftE r w (.lst bs) e' /\ eD (gtX (gtT 2 (aY (gtN 3) (aY (gtN 4) dH)))).G iZ.G (fT 0 bs) e = fdS (fun p => .val (.tup [.str "box", .int (p.2 : Nat)])) e' (bs.zipIdx.find? (fun p => !bE p.1)) := by
 rw [xJ]
 refine eH (fun p : Val × Nat => .tup [.int (p.2 : Nat), p.1]) _ (fun p => .val (.tup [.str "box", .int (p.2 : Nat)])) (ftE r w (.lst bs)) bs.zipIdx e he ?_
 rintro ⟨v, i⟩ hvi e ⟨s, t, rfl, hs, ht⟩
 have ib := jM (ha v (List.fst_mem_of_mem_zipIdx hvi))
 refine ⟨[.sh r, .sh w, .sh (.lst bs), .sh (.int (i : Nat)), .sh v], [.sh r, .sh w, .sh (.lst bs), .sh (.int (i : Nat)), .sh v], ?_, ⟨_, _, rfl, rfl, rfl⟩, ?_⟩
 ·simp! [hs, ht]
 ·unfold iZ
  dsimp only
  cases hc : bE v with
  | true => right; simp! [ib, hc, and_true, or_false, true_or]
  | false => left; simp! [ib, hc, and_true]
noncomputable def arP (rm : Bx) (ws : List Int) (p : Bx × Nat) : Bool := match ws[p.2]? with
 | some w => !decide (p.1.w * p.1.h = rm.w * rm.h * ((w : Rat) / (ws.sum : Rat)))
 | none => false
theorem yd {rm : Bx} {ws : List Int} {bs : List Bx} {n m : Nat} (hr : rm.Ok) (hrs : rm.Sz n) (hb : ∀ b ∈ bs, b.Ok) (hbs : ∀ b ∈ bs, b.Sz n) (hw : ∀ w ∈ ws, 1 <= w) (hws : ∀ w ∈ ws, Sm m w) (hS : Sm m ws.sum) (hl : bs.length = ws.length) (h : n + n + m <= 8000) {e : E3} (he : ftE (bV rm) (.lst (ws.map .int)) (.lst (bs.map bV)) e) : ∃ e', ftE (bV rm) (.lst (ws.map .int)) (.lst (bs.map bV)) e' /\ eD (gtX (gtT 2 (aY (gtN 3) (aY (gtN 4) dH)))).G jB.G (fT 0 (bs.map bV)) e = fdS (fun p => .val (.tup [.str "area", .int (p.2 : Nat)])) e' (bs.zipIdx.find? (arP rm ws)) := by
 rw [iD]
 refine eH (fun p : Bx × Nat => .tup [.int (p.2 : Nat), bV p.1]) _ (fun p => .val (.tup [.str "area", .int (p.2 : Nat)])) (ftE (bV rm) (.lst (ws.map .int)) (.lst (bs.map bV))) bs.zipIdx e he ?_
 rintro ⟨b, i⟩ hvi e ⟨s, t, rfl, hs, ht⟩
 have hm := List.fst_mem_of_mem_zipIdx hvi
 have hi : i < ws.length := by have := List.mem_zipIdx hvi; omega
 have ar := p9 (hb b hm) (hbs b hm) (by omega)
 have rr := p9 hr hrs (by omega)
 have ei : ws[i]? = some ws[i] := List.getElem?_eq_getElem hi
 have at1 : atI (ws.map Val.int) ((i : Nat) : Int) = some (.int ws[i]) := gh (by omega) (by rw [Int.toNat_natCast, List.getElem?_map, ei]; rfl)
 have s0 : ws.sum ≠ 0 := by
  have := rJ hw (by intro z; rw [z] at hi; simp at hi)
  omega
 have fr := iz (a := ws[i]) s0 (hS.mono (by omega))
 have sz := Sz.div s0 (hws ws[i] (List.getElem_mem hi)) hS m (Nat.le_refl _) (Nat.le_refl _)
 have tm := oM (hrs.w.mul hrs.h) sz (by omega)
 have eq := CZ (b.w * b.h) (rm.w * rm.h * ((ws[i] : Rat) / (ws.sum : Rat)))
 have pe : arP rm ws (b, i) = !decide (b.w * b.h = rm.w * rm.h * ((ws[i] : Rat) / (ws.sum : Rat))) := by unfold arP; dsimp only; rw [ei]
 refine ⟨[.sh (bV rm), .sh (.lst (ws.map .int)), .sh (.lst (bs.map bV)), .sh (.int (i : Nat)), .sh (bV b)], [.sh (bV rm), .sh (.lst (ws.map .int)), .sh (.lst (bs.map bV)), .sh (.int (i : Nat)), .sh (bV b)], ?_, ⟨_, _, rfl, rfl, rfl⟩, ?_⟩
 ·simp! [hs, ht]
 ·rw [pe]
  unfold jB
  by_cases hc : b.w * b.h = rm.w * rm.h * ((ws[i] : Rat) / (ws.sum : Rat))
  ·rw [decide_eq_true hc] at eq ⊢
   right; simp! [ar, rr, at1, fr, tm, eq, and_true, or_false, true_or]
  ·rw [decide_eq_false hc] at eq ⊢
   left; simp! [ar, rr, at1, fr, tm, eq, and_true]
noncomputable def rS (rm : Bx) (p : Bx × Nat) : Bool := !inB (wlB rm) (wlB p.1)
theorem BB {rm : Bx} {w : Val} {bs : List Bx} {n : Nat} (hrs : rm.Sz n) (hbs : ∀ b ∈ bs, b.Sz n) (h : n + n <= 8000) {e : E3} (he : ftE (bV rm) w (.lst (bs.map bV)) e) : ∃ e', ftE (bV rm) w (.lst (bs.map bV)) e' /\ eD (gtX (gtT 2 (aY (gtN 3) (aY (gtN 4) dH)))).G iX.G (fT 0 (bs.map bV)) e = fdS (fun p => .val (.tup [.str "out", .int (p.2 : Nat)])) e' (bs.zipIdx.find? (rS rm)) := by
 rw [iD]
 refine eH (fun p : Bx × Nat => .tup [.int (p.2 : Nat), bV p.1]) _ (fun p => .val (.tup [.str "out", .int (p.2 : Nat)])) (ftE (bV rm) w (.lst (bs.map bV))) bs.zipIdx e he ?_
 rintro ⟨b, i⟩ hvi e ⟨s, t, rfl, hs, ht⟩
 have lw := mm hrs (hbs b (List.fst_mem_of_mem_zipIdx hvi)) h h
 refine ⟨[.sh (bV rm), .sh w, .sh (.lst (bs.map bV)), .sh (.int (i : Nat)), .sh (bV b)], [.sh (bV rm), .sh w, .sh (.lst (bs.map bV)), .sh (.int (i : Nat)), .sh (bV b)], ?_, ⟨_, _, rfl, rfl, rfl⟩, ?_⟩
 ·simp! [hs, ht]
 ·have pe : rS rm (b, i) = !inB (wlB rm) (wlB b) := rfl
  rw [pe]
  unfold iX
  cases hc : inB (wlB rm) (wlB b) with
  | true => right; simp! [lw, hc, and_true, or_false, true_or]
  | false => left; simp! [lw, hc, and_true]
noncomputable def nW (rm : Bx) (ws : List Int) (bs : List Bx) : Val := match bs.zipIdx.find? (arP rm ws) with
 | some p => .tup [.str "area", .int (p.2 : Nat)]
 | none => match bs.zipIdx.find? (rS rm) with
  | some p => .tup [.str "out", .int (p.2 : Nat)]
  | none => nz bs
structure Wts (m : Nat) (ws : List Int) : Prop where
 ne : ws ≠ []
 pos : ∀ w ∈ ws, 1 <= w
 le : ws.length <= 40
 sz : ∀ w ∈ ws, Sm m w
 sum : Sm m ws.sum
theorem pM {rm : Bx} {ws : List Int} {m : Nat} {bs : List Val} (hr : rm.Ok) (hw : Wts m ws) (hl : bs.length ≠ ws.length) : bz.G [bV rm, .lst (ws.map .int), .lst bs] = .ok (.val (.tup [.str "count"])) [] := by
 have c := dG hr
 have k := oQ hw.ne hw.pos hw.le
 have e : (((bs.length : Nat) : Int) == ((ws.map Val.int).length : Nat)) = false := by rw [beq_eq_false_iff_ne, List.length_map]; omega
 unfold bz
 rw [bF]
 unfold fh
 simp! [c, k, e]
theorem pY {rm : Bx} {ws : List Int} {m : Nat} {bs : List Val} (hr : rm.Ok) (hw : Wts m ws) (hl : bs.length = ws.length) (ha : ∀ b ∈ bs, de 2 b = true) {p : Val × Nat} (hf : bs.zipIdx.find? (fun p => !bE p.1) = some p) : bz.G [bV rm, .lst (ws.map .int), .lst bs] = .ok (.val (.tup [.str "box", .int (p.2 : Nat)])) [] := by
 have c := dG hr
 have k := oQ hw.ne hw.pos hw.le
 have e : (((bs.length : Nat) : Int) == ((ws.map Val.int).length : Nat)) = true := by rw [beq_iff_eq, List.length_map]; omega
 obtain ⟨e', ⟨s, t, rfl, _, _⟩, fr⟩ := tW (r := bV rm) (w := .lst (ws.map .int)) ha ⟨.no, .no, rfl, rfl, rfl⟩
 rw [hf, gH] at fr
 unfold bz
 rw [bF]
 unfold fh
 simp! [c, k, e, fr]
theorem vw {rm : Bx} {ws : List Int} {n m : Nat} {bs : List Bx} (hr : rm.Ok) (hrs : rm.Sz n) (hw : Wts m ws) (hl : bs.length = ws.length) (hb : ∀ b ∈ bs, b.Ok) (hbs : ∀ b ∈ bs, b.Sz n) (h : n + n + m <= 8000) : bz.G [bV rm, .lst (ws.map .int), .lst (bs.map bV)] = .ok (.val (nW rm ws bs)) [] := by
 have c := dG hr
 have k := oQ hw.ne hw.pos hw.le
 have e : ((((bs.map bV).length : Nat) : Int) == ((ws.map Val.int).length : Nat)) = true := by rw [beq_iff_eq, List.length_map, List.length_map]; omega
 obtain ⟨e1, he1, f1⟩ := tW (r := bV rm) (w := .lst (ws.map .int)) (bs := bs.map bV) (by
  intro v hv
  obtain ⟨b, _, rfl⟩ := List.mem_map.mp hv
  exact oR b) ⟨.no, .no, rfl, rfl, rfl⟩
 rw [show (bs.map bV).zipIdx.find? (fun p => !bE p.1) = none from by
  rw [List.find?_eq_none]
  rintro ⟨v, i⟩ hvi
  obtain ⟨b, hb', rfl⟩ := List.mem_map.mp (List.fst_mem_of_mem_zipIdx hvi)
  dsimp only
  rw [pB (hb b hb')]
  decide] at f1
 rw [gA] at f1
 obtain ⟨e2, he2, f2⟩ := yd hr hrs hb hbs hw.pos hw.sz hw.sum hl h he1
 obtain ⟨s1, t1, rfl, hs1, ht1⟩ := he1
 have fo := nv (by have := hw.le; omega) hbs (by omega)
 unfold nW
 unfold bz
 rw [bF]
 unfold fh
 cases q2 : bs.zipIdx.find? (arP rm ws) with
 |
  some p =>
  rw [q2, gH] at f2
  obtain ⟨s2, t2, rfl, _, _⟩ := he2
  simp! [c, k, e, f1, f2]
 |
  none =>
  rw [q2, gA] at f2
  obtain ⟨e3, he3, f3⟩ := BB hrs hbs (by omega) he2
  obtain ⟨s2, t2, rfl, _, _⟩ := he2
  obtain ⟨s3, t3, rfl, _, _⟩ := he3
  cases q3 : bs.zipIdx.find? (rS rm) with
  |
   some p =>
   rw [q3, gH] at f3
   simp! [c, k, e, f1, f2, f3]
  |
   none =>
   rw [q3, gA] at f3
   simp! [c, k, e, f1, f2, f3, fo]
theorem xS {ns : List Int} {k : Int} (hk : 0 <= k) : ∃ a, df.G [.kl (ns.map .int), .int k] = .ok (.new (fdV a 0 k)) [] := by
 unfold df
 rw [bF]
 unfold ji fdV
 by_cases h0 : ns.length = 0
 ·have e : ((((ns.map Val.int).length : Nat) : Int) == 0) = true := by rw [beq_iff_eq, List.length_map]; omega
  exact ⟨0, by simp! [e]⟩
 ·have e : ((((ns.map Val.int).length : Nat) : Int) == 0) = false := by rw [beq_eq_false_iff_ne, List.length_map]; omega
  have e1 : cS.G (.int k) (.int ((ns.map Val.int).length : Nat)) = .val (.int (k.fmod ((ns.map Val.int).length : Nat))) := fZ (by rw [List.length_map]; omega)
  have r := eZ (a := k) (m := ((ns.map Val.int).length : Nat)) (by rw [List.length_map]; omega)
  rw [List.length_map] at r e1
  have hi : (k.fmod (ns.length : Nat)).toNat < ns.length := by omega
  have at1 : atI (ns.map Val.int) (k.fmod (ns.length : Nat)) = some (.int ns[(k.fmod (ns.length : Nat)).toNat]) := gh r.1 (by rw [List.getElem?_map, List.getElem?_eq_getElem hi]; rfl)
  rw [List.length_map] at e
  exact ⟨ns[(k.fmod (ns.length : Nat)).toNat], by simp! [List.length_map, e, e1, at1]⟩
theorem pow6 : jC.G (.int 10) (.int 6) = .val (.int 1000000) := sk ⟨by decide, by decide, by decide⟩
theorem E1 : jc [.int 6] = some [.int 0, .int 1, .int 2, .int 3, .int 4, .int 5] := j9 (i := 6) (by decide) (by decide)
theorem gZ {a b k far : Int} (h0 : 0 <= far) (hf : far.natAbs <= 2000000000000000000000000000000) : ∃ r a' b', bA.G [fdV a b k, .int far] = .ok (.val (.int r)) [fdV a' b' k] /\ -far <= r /\ r <= far := by
 obtain ⟨r1, a1, b1, e1, _, _⟩ := aO (a := a) (b := b) (k := k) (m := 1000000) (by decide) (sm8 (by decide))
 obtain ⟨r2, a2, b2, e2, _, _⟩ := aO (a := a1) (b := b1) (k := k) (m := 1000000) (by decide) (sm8 (by decide))
 obtain ⟨r3, a3, b3, e3, _, _⟩ := aO (a := a2) (b := b2) (k := k) (m := 1000000) (by decide) (sm8 (by decide))
 obtain ⟨r4, a4, b4, e4, _, _⟩ := aO (a := a3) (b := b3) (k := k) (m := 1000000) (by decide) (sm8 (by decide))
 obtain ⟨r5, a5, b5, e5, _, _⟩ := aO (a := a4) (b := b4) (k := k) (m := 1000000) (by decide) (sm8 (by decide))
 obtain ⟨r6, a6, b6, e6, _, _⟩ := aO (a := a5) (b := b5) (k := k) (m := 1000000) (by decide) (sm8 (by decide))
 have c6 : ∀ x : Int, cZ.G (.int x) (.int 1000000) = .val (.int (x * 1000000)) := fun x => dN (CMulA.right (by decide) (by decide))
 have c2 : cZ.G (.int 2) (.int far) = .val (.int (2 * far)) := dN (CMulA.left (by decide) (by decide))
 have c3 : ∀ x : Int, cS.G (.int x) (.int (2 * far + 1)) = .val (.int (x.fmod (2 * far + 1))) := fun x => fZ (by omega)
 have fr := eZ (a := (((((0 * 1000000 + r1) * 1000000 + r2) * 1000000 + r3) * 1000000 + r4) * 1000000 + r5) * 1000000 + r6) (m := 2 * far + 1) (by omega)
 refine ⟨((((((0 * 1000000 + r1) * 1000000 + r2) * 1000000 + r3) * 1000000 + r4) * 1000000 + r5) * 1000000 + r6).fmod (2 * far + 1) - far, a6, b6, ?_, by omega, by omega⟩
 unfold bA
 rw [bF]
 unfold ir gy
 unfold fdV at *
 simp! [E1, kM, pow6, c6, e1, e2, e3, e4, e5, e6, c2, c3, Int.reduceMul]
theorem nS (x y : Val) : ∀ (n one other : Nat), other <= n -> (xWh (qOf (pOp bGt (ai 3) (aq 0))) eO).G [.sh x, .sh y, .sh (.int (one : Nat)), .sh (.int (other : Nat))] = .nx [.sh x, .sh y, .sh (.int (Nat.gcd one other : Nat)), .sh (.int 0)]
 |
  n, one, 0, _ => by
  rw [sN]
  simp! [Nat.gcd_zero_right, Int.natCast_zero, Int.lt_irrefl]
 | 0, one, other + 1, hl => absurd hl (by omega)
 |
  n + 1, one, other + 1, hl => by
  rw [sN]
  have e : decide ((0 : Int) < ((other + 1 : Nat) : Int)) = true := decide_eq_true (by omega)
  have e1 : cS.G (.int (one : Nat)) (.int ((other + 1 : Nat) : Int)) = .val (.int (((one : Nat) : Int).fmod ((other + 1 : Nat) : Int))) := fZ (by omega)
  have e2 : ((one : Nat) : Int).fmod ((other + 1 : Nat) : Int) = ((one % (other + 1) : Nat) : Int) := by
   rw [Int.fmod_eq_emod_of_nonneg _ (by omega)]; rfl
  have ih := nS x y n (other + 1) (one % (other + 1)) (by have := Nat.mod_lt one (show other + 1 > 0 by omega); omega)
  rw [Fr.euc] at ih
  rw [e2] at e1
  have bb : eO.G [.sh x, .sh y, .sh (.int (one : Nat)), .sh (.int ((other + 1 : Nat) : Int))] = .nx [.sh x, .sh y, .sh (.int ((other + 1 : Nat) : Int)), .sh (.int ((one % (other + 1) : Nat) : Int))] := by
   unfold eO
   simp! [e1]
  simp! [e, bb, ih]
theorem iI {a b : Int} (hb : b ≠ 0) (hs : Sm 8000 b) : bL.G [.int a, .int b] = .ok (.val (fV ((a : Rat) / (b : Rat)))) [] := by
 unfold bL
 rw [bF]
 unfold jU
 have lo := nS (.int a) (.int b) b.natAbs a.natAbs b.natAbs (Nat.le_refl _)
 rw [show Nat.gcd a.natAbs b.natAbs = Int.gcd a b from rfl] at lo
 have c : ∀ x, CDivB x (Fr.dv a b) := fun x => CDivB.of (Fr.dv_ne hb) (hs.of_le (by
   rw [Fr.dv_abs]
   exact Nat.le_of_dvd (by omega) (Nat.gcd_dvd_right a.natAbs b.natAbs)))
 have k1 := lL (c a)
 have k2 := lL (c b)
 have hh := lA (a := a) hb
 have fin : Val.tup [.int (a.fdiv (Fr.dv a b)), .int (b.fdiv (Fr.dv a b))] = fV ((a : Rat) / (b : Rat)) := by
  unfold fV
  rw [<- hh.1, <- hh.2]
  rfl
 by_cases hn : b < 0
 ·have hd : Fr.dv a b = 0 - ((Int.gcd a b : Nat) : Int) := by unfold Fr.dv; rw [if_pos hn]; omega
  rw [hd] at k1 k2 fin
  simp! [gq, lo, decide_eq_true hn, k1, k2, fin]
 ·have hd : Fr.dv a b = ((Int.gcd a b : Nat) : Int) := by unfold Fr.dv; rw [if_neg hn]
  rw [hd] at k1 k2 fin
  simp! [gq, lo, decide_eq_false hn, k1, k2, fin]
theorem p30 : jC.G (.int 10) (.int 30) = .val (.int 1000000000000000000000000000000) := sk ⟨by decide, by decide, by decide⟩
noncomputable def rmQ (k : Int) (r : SR3) : Prop := ∃ b a c, Good b /\ rZ [true] r = .ok (.val (bV b)) [fdV a c k]
noncomputable def rmI (k way : Int) (e : E3) : Prop := ∃ b x a c, Good b /\ x.pl = true /\ e = [.mu (fdV a c k), .sh (.int way), .sh (fV b.l), .sh (fV b.t), .sh (fV b.w), .sh (fV b.h), x]
theorem yc (a c k : Int) : ∃ b a' c', Good b /\ c9.G [fdV a c k] = .ok (.val (bV b)) [fdV a' c' k] := by
 unfold c9
 rw [xp rfl]
 show rmQ k (gj.G [.mu (fdV a c k), .no, .no, .no, .no, .no, .no])
 unfold gj
 obtain ⟨way, a1, c1, e1, hw0, hw1⟩ := aO (a := a) (b := c) (k := k) (m := 6) (by decide) (sm8 (by decide))
 refine bD (fun e => e = [.mu (fdV a1 c1 k), .sh (.int way), .no, .no, .no, .no, .no]) ⟨_, by simp! [e1], rfl⟩ ?_
 rintro _ rfl
 obtain ⟨l, a2, c2, e2, hl0, hl1⟩ := aO (a := a1) (b := c1) (k := k) (m := 19) (by decide) (sm8 (by decide))
 obtain ⟨t, a3, c3, e3, ht0, ht1⟩ := aO (a := a2) (b := c2) (k := k) (m := 19) (by decide) (sm8 (by decide))
 refine bD (fun e => e = [.mu (fdV a3 c3 k), .sh (.int way), .sh (fV ((l - 9 : Int) : Rat)), .sh (fV ((t - 9 : Int) : Rat)), .no, .no, .no]) ⟨_, by simp! [e2, e3, iV], rfl⟩ ?_
 rintro _ rfl
 obtain ⟨w, a4, c4, e4, hww0, hww1⟩ := aO (a := a3) (b := c3) (k := k) (m := 12) (by decide) (sm8 (by decide))
 obtain ⟨hh, a5, c5, e5, hh0, hh1⟩ := aO (a := a4) (b := c4) (k := k) (m := 12) (by decide) (sm8 (by decide))
 refine bD (rmI k way) ⟨[.mu (fdV a5 c5 k), .sh (.int way), .sh (fV ((l - 9 : Int) : Rat)), .sh (fV ((t - 9 : Int) : Rat)), .sh (fV ((1 + w : Int) : Rat)), .sh (fV ((1 + hh : Int) : Rat)), .no], by simp! [e4, e5, iV], ⟨_, _, _, _⟩, .no, a5, c5, ⟨⟨fg (by omega), fg (by omega)⟩, ⟨fF (by omega), fF (by omega), fF (by omega), fF (by omega)⟩⟩, rfl, rfl⟩ ?_
 rintro _ ⟨b, x, a, c, gb, hx, rfl⟩
 refine bD (rmI k way) ?_ ?_
 ·by_cases hw : way = 1
  ·subst hw
   exact ⟨[.mu (fdV a c k), .sh (.int 1), .sh (fV b.l), .sh (fV b.t), .sh (fV b.w), .sh (fV b.w), x], by simp! [g6], ⟨b.l, b.t, b.w, b.w⟩, x, a, c, ⟨⟨gb.ok.w, gb.ok.w⟩, ⟨gb.sz.l, gb.sz.t, gb.sz.w, gb.sz.w⟩⟩, hx, rfl⟩
  ·exact ⟨_, by simp! [beq_eq_false_iff_ne.mpr hw], b, x, a, c, gb, hx, rfl⟩
 rintro _ ⟨b, x, a, c, gb, hx, rfl⟩
 refine bD (rmI k way) ?_ ?_
 ·by_cases hw : way = 2
  ·subst hw
   obtain ⟨r, a1, c1, e1, h0, h1⟩ := aO (a := a) (b := c) (k := k) (m := 99) (by decide) (sm8 (by decide))
   exact ⟨[.mu (fdV a1 c1 k), .sh (.int 2), .sh (fV b.l), .sh (fV b.t), .sh (fV ((1 + r : Int) : Rat)), .sh (fV b.h), x], by simp! [e1, iV], ⟨b.l, b.t, ((1 + r : Int) : Rat), b.h⟩, x, a1, c1, ⟨⟨fg (by omega), gb.ok.h⟩, ⟨gb.sz.l, gb.sz.t, fF (by omega), gb.sz.h⟩⟩, hx, rfl⟩
  ·exact ⟨_, by simp! [beq_eq_false_iff_ne.mpr hw], b, x, a, c, gb, hx, rfl⟩
 rintro _ ⟨b, x, a, c, gb, hx, rfl⟩
 refine bD (rmI k way) ?_ ?_
 ·by_cases hw : way = 3
  ·subst hw
   obtain ⟨r, a1, c1, e1, h0, h1⟩ := aO (a := a) (b := c) (k := k) (m := 99) (by decide) (sm8 (by decide))
   exact ⟨[.mu (fdV a1 c1 k), .sh (.int 3), .sh (fV b.l), .sh (fV b.t), .sh (fV b.w), .sh (fV ((1 + r : Int) : Rat)), x], by simp! [e1, iV], ⟨b.l, b.t, b.w, ((1 + r : Int) : Rat)⟩, x, a1, c1, ⟨⟨gb.ok.w, fg (by omega)⟩, ⟨gb.sz.l, gb.sz.t, gb.sz.w, fF (by omega)⟩⟩, hx, rfl⟩
  ·exact ⟨_, by simp! [beq_eq_false_iff_ne.mpr hw], b, x, a, c, gb, hx, rfl⟩
 rintro _ ⟨b, x, a, c, gb, hx, rfl⟩
 refine bD (rmI k way) ?_ ?_
 ·by_cases hw : way = 4
  ·subst hw
   obtain ⟨r1, a1, c1, e1, h10, h11⟩ := aO (a := a) (b := c) (k := k) (m := 199) (by decide) (sm8 (by decide))
   obtain ⟨r2, a2, c2, e2, h20, h21⟩ := aO (a := a1) (b := c1) (k := k) (m := 30) (by decide) (sm8 (by decide))
   obtain ⟨r3, a3, c3, e3, h30, h31⟩ := aO (a := a2) (b := c2) (k := k) (m := 9) (by decide) (sm8 (by decide))
   obtain ⟨r4, a4, c4, e4, h40, h41⟩ := aO (a := a3) (b := c3) (k := k) (m := 99) (by decide) (sm8 (by decide))
   obtain ⟨r5, a5, c5, e5, h50, h51⟩ := aO (a := a4) (b := c4) (k := k) (m := 30) (by decide) (sm8 (by decide))
   obtain ⟨r6, a6, c6, e6, h60, h61⟩ := aO (a := a5) (b := c5) (k := k) (m := 99) (by decide) (sm8 (by decide))
   have l1 := iI (a := r1 - 99) (b := 1 + r2) (by omega) (kr (by omega))
   have l2 := iI (a := r3) (b := 7) (by omega) (kr (by omega))
   have l3 := iI (a := 1 + r4) (b := 1 + r5) (by omega) (kr (by omega))
   have l4 := iI (a := 1 + r6) (b := 11) (by omega) (kr (by omega))
   exact ⟨[.mu (fdV a6 c6 k), .sh (.int 4), .sh (fV (((r1 - 99 : Int) : Rat) / ((1 + r2 : Int) : Rat))), .sh (fV (((r3 : Int) : Rat) / ((7 : Int) : Rat))), .sh (fV (((1 + r4 : Int) : Rat) / ((1 + r5 : Int) : Rat))), .sh (fV (((1 + r6 : Int) : Rat) / ((11 : Int) : Rat))), x], by simp! [e1, e2, e3, e4, e5, e6, l1, l2, l3, l4], ⟨_, _, _, _⟩, x, a6, c6, ⟨⟨kQ (by omega) (by omega), kQ (by omega) (by omega)⟩, ⟨gu (by omega) (by omega) (by omega), gu (by omega) (by omega) (by omega), gu (by omega) (by omega) (by omega), gu (by omega) (by omega) (by omega)⟩⟩, hx, rfl⟩
  ·exact ⟨_, by simp! [beq_eq_false_iff_ne.mpr hw], b, x, a, c, gb, hx, rfl⟩
 rintro _ ⟨b, x, a, c, gb, hx, rfl⟩
 refine bD (rmI k way) ?_ ?_
 ·by_cases hw : way = 5
  ·subst hw
   obtain ⟨r1, a1, c1, e1, h10, h11⟩ := gZ (a := a) (b := c) (k := k) (far := 999999999999999999999999999999) (by decide) (by decide)
   obtain ⟨r2, a2, c2, e2, h20, h21⟩ := gZ (a := a1) (b := c1) (k := k) (far := 999999999999999999999999999998) (by decide) (by decide)
   obtain ⟨r3, a3, c3, e3, h30, h31⟩ := gZ (a := a2) (b := c2) (k := k) (far := 999999999999999999999999999999) (by decide) (by decide)
   obtain ⟨r4, a4, c4, e4, h40, h41⟩ := gZ (a := a3) (b := c3) (k := k) (far := 999999999999999999999999999998) (by decide) (by decide)
   obtain ⟨r5, a5, c5, e5, h50, h51⟩ := gZ (a := a4) (b := c4) (k := k) (far := 999999999999999999999999999998) (by decide) (by decide)
   have n2 := gq r2
   have n4 := gq r4
   have n5 := gq r5
   have l1 := iI (a := r1) (b := 1 + ((r2.natAbs : Nat) : Int)) (by omega) (kr (by omega))
   have l4 := iI (a := 1 + ((r5.natAbs : Nat) : Int)) (b := 999999999999999999999999999999) (by omega) (kr (by omega))
   exact ⟨[.mu (fdV a5 c5 k), .sh (.int 5), .sh (fV (((r1 : Int) : Rat) / ((1 + ((r2.natAbs : Nat) : Int) : Int) : Rat))), .sh (fV ((r3 : Int) : Rat)), .sh (fV ((1 + ((r4.natAbs : Nat) : Int) : Int) : Rat)), .sh (fV (((1 + ((r5.natAbs : Nat) : Int) : Int) : Rat) / ((999999999999999999999999999999 : Int) : Rat))), .sh (.int 999999999999999999999999999999)], by simp! [hx, p30, e1, e2, e3, e4, e5, n2, n4, n5, l1, l4, iV], ⟨_, _, _, _⟩, _, a5, c5, ⟨⟨fg (by omega), kQ (by omega) (by omega)⟩, ⟨gu (by omega) (by omega) (by omega), fF (by omega), fF (by omega), gu (by omega) (by omega) (by omega)⟩⟩, rfl, rfl⟩
  ·exact ⟨_, by simp! [beq_eq_false_iff_ne.mpr hw], b, x, a, c, gb, hx, rfl⟩
 rintro _ ⟨b, x, a, c, gb, hx, rfl⟩
 refine ⟨b, a, c, gb, ?_⟩
 simp! [rB, bV]
structure WtL (v : Val) : Prop where
 ask : fQ v = true
 sz : ∀ xs, v = .lst xs -> ∀ x ∈ xs, ∀ i, x = .int i -> i.natAbs <= 1000
 wf : dF v = true -> wfV 5 v = true
theorem jR {v : Val} (hk : fQ v = true) (hn : dF v = false) : WtL v := ⟨hk, (fun xs e => by subst e; cases hn), fun z => by rw [hn] at z; cases z⟩
theorem wQ {ws : List Int} (hl : ws.length <= 41) (h : ∀ w ∈ ws, 1 <= w /\ w <= 99) : WtL (.lst (ws.map .int)) := by
 refine ⟨?_, ?_, fun _ => ?_⟩
 ·simp only [fQ, Bool.and_eq_true, decide_eq_true_eq, List.length_map]
  refine ⟨by omega, ?_⟩
  rw [List.all_eq_true]; intro v hv; obtain ⟨w, _, rfl⟩ := List.mem_map.mp hv; rfl
 ·intro xs e x hx i hi
  cases e
  subst hi
  obtain ⟨w, hw, e⟩ := List.mem_map.mp hx
  cases e
  have := h i hw
  omega
 ·rw [wfV, kG, List.all_eq_true]
  intro v hv; obtain ⟨w, _, rfl⟩ := List.mem_map.mp hv; rfl
theorem xY {xs : List Val} (h : WtL (.lst xs)) (j : Nat) {v : Val} (hk : knV v = true) (hv : ∀ i, v = .int i -> i.natAbs <= 1000) (hw : wfV 4 v = true) : WtL (.lst (xs.set j v)) := by
 have ha := h.ask
 simp only [fQ, Bool.and_eq_true, decide_eq_true_eq] at ha
 refine ⟨?_, ?_, fun _ => ?_⟩
 ·simp only [fQ, Bool.and_eq_true, decide_eq_true_eq, List.length_set]
  refine ⟨ha.1, ?_⟩
  rw [List.all_eq_true]
  intro u hu
  rcases List.mem_or_eq_of_mem_set hu with hu | rfl
  ·exact List.all_eq_true.mp ha.2 u hu
  ·exact hk
 ·intro ys e x hx i hi
  cases e
  rcases List.mem_or_eq_of_mem_set hx with hx | rfl
  ·exact h.sz xs rfl x hx i hi
  ·exact hv i hi
 ·have hf := h.wf rfl
  rw [wfV, kG, List.all_eq_true] at hf ⊢
  intro u hu
  rcases List.mem_or_eq_of_mem_set hu with hu | rfl
  ·exact hf u hu
  ·exact hw
noncomputable def liQ (k : Int) (r : SR3) : Prop := ∃ rt v a c, WtL v /\ (rt = .val v \/ rt = .new v) /\ rZ [true] r = .ok rt [fdV a c k]
theorem Cr {i : Int} (h0 : 0 <= i) (h1 : i < 3) : i = 0 \/ i = 1 \/ i = 2 := by omega
theorem om {i : Int} (h0 : 0 <= i) (h1 : i < 6) : i = 0 \/ i = 1 \/ i = 2 \/ i = 3 \/ i = 4 \/ i = 5 := by omega
theorem
    yk (a c k : Int) : ∃ rt v a' c', WtL v /\ (rt = .val v \/ rt = .new v) /\ dg.G [fdV a c k] = .ok rt [fdV a' c' k] := by
 unfold dg
 rw [xp rfl]
 show liQ k (gm.G [.mu (fdV a c k), .no, .no, .no])
 unfold gm
 obtain ⟨m, a1, c1, e1, h10, h11⟩ := aO (a := a) (b := c) (k := k) (m := 9) (by decide) (sm8 (by decide))
 obtain ⟨j, a2, c2, e2, h20, h21⟩ := aO (a := a1) (b := c1) (k := k) (m := 3) (by decide) (sm8 (by decide))
 refine bD (fun e => ∃ n : Int, 1 <= n /\ n <= 41 /\ e = [.mu (fdV a2 c2 k), .sh (.int n), .no, .no]) ?_ ?_
 ·rcases Cr h20 h21 with rfl | rfl | rfl
  ·exact ⟨_, by simp! [e1, e2], 1 + m, by omega, by omega, rfl⟩
  ·exact ⟨_, by simp! [e1, e2], 40, by omega, by omega, rfl⟩
  ·exact ⟨_, by simp! [e1, e2], 41, by omega, by omega, rfl⟩
 rintro _ ⟨n, hn1, hn2, rfl⟩
 have rg := j9 (i := n) (by omega) (by omega)
 refine bD (fun e => ∃ a c xs, xs.length = n.toNat /\ WtL (.lst xs) /\ e = [.mu (fdV a c k), .sh (.int n), .ow (.lst xs), .no]) ?_ ?_
 ·obtain ⟨e', ws, ⟨s, a3, c3, rfl, hs⟩, hlen, hR, lc⟩ := j4 (g := (gtN 0).G) (F := (pOp bO (aq 1) (az aA (af (ai 1) (af (aq 99) ao)))).G) Val.int (fun w => 1 <= w /\ w <= 99) (fun e => ∃ s a c, e = [s, .mu (fdV a c k)] /\ s.pl = true) (rgV n.toNat) [] [.no, .mu (fdV a2 c2 k)] ⟨_, _, _, rfl, rfl⟩ (by
   rintro v hv e ⟨s, a, c, rfl, hs⟩
   obtain ⟨r, a1, c1, e1, h0, h1⟩ := aO (a := a) (b := c) (k := k) (m := 99) (by decide) (sm8 (by decide))
   refine ⟨[.sh v, .mu (fdV a c k)], .val (.int (1 + r)), [.sh v, .mu (fdV a1 c1 k)], 1 + r, ?_, ?_, rfl, ⟨_, _, _, rfl, rfl⟩, by omega, by omega⟩
   ·simp! [hs]
   ·simp! [e1]) (by simp [rgV]; omega)
  have hl : ws.length = n.toNat := by rw [hlen]; simp [rgV]
  have hlm : (ws.map Val.int).length <= 16777216 := by rw [List.length_map]; omega
  rw [List.nil_append] at lc
  refine ⟨[.mu (fdV a3 c3 k), .sh (.int n), .ow (.lst (ws.map .int)), .no], ?_, a3, c3, _, by rw [List.length_map]; exact hl, wQ (by omega) hR, rfl⟩
  simp! [rg, cM, tT, lc, hlm]
 rintro _ ⟨a, c, xs, hxl, hxs, rfl⟩
 obtain ⟨way, a3, c3, e3, h30, h31⟩ := aO (a := a) (b := c) (k := k) (m := 6) (by decide) (sm8 (by decide))
 refine bD (fun e => e = [.mu (fdV a3 c3 k), .sh (.int n), .ow (.lst xs), .sh (.int way)]) ⟨_, by simp! [e3], rfl⟩ ?_
 rintro _ rfl
 refine bD (fun e => ∃ a c xs, WtL (.lst xs) /\ e = [.mu (fdV a c k), .sh (.int n), .ow (.lst xs), .sh (.int way)]) ?_ ?_
 ·by_cases hw : way < 2
  ·obtain ⟨q, a4, c4, e4, h50, h51⟩ := aO (a := a3) (b := c3) (k := k) (m := 6) (by omega) (sm8 (by omega))
   obtain ⟨p, a5, c5, e5, h40, h41⟩ := aO (a := a4) (b := c4) (k := k) (m := n) (by omega) (sm8 (by omega))
   have i1 : ixN xs.length p = some p.toNat := lI h40 (by omega)
   have i2 : ixN xs.length (n - 1) = some (n - 1).toNat := lI (by omega) (by omega)
   obtain ⟨v, ev, hv, hvw, hvi⟩ : ∃ v, atI [Val.int 0, .int (-7), .bl true, .str "5", .non, .tup [.int 1]] q = some v /\ knV v = true /\ wfV 4 v = true /\ ∀ i, v = .int i -> i.natAbs <= 1000 := by
    rcases om h50 h51 with rfl | rfl | rfl | rfl | rfl | rfl
    ·exact ⟨_, mK .., rfl, rfl, by intro i hi; cases hi; decide⟩
    ·exact ⟨_, mG .., rfl, rfl, by intro i hi; cases hi; decide⟩
    ·exact ⟨_, pI .., rfl, rfl, by intro i hi; cases hi⟩
    ·exact ⟨_, nK .., rfl, by decide +kernel, by intro i hi; cases hi⟩
    ·exact ⟨_, vJ .., rfl, rfl, by intro i hi; cases hi⟩
    ·exact ⟨_, wU .., rfl, rfl, by intro i hi; cases hi⟩
   obtain ⟨j, jn, ej, ejn⟩ : ∃ j jn, atI [Val.int p, Val.int (n - 1)] way = some (Val.int j) /\ ixN xs.length j = some jn := by
    rcases (show way = 0 \/ way = 1 by omega) with rfl | rfl
    ·exact ⟨_, _, mK .., i1⟩
    ·exact ⟨_, _, mG .., i2⟩
   exact ⟨_, by simp! [decide_eq_true hw, e4, e5, ev, ej, ejn], a5, c5, _, xY hxs jn hv hvi hvw, rfl⟩
  ·exact ⟨_, by simp! [decide_eq_false hw], a3, c3, xs, hxs, rfl⟩
 rintro _ ⟨a, c, xs, hxs, rfl⟩
 by_cases hw : way = 2
 ·subst hw
  obtain ⟨q, a4, c4, e4, h50, h51⟩ := aO (a := a) (b := c) (k := k) (m := 6) (by omega) (sm8 (by omega))
  obtain ⟨v, ev, hv⟩ : ∃ v, atI [Val.lst [], .non, .tup xs, .str "12", .int 3, .dct []] q = some v /\ WtL v := by
    rcases om h50 h51 with rfl | rfl | rfl | rfl | rfl | rfl
    ·exact ⟨_, mK .., ⟨rfl, (by intro ys e x hx; cases e; cases hx), fun _ => rfl⟩⟩
    ·exact ⟨_, mG .., jR rfl rfl⟩
    ·exact ⟨_, pI .., jR rfl rfl⟩
    ·exact ⟨_, nK .., jR rfl rfl⟩
    ·exact ⟨_, vJ .., jR rfl rfl⟩
    ·exact ⟨_, wU .., jR rfl rfl⟩
  refine ⟨.val v, v, a4, c4, hv, .inl rfl, ?_⟩
  simp! [e4, ev, rB]
 ·refine ⟨.new (.lst xs), .lst xs, a, c, hxs, .inr rfl, ?_⟩
  simp! [beq_eq_false_iff_ne.mpr hw, rB]
noncomputable def ny : Val -> Bool
 | .bl _ => true
 | _ => false
noncomputable def jr : Val -> Bool
 | .lst xs => !decide (xs = []) && xs.all dC
 | _ => false
theorem yi {v : Val} (hk : knV v = true) : (a8 kits).G [v, .ty "int"] = .val (.bl (gQ v || ny v)) := by
 cases v <;> first | rfl | cases hk
theorem v9 {v : Val} (hk : knV v = true) : (a8 kits).G [v, .ty "bool"] = .val (.bl (ny v)) := by
 cases v <;> first | rfl | cases hk
theorem
    yp {v : Val} (h : WtL v) : c7.G [v] = .ok (.val (.bl (jr v))) [] := by
 unfold c7
 rw [bF]
 unfold ju
 cases hL : dF v with
 |
  false =>
  have hk := qQ h.ask hL
  have il := kq hk
  rw [hL] at il
  have : jr v = false := by cases v <;> first | rfl | cases hL
  simp! [il, this]
 |
  true =>
  cases v with
  |
   lst xs =>
   have ha' : xs.length <= 1000 /\ xs.all knV = true := by simpa [fQ] using h.ask
   have il := kq (v := .lst xs) rfl
   have en := yC (h.wf rfl) (by decide)
   by_cases h0 : xs = []
   ·subst h0
    simp! [il, en, jr]
   ·obtain ⟨e', ⟨s', rfl, _⟩, lc⟩ := kc (g := (gtN 0).G) (F := (fW (pFn (a8 kits) (af (ai 0) (af (pTy "int") ao))) (fW (kL (pFn (a8 kits) (af (ai 0) (af (pTy "bool") ao)))) (pOp bGt (ai 0) (aq 0)))).G) (f := fun v => .bl (dC v)) (fun e => ∃ s, e = [s] /\ s.pl = true) xs [] [.no] ⟨.no, rfl, rfl⟩ (by
     rintro v hv e ⟨s, rfl, hs⟩
     have hk := List.all_eq_true.mp ha'.2 v hv
     have i1 := yi hk
     have i2 := v9 hk
     refine ⟨[.sh v], .val (.bl (dC v)), [.sh v], ?_, ?_, rfl, ⟨_, rfl, rfl⟩⟩
     ·simp! [hs]
     ·rcases jD v with h | ⟨i, rfl⟩
      ·rw [h] at i1
       cases h2 : ny v <;> (rw [h2] at i1 i2; simp! [i1, i2, xh h])
      ·have e : decide (0 < i) = decide (1 <= i) := decide_eq_decide.mpr (by omega)
       simp! [i1, i2, gQ, ny, dC, e]) (by simp; omega)
    have cy : cY = qY.G := rfl
    rw [cy, List.nil_append] at lc
    have hlen : (xs.map fun v => Val.bl (dC v)).length <= 16777216 := by rw [List.length_map]; omega
    rw [decide_eq_false h0] at en
    simp! [il, en, lc, hlen, gz, f9, jr, n6]
    rw [decide_eq_false h0]
    rfl
  | _ => cases hL
theorem ve {r w b : Val} (ha : de 2 r = true) (hb : bE r = false) : bz.G [r, w, b] = .exc "NoBox" [] := by
 have c := jQ ha
 rw [hb] at c
 unfold bz
 rw [bF]
 unfold fh
 simp! [c]
theorem nL {rm : Bx} {w b : Val} {c : Str} (hr : rm.Ok) (hw : fQ w = true) (hc : eX w = .exc c []) : bz.G [bV rm, w, b] = .exc c [] := by
 have k := dG hr
 have k2 := gG hw
 rw [hc] at k2
 unfold bz
 rw [bF]
 unfold fh
 simp! [k, k2]
theorem jY {r w b : Val} {c : Str} {d : Int} (hf : bz.G [r, w, b] = .exc c []) (h : c = "NoBox" /\ d = 0 \/ c = "NoWeights" /\ d = 1 \/ c = "TooMany" /\ d = 2) : bH.G [r, w, b] = .ok (.val (.int d)) [] := by
 unfold bH
 rw [bF]
 unfold fC
 rcases h with ⟨rfl, rfl⟩ | ⟨rfl, rfl⟩ | ⟨rfl, rfl⟩
 ·have m : ("NoBox" : Str) ∈ cC := by decide +kernel
  have i1 : (a8 kits).G [.exc "NoBox", .glb "NoBox"] = .val (.bl true) := rfl
  have i2 : (a8 kits).G [.exc "NoBox", .glb "NoWeights"] = .val (.bl false) := rfl
  have i3 : (a8 kits).G [.exc "NoBox", .glb "TooMany"] = .val (.bl false) := rfl
  have i4 : (a8 kits).G [.exc "NoBox", .tup [.glb "NoRule", .glb "NoText", .glb "NoTree", .glb "NoWay", .glb "Unknown"]] = .val (.bl false) := rfl
  have ct : iH.G (.lst [.bl true, .bl false, .bl false]) [.bl true] = .val (.int 1) := rfl
  have ix : iG.G (.lst [.bl true, .bl false, .bl false]) [.bl true] = .val (.int 0) := rfl
  simp! [jx, hf, m, i1, i2, i3, i4, ct, ix]
 ·have m : ("NoWeights" : Str) ∈ cC := by decide +kernel
  have i1 : (a8 kits).G [.exc "NoWeights", .glb "NoBox"] = .val (.bl false) := rfl
  have i2 : (a8 kits).G [.exc "NoWeights", .glb "NoWeights"] = .val (.bl true) := rfl
  have i3 : (a8 kits).G [.exc "NoWeights", .glb "TooMany"] = .val (.bl false) := rfl
  have i4 : (a8 kits).G [.exc "NoWeights", .tup [.glb "NoRule", .glb "NoText", .glb "NoTree", .glb "NoWay", .glb "Unknown"]] = .val (.bl false) := rfl
  have ct : iH.G (.lst [.bl false, .bl true, .bl false]) [.bl true] = .val (.int 1) := rfl
  have ix : iG.G (.lst [.bl false, .bl true, .bl false]) [.bl true] = .val (.int 1) := rfl
  simp! [jx, hf, m, i1, i2, i3, i4, ct, ix]
 ·have m : ("TooMany" : Str) ∈ cC := by decide +kernel
  have i1 : (a8 kits).G [.exc "TooMany", .glb "NoBox"] = .val (.bl false) := rfl
  have i2 : (a8 kits).G [.exc "TooMany", .glb "NoWeights"] = .val (.bl false) := rfl
  have i3 : (a8 kits).G [.exc "TooMany", .glb "TooMany"] = .val (.bl true) := rfl
  have i4 : (a8 kits).G [.exc "TooMany", .tup [.glb "NoRule", .glb "NoText", .glb "NoTree", .glb "NoWay", .glb "Unknown"]] = .val (.bl false) := rfl
  have ct : iH.G (.lst [.bl false, .bl false, .bl true]) [.bl true] = .val (.int 1) := rfl
  have ix : iG.G (.lst [.bl false, .bl false, .bl true]) [.bl true] = .val (.int 2) := rfl
  simp! [jx, hf, m, i1, i2, i3, i4, ct, ix]
theorem wu {r w b v : Val} (hf : bz.G [r, w, b] = .ok (.val v) []) (h : v = .non \/ ∃ xs, v = .tup xs) : bH.G [r, w, b] = .ok (.val (.int 3)) [] := by
 unfold bH
 rw [bF]
 unfold fC
 rcases h with rfl | ⟨xs, rfl⟩
 ·simp! [jx, hf]
 ·have it := iM (v := .tup xs) rfl
  simp! [jx, hf, it, ek]
theorem
    wd {rm : Bx} {w : Val} {bs : List Val} (hr : Good rm) (hw : WtL w) (hc : eX w = .ok (.val .non) []) (ha : ∀ b ∈ bs, de 2 b = true) (hb : ∀ b ∈ bs, bE b = true -> b = bV rm) : ∃ v, bz.G [bV rm, w, .lst bs] = .ok (.val v) [] /\ (v = .non \/ ∃ xs, v = .tup xs) := by
 obtain ⟨ws,
       rfl, hW⟩ : ∃ ws : List Int, w = .lst (ws.map .int) /\ Wts 16 ws := by
  unfold eX at hc
  split at hc
  ·rename_i xs
   split at hc
   ·cases hc
   ·split
       at hc
    ·split
        at hc
     ·rename_i h0 h1 h2
      rw [List.all_eq_true] at h1
      have key : ∀ xs : List Val, (∀ x ∈ xs, dC x = true) -> (∀ x ∈ xs, ∀ i, x = .int i -> i.natAbs <= 1000) -> ∃ ws : List Int, xs = ws.map .int /\ ∀ w ∈ ws, 1 <= w /\ w <= 1000 := by
       intro xs
       induction xs with
       | nil => exact fun _ _ => ⟨[], rfl, by intro w hw; cases hw⟩
       |
        cons x xs ih =>
        intro h1 h2
        obtain ⟨ws, rfl, hws⟩ := ih (fun x hx => h1 x (List.mem_cons_of_mem _ hx)) fun x hx => h2 x (List.mem_cons_of_mem _ hx)
        have hx := h1 x (List.mem_cons_self ..)
        have hx2 := h2 x (List.mem_cons_self ..)
        cases x with
        |
         int i =>
         have h3 : 1 <= i := of_decide_eq_true hx
         have h4 := hx2 i rfl
         refine ⟨i :: ws, rfl, ?_⟩
         intro w hw
         rcases List.mem_cons.mp hw with rfl | hw
         ·omega
         ·exact hws w hw
        | _ => cases hx
      obtain ⟨ws, rfl, hws⟩ := key xs h1 (hw.sz xs rfl)
      have sm : ∀ ws : List Int, (∀ w ∈ ws, 1 <= w /\ w <= 1000) -> 0 <= ws.sum /\ ws.sum <= 1000 * ws.length := by
       intro ws
       induction ws with
       | nil => intro _; simp
       |
        cons x xs ih =>
        intro h
        have h1 := ih fun w hw => h w (List.mem_cons_of_mem _ hw)
        have h2 := h x (List.mem_cons_self ..)
        rw [List.sum_cons, List.length_cons]
        omega
      have hs := sm ws hws
      rw [List.length_map] at h2
      refine ⟨ws, rfl, ⟨fun z => h0 (by rw [z]; rfl), fun w hw => (hws w hw).1, h2, fun w hw => ?_, ?_⟩⟩
      ·have := hws w hw
       show w.natAbs < 2 ^ 16
       omega
      ·show ws.sum.natAbs < 2 ^ 16
       omega
     ·cases hc
    ·cases hc
  ·cases hc
 by_cases hl : bs.length = ws.length
 ·cases
     hf : bs.zipIdx.find? (fun p => !bE p.1) with
  | some p => exact ⟨_, pY hr.ok hW hl ha hf, .inr ⟨_, rfl⟩⟩
  |
   none =>
   have hall : ∀ b ∈ bs, b = bV rm := by
    intro b hb'
    rw [List.find?_eq_none] at hf
    obtain ⟨i, hi⟩ := List.mem_iff_getElem?.mp hb'
    have := hf (b, i) (List.mem_zipIdx_iff_getElem?.mpr hi)
    exact hb b hb' (by simpa using this)
   have hbs : bs = (List.replicate bs.length rm).map bV := by
    rw [List.map_replicate]
    exact List.eq_replicate_of_mem hall
   rw [hbs]
   refine ⟨_, vw (n := 101) (m := 16) hr.ok hr.sz hW (by rw [List.length_replicate]; exact hl) (fun b hb => by rw [List.eq_of_mem_replicate hb]; exact hr.ok) (fun b hb => by rw [List.eq_of_mem_replicate hb]; exact hr.sz) (by omega), ?_⟩
   unfold nW
   split
   ·exact .inr ⟨_, rfl⟩
   ·split
    ·exact .inr ⟨_, rfl⟩
    ·unfold nz
     split
     ·exact .inr ⟨_, rfl⟩
     ·exact .inl rfl
 ·exact ⟨_, pM hr.ok hW hl, .inr ⟨_, rfl⟩⟩
structure LwE (ns : List Int) (s1 s2 s3 s4 s5 s6 s7 s8 s9 : Sl) (e : E3) : Prop where
 eq : e = [.sh (.kl (ns.map .int)), s1, s2, s3, s4, s5, s6, s7, s8, s9]
 h1 : s1.pl = true
 h2 : s2.pl = true
 h3 : s3.pl = true
 h4 : s4.pl = true
 h5 : s5.pl = true
 h6 : s6.pl = true
 h7 : s7.pl = true
 h8 : s8.pl = true
 h9 : s9.pl = true
noncomputable def lwP (ns : List Int) (e : E3) : Prop := ∃ s1 s2 s3 s4 s5 s6 s7 s8 s9, LwE ns s1 s2 s3 s4 s5 s6 s7 s8 s9 e
noncomputable def lwQ (ns : List Int) (r : SR3) : Prop := ∃ e, r = .nx e /\ lwP ns e
theorem AG {i : Int} (h0 : 0 <= i) (h1 : i < 4) : i = 0 \/ i = 1 \/ i = 2 \/ i = 3 := by omega
theorem sl3 (b : Bx) : aSl (bV b) none (some 3) = .val (.tup [fV b.l, fV b.t, fV b.w]) := rfl
theorem sl2 (b : Bx) : aSl (bV b) none (some 2) = .val (.tup [fV b.l, fV b.t]) := rfl
theorem
    yF {ns : List Int} {k : Int} (hk : 0 <= k) {s1 s2 s3 s4 s5 s6 s7 s8 s9 : Sl} (H : LwE ns s1 s2 s3 s4 s5 s6 s7 s8 s9 [.sh (.kl (ns.map .int)), s1, s2, s3, s4, s5, s6, s7, s8, s9]) (hs1 : s1 = .sh (.int k)) : lwQ ns (jI.G [.sh (.kl (ns.map .int)), s1, s2, s3, s4, s5, s6, s7, s8, s9]) := by
 subst hs1
 obtain ⟨_, _, h2, h3, h4, h5, h6, h7, h8, h9⟩ := H
 unfold jI
 obtain ⟨a0, fe⟩ := xS (ns := ns) hk
 refine bD (fun e => e = [.sh (.kl (ns.map .int)), .sh (.int k), .ow (fdV a0 0 k), s3, s4, s5, s6, s7, s8, s9]) ⟨_, by simp! [fe, h2], rfl⟩ ?_
 rintro _ rfl
 obtain ⟨b, a1, c1, gb, er⟩ := yc a0 0 k
 refine bD (fun e => e = [.sh (.kl (ns.map .int)), .sh (.int k), .ow (fdV a1 c1 k), .sh (bV b), s4, s5, s6, s7, s8, s9]) ⟨_, by simp! [er, h3], rfl⟩ ?_
 rintro _ rfl
 refine bD (fun e => ∃ a c bs, (∀ v ∈ bs, de 2 v = true /\ (bE v = true -> v = bV b)) /\ e = [.sh (.kl (ns.map .int)), .sh (.int k), .ow (fdV a c k), .sh (bV b), .sh (.lst bs), s5, s6, s7, s8, s9]) ?_ ?_
 ·obtain ⟨n, a2, c2, e2, h20, h21⟩ := aO (a := a1) (b := c1) (k := k) (m := 9) (by decide) (sm8 (by decide))
  have rg := j9 (i := n) (by omega) (by omega)
  obtain ⟨e', bs, ⟨s, a3, c3, rfl, hs⟩, hlen, hR, lc⟩ := j4 (g := (gtN 0).G) (F := (pOp bIx (d9 (af (ai 1) (af fS (af (pSl (ai 1) oN (oS (aq 3))) (af (dQ "box") ao))))) (az aA (af (ai 2) (af (aq 4) ao)))).G) id (fun v => de 2 v = true /\ (bE v = true -> v = bV b)) (fun e => ∃ s a c, e = [s, .sh (bV b), .mu (fdV a c k)] /\ s.pl = true) (rgV n.toNat) [] [.no, .sh (bV b), .mu (fdV a2 c2 k)] ⟨_, _, _, rfl, rfl⟩ (by
   rintro v hv e ⟨s, a, c, rfl, hs⟩
   obtain ⟨q, a1, c1, e1, h0, h1⟩ := aO (a := a) (b := c) (k := k) (m := 4) (by decide) (sm8 (by decide))
   obtain ⟨u, eu, hu⟩ : ∃ u, atI [bV b, .non, .tup [fV b.l, fV b.t, fV b.w], .str "box"] q = some u /\ de 2 u = true /\ (bE u = true -> u = bV b) := by
    rcases AG h0 h1 with rfl | rfl | rfl | rfl
    ·exact ⟨_, mK .., oR b, fun _ => rfl⟩
    ·exact ⟨_, mG .., rfl, by intro z; cases z⟩
    ·exact ⟨_, pI .., rfl, by intro z; cases z⟩
    ·exact ⟨_, nK .., rfl, by intro z; cases z⟩
   refine ⟨[.sh v, .sh (bV b), .mu (fdV a c k)], .val u, [.sh v, .sh (bV b), .mu (fdV a1 c1 k)], u, ?_, ?_, rfl, ⟨_, _, _, rfl, rfl⟩, hu⟩
   ·simp! [hs]
   ·simp! [e1, sl3, eu]) (by simp [rgV]; omega)
  have hlm : (bs.map id).length <= 16777216 := by rw [List.length_map, hlen]; simp [rgV]; omega
  rw [List.nil_append] at lc
  rw [List.map_id] at lc hlm
  refine ⟨_, ?_, a3, c3, bs, hR, rfl⟩
  simp! [e2, rg, lc, hlm, h4]
 rintro _ ⟨a2, c2, bs, hbs, rfl⟩
 obtain ⟨n, a3, c3, e3, h30, h31⟩ := aO (a := a2) (b := c2) (k := k) (m := 3) (by decide) (sm8 (by decide))
 refine bD (fun e => e = [.sh (.kl (ns.map .int)), .sh (.int k), .ow (fdV a3 c3 k), .sh (bV b), .sh (.lst bs), .sh (.bl (decide (0 < n))), s6, s7, s8, s9]) ⟨_, by simp! [e3, h5], rfl⟩ ?_
 rintro _ rfl
 generalize hR : decide (0 < n) = R
 refine bD (fun e => ∃ r a c s6 s7, s6.pl = true /\ s7.pl = true /\ (R = true /\ r = bV b \/ R = false /\ de 2 r = true /\ bE r = false) /\ e = [.sh (.kl (ns.map .int)), .sh (.int k), .ow (fdV a c k), .sh r, .sh (.lst bs), .sh (.bl R), s6, s7, s8, s9]) ?_ ?_
 ·cases
     R with
  | true => exact ⟨_, by simp! [g6], bV b, a3, c3, s6, s7, h6, h7, .inl ⟨rfl, rfl⟩, rfl⟩
  |
   false =>
   obtain ⟨q, a4, c4, e4, h40, h41⟩ := aO (a := a3) (b := c3) (k := k) (m := 6) (by decide) (sm8 (by decide))
   have i1 : (bV b).items = some [fV b.l, fV b.t, fV b.w, fV b.h] := rfl
   have i2 : (fV b.w).items = some [.int b.w.num, .int b.w.den] := rfl
   have ls : oB.G [bV b] = .new (.lst [fV b.l, fV b.t, fV b.w, fV b.h]) := rfl
   have ad1 : bO.G (.tup [fV b.l, fV b.t, fV b.w]) (.tup [.tup [.int 0, .int 1]]) = .val (.tup [fV b.l, fV b.t, fV b.w, .tup [.int 0, .int 1]]) := rfl
   have ad2 : ∀ x y, bO.G (.tup [fV b.l, fV b.t]) (.tup [x, y]) = .val (.tup [fV b.l, fV b.t, x, y]) := fun _ _ => rfl
   obtain ⟨u, eu, hu⟩ : ∃ u, atI [.non, .lst [fV b.l, fV b.t, fV b.w, fV b.h], .tup [fV b.l, fV b.t, fV b.w], .tup [fV b.l, fV b.t, fV b.w, .tup [.int 0, .int 1]], .tup [fV b.l, fV b.t, .tup [.int (0 - b.w.num), .int b.w.den], fV b.h], .tup [bV b, bV b]] q = some u /\ de 2 u = true /\ bE u = false := by
    have z1 : ∀ x y z w, d8 z = false -> bE (.tup [x, y, z, w]) = false := fun x y z w h => by
     show (aQ x && (aQ y && (aQ z && (aQ w && (d8 z && d8 w))))) = false
     rw [h]; simp
    have z2 : ∀ x y z w, d8 w = false -> bE (.tup [x, y, z, w]) = false := fun x y z w h => by
     show (aQ x && (aQ y && (aQ z && (aQ w && (d8 z && d8 w))))) = false
     rw [h]; simp
    have hp : 0 < b.w.num := qR.mpr gb.ok.w
    rcases om h40 h41 with rfl | rfl | rfl | rfl | rfl | rfl
    ·exact ⟨_, mK .., rfl, rfl⟩
    ·exact ⟨_, mG .., rfl, rfl⟩
    ·exact ⟨_, pI .., rfl, rfl⟩
    ·exact ⟨_, nK .., rfl, z2 _ _ _ _ (by decide)⟩
    ·exact ⟨_, vJ .., rfl, z1 _ _ _ _ (decide_eq_false (by omega))⟩
    ·exact ⟨_, wU .., rfl, rfl⟩
   exact ⟨_, by simp! [i1, i2, ls, ad1, ad2, sl3, sl2, h6, h7, e4, eu]; exact rfl, u, a4, c4, .sh _, .sh _, rfl, rfl, .inr ⟨rfl, hu⟩, rfl⟩
 rintro _ ⟨r, a4, c4, s6, s7, h6, h7, hr, rfl⟩
 obtain ⟨rt, w, a5, c5, hw, hrt, e5⟩ := yk a4 c4 k
 refine bD (fun e => e = [.sh (.kl (ns.map .int)), .sh (.int k), .ow (fdV a5 c5 k), .sh r, .sh (.lst bs), .sh (.bl R), s6, s7, .sh w, s9]) ?_ ?_
 ·rcases hrt with rfl | rfl
  ·exact ⟨_, by simp! [e5, h8], rfl⟩
  ·exact ⟨_, by simp! [e5, h8], rfl⟩
 rintro _ rfl
 refine bD (fun e => e = [.sh (.kl (ns.map .int)), .sh (.int k), .ow (fdV a5 c5 k), .sh r, .sh (.lst bs), .sh (.bl R), s6, s7, .sh w, .sh (.int 3)]) ⟨_, by simp! [h9], rfl⟩ ?_
 rintro _ rfl
 have gd := yp hw
 refine bD (fun e => ∃ d, bH.G [r, w, .lst bs] = .ok (.val (.int d)) [] /\ e = [.sh (.kl (ns.map .int)), .sh (.int k), .ow (fdV a5 c5 k), .sh r, .sh (.lst bs), .sh (.bl R), s6, s7, .sh w, .sh (.int d)]) ?_ ?_
 ·rcases hr
       with ⟨rfl, rfl⟩ | ⟨rfl, ha, hb⟩
  ·cases
      hg : jr w with
   |
    false =>
    have hc : eX w = .exc "NoWeights" [] := by
     unfold eX
     split
     ·rename_i xs
      by_cases h0 : xs = []
      ·rw [if_pos h0]
      ·rw [if_neg h0, if_neg]
       intro z
       simp [jr, z, h0] at hg
     ·rfl
    rw [hg] at gd
    exact ⟨_, by simp! [gd], 1, jY (nL gb.ok hw.ask hc) (.inr (.inl ⟨rfl, rfl⟩)), rfl⟩
   |
    true =>
    rw [hg] at gd
    cases w with
    |
     lst xs =>
     simp only [jr, Bool.and_eq_true, Bool.not_eq_true', decide_eq_false_iff_not] at hg
     by_cases hl : xs.length <= 40
     ·have hd : decide ((40 : Int) < ((xs.length : Nat) : Int)) = false := decide_eq_false (by omega)
      have hc : eX (.lst xs) = .ok (.val .non) [] := by
       unfold eX
       dsimp only
       rw [if_neg hg.1, if_pos hg.2, if_pos hl]
      obtain ⟨v, hv, hvt⟩ := wd gb hw hc (fun b hb => (hbs b hb).1) fun b hb => (hbs b hb).2
      exact ⟨_, by simp! [gd, hd], 3, wu hv hvt, rfl⟩
     ·have hd : decide ((40 : Int) < ((xs.length : Nat) : Int)) = true := decide_eq_true (by omega)
      have hc : eX (.lst xs) = .exc "TooMany" [] := by
       unfold eX
       dsimp only
       rw [if_neg hg.1, if_pos hg.2, if_neg hl]
      exact ⟨_, by simp! [gd, hd], 2, jY (nL gb.ok hw.ask hc) (.inr (.inr ⟨rfl, rfl⟩)), rfl⟩
    | _ => cases hg
  ·exact ⟨_, by simp! [g6], 0, jY (ve ha hb) (.inl ⟨rfl, rfl⟩), rfl⟩
 rintro _ ⟨d, cl, rfl⟩
 refine ⟨[.sh (.kl (ns.map .int)), .sh (.int k), .ow (fdV a5 c5 k), .sh r, .sh (.lst bs), .sh (.bl R), s6, s7, .sh w, .sh (.int d)], ?_, _, _, _, _, _, _, _, _, _, rfl, rfl, rfl, rfl, rfl, rfl, h6, h7, rfl, rfl⟩
 simp! [cl, beq_self_eq_true]
theorem BR (ns : List Int) (hl : ns.length <= 63) : lT.G [.kl (ns.map .int)] = .ok (.val (.bl true)) [] := by
 unfold lT
 rw [bF]
 unfold sd
 have rg : ∃ m : Nat, jc [.int (if (if (((ns.map Val.int).length : Nat) : Int) < 16 then (((ns.map Val.int).length : Nat) : Int) else 16) > 1 then (if (((ns.map Val.int).length : Nat) : Int) < 16 then (((ns.map Val.int).length : Nat) : Int) else 16) else 1)] = some (rgV m) := by
  refine ⟨_, j9 ?_ ?_⟩ <;> (split <;> split <;> omega)
 obtain ⟨m, rg⟩ := rg
 obtain ⟨e', ⟨s1, s2, s3, s4, s5, s6, s7, s8, s9, H⟩, fr⟩ := ox (g := (gtN 1).G) (B := jI.G) (lwP ns) (rgV m) [.sh (.kl (ns.map .int)), .no, .no, .no, .no, .no, .no, .no, .no, .no] ⟨_, _, _, _, _, _, _, _, _, rfl, rfl, rfl, rfl, rfl, rfl, rfl, rfl, rfl, rfl⟩ (by
  rintro v hv e ⟨s1, s2, s3, s4, s5, s6, s7, s8, s9, rfl, h1, h2, h3, h4, h5, h6, h7, h8, h9⟩
  obtain ⟨j, _, rfl⟩ := List.mem_map.mp hv
  obtain ⟨e2, q, hP⟩ := yF (ns := ns) (k := (j : Nat)) (by omega) (s1 := .sh (.int (j : Nat))) ⟨rfl, rfl, h2, h3, h4, h5, h6, h7, h8, h9⟩ rfl
  refine ⟨_, e2, ?_, .inl q, hP⟩
  simp! [h1])
 obtain ⟨rfl, _⟩ := H
 simp! [rg, fr]
theorem AV {K : PySem.W.Frag} {h : Heap} {mg : Str -> Option Value} {a_RoomError : Addr} {a_NoFraction : Addr} {a_NoBox : Addr} {a_NoWay : Addr} {a_NoWeights : Addr} {a_TooMany : Addr} {a_NoTree : Addr} {a_NoRule : Addr} {a_Unknown : Addr} {a_NoText : Addr} (X : K.In h) (G : h.Ns mainGlobals mg)
  (m_NoBox : PySem.W.nsIn K mainGlobals "NoBox" = some (some (.ref a_NoBox)))
  (m_NoFraction : PySem.W.nsIn K mainGlobals "NoFraction" = some (some (.ref a_NoFraction)))
  (m_NoRule : PySem.W.nsIn K mainGlobals "NoRule" = some (some (.ref a_NoRule)))
  (m_NoText : PySem.W.nsIn K mainGlobals "NoText" = some (some (.ref a_NoText)))
  (m_NoTree : PySem.W.nsIn K mainGlobals "NoTree" = some (some (.ref a_NoTree)))
  (m_NoWay : PySem.W.nsIn K mainGlobals "NoWay" = some (some (.ref a_NoWay)))
  (m_NoWeights : PySem.W.nsIn K mainGlobals "NoWeights" = some (some (.ref a_NoWeights)))
  (m_RoomError : PySem.W.nsIn K mainGlobals "RoomError" = some (some (.ref a_RoomError)))
  (m_TooMany : PySem.W.nsIn K mainGlobals "TooMany" = some (some (.ref a_TooMany)))
  (m_Unknown : PySem.W.nsIn K mainGlobals "Unknown" = some (some (.ref a_Unknown)))
  (n_abs : PySem.W.nsIn K mainGlobals "abs" = some none)
  (n_all : PySem.W.nsIn K mainGlobals "all" = some none)
  (n_bool : PySem.W.nsIn K mainGlobals "bool" = some none)
  (n_enumerate : PySem.W.nsIn K mainGlobals "enumerate" = some none)
  (n_int : PySem.W.nsIn K mainGlobals "int" = some none)
  (n_isinstance : PySem.W.nsIn K mainGlobals "isinstance" = some none)
  (n_len : PySem.W.nsIn K mainGlobals "len" = some none)
  (n_list : PySem.W.nsIn K mainGlobals "list" = some none)
  (n_max : PySem.W.nsIn K mainGlobals "max" = some none)
  (n_min : PySem.W.nsIn K mainGlobals "min" = some none)
  (n_range : PySem.W.nsIn K mainGlobals "range" = some none)
  (n_sum : PySem.W.nsIn K mainGlobals "sum" = some none)
  (n_tuple : PySem.W.nsIn K mainGlobals "tuple" = some none)
  (g_MOST_WEIGHTS : GC K mg "MOST_WEIGHTS" ft)
  (gs_ : PySem.W.specialIn K (.builtin "object.__class__") "__get__" = some (some (.builtin "getset_descriptor.__get__")))
  (tk_ : PySem.W.takesIn K (.builtin "object.__class__") = some true)
  (h_RoomError_ty : PySem.W.typeIn K (.ref a_RoomError) = some (.type "type"))
  (h_RoomError_cls : (PySem.W.clsIn K a_RoomError).isSome = true)
  (h_RoomError_mb : PySem.W.mroIn K a_RoomError (.type "BaseException") = some true)
  (x_NoFraction : PySem.W.excIn K a_NoFraction fk "ValueError.__new__" = true)
  (k_NoFraction_cls : (PySem.W.clsIn K a_NoFraction).isSome = true)
  (k_NoFraction_ga : PySem.W.findIn K (.ref a_NoFraction) "__getattribute__" = some (some (.builtin "BaseException.__getattribute__")))
  (k_NoFraction_gt : PySem.W.findIn K (.ref a_NoFraction) "__getattr__" = some none)
  (k_NoFraction_at : PySem.W.findIn K (.ref a_NoFraction) "__class__" = some (some (.builtin "object.__class__")))
  (k_NoFraction_mo : PySem.W.mroIn K a_NoFraction (.type "object") = some true)
  (k_NoFraction_mb : PySem.W.mroIn K a_NoFraction (.type "BaseException") = some true)
  (x_NoBox : PySem.W.excIn K a_NoBox fk "ValueError.__new__" = true)
  (k_NoBox_cls : (PySem.W.clsIn K a_NoBox).isSome = true)
  (k_NoBox_ga : PySem.W.findIn K (.ref a_NoBox) "__getattribute__" = some (some (.builtin "BaseException.__getattribute__")))
  (k_NoBox_gt : PySem.W.findIn K (.ref a_NoBox) "__getattr__" = some none)
  (k_NoBox_at : PySem.W.findIn K (.ref a_NoBox) "__class__" = some (some (.builtin "object.__class__")))
  (k_NoBox_mo : PySem.W.mroIn K a_NoBox (.type "object") = some true)
  (k_NoBox_mb : PySem.W.mroIn K a_NoBox (.type "BaseException") = some true)
  (x_NoWeights : PySem.W.excIn K a_NoWeights fk "ValueError.__new__" = true)
  (k_NoWeights_cls : (PySem.W.clsIn K a_NoWeights).isSome = true)
  (k_NoWeights_ga : PySem.W.findIn K (.ref a_NoWeights) "__getattribute__" = some (some (.builtin "BaseException.__getattribute__")))
  (k_NoWeights_gt : PySem.W.findIn K (.ref a_NoWeights) "__getattr__" = some none)
  (k_NoWeights_at : PySem.W.findIn K (.ref a_NoWeights) "__class__" = some (some (.builtin "object.__class__")))
  (k_NoWeights_mo : PySem.W.mroIn K a_NoWeights (.type "object") = some true)
  (k_NoWeights_mb : PySem.W.mroIn K a_NoWeights (.type "BaseException") = some true)
  (x_TooMany : PySem.W.excIn K a_TooMany fk "ValueError.__new__" = true)
  (k_TooMany_cls : (PySem.W.clsIn K a_TooMany).isSome = true)
  (k_TooMany_ga : PySem.W.findIn K (.ref a_TooMany) "__getattribute__" = some (some (.builtin "BaseException.__getattribute__")))
  (k_TooMany_gt : PySem.W.findIn K (.ref a_TooMany) "__getattr__" = some none)
  (k_TooMany_at : PySem.W.findIn K (.ref a_TooMany) "__class__" = some (some (.builtin "object.__class__")))
  (k_TooMany_mo : PySem.W.mroIn K a_TooMany (.type "object") = some true)
  (k_TooMany_mb : PySem.W.mroIn K a_TooMany (.type "BaseException") = some true)
  (r_NoFraction_RoomError : PySem.W.mroIn K a_NoFraction (.ref a_RoomError) = some true)
  (r_NoBox_RoomError : PySem.W.mroIn K a_NoBox (.ref a_RoomError) = some true)
  (r_NoWeights_RoomError : PySem.W.mroIn K a_NoWeights (.ref a_RoomError) = some true)
  (r_TooMany_RoomError : PySem.W.mroIn K a_TooMany (.ref a_RoomError) = some true)
  (i0 : PySem.W.kitOne K (.ref a_NoFraction) (.ref a_NoBox) = some false)
  (i1 : PySem.W.kitOne K (.ref a_NoBox) (.ref a_NoBox) = some true)
  (i2 : PySem.W.kitOne K (.ref a_NoWeights) (.ref a_NoBox) = some false)
  (i3 : PySem.W.kitOne K (.ref a_TooMany) (.ref a_NoBox) = some false)
  (i4 : PySem.W.kitOne K (.ref a_NoFraction) (.ref a_NoRule) = some false)
  (i5 : PySem.W.kitOne K (.ref a_NoBox) (.ref a_NoRule) = some false)
  (i6 : PySem.W.kitOne K (.ref a_NoWeights) (.ref a_NoRule) = some false)
  (i7 : PySem.W.kitOne K (.ref a_TooMany) (.ref a_NoRule) = some false)
  (i8 : PySem.W.kitOne K (.ref a_NoFraction) (.ref a_NoText) = some false)
  (i9 : PySem.W.kitOne K (.ref a_NoBox) (.ref a_NoText) = some false)
  (i10 : PySem.W.kitOne K (.ref a_NoWeights) (.ref a_NoText) = some false)
  (i11 : PySem.W.kitOne K (.ref a_TooMany) (.ref a_NoText) = some false)
  (i12 : PySem.W.kitOne K (.ref a_NoFraction) (.ref a_NoTree) = some false)
  (i13 : PySem.W.kitOne K (.ref a_NoBox) (.ref a_NoTree) = some false)
  (i14 : PySem.W.kitOne K (.ref a_NoWeights) (.ref a_NoTree) = some false)
  (i15 : PySem.W.kitOne K (.ref a_TooMany) (.ref a_NoTree) = some false)
  (i16 : PySem.W.kitOne K (.ref a_NoFraction) (.ref a_NoWay) = some false)
  (i17 : PySem.W.kitOne K (.ref a_NoBox) (.ref a_NoWay) = some false)
  (i18 : PySem.W.kitOne K (.ref a_NoWeights) (.ref a_NoWay) = some false)
  (i19 : PySem.W.kitOne K (.ref a_TooMany) (.ref a_NoWay) = some false)
  (i20 : PySem.W.kitOne K (.ref a_NoFraction) (.ref a_NoWeights) = some false)
  (i21 : PySem.W.kitOne K (.ref a_NoBox) (.ref a_NoWeights) = some false)
  (i22 : PySem.W.kitOne K (.ref a_NoWeights) (.ref a_NoWeights) = some true)
  (i23 : PySem.W.kitOne K (.ref a_TooMany) (.ref a_NoWeights) = some false)
  (i24 : PySem.W.kitOne K (.ref a_NoFraction) (.ref a_TooMany) = some false)
  (i25 : PySem.W.kitOne K (.ref a_NoBox) (.ref a_TooMany) = some false)
  (i26 : PySem.W.kitOne K (.ref a_NoWeights) (.ref a_TooMany) = some false)
  (i27 : PySem.W.kitOne K (.ref a_TooMany) (.ref a_TooMany) = some true)
  (i28 : PySem.W.kitOne K (.ref a_NoFraction) (.ref a_Unknown) = some false)
  (i29 : PySem.W.kitOne K (.ref a_NoBox) (.ref a_Unknown) = some false)
  (i30 : PySem.W.kitOne K (.ref a_NoWeights) (.ref a_Unknown) = some false)
  (i31 : PySem.W.kitOne K (.ref a_TooMany) (.ref a_Unknown) = some false)
  (i32 : PySem.W.kitOne K (.type "NoneType") (.type "bool") = some false)
  (i33 : PySem.W.kitOne K (.type "bool") (.type "bool") = some true)
  (i34 : PySem.W.kitOne K (.type "int") (.type "bool") = some false)
  (i35 : PySem.W.kitOne K (.type "str") (.type "bool") = some false)
  (i36 : PySem.W.kitOne K (.type "tuple") (.type "bool") = some false)
  (i37 : PySem.W.kitOne K (.type "list") (.type "bool") = some false)
  (i38 : PySem.W.kitOne K (.type "dict") (.type "bool") = some false)
  (i39 : PySem.W.kitOne K (.type "NoneType") (.type "int") = some false)
  (i40 : PySem.W.kitOne K (.type "bool") (.type "int") = some true)
  (i41 : PySem.W.kitOne K (.type "int") (.type "int") = some true)
  (i42 : PySem.W.kitOne K (.type "str") (.type "int") = some false)
  (i43 : PySem.W.kitOne K (.type "tuple") (.type "int") = some false)
  (i44 : PySem.W.kitOne K (.type "list") (.type "int") = some false)
  (i45 : PySem.W.kitOne K (.type "dict") (.type "int") = some false)
  (i46 : PySem.W.kitOne K (.type "NoneType") (.type "list") = some false)
  (i47 : PySem.W.kitOne K (.type "bool") (.type "list") = some false)
  (i48 : PySem.W.kitOne K (.type "int") (.type "list") = some false)
  (i49 : PySem.W.kitOne K (.type "str") (.type "list") = some false)
  (i50 : PySem.W.kitOne K (.type "tuple") (.type "list") = some false)
  (i51 : PySem.W.kitOne K (.type "list") (.type "list") = some true)
  (i52 : PySem.W.kitOne K (.type "dict") (.type "list") = some false)
  (i53 : PySem.W.kitOne K (.type "NoneType") (.type "tuple") = some false)
  (i54 : PySem.W.kitOne K (.type "bool") (.type "tuple") = some false)
  (i55 : PySem.W.kitOne K (.type "int") (.type "tuple") = some false)
  (i56 : PySem.W.kitOne K (.type "str") (.type "tuple") = some false)
  (i57 : PySem.W.kitOne K (.type "tuple") (.type "tuple") = some true)
  (i58 : PySem.W.kitOne K (.type "list") (.type "tuple") = some false)
  (i59 : PySem.W.kitOne K (.type "dict") (.type "tuple") = some false)
  : Txt K mg a_RoomError a_NoFraction a_NoBox a_NoWay a_NoWeights a_TooMany a_NoTree a_NoRule a_Unknown a_NoText := by
 have mNoBox := PySem.W.mg_of X G m_NoBox
 have mNoFraction := PySem.W.mg_of X G m_NoFraction
 have mNoRule := PySem.W.mg_of X G m_NoRule
 have mNoText := PySem.W.mg_of X G m_NoText
 have mNoTree := PySem.W.mg_of X G m_NoTree
 have mNoWay := PySem.W.mg_of X G m_NoWay
 have mNoWeights := PySem.W.mg_of X G m_NoWeights
 have mRoomError := PySem.W.mg_of X G m_RoomError
 have mTooMany := PySem.W.mg_of X G m_TooMany
 have mUnknown := PySem.W.mg_of X G m_Unknown
 have w_NoBox := nJ mNoBox ⟨k_NoBox_cls, k_NoBox_ga, k_NoBox_gt, k_NoBox_at, gs_, tk_, k_NoBox_mo, k_NoBox_mb⟩
 have w_NoFraction := nJ mNoFraction ⟨k_NoFraction_cls, k_NoFraction_ga, k_NoFraction_gt, k_NoFraction_at, gs_, tk_, k_NoFraction_mo, k_NoFraction_mb⟩
 have w_NoWeights := nJ mNoWeights ⟨k_NoWeights_cls, k_NoWeights_ga, k_NoWeights_gt, k_NoWeights_at, gs_, tk_, k_NoWeights_mo, k_NoWeights_mb⟩
 have w_TooMany := nJ mTooMany ⟨k_TooMany_cls, k_TooMany_ga, k_TooMany_gt, k_TooMany_at, gs_, tk_, k_TooMany_mo, k_TooMany_mb⟩
 exact {
 g_MOST_WEIGHTS := g_MOST_WEIGHTS,
 m_NoBox := mNoBox,
 m_NoFraction := mNoFraction,
 m_NoRule := mNoRule,
 m_NoText := mNoText,
 m_NoTree := mNoTree,
 m_NoWay := mNoWay,
 m_NoWeights := mNoWeights,
 m_RoomError := mRoomError,
 m_TooMany := mTooMany,
 m_Unknown := mUnknown,
 n_abs := PySem.W.mg_none_of X G n_abs,
 n_all := PySem.W.mg_none_of X G n_all,
 n_bool := PySem.W.mg_none_of X G n_bool,
 n_enumerate := PySem.W.mg_none_of X G n_enumerate,
 n_int := PySem.W.mg_none_of X G n_int,
 n_isinstance := PySem.W.mg_none_of X G n_isinstance,
 n_len := PySem.W.mg_none_of X G n_len,
 n_list := PySem.W.mg_none_of X G n_list,
 n_max := PySem.W.mg_none_of X G n_max,
 n_min := PySem.W.mg_none_of X G n_min,
 n_range := PySem.W.mg_none_of X G n_range,
 n_sum := PySem.W.mg_none_of X G n_sum,
 n_tuple := PySem.W.mg_none_of X G n_tuple,
 h_RoomError := ⟨h_RoomError_ty, h_RoomError_cls, h_RoomError_mb⟩,
 r_RoomError := by
   intro c hc Ce e
   simp only [cC, List.mem_cons, List.not_mem_nil, or_false] at hc
   rcases hc with rfl | rfl | rfl | rfl
   ·rw [mNoFraction] at e; cases e; exact r_NoFraction_RoomError
   ·rw [mNoBox] at e; cases e; exact r_NoBox_RoomError
   ·rw [mNoWeights] at e; cases e; exact r_NoWeights_RoomError
   ·rw [mTooMany] at e; cases e; exact r_TooMany_RoomError,
 x_NoFraction := x_NoFraction,
 x_NoBox := x_NoBox,
 x_NoWeights := x_NoWeights,
 x_TooMany := x_TooMany,
 kits := (aw i0 mNoFraction mNoBox w_NoFraction
   (aw i1 mNoBox mNoBox w_NoBox
   (aw i2 mNoWeights mNoBox w_NoWeights
   (aw i3 mTooMany mNoBox w_TooMany
   (aw i4 mNoFraction mNoRule w_NoFraction
   (aw i5 mNoBox mNoRule w_NoBox
   (aw i6 mNoWeights mNoRule w_NoWeights
   (aw i7 mTooMany mNoRule w_TooMany
   (aw i8 mNoFraction mNoText w_NoFraction
   (aw i9 mNoBox mNoText w_NoBox
   (aw i10 mNoWeights mNoText w_NoWeights
   (aw i11 mTooMany mNoText w_TooMany
   (aw i12 mNoFraction mNoTree w_NoFraction
   (aw i13 mNoBox mNoTree w_NoBox
   (aw i14 mNoWeights mNoTree w_NoWeights
   (aw i15 mTooMany mNoTree w_TooMany
   (aw i16 mNoFraction mNoWay w_NoFraction
   (aw i17 mNoBox mNoWay w_NoBox
   (aw i18 mNoWeights mNoWay w_NoWeights
   (aw i19 mTooMany mNoWay w_TooMany
   (aw i20 mNoFraction mNoWeights w_NoFraction
   (aw i21 mNoBox mNoWeights w_NoBox
   (aw i22 mNoWeights mNoWeights w_NoWeights
   (aw i23 mTooMany mNoWeights w_TooMany
   (aw i24 mNoFraction mTooMany w_NoFraction
   (aw i25 mNoBox mTooMany w_NoBox
   (aw i26 mNoWeights mTooMany w_NoWeights
   (aw i27 mTooMany mTooMany w_TooMany
   (aw i28 mNoFraction mUnknown w_NoFraction
   (aw i29 mNoBox mUnknown w_NoBox
   (aw i30 mNoWeights mUnknown w_NoWeights
   (aw i31 mTooMany mUnknown w_TooMany
   (aw i32 rfl rfl bh
   (aw i33 rfl rfl bh
   (aw i34 rfl rfl bh
   (aw i35 rfl rfl bh
   (aw i36 rfl rfl bh
   (aw i37 rfl rfl bh
   (aw i38 rfl rfl bh
   (aw i39 rfl rfl bh
   (aw i40 rfl rfl bh
   (aw i41 rfl rfl bh
   (aw i42 rfl rfl bh
   (aw i43 rfl rfl bh
   (aw i44 rfl rfl bh
   (aw i45 rfl rfl bh
   (aw i46 rfl rfl bh
   (aw i47 rfl rfl bh
   (aw i48 rfl rfl bh
   (aw i49 rfl rfl bh
   (aw i50 rfl rfl bh
   (aw i51 rfl rfl bh
   (aw i52 rfl rfl bh
   (aw i53 rfl rfl bh
   (aw i54 rfl rfl bh
   (aw i55 rfl rfl bh
   (aw i56 rfl rfl bh
   (aw i57 rfl rfl bh
   (aw i58 rfl rfl bh
   (aw i59 rfl rfl bh
   wq))))))))))))))))))))))))))))))))))))))))))))))))))))))))))))
 }
end KK
noncomputable def PySem.W.Fast.tw10015704782783196729 : Unit := ()
noncomputable def PySem.W.Fast.tw10055395873735135868 : Unit := ()
noncomputable def PySem.W.Fast.tw10076335486229319852 : Unit := ()
noncomputable def PySem.W.Fast.tw10098317586749607913 : Unit := ()
noncomputable def PySem.W.Fast.tw10315333723195018480 : Unit := ()
noncomputable def PySem.W.Fast.tw10465349258955634113 : Unit := ()
noncomputable def PySem.W.Fast.tw10468384640955602409 : Unit := ()
noncomputable def PySem.W.Fast.tw10548679671203183518 : Unit := ()
noncomputable def PySem.W.Fast.tw10559074244114560775 : Unit := ()
noncomputable def PySem.W.Fast.tw10641500997605751154 : Unit := ()
noncomputable def PySem.W.Fast.tw10663437186410373401 : Unit := ()
noncomputable def PySem.W.Fast.tw10777784624187844128 : Unit := ()
noncomputable def PySem.W.Fast.tw10911950398485843254 : Unit := ()
noncomputable def PySem.W.Fast.tw11124649483179805571 : Unit := ()
noncomputable def PySem.W.Fast.tw11127484529852670402 : Unit := ()
noncomputable def PySem.W.Fast.tw11182175850264190213 : Unit := ()
noncomputable def PySem.W.Fast.tw11217638122731731833 : Unit := ()
noncomputable def PySem.W.Fast.tw113904940872828507 : Unit := ()
noncomputable def PySem.W.Fast.tw11390680785924697492 : Unit := ()
noncomputable def PySem.W.Fast.tw11475715115833325606 : Unit := ()
noncomputable def PySem.W.Fast.tw11520998280902097604 : Unit := ()
noncomputable def PySem.W.Fast.tw11553682978207786028 : Unit := ()
noncomputable def PySem.W.Fast.tw11581466447271077392 : Unit := ()
noncomputable def PySem.W.Fast.tw11592774208119898527 : Unit := ()
noncomputable def PySem.W.Fast.tw11608069242022945856 : Unit := ()
noncomputable def PySem.W.Fast.tw11612916179268310759 : Unit := ()
noncomputable def PySem.W.Fast.tw11618065907357243314 : Unit := ()
noncomputable def PySem.W.Fast.tw11674702269028365238 : Unit := ()
noncomputable def PySem.W.Fast.tw11740941946348706723 : Unit := ()
noncomputable def PySem.W.Fast.tw11756335253337844350 : Unit := ()
noncomputable def PySem.W.Fast.tw117961479922256241 : Unit := ()
noncomputable def PySem.W.Fast.tw11925892963249339895 : Unit := ()
noncomputable def PySem.W.Fast.tw11928937113222769457 : Unit := ()
noncomputable def PySem.W.Fast.tw12007141141394303673 : Unit := ()
noncomputable def PySem.W.Fast.tw1207905100947730939 : Unit := ()
noncomputable def PySem.W.Fast.tw12124583621783821321 : Unit := ()
noncomputable def PySem.W.Fast.tw1214632698090336849 : Unit := ()
noncomputable def PySem.W.Fast.tw12291066698041123967 : Unit := ()
noncomputable def PySem.W.Fast.tw12294586684099933528 : Unit := ()
noncomputable def PySem.W.Fast.tw12334253857143158194 : Unit := ()
noncomputable def PySem.W.Fast.tw12413118790586524894 : Unit := ()
noncomputable def PySem.W.Fast.tw12444213248655062081 : Unit := ()
noncomputable def PySem.W.Fast.tw12576708863248310604 : Unit := ()
noncomputable def PySem.W.Fast.tw1259347638709789691 : Unit := ()
noncomputable def PySem.W.Fast.tw12638498733269821347 : Unit := ()
noncomputable def PySem.W.Fast.tw12711937570431862043 : Unit := ()
noncomputable def PySem.W.Fast.tw12734766028060361036 : Unit := ()
noncomputable def PySem.W.Fast.tw12749416041126298210 : Unit := ()
noncomputable def PySem.W.Fast.tw12754244697579922385 : Unit := ()
noncomputable def PySem.W.Fast.tw12757770192209641007 : Unit := ()
noncomputable def PySem.W.Fast.tw12828881755448828148 : Unit := ()
noncomputable def PySem.W.Fast.tw12876024471655914272 : Unit := ()
noncomputable def PySem.W.Fast.tw12877958691040180089 : Unit := ()
noncomputable def PySem.W.Fast.tw12932838596078302667 : Unit := ()
noncomputable def PySem.W.Fast.tw13043641093944024924 : Unit := ()
noncomputable def PySem.W.Fast.tw13113748731269428008 : Unit := ()
noncomputable def PySem.W.Fast.tw13149377216185223120 : Unit := ()
noncomputable def PySem.W.Fast.tw13203391206215945890 : Unit := ()
noncomputable def PySem.W.Fast.tw13235219861275067589 : Unit := ()
noncomputable def PySem.W.Fast.tw13413320856584938681 : Unit := ()
noncomputable def PySem.W.Fast.tw13449338821453400938 : Unit := ()
noncomputable def PySem.W.Fast.tw13473369502332993320 : Unit := ()
noncomputable def PySem.W.Fast.tw13566237279596258729 : Unit := ()
noncomputable def PySem.W.Fast.tw13574644978857570567 : Unit := ()
noncomputable def PySem.W.Fast.tw1371756010815808954 : Unit := ()
noncomputable def PySem.W.Fast.tw13776782481321767831 : Unit := ()
noncomputable def PySem.W.Fast.tw137895775371553624 : Unit := ()
noncomputable def PySem.W.Fast.tw13820455150126833625 : Unit := ()
noncomputable def PySem.W.Fast.tw13836815765544997151 : Unit := ()
noncomputable def PySem.W.Fast.tw13839640111830846101 : Unit := ()
noncomputable def PySem.W.Fast.tw13841848250602444287 : Unit := ()
noncomputable def PySem.W.Fast.tw13850365149258637739 : Unit := ()
noncomputable def PySem.W.Fast.tw13883784968427277171 : Unit := ()
noncomputable def PySem.W.Fast.tw14000729837906975631 : Unit := ()
noncomputable def PySem.W.Fast.tw1404257432005748027 : Unit := ()
noncomputable def PySem.W.Fast.tw14081404187971821329 : Unit := ()
noncomputable def PySem.W.Fast.tw14123004349291075932 : Unit := ()
noncomputable def PySem.W.Fast.tw14159301916672450413 : Unit := ()
noncomputable def PySem.W.Fast.tw14175623246941325374 : Unit := ()
noncomputable def PySem.W.Fast.tw14188502080383232993 : Unit := ()
noncomputable def PySem.W.Fast.tw14217825711701298627 : Unit := ()
noncomputable def PySem.W.Fast.tw14407884215691948982 : Unit := ()
noncomputable def PySem.W.Fast.tw14461732715491862181 : Unit := ()
noncomputable def PySem.W.Fast.tw14476120959406786296 : Unit := ()
noncomputable def PySem.W.Fast.tw14500068888265182149 : Unit := ()
noncomputable def PySem.W.Fast.tw14540953254661558440 : Unit := ()
noncomputable def PySem.W.Fast.tw14575789246933991386 : Unit := ()
noncomputable def PySem.W.Fast.tw14584288735442020581 : Unit := ()
noncomputable def PySem.W.Fast.tw14597910292628671882 : Unit := ()
noncomputable def PySem.W.Fast.tw14623116147221720435 : Unit := ()
noncomputable def PySem.W.Fast.tw14630900537417626144 : Unit := ()
noncomputable def PySem.W.Fast.tw1472657312321477491 : Unit := ()
noncomputable def PySem.W.Fast.tw14786700137570833078 : Unit := ()
noncomputable def PySem.W.Fast.tw1489084944089025500 : Unit := ()
noncomputable def PySem.W.Fast.tw14902281652790465425 : Unit := ()
noncomputable def PySem.W.Fast.tw1490502435707207083 : Unit := ()
noncomputable def PySem.W.Fast.tw14970476354959710550 : Unit := ()
noncomputable def PySem.W.Fast.tw14973558874619335405 : Unit := ()
noncomputable def PySem.W.Fast.tw14975646100720572447 : Unit := ()
noncomputable def PySem.W.Fast.tw15163898921158156084 : Unit := ()
noncomputable def PySem.W.Fast.tw1517365281765139740 : Unit := ()
noncomputable def PySem.W.Fast.tw15382641512126630766 : Unit := ()
noncomputable def PySem.W.Fast.tw15386493269050821533 : Unit := ()
noncomputable def PySem.W.Fast.tw15401149305116704772 : Unit := ()
noncomputable def PySem.W.Fast.tw15430757762096258516 : Unit := ()
noncomputable def PySem.W.Fast.tw15445671748728284307 : Unit := ()
noncomputable def PySem.W.Fast.tw15458172839166825870 : Unit := ()
noncomputable def PySem.W.Fast.tw15486488900820444125 : Unit := ()
noncomputable def PySem.W.Fast.tw15496157533845218779 : Unit := ()
noncomputable def PySem.W.Fast.tw15513073516052649807 : Unit := ()
noncomputable def PySem.W.Fast.tw15576739593718579673 : Unit := ()
noncomputable def PySem.W.Fast.tw15675011932126030736 : Unit := ()
noncomputable def PySem.W.Fast.tw15693820277461745164 : Unit := ()
noncomputable def PySem.W.Fast.tw15700638741349663247 : Unit := ()
noncomputable def PySem.W.Fast.tw15713326982700566912 : Unit := ()
noncomputable def PySem.W.Fast.tw15743850025871954335 : Unit := ()
noncomputable def PySem.W.Fast.tw15789608765728017285 : Unit := ()
noncomputable def PySem.W.Fast.tw15854139554945323583 : Unit := ()
noncomputable def PySem.W.Fast.tw15863488453676914179 : Unit := ()
noncomputable def PySem.W.Fast.tw15920080015898031098 : Unit := ()
noncomputable def PySem.W.Fast.tw15931142433293974807 : Unit := ()
noncomputable def PySem.W.Fast.tw16045590372839850276 : Unit := ()
noncomputable def PySem.W.Fast.tw16055673602585995615 : Unit := ()
noncomputable def PySem.W.Fast.tw16111040776493835287 : Unit := ()
noncomputable def PySem.W.Fast.tw16219574886774924833 : Unit := ()
noncomputable def PySem.W.Fast.tw16287343595869710651 : Unit := ()
noncomputable def PySem.W.Fast.tw16385394605459848422 : Unit := ()
noncomputable def PySem.W.Fast.tw16397211875795461521 : Unit := ()
noncomputable def PySem.W.Fast.tw16567285160844229551 : Unit := ()
noncomputable def PySem.W.Fast.tw16616735268879535654 : Unit := ()
noncomputable def PySem.W.Fast.tw16637593226338398864 : Unit := ()
noncomputable def PySem.W.Fast.tw16691520242518493448 : Unit := ()
noncomputable def PySem.W.Fast.tw16716125693730271900 : Unit := ()
noncomputable def PySem.W.Fast.tw1672147186573636260 : Unit := ()
noncomputable def PySem.W.Fast.tw16822537986808528129 : Unit := ()
noncomputable def PySem.W.Fast.tw16824871689582487270 : Unit := ()
noncomputable def PySem.W.Fast.tw16892213882906679857 : Unit := ()
noncomputable def PySem.W.Fast.tw16973912726930655699 : Unit := ()
noncomputable def PySem.W.Fast.tw17039140418020108179 : Unit := ()
noncomputable def PySem.W.Fast.tw17071647187151264925 : Unit := ()
noncomputable def PySem.W.Fast.tw17093258422572897697 : Unit := ()
noncomputable def PySem.W.Fast.tw17124918020954279481 : Unit := ()
noncomputable def PySem.W.Fast.tw17161622669148786655 : Unit := ()
noncomputable def PySem.W.Fast.tw17261838315480384258 : Unit := ()
noncomputable def PySem.W.Fast.tw17375723386910679385 : Unit := ()
noncomputable def PySem.W.Fast.tw17476453228404915596 : Unit := ()
noncomputable def PySem.W.Fast.tw17686006103758788063 : Unit := ()
noncomputable def PySem.W.Fast.tw17746856465661765383 : Unit := ()
noncomputable def PySem.W.Fast.tw1782268046151745264 : Unit := ()
noncomputable def PySem.W.Fast.tw17936902545025121044 : Unit := ()
noncomputable def PySem.W.Fast.tw17965096523284145935 : Unit := ()
noncomputable def PySem.W.Fast.tw17998743441180854562 : Unit := ()
noncomputable def PySem.W.Fast.tw18021204843188493240 : Unit := ()
noncomputable def PySem.W.Fast.tw18063630791914822731 : Unit := ()
noncomputable def PySem.W.Fast.tw18105232493607465216 : Unit := ()
noncomputable def PySem.W.Fast.tw18111343794980066937 : Unit := ()
noncomputable def PySem.W.Fast.tw18128184033000737832 : Unit := ()
noncomputable def PySem.W.Fast.tw18254871564120575248 : Unit := ()
noncomputable def PySem.W.Fast.tw18297756844890989752 : Unit := ()
noncomputable def PySem.W.Fast.tw18304868152414540456 : Unit := ()
noncomputable def PySem.W.Fast.tw18369555030735943562 : Unit := ()
noncomputable def PySem.W.Fast.tw18428160475286725001 : Unit := ()
noncomputable def PySem.W.Fast.tw18442053800966693648 : Unit := ()
noncomputable def PySem.W.Fast.tw2025636222830507385 : Unit := ()
noncomputable def PySem.W.Fast.tw203324824557181766 : Unit := ()
noncomputable def PySem.W.Fast.tw2106538790029582284 : Unit := ()
noncomputable def PySem.W.Fast.tw2126772203455799620 : Unit := ()
noncomputable def PySem.W.Fast.tw2152032529768281499 : Unit := ()
noncomputable def PySem.W.Fast.tw224014831481314613 : Unit := ()
noncomputable def PySem.W.Fast.tw2298522688113019430 : Unit := ()
noncomputable def PySem.W.Fast.tw2305700014162040282 : Unit := ()
noncomputable def PySem.W.Fast.tw2346391597622538692 : Unit := ()
noncomputable def PySem.W.Fast.tw2430920242103740073 : Unit := ()
noncomputable def PySem.W.Fast.tw2534856985169844030 : Unit := ()
noncomputable def PySem.W.Fast.tw2544567181347017618 : Unit := ()
noncomputable def PySem.W.Fast.tw2567049935902965263 : Unit := ()
noncomputable def PySem.W.Fast.tw2696506398735165257 : Unit := ()
noncomputable def PySem.W.Fast.tw269894316941737714 : Unit := ()
noncomputable def PySem.W.Fast.tw2794129479651635103 : Unit := ()
noncomputable def PySem.W.Fast.tw2875443771811621290 : Unit := ()
noncomputable def PySem.W.Fast.tw2895822609789875177 : Unit := ()
noncomputable def PySem.W.Fast.tw2908293429749202094 : Unit := ()
noncomputable def PySem.W.Fast.tw2914606209090227752 : Unit := ()
noncomputable def PySem.W.Fast.tw2924671658854839056 : Unit := ()
noncomputable def PySem.W.Fast.tw2935231917835641921 : Unit := ()
noncomputable def PySem.W.Fast.tw3175124336170373204 : Unit := ()
noncomputable def PySem.W.Fast.tw3202220971767037826 : Unit := ()
noncomputable def PySem.W.Fast.tw3209642911449055698 : Unit := ()
noncomputable def PySem.W.Fast.tw3248939154158415711 : Unit := ()
noncomputable def PySem.W.Fast.tw327900658571420776 : Unit := ()
noncomputable def PySem.W.Fast.tw3402917546070395695 : Unit := ()
noncomputable def PySem.W.Fast.tw342157800547565085 : Unit := ()
noncomputable def PySem.W.Fast.tw350260240213206808 : Unit := ()
noncomputable def PySem.W.Fast.tw3507413148297084762 : Unit := ()
noncomputable def PySem.W.Fast.tw3529434453651530464 : Unit := ()
noncomputable def PySem.W.Fast.tw3569406456223195000 : Unit := ()
noncomputable def PySem.W.Fast.tw3672804002472973058 : Unit := ()
noncomputable def PySem.W.Fast.tw3675381061143496071 : Unit := ()
noncomputable def PySem.W.Fast.tw3693734945375317740 : Unit := ()
noncomputable def PySem.W.Fast.tw3740038072777569838 : Unit := ()
noncomputable def PySem.W.Fast.tw3951467828612771612 : Unit := ()
noncomputable def PySem.W.Fast.tw407155670307516469 : Unit := ()
noncomputable def PySem.W.Fast.tw4098521156068307439 : Unit := ()
noncomputable def PySem.W.Fast.tw4123394341694589569 : Unit := ()
noncomputable def PySem.W.Fast.tw4267138121178657439 : Unit := ()
noncomputable def PySem.W.Fast.tw4268290786419791671 : Unit := ()
noncomputable def PySem.W.Fast.tw432411955214879326 : Unit := ()
noncomputable def PySem.W.Fast.tw4353581370584449085 : Unit := ()
noncomputable def PySem.W.Fast.tw4380959228444815232 : Unit := ()
noncomputable def PySem.W.Fast.tw4440932982515484145 : Unit := ()
noncomputable def PySem.W.Fast.tw4591185835102832857 : Unit := ()
noncomputable def PySem.W.Fast.tw4602426364314591506 : Unit := ()
noncomputable def PySem.W.Fast.tw4604870190705272133 : Unit := ()
noncomputable def PySem.W.Fast.tw4634755662182778818 : Unit := ()
noncomputable def PySem.W.Fast.tw4761292848361252107 : Unit := ()
noncomputable def PySem.W.Fast.tw4817563559156045780 : Unit := ()
noncomputable def PySem.W.Fast.tw4829753609158951813 : Unit := ()
noncomputable def PySem.W.Fast.tw4905520396713296185 : Unit := ()
noncomputable def PySem.W.Fast.tw5038138121611973511 : Unit := ()
noncomputable def PySem.W.Fast.tw5118122916585339046 : Unit := ()
noncomputable def PySem.W.Fast.tw5179877991045055242 : Unit := ()
noncomputable def PySem.W.Fast.tw5286181360989243827 : Unit := ()
noncomputable def PySem.W.Fast.tw548564729406437428 : Unit := ()
noncomputable def PySem.W.Fast.tw5522268991355181241 : Unit := ()
noncomputable def PySem.W.Fast.tw5562749805499985119 : Unit := ()
noncomputable def PySem.W.Fast.tw5582047726843341946 : Unit := ()
noncomputable def PySem.W.Fast.tw5604271130280525867 : Unit := ()
noncomputable def PySem.W.Fast.tw5708863798718729236 : Unit := ()
noncomputable def PySem.W.Fast.tw5712089779597088030 : Unit := ()
noncomputable def PySem.W.Fast.tw5814680788934893149 : Unit := ()
noncomputable def PySem.W.Fast.tw5939277979179132613 : Unit := ()
noncomputable def PySem.W.Fast.tw5968204958127998580 : Unit := ()
noncomputable def PySem.W.Fast.tw5972126207947098190 : Unit := ()
noncomputable def PySem.W.Fast.tw6017351396690776386 : Unit := ()
noncomputable def PySem.W.Fast.tw6102726124469868461 : Unit := ()
noncomputable def PySem.W.Fast.tw615370611409103409 : Unit := ()
noncomputable def PySem.W.Fast.tw621721919007355949 : Unit := ()
noncomputable def PySem.W.Fast.tw6243925214391151642 : Unit := ()
noncomputable def PySem.W.Fast.tw630575877985255364 : Unit := ()
noncomputable def PySem.W.Fast.tw6335688025215178311 : Unit := ()
noncomputable def PySem.W.Fast.tw6447884670770302463 : Unit := ()
noncomputable def PySem.W.Fast.tw6473285473625588453 : Unit := ()
noncomputable def PySem.W.Fast.tw6506923577921266535 : Unit := ()
noncomputable def PySem.W.Fast.tw6603291856844511772 : Unit := ()
noncomputable def PySem.W.Fast.tw6615743042472514160 : Unit := ()
noncomputable def PySem.W.Fast.tw6669743305670669961 : Unit := ()
noncomputable def PySem.W.Fast.tw6735838516621499416 : Unit := ()
noncomputable def PySem.W.Fast.tw6763379208280355188 : Unit := ()
noncomputable def PySem.W.Fast.tw682034630008265050 : Unit := ()
noncomputable def PySem.W.Fast.tw6906019204249165168 : Unit := ()
noncomputable def PySem.W.Fast.tw7085302456909913568 : Unit := ()
noncomputable def PySem.W.Fast.tw7208057952355672747 : Unit := ()
noncomputable def PySem.W.Fast.tw7222774013648032923 : Unit := ()
noncomputable def PySem.W.Fast.tw723327854038213704 : Unit := ()
noncomputable def PySem.W.Fast.tw7324707264250315732 : Unit := ()
noncomputable def PySem.W.Fast.tw739487017876196891 : Unit := ()
noncomputable def PySem.W.Fast.tw7403064844091179082 : Unit := ()
noncomputable def PySem.W.Fast.tw7510066580548875201 : Unit := ()
noncomputable def PySem.W.Fast.tw7516851942908769511 : Unit := ()
noncomputable def PySem.W.Fast.tw7549190382387429696 : Unit := ()
noncomputable def PySem.W.Fast.tw755363192293741395 : Unit := ()
noncomputable def PySem.W.Fast.tw7593374448051951359 : Unit := ()
noncomputable def PySem.W.Fast.tw7643332872033215210 : Unit := ()
noncomputable def PySem.W.Fast.tw764715933231189337 : Unit := ()
noncomputable def PySem.W.Fast.tw7710769992009561376 : Unit := ()
noncomputable def PySem.W.Fast.tw7811842393033247674 : Unit := ()
noncomputable def PySem.W.Fast.tw7842831775548374586 : Unit := ()
noncomputable def PySem.W.Fast.tw7872603540960221092 : Unit := ()
noncomputable def PySem.W.Fast.tw7901939785276919673 : Unit := ()
noncomputable def PySem.W.Fast.tw8098665532757104622 : Unit := ()
noncomputable def PySem.W.Fast.tw8128611156045441762 : Unit := ()
noncomputable def PySem.W.Fast.tw8159014813702681620 : Unit := ()
noncomputable def PySem.W.Fast.tw8229261963869754180 : Unit := ()
noncomputable def PySem.W.Fast.tw8230433338858942815 : Unit := ()
noncomputable def PySem.W.Fast.tw8252795545597588165 : Unit := ()
noncomputable def PySem.W.Fast.tw8277824813150664682 : Unit := ()
noncomputable def PySem.W.Fast.tw8310227397080830551 : Unit := ()
noncomputable def PySem.W.Fast.tw8362564360639464392 : Unit := ()
noncomputable def PySem.W.Fast.tw8386507177102656119 : Unit := ()
noncomputable def PySem.W.Fast.tw8408607484086408148 : Unit := ()
noncomputable def PySem.W.Fast.tw8417179873193554618 : Unit := ()
noncomputable def PySem.W.Fast.tw8440458349983785012 : Unit := ()
noncomputable def PySem.W.Fast.tw8440818702632601857 : Unit := ()
noncomputable def PySem.W.Fast.tw8495909694288306975 : Unit := ()
noncomputable def PySem.W.Fast.tw8556204049198214202 : Unit := ()
noncomputable def PySem.W.Fast.tw865006551351274135 : Unit := ()
noncomputable def PySem.W.Fast.tw8677016279638129048 : Unit := ()
noncomputable def PySem.W.Fast.tw8706163609814776938 : Unit := ()
noncomputable def PySem.W.Fast.tw8798433640953582632 : Unit := ()
noncomputable def PySem.W.Fast.tw885007963937036122 : Unit := ()
noncomputable def PySem.W.Fast.tw8888440873209870298 : Unit := ()
noncomputable def PySem.W.Fast.tw906484113932670707 : Unit := ()
noncomputable def PySem.W.Fast.tw9134649986110136779 : Unit := ()
noncomputable def PySem.W.Fast.tw9207330961273042694 : Unit := ()
noncomputable def PySem.W.Fast.tw9218046919003392854 : Unit := ()
noncomputable def PySem.W.Fast.tw9266881333746056110 : Unit := ()
noncomputable def PySem.W.Fast.tw9317149115608629990 : Unit := ()
noncomputable def PySem.W.Fast.tw934139834860293499 : Unit := ()
noncomputable def PySem.W.Fast.tw9348484424169950065 : Unit := ()
noncomputable def PySem.W.Fast.tw9398471951600382545 : Unit := ()
noncomputable def PySem.W.Fast.tw9464667267710034458 : Unit := ()
noncomputable def PySem.W.Fast.tw9479346903520437241 : Unit := ()
noncomputable def PySem.W.Fast.tw9521100547335248805 : Unit := ()
noncomputable def PySem.W.Fast.tw9545735288603028616 : Unit := ()
noncomputable def PySem.W.Fast.tw9547882798784786222 : Unit := ()
noncomputable def PySem.W.Fast.tw9562185913546901856 : Unit := ()
noncomputable def PySem.W.Fast.tw9597965738432438709 : Unit := ()
noncomputable def PySem.W.Fast.tw9602124990404961952 : Unit := ()
noncomputable def PySem.W.Fast.tw9762524180971243778 : Unit := ()
noncomputable def PySem.W.Fast.tw9896595573803807147 : Unit := ()
noncomputable def PySem.W.Fast.tw9965269819069158115 : Unit := ()
open PySem PySem.W PyProof.Rows L2 L3 KK
set_option maxRecDepth 100000 in
set_option maxHeartbeats 0 in
theorem PySem.Challenge.cw_weightrooms_k09_looked_at_refused_holds : PySem.Challenge.rw_weightrooms_k09_looked_at_refused.Holds := by
 w_on; o_law; k_head; (case hw => w_witness2)
 k_fill
 refine L2.walk_lawD (l := PySem.Challenge.rw_weightrooms_k09_looked_at_refused) (x := "_law_script") (k := 8) rfl rfl ⟨rfl, by decide, by decide⟩ (fun w h Y => PySem.W.kIn_of Y) ?F ?D
 case F =>
  intro w mg h KX G base kb nb
  have TT := by
   refine' AV KX G ?m_NoBox ?m_NoFraction ?m_NoRule ?m_NoText ?m_NoTree ?m_NoWay ?m_NoWeights ?m_RoomError ?m_TooMany ?m_Unknown ?n_abs ?n_all ?n_bool ?n_enumerate ?n_int ?n_isinstance ?n_len ?n_list ?n_max ?n_min ?n_range ?n_sum ?n_tuple ?g_MOST_WEIGHTS ?gs_ ?tk_ ?h_RoomError_ty ?h_RoomError_cls ?h_RoomError_mb ?x_NoFraction ?k_NoFraction_cls ?k_NoFraction_ga ?k_NoFraction_gt ?k_NoFraction_at ?k_NoFraction_mo ?k_NoFraction_mb ?x_NoBox ?k_NoBox_cls ?k_NoBox_ga ?k_NoBox_gt ?k_NoBox_at ?k_NoBox_mo ?k_NoBox_mb ?x_NoWeights ?k_NoWeights_cls ?k_NoWeights_ga ?k_NoWeights_gt ?k_NoWeights_at ?k_NoWeights_mo ?k_NoWeights_mb ?x_TooMany ?k_TooMany_cls ?k_TooMany_ga ?k_TooMany_gt ?k_TooMany_at ?k_TooMany_mo ?k_TooMany_mb ?r_NoFraction_RoomError ?r_NoBox_RoomError ?r_NoWeights_RoomError ?r_TooMany_RoomError ?i0 ?i1 ?i2 ?i3 ?i4 ?i5 ?i6 ?i7 ?i8 ?i9 ?i10 ?i11 ?i12 ?i13 ?i14 ?i15 ?i16 ?i17 ?i18 ?i19 ?i20 ?i21 ?i22 ?i23 ?i24 ?i25 ?i26 ?i27 ?i28 ?i29 ?i30 ?i31 ?i32 ?i33 ?i34 ?i35 ?i36 ?i37 ?i38 ?i39 ?i40 ?i41 ?i42 ?i43 ?i44 ?i45 ?i46 ?i47 ?i48 ?i49 ?i50 ?i51 ?i52 ?i53 ?i54 ?i55 ?i56 ?i57 ?i58 ?i59
   (case m_NoBox => k_is)
   (case m_NoFraction => k_is)
   (case m_NoRule => k_is)
   (case m_NoText => k_is)
   (case m_NoTree => k_is)
   (case m_NoWay => k_is)
   (case m_NoWeights => k_is)
   (case m_RoomError => k_is)
   (case m_TooMany => k_is)
   (case m_Unknown => k_is)
   (case n_abs => k_is)
   (case n_all => k_is)
   (case n_bool => k_is)
   (case n_enumerate => k_is)
   (case n_int => k_is)
   (case n_isinstance => k_is)
   (case n_len => k_is)
   (case n_list => k_is)
   (case n_max => k_is)
   (case n_min => k_is)
   (case n_range => k_is)
   (case n_sum => k_is)
   (case n_tuple => k_is)
   (case g_MOST_WEIGHTS => exact (by refine' zW KX G ?a; (case a => k_is)))
   (case gs_ => k_is)
   (case tk_ => k_is)
   (case h_RoomError_ty => k_is)
   (case h_RoomError_cls => exact Option.isSome_iff_exists.mpr ⟨_, by k_is⟩)
   (case h_RoomError_mb => k_is)
   (case x_NoFraction => k_exc)
   (case k_NoFraction_cls => exact Option.isSome_iff_exists.mpr ⟨_, by k_is⟩)
   (case k_NoFraction_ga => k_is)
   (case k_NoFraction_gt => k_is)
   (case k_NoFraction_at => k_is)
   (case k_NoFraction_mo => k_is)
   (case k_NoFraction_mb => k_is)
   (case x_NoBox => k_exc)
   (case k_NoBox_cls => exact Option.isSome_iff_exists.mpr ⟨_, by k_is⟩)
   (case k_NoBox_ga => k_is)
   (case k_NoBox_gt => k_is)
   (case k_NoBox_at => k_is)
   (case k_NoBox_mo => k_is)
   (case k_NoBox_mb => k_is)
   (case x_NoWeights => k_exc)
   (case k_NoWeights_cls => exact Option.isSome_iff_exists.mpr ⟨_, by k_is⟩)
   (case k_NoWeights_ga => k_is)
   (case k_NoWeights_gt => k_is)
   (case k_NoWeights_at => k_is)
   (case k_NoWeights_mo => k_is)
   (case k_NoWeights_mb => k_is)
   (case x_TooMany => k_exc)
   (case k_TooMany_cls => exact Option.isSome_iff_exists.mpr ⟨_, by k_is⟩)
   (case k_TooMany_ga => k_is)
   (case k_TooMany_gt => k_is)
   (case k_TooMany_at => k_is)
   (case k_TooMany_mo => k_is)
   (case k_TooMany_mb => k_is)
   (case r_NoFraction_RoomError => k_is)
   (case r_NoBox_RoomError => k_is)
   (case r_NoWeights_RoomError => k_is)
   (case r_TooMany_RoomError => k_is)
   (case i0 => kit_is)
   (case i1 => kit_is)
   (case i2 => kit_is)
   (case i3 => kit_is)
   (case i4 => kit_is)
   (case i5 => kit_is)
   (case i6 => kit_is)
   (case i7 => kit_is)
   (case i8 => kit_is)
   (case i9 => kit_is)
   (case i10 => kit_is)
   (case i11 => kit_is)
   (case i12 => kit_is)
   (case i13 => kit_is)
   (case i14 => kit_is)
   (case i15 => kit_is)
   (case i16 => kit_is)
   (case i17 => kit_is)
   (case i18 => kit_is)
   (case i19 => kit_is)
   (case i20 => kit_is)
   (case i21 => kit_is)
   (case i22 => kit_is)
   (case i23 => kit_is)
   (case i24 => kit_is)
   (case i25 => kit_is)
   (case i26 => kit_is)
   (case i27 => kit_is)
   (case i28 => kit_is)
   (case i29 => kit_is)
   (case i30 => kit_is)
   (case i31 => kit_is)
   (case i32 => kit_is)
   (case i33 => kit_is)
   (case i34 => kit_is)
   (case i35 => kit_is)
   (case i36 => kit_is)
   (case i37 => kit_is)
   (case i38 => kit_is)
   (case i39 => kit_is)
   (case i40 => kit_is)
   (case i41 => kit_is)
   (case i42 => kit_is)
   (case i43 => kit_is)
   (case i44 => kit_is)
   (case i45 => kit_is)
   (case i46 => kit_is)
   (case i47 => kit_is)
   (case i48 => kit_is)
   (case i49 => kit_is)
   (case i50 => kit_is)
   (case i51 => kit_is)
   (case i52 => kit_is)
   (case i53 => kit_is)
   (case i54 => kit_is)
   (case i55 => kit_is)
   (case i56 => kit_is)
   (case i57 => kit_is)
   (case i58 => kit_is)
   (case i59 => kit_is)
  have D_law_feed := by
   refine' aZ (x := "_law_feed") (st := js) KX G ?a ?l ?c ?k
   (case a => k_is); (case l => k_is); (case c => k_is); (case k => k_is)
  have D_law_next := by
   refine' aZ (x := "_law_next") (st := jE) KX G ?a ?l ?c ?k
   (case a => k_is); (case l => k_is); (case c => k_is); (case k => k_is)
  have D_law_low := by
   refine' aZ (x := "_law_low") (st := jV) KX G ?a ?l ?c ?k
   (case a => k_is); (case l => k_is); (case c => k_is); (case k => k_is)
  have D_law_great := by
   refine' aZ (x := "_law_great") (st := iw) KX G ?a ?l ?c ?k
   (case a => k_is); (case l => k_is); (case c => k_is); (case k => k_is)
  have D_law_room := by
   refine' aZ (x := "_law_room") (st := jo) KX G ?a ?l ?c ?k
   (case a => k_is); (case l => k_is); (case c => k_is); (case k => k_is)
  have D_law_list := by
   refine' aZ (x := "_law_list") (st := gk) KX G ?a ?l ?c ?k
   (case a => k_is); (case l => k_is); (case c => k_is); (case k => k_is)
  have D_law_good := by
   refine' aZ (x := "_law_good") (st := f6) KX G ?a ?l ?c ?k
   (case a => k_is); (case l => k_is); (case c => k_is); (case k => k_is)
  have D_is_whole := by
   refine' aZ (x := "is_whole") (st := jl) KX G ?a ?l ?c ?k
   (case a => k_is); (case l => k_is); (case c => k_is); (case k => k_is)
  have D_common_divisor := by
   refine' aZ (x := "common_divisor") (st := eB) KX G ?a ?l ?c ?k
   (case a => k_is); (case l => k_is); (case c => k_is); (case k => k_is)
  have D_is_fraction := by
   refine' aZ (x := "is_fraction") (st := fM) KX G ?a ?l ?c ?k
   (case a => k_is); (case l => k_is); (case c => k_is); (case k => k_is)
  have D_is_box := by
   refine' aZ (x := "is_box") (st := jm) KX G ?a ?l ?c ?k
   (case a => k_is); (case l => k_is); (case c => k_is); (case k => k_is)
  have D_check_box := by
   refine' aZ (x := "check_box") (st := ic) KX G ?a ?l ?c ?k
   (case a => k_is); (case l => k_is); (case c => k_is); (case k => k_is)
  have D_is_weight := by
   refine' aZ (x := "is_weight") (st := iA) KX G ?a ?l ?c ?k
   (case a => k_is); (case l => k_is); (case c => k_is); (case k => k_is)
  have D_check_weights := by
   refine' aZ (x := "check_weights") (st := dE) KX G ?a ?l ?c ?k
   (case a => k_is); (case l => k_is); (case c => k_is); (case k => k_is)
  have D_fraction := by
   refine' aZ (x := "fraction") (st := jA) KX G ?a ?l ?c ?k
   (case a => k_is); (case l => k_is); (case c => k_is); (case k => k_is)
  have D_times := by
   refine' aZ (x := "times") (st := mq) KX G ?a ?l ?c ?k
   (case a => k_is); (case l => k_is); (case c => k_is); (case k => k_is)
  have D_area := by
   refine' aZ (x := "area") (st := oZ) KX G ?a ?l ?c ?k
   (case a => k_is); (case l => k_is); (case c => k_is); (case k => k_is)
  have D_added := by
   refine' aZ (x := "added") (st := mM) KX G ?a ?l ?c ?k
   (case a => k_is); (case l => k_is); (case c => k_is); (case k => k_is)
  have D_walls := by
   refine' aZ (x := "walls") (st := l8) KX G ?a ?l ?c ?k
   (case a => k_is); (case l => k_is); (case c => k_is); (case k => k_is)
  have D_is_less := by
   refine' aZ (x := "is_less") (st := jW) KX G ?a ?l ?c ?k
   (case a => k_is); (case l => k_is); (case c => k_is); (case k => k_is)
  have D_lies_within := by
   refine' aZ (x := "lies_within") (st := fP) KX G ?a ?l ?c ?k
   (case a => k_is); (case l => k_is); (case c => k_is); (case k => k_is)
  have D_share_more_than_walls := by
   refine' aZ (x := "share_more_than_walls") (st := cz) KX G ?a ?l ?c ?k
   (case a => k_is); (case l => k_is); (case c => k_is); (case k => k_is)
  have D_first_over := by
   refine' aZ (x := "first_over") (st := eR) KX G ?a ?l ?c ?k
   (case a => k_is); (case l => k_is); (case c => k_is); (case k => k_is)
  have D_fault := by
   refine' aZ (x := "fault") (st := mx) KX G ?a ?l ?c ?k
   (case a => k_is); (case l => k_is); (case c => k_is); (case k => k_is)
  have D_law_class := by
   refine' aZ (x := "_law_class") (st := iB) KX G ?a ?l ?c ?k
   (case a => k_is); (case l => k_is); (case c => k_is); (case k => k_is)
  have D_law := by
   refine' aZ (x := "law") (st := lF) KX G ?a ?l ?c ?k
   (case a => k_is); (case l => k_is); (case c => k_is); (case k => k_is)
  have c_law_feed := oq (P := PySem.Challenge.rw_weightrooms_k09_looked_at_refused.prog) (w := w) (base := base) TT D_law_feed
  have c_law_next := ph (P := PySem.Challenge.rw_weightrooms_k09_looked_at_refused.prog) (w := w) (base := base) TT D_law_next
  have c_law_low := pX (P := PySem.Challenge.rw_weightrooms_k09_looked_at_refused.prog) (w := w) (base := base) TT D_law_low
  have c_law_great := ng (P := PySem.Challenge.rw_weightrooms_k09_looked_at_refused.prog) (w := w) (base := base) TT D_law_great c_law_next
  have c_law_room := o9 (P := PySem.Challenge.rw_weightrooms_k09_looked_at_refused.prog) (w := w) (base := base) TT D_law_room c_law_next c_law_low c_law_great
  have c_law_list := nT (P := PySem.Challenge.rw_weightrooms_k09_looked_at_refused.prog) (w := w) (base := base) TT D_law_list c_law_next
  have c_law_good := pv (P := PySem.Challenge.rw_weightrooms_k09_looked_at_refused.prog) (w := w) (base := base) TT D_law_good
  have c_is_whole := nR (P := PySem.Challenge.rw_weightrooms_k09_looked_at_refused.prog) (w := w) (base := base) TT D_is_whole
  have c_common_divisor := jL (P := PySem.Challenge.rw_weightrooms_k09_looked_at_refused.prog) (w := w) (base := base) TT D_common_divisor
  have c_is_fraction := lO (P := PySem.Challenge.rw_weightrooms_k09_looked_at_refused.prog) (w := w) (base := base) TT D_is_fraction c_is_whole c_common_divisor
  have c_is_box := sC (P := PySem.Challenge.rw_weightrooms_k09_looked_at_refused.prog) (w := w) (base := base) TT D_is_box c_is_fraction
  have c_check_box := nu (P := PySem.Challenge.rw_weightrooms_k09_looked_at_refused.prog) (w := w) (base := base) TT D_check_box c_is_box
  have c_is_weight := nq (P := PySem.Challenge.rw_weightrooms_k09_looked_at_refused.prog) (w := w) (base := base) TT D_is_weight c_is_whole
  have c_check_weights := kz (P := PySem.Challenge.rw_weightrooms_k09_looked_at_refused.prog) (w := w) (base := base) TT D_check_weights c_is_weight
  have c_fraction := nX (P := PySem.Challenge.rw_weightrooms_k09_looked_at_refused.prog) (w := w) (base := base) TT D_fraction c_common_divisor
  have c_times := uc (P := PySem.Challenge.rw_weightrooms_k09_looked_at_refused.prog) (w := w) (base := base) TT D_times c_fraction
  have c_area := wD (P := PySem.Challenge.rw_weightrooms_k09_looked_at_refused.prog) (w := w) (base := base) TT D_area c_check_box c_times
  have c_added := td (P := PySem.Challenge.rw_weightrooms_k09_looked_at_refused.prog) (w := w) (base := base) TT D_added c_fraction
  have c_walls := sQ (P := PySem.Challenge.rw_weightrooms_k09_looked_at_refused.prog) (w := w) (base := base) TT D_walls c_added
  have c_is_less := pZ (P := PySem.Challenge.rw_weightrooms_k09_looked_at_refused.prog) (w := w) (base := base) TT D_is_less
  have c_lies_within := lr (P := PySem.Challenge.rw_weightrooms_k09_looked_at_refused.prog) (w := w) (base := base) TT D_lies_within c_walls c_is_less
  have c_share_more_than_walls := gc (P := PySem.Challenge.rw_weightrooms_k09_looked_at_refused.prog) (w := w) (base := base) TT D_share_more_than_walls c_is_less
  have c_first_over := mi (P := PySem.Challenge.rw_weightrooms_k09_looked_at_refused.prog) (w := w) (base := base) TT D_first_over c_walls c_share_more_than_walls
  have c_fault := uz (P := PySem.Challenge.rw_weightrooms_k09_looked_at_refused.prog) (w := w) (base := base) TT D_fault c_check_box c_check_weights c_is_box c_area c_times c_fraction c_lies_within c_first_over
  have c_law_class := nr (P := PySem.Challenge.rw_weightrooms_k09_looked_at_refused.prog) (w := w) (base := base) TT D_law_class c_fault
  have c_law := y9 (P := PySem.Challenge.rw_weightrooms_k09_looked_at_refused.prog) (w := w) (base := base) TT D_law c_law_feed c_law_room c_law_next c_law_list c_law_good c_law_class
  exact uK c_law (law3 lT rfl BR)
 case D =>
  intro w mg h KX G
  refine ⟨lF, ?_, (fun _ _ _ _ _ _ => ar1 fun _ => rfl)⟩
  refine' aZ KX G ?a ?l ?c ?k
  (case a => k_is); (case l => k_is); (case c => k_is); (case k => k_is)
