import PyProof.Rows.All
import Wide.All
import OpenK.AllK
import Wide.FinOn
import Lean
import PyProof.EqAt
import PyProof.EqKinds
import PyProof.TupleCall
import PyProof.Rows.SumAny
import PyProof.EnumMake
import PyProof.Draws
import PyProof.ZipIter
import KE.KUnpack
import PySem.Challenge.RW_weightrooms_k76_weights_back
set_option genSizeOf false
set_option genInjectivity false
set_option bootstrap.genMatcherCode false
noncomputable section
set_option Elab.async false
set_option linter.all false
set_option maxRecDepth 100000
namespace L2
open PySem PySem.Spec PyProof.Rows
abbrev Key := Sum Int Str
noncomputable def iN : Key -> Value -> Bool
 | .inl k, v => Value.isInt k v
 | .inr x, v => Value.isStrOf x v
noncomputable def keyH (w : World) : Key -> Int
 | .inl k => hashInt k
 | .inr x => hashStr w x
theorem bD : ∀ {k : Key} {v : Value}, iN k v = true -> (∃ i t, k = Sum.inl i /\ v = Value.int i t) \/ (∃ x t, k = Sum.inr x /\ v = Value.str x t)
 |
  .inl i, v, h => by
  obtain ⟨t, e⟩ := Value.isInt_shape (k := i) (v := v) h
  exact .inl ⟨i, t, rfl, e⟩
 |
  .inr x, v, h => by
  obtain ⟨t, e⟩ := Value.isStrOf_shape (x := x) (v := v) h
  exact .inr ⟨x, t, rfl, e⟩
theorem su (i : Int) (t : Tok) : iN (.inl i) (.int i t) = true := by simp [iN, Value.isInt]
theorem rJ (x : Str) (t : Tok) : iN (.inr x) (.str x t) = true := by simp [iN, Value.isStrOf]
theorem AJ (a b : Int) : decide ((Sum.inl a : Key) = Sum.inl b) = (a == b) := by
 by_cases e : a = b
 ·subst e; simp
 ·have h : ¬ (Sum.inl a : Key) = Sum.inl b := fun q => e (Sum.inl.inj q)
  rw [decide_eq_false h]
  exact (beq_eq_false_iff_ne.mpr e).symm
theorem Ai (a b : Str) : decide ((Sum.inr a : Key) = Sum.inr b) = decide (a = b) := by
 by_cases e : a = b
 ·subst e; simp
 ·have h : ¬ (Sum.inr a : Key) = Sum.inr b := fun q => e (Sum.inr.inj q)
  rw [decide_eq_false h, decide_eq_false e]
theorem Ba (a : Int) (b : Str) : decide ((Sum.inl a : Key) = Sum.inr b) = false := decide_eq_false (fun q => nomatch q)
theorem yM (a : Str) (b : Int) : decide ((Sum.inr a : Key) = Sum.inl b) = false := decide_eq_false (fun q => nomatch q)
noncomputable def bA (prog : Program) (w : World) : PySem.KeyKind prog w Key where
 is := iN
 hash := keyH w
 inj
   := fun v a b ha hb => by
  rcases bD ha with ⟨i, t, rfl, rfl⟩ | ⟨x, t, rfl, rfl⟩
  ·rcases bD hb with ⟨j, u, rfl, e⟩ | ⟨y, u, rfl, e⟩
   ·injection e with e1 _; rw [e1]
   ·exact nomatch e
  ·rcases bD hb with ⟨j, u, rfl, e⟩ | ⟨y, u, rfl, e⟩
   ·exact nomatch e
   ·injection e with e1 _; rw [e1]
 byValue := fun k v h => by
  rcases bD h with ⟨i, t, rfl, rfl⟩ | ⟨x, t, rfl, rfl⟩ <;> rfl
 pyHash := fun hv h => by
  rcases bD hv with ⟨i, t, rfl, rfl⟩ | ⟨x, t, rfl, rfl⟩
  ·exact wpAny_pyHash_int h
  ·exact wpAny_pyHash_str h
 eqBool := fun hu hv h => by
  rcases bD hu with ⟨i, t, rfl, rfl⟩ | ⟨x, t, rfl, rfl⟩
  ·rcases bD hv with ⟨j, u, rfl, rfl⟩ | ⟨y, u, rfl, rfl⟩
   ·rw [AJ] at h; exact wpAny_eqBool_int h
   ·rw [Ba] at h; exact SeqAt.EqAt.int_str i t y u _ _ _ _ h
  ·rcases bD hv with ⟨j, u, rfl, rfl⟩ | ⟨y, u, rfl, rfl⟩
   ·rw [yM] at h; exact SeqAt.EqAt.str_int x t j u _ _ _ _ h
   ·rw [Ai] at h; exact wpAny_eqBool_str h
 «strs» := fun k x t v h => by
  rcases bD h with ⟨i, u, rfl, e⟩ | ⟨y, u, rfl, e⟩
  ·exact nomatch e
  ·injection e with e1 _
   subst e1
   cases v <;> rfl
theorem n9 (prog : Program) (w : World) (i : Int) (t : Tok) : (bA prog w).is (.inl i) (.int i t) = true := su i t
theorem nY (prog : Program) (w : World) (x : Str) (t : Tok) : (bA prog w).is (.inr x) (.str x t) = true := rJ x t
end L2
namespace L2
open PySem PySem.Spec PyProof.Rows
inductive V where
 | non | bl (b : Bool) | int (i : Int) | str (x : Str) | byt (b : Array UInt8) | flt (b : UInt64) | ref (a : Addr) | ty (n : String)
 deriving DecidableEq
noncomputable def RelV : V -> Value -> Prop
 | .non, u => u = Value.none
 | .bl b, u => u = Value.bool b
 | .int i, u => ∃ t, u = Value.int i t
 | .str x, u => ∃ t, u = Value.str x t
 | .byt b, u => ∃ t, u = Value.bytes b t
 | .flt b, u => ∃ t, u = Value.float b t
 | .ref a, u => u = Value.ref a
 | .ty n, u => u = Value.type n
abbrev Vals : List V -> List Value -> Prop := Paired RelV
theorem Vals.length {xs : List V} {us : List Value} (r : Vals xs us) : xs.length = us.length := Paired.length r
theorem Vals.get {xs : List V} {us : List Value} {i : Nat} {x : V} (r : Vals xs us) (e : xs[i]? = some x) : ∃ u, us[i]? = some u /\ RelV x u := by
 induction r generalizing i with
 | nil => rw [List.getElem?_nil] at e; cases e
 |
  cons r t ih =>
  cases i with
  | zero => cases e; exact ⟨_, rfl, r⟩
  | succ i => exact ih (i := i) e
theorem Vals.set {x : V} {u : Value} (r : RelV x u) {xs : List V} {us : List Value} (i : Nat) (q : Vals xs us) : Vals (xs.set i x) (us.set i u) := by
 induction q generalizing i with
 | nil => exact .nil
 |
  cons q t ih =>
  cases i with
  | zero => exact .cons r t
  | succ i => exact .cons q (ih i)
theorem Vals.append {xs ys : List V} {us ws : List Value} (r : Vals xs us) (s : Vals ys ws) : Vals (xs ++ ys) (us ++ ws) := by
 induction r with
 | nil => exact s
 | cons r t ih => exact .cons r ih
theorem Vals.take {xs : List V} {us : List Value} (n : Nat) (r : Vals xs us) : Vals (xs.take n) (us.take n) := by
 induction r generalizing n with
 | nil => rw [List.take_nil, List.take_nil]; exact .nil
 |
  cons r t ih =>
  cases n with
  | zero => exact .nil
  | succ n => exact .cons r (ih n)
theorem Vals.drop {xs : List V} {us : List Value} (n : Nat) (r : Vals xs us) : Vals (xs.drop n) (us.drop n) := by
 induction r generalizing n with
 | nil => rw [List.drop_nil, List.drop_nil]; exact .nil
 |
  cons r t ih =>
  cases n with
  | zero => exact .cons r t
  | succ n => exact ih n
noncomputable def RelO : Option V -> Option Value -> Prop
 | some v, some u => RelV v u
 | none, none => True
 | _, _ => False
noncomputable def KV {κ : Type} : List (κ × V) -> List (κ × Value) -> Prop := Paired fun (p : κ × V) (q : κ × Value) => p.1 = q.1 /\ RelV p.2 q.2
noncomputable def kV : Key -> V
 | .inl i => .int i
 | .inr x => .str x
inductive HO where
 | lst (xs : List V)
 | tup (xs : List V)
 | dK (kvs : List (Key × V)) | dT (kvs : List (List Key × V))
 | set (S : Int -> Bool) (n : Nat)
 | ins (C dx : Addr) (fs : List (Str × V))
 | own (x : Addr)
 | xd (fs : List (Str × V))
 | met (f x : Addr)
 | rng (lo hi : Int)
 | frz (o : Obj) (u : HO)
 | tbl (ps : Array Value)
 | ext (φ : Heap -> Prop)
abbrev Hp := Addr -> Option HO
noncomputable def upd (H : Hp) (a : Addr) (o : HO) : Hp := fun b => if b = a then some o else H b
theorem bz {H : Hp} {a : Addr} {o : HO} : upd H a o a = some o := by unfold upd; rw [if_pos rfl]
theorem aC {H : Hp} {a b : Addr} {o : HO} (h : b ≠ a) : upd H a o b = H b := by unfold upd; rw [if_neg h]
theorem Ck {H : Hp} {a b : Addr} {o u : HO} (h : H a = some o) (h' : H b = some u) (d : o ≠ u) : a ≠ b := by
 intro e; subst e; rw [h] at h'; exact d (Option.some.inj h')
theorem bB {H : Hp} {a b : Addr} {o : HO} (h : H a = some o) (h' : H b = none) : a ≠ b := by
 intro e; subst e; rw [h] at h'; cases h'
section
variable (P : Program) (w : World)
noncomputable def ObjOk (H : Hp) (h : Heap) (a : Addr) : HO -> Prop
 | .lst xs => xs.length <= sizeLine /\ ∃ (its : List Value) (n : Nat), Vals xs its /\ h.get? a = some { cls := .type "list", data := .seq its.toArray n }
 | .tup xs => xs.length <= sizeLine /\ ∃ its : List Value, Vals xs its /\ IsTup h a its.toArray
 | .dK kvs => kvs.length <= sizeLine /\ (a == sysModules) = false /\ ∃ vs, KV kvs vs /\ h.DictOf (bA P w) a vs
 | .dT kvs => kvs.length <= sizeLine /\ (a == sysModules) = false /\ ∃ xs : List (List Key × Addr × Value),
   Paired (fun (p : List Key × V) (q : List Key × Addr × Value) => p.1 = q.1 /\ H q.2.1 = some (.tup (p.1.map kV)) /\ RelV p.2 q.2.2) kvs xs /\
   ∃ o es ep, h.get? a = some o /\ o.ExactDict /\ o.data = .dict es ep /\ es.toList = xs.map (entryOfKey (tupleKind (bA P w))) /\ (xs.map (·.1)).Nodup
 | .set S n => h.SetOf (intKind P w) a S n
 | .ins C dx fs => H dx = some (.own a) /\ fs.length <= 1000 /\ dx ≠ a /\ h.get? a = some (PySem.W.instObj C dx) /\
   ∃ mA, h.Ns1 dx mA /\ (∀ f, RelO (fs.lookup f) (mA f)) /\ PySem.Within mA (fs.map (·.1))
 | .own _ => ∃ o, h.get? a = some o
 | .xd fs => ∃ mA, h.Ns1 a mA /\ ∀ f, RelO (fs.lookup f) (mA f)
 | .rng lo hi => ∃ t u v, h.get? a = some { cls := .type "range", data := .fields #[.int lo t, .int hi u, .int 1 v] }
 | .frz o u => h.get? a = some o /\ ObjOk H h a u
 | .tbl ps => h.get? a = some { cls := .none, data := .fields ps }
 | .met f x => h.get? a = some (PySem.W.methodObj (.ref f) (.ref x))
 | .ext φ => φ h /\ (∃ o, h.get? a = some o) /\ ∀ h1 h2 : Heap, φ h1 -> (∀ o, h1.get? a = some o -> h2.get? a = some o) -> φ h2
noncomputable def HOk (H : Hp) (h : Heap) : Prop := ∀ a o, H a = some o -> ObjOk P w H h a o
end
section
variable {P : Program} {w : World} {H H' : Hp} {h h' : Heap} {a : Addr} {o : HO}
theorem ObjOk.lt (x : ObjOk P w H h a o) : a < h.objs.size := by
 cases o with
 | lst xs => obtain ⟨_, _, _, _, e⟩ := x; exact Heap.lt_size e
 | tup xs => obtain ⟨_, _, _, p⟩ := x; exact p.lt
 | dK kvs => obtain ⟨_, _, _, _, o, _, _, e, _⟩ := x; exact Heap.lt_size e
 | dT kvs => obtain ⟨_, _, _, _, o, _, _, e, _⟩ := x; exact Heap.lt_size e
 | set S n => obtain ⟨o, _, _, _, e, _⟩ := x; exact Heap.lt_size e
 | ins C dx fs => obtain ⟨_, _, _, e, _⟩ := x; exact Heap.lt_size e
 | own y => obtain ⟨_, e⟩ := x; exact Heap.lt_size e
 | xd fs => obtain ⟨_, ⟨_, _, _, e, _⟩, _⟩ := x; exact Heap.lt_size e
 | rng lo hi => obtain ⟨_, _, _, e⟩ := x; exact Heap.lt_size e
 | frz ob u => obtain ⟨e, _⟩ := x; exact Heap.lt_size e
 | tbl ps => exact Heap.lt_size (show h.get? a = some _ from x)
 | met f y => exact Heap.lt_size (show h.get? a = some _ from x)
 | ext φ => obtain ⟨_, ⟨_, e⟩, _⟩ := x; exact Heap.lt_size e
theorem Paired.mapP {α β : Type} {F G : α -> β -> Prop} {l₁ : List α} {l₂ : List β} (r : Paired F l₁ l₂) (f : ∀ a b, F a b -> G a b) : Paired G l₁ l₂ := by
 induction r with
 | nil => exact .nil
 | cons r t ih => exact .cons (f _ _ r) ih
theorem ObjOk.stay (x : ObjOk P w H h a o) (k : ∀ b u, (b = a \/ H b = some (.own a)) -> h.get? b = some u -> h'.get? b = some u)
  (ho : ∀ b, H b = some (.own a) -> H' b = some (.own a)) (ht : ∀ b xs, H b = some (.tup xs) -> H' b = some (.tup xs)) : ObjOk P w H' h' a o := by
 induction o with
 | lst xs => obtain ⟨z, its, n, r, e⟩ := x; exact ⟨z, its, n, r, k _ _ (.inl rfl) e⟩
 | tup xs => obtain ⟨z, its, r, ob, e, c⟩ := x; exact ⟨z, its, r, ob, k _ _ (.inl rfl) e, c⟩
 | dK kvs => obtain ⟨z, y, vs, r, ob, es, ep, e, c⟩ := x; exact ⟨z, y, vs, r, ob, es, ep, k _ _ (.inl rfl) e, c⟩
 |
  dT kvs =>
  obtain ⟨z, y, xs, r, ob, es, ep, e, c⟩ := x
  exact ⟨z, y, xs, Paired.mapP r fun p q z => ⟨z.1, ht _ _ z.2.1, z.2.2⟩, ob, es, ep, k _ _ (.inl rfl) e, c⟩
 | set S n => obtain ⟨ob, es, ep, t, e, c⟩ := x; exact ⟨ob, es, ep, t, k _ _ (.inl rfl) e, c⟩
 |
  ins C dx fs =>
  obtain ⟨d, z, ne, e, mA, ⟨od, es, ep, e2, c⟩, r⟩ := x
  exact ⟨ho _ d, z, ne, k _ _ (.inl rfl) e, mA, ⟨od, es, ep, k _ _ (.inr d) e2, c⟩, r⟩
 | own y => obtain ⟨ob, e⟩ := x; exact ⟨ob, k _ _ (.inl rfl) e⟩
 | xd fs => obtain ⟨mA, ⟨od, es, ep, e, c⟩, r⟩ := x; exact ⟨mA, ⟨od, es, ep, k _ _ (.inl rfl) e, c⟩, r⟩
 | rng lo hi => obtain ⟨t, u, v, e⟩ := x; exact ⟨t, u, v, k _ _ (.inl rfl) e⟩
 | frz ob u ih => obtain ⟨e, q⟩ := x; exact ⟨k _ _ (.inl rfl) e, ih q⟩
 |
  tbl ps =>
  have e : h.get? a = some { cls := .none, data := .fields ps } := x
  show h'.get? a = some { cls := .none, data := .fields ps }
  exact k a _ (.inl rfl) e
 |
  met f y =>
  have e : h.get? a = some (PySem.W.methodObj (.ref f) (.ref y)) := x
  show h'.get? a = some (PySem.W.methodObj (.ref f) (.ref y))
  exact k a _ (.inl rfl) e
 | ext φ => obtain ⟨p, ⟨o, e⟩, st⟩ := x; exact ⟨st _ _ p fun o q => k _ _ (.inl rfl) q, ⟨o, k _ _ (.inl rfl) e⟩, st⟩
theorem HOk.lt (x : HOk P w H h) (e : H a = some o) : a < h.objs.size := (x a o e).lt
theorem HOk.fresh (x : HOk P w H h) (e : h.objs.size <= a) : H a = none := by
 cases q : H a with
 | none => rfl
 | some u => exact absurd (Nat.lt_of_lt_of_le (x.lt q) e) (Nat.lt_irrefl _)
theorem HOk.kept (x : HOk P w H h) (k : ∀ b u, h.get? b = some u -> h'.get? b = some u) : HOk P w H h' := fun a o e =>
 (x a o e).stay (fun b u _ q => k b u q) (fun _ q => q) fun _ _ q => q
theorem HOk.laid (x : HOk P w H h) (k : ∀ b u, h.get? b = some u -> h'.get? b = some u) (hp : h.objs.size <= a) (new : ObjOk P w (upd H a o) h' a o) : HOk P w (upd H a o) h' := fun b u e => by
 have hn := x.fresh hp
 by_cases hb : b = a
 ·subst hb; rw [bz] at e; cases e; exact new
 ·rw [aC hb] at e
  exact (x b u e).stay (fun c v _ q => k c v q) (fun c q => by rw [aC (bB q hn)]; exact q) fun c xs q => by rw [aC (bB q hn)]; exact q
end
noncomputable def Rd (H : Hp) (a : Addr) (u : HO) : Prop := H a = some u \/ ∃ o, H a = some (.frz o u)
theorem Rd.ok {P : Program} {w : World} {H : Hp} {h : Heap} {a : Addr} {u : HO} (r : Rd H a u) (x : HOk P w H h) : ObjOk P w H h a u := by
 rcases r with r | ⟨o, r⟩
 ·exact x a u r
 ·obtain ⟨_, q⟩ := x a _ r
  exact q
noncomputable def Mut : Option HO -> Prop
 | some (.lst _) => True
 | some (.dK _) => True
 | some (.dT _) => True
 | some (.set _ _) => True
 | some (.ins _ _ _) => True
 | some (.ext _) => True
 | _ => False
section
variable {P : Program} {w : World} {H : Hp} {h h' : Heap} {x e : Addr} {o' : HO}
theorem
    HOk.write (ok : HOk P w H h) (mu : Mut (H x)) (he : e = x \/ H e = some (.own x)) (k : ∀ b u, b ≠ e -> h.get? b = some u -> h'.get? b = some u) (heo : ∃ u, h'.get? e = some u)
  (new : ObjOk P w (upd H x o') h' x o') : HOk P w (upd H x o') h' := fun b u q => by
 have nown : ∀ c y, H c = some (.own y) -> c ≠ x := fun c y r z => by subst z; rw [r] at mu; exact mu
 have ntup : ∀ c xs, H c = some (.tup xs) -> c ≠ x := fun c xs r z => by subst z; rw [r] at mu; exact mu
 by_cases hb : b = x
 ·subst hb; rw [bz] at q; cases q; exact new
 ·rw [aC hb] at q
  by_cases hbe : b = e
  ·have q' : H b = some (.own x) := by
    rcases he with z | z
    ·exact absurd (hbe.trans z) hb
    ·rw [hbe]; exact z
   rw [q] at q'; cases q'
   obtain ⟨v, hv⟩ := heo
   exact ⟨v, by rw [hbe]; exact hv⟩
  ·refine (ok b u q).stay (fun c v hc r => k c v ?_ r) (fun c r => by rw [aC (nown c b r)]; exact r) fun c xs r => by rw [aC (ntup c xs r)]; exact r
   rcases hc with rfl | hc
   ·exact hbe
   ·rintro rfl
    rcases he with z | z
    ·exact nown c b hc z
    ·rw [hc] at z; cases z; exact hb rfl
end
structure Un (fs ex : List Addr) (H H' : Hp) (h h' : Heap) : Prop where
 keep : ∀ b o, h.get? b = some o -> H b = none -> b ∉ fs -> b ∉ ex -> h'.get? b = some o
 slot : ∀ b o, h.get? b = some o -> H b = none -> b ∈ fs -> b ∉ ex -> ∃ sl, h'.get? b = some { o with slots := sl }
 free : ∀ b o, h.get? b = some o -> H b = none -> b ∉ ex -> H' b = none
 there : ∀ b o, h.get? b = some o -> b ∉ ex -> ∃ o', h'.get? b = some o'
 tups : ∀ b xs, H b = some (.tup xs) -> H' b = some (.tup xs)
 frzs : ∀ b o u, H b = some (.frz o u) -> H' b = some (.frz o u)
 tbls : ∀ b ps, H b = some (.tbl ps) -> ∃ more, H' b = some (.tbl (ps ++ more))
section
variable {fs fs' ex ex' : List Addr} {H H1 H2 : Hp} {h h1 h2 h' : Heap} {a x e : Addr} {o : HO}
theorem Un.any (u : Un fs ex H H1 h h1) {b : Addr} {ob : Obj} (q : h.get? b = some ob) (n : H b = none) (hx : b ∉ ex) : ∃ sl, h1.get? b = some { ob with slots := sl } := by
 by_cases hb : b ∈ fs
 ·exact u.slot b ob q n hb hx
 ·exact ⟨ob.slots, u.keep b ob q n hb hx⟩
theorem Un.kept (k : ∀ b u, h.get? b = some u -> h'.get? b = some u) : Un fs ex H H h h' :=
 ⟨fun b ob q _ _ _ => k b ob q, fun b ob q _ _ _ => ⟨ob.slots, k b ob q⟩, fun _ _ _ n _ => n, fun b ob q _ => ⟨ob, k b ob q⟩, fun _ _ q => q, fun _ _ _ q => q, fun _ ps q => ⟨#[], by rw [q]; simp⟩⟩
theorem Un.refl : Un fs ex H H h h := Un.kept fun _ _ q => q
theorem Un.laid (k : ∀ b u, h.get? b = some u -> h'.get? b = some u) (hp : h.objs.size <= a) (hn : H a = none) : Un fs ex H (upd H a o) h h' where
 keep := fun b u q _ _ _ => k b u q
 slot := fun b u q _ _ _ => ⟨u.slots, k b u q⟩
 free := fun b u q n _ => by rw [aC (Nat.ne_of_lt (Nat.lt_of_lt_of_le (Heap.lt_size q) hp))]; exact n
 there := fun b u q _ => ⟨u, k b u q⟩
 tups := fun b xs q => by rw [aC (bB q hn)]; exact q
 frzs := fun b u xs q => by rw [aC (bB q hn)]; exact q
 tbls := fun b ps q => ⟨#[], by rw [aC (bB q hn), q]; simp⟩
theorem Un.write (mu : Mut (H x)) (he : e = x \/ H e = some (.own x)) (k : ∀ b u, b ≠ e -> h.get? b = some u -> h'.get? b = some u) (heo : ∃ u, h'.get? e = some u) : Un fs ex H (upd H x o) h h' := by
 have hx : ∀ b, H b = none -> b ≠ x := fun b n z => by subst z; rw [n] at mu; exact mu
 have hb : ∀ b, H b = none -> b ≠ e := fun b n z => by
  subst z
  rcases he with r | r
  ·exact hx b n r
  ·rw [n] at r; cases r
 have hm : ∀ b u, H b = some u -> ¬ Mut (some u) -> b ≠ x := fun b u q nm z => by subst z; rw [q] at mu; exact nm mu
 refine ⟨fun b u q n _ _ => k b u (hb b n) q, fun b u q n _ _ => ⟨u.slots, k b u (hb b n) q⟩, fun b u q n _ => by rw [aC (hx b n)]; exact n, fun b u q _ => ?_,
  fun b xs q => by rw [aC (hm b _ q fun z => z)]; exact q, fun b u xs q => by rw [aC (hm b _ q fun z => z)]; exact q, fun b ps q => ⟨#[], by rw [aC (hm b _ q fun z => z), q]; simp⟩⟩
 by_cases hbe : b = e
 ·subst hbe; exact heo
 ·exact ⟨u, k b u hbe q⟩
end
noncomputable def trk (h : Heap) (H : Hp) : List Addr := (List.range h.objs.size).filter fun a => (H a).isSome
noncomputable def gR (h : Heap) (H : Hp) : Heap := PySem.W.hideAll h (trk h H)
theorem qH (h : Heap) (H : Hp) : (gR h H).objs.size = h.objs.size := PySem.W.hideAll_size _ _
theorem ub {h : Heap} {H : Hp} {b : Addr} {o : Obj} (e : h.get? b = some o) (n : H b = none) : (gR h H).get? b = some o :=
 PySem.W.hideAll_get _ e fun hm => by
  have q : (H b).isSome = true := (List.mem_filter.mp hm).2
  rw [n] at q; simp at q
theorem yb {h : Heap} {H : Hp} {b : Addr} {o : Obj} (e : (gR h H).get? b = some o) : h.get? b = some o /\ H b = none := by
 have e' : h.get? b = some o := PySem.W.of_hideAll (trk h H) e
 refine ⟨e', ?_⟩
 cases q : H b with
 | none => rfl
 |
  some x =>
  have hm : b ∈ trk h H := List.mem_filter.mpr ⟨List.mem_range.mpr (Heap.lt_size e'), by simp [q]⟩
  have z : (gR h H).get? b = none := PySem.W.hideAll_none (trk h H) hm
  rw [z] at e; cases e
noncomputable def wQ (g h : Heap) (L : Addr) : List (Addr × Obj) := (List.range h.objs.size).filterMap fun a => if a = L \/ (g.get? a).isSome = true then none else (h.get? a).map fun o => (a, o)
noncomputable def dO (g h : Heap) (L d : Addr) : List (Addr × Obj) := (wQ g h L).filter fun p => decide (p.1 ≠ d)
end L2
namespace L2
open PySem PySem.Spec PyProof.Rows
structure Mod (K : PySem.W.Frag) (mg : Str -> Option Value) (base : Heap) : Prop where
 kin : K.In base
 glob : base.Ns mainGlobals mg
 blt : ∃ mb, base.Ns builtinsNs mb /\ ∀ x : Str, x ≠ "__name__" -> mb x = bootBuiltins x
 nolimit : base.NoLimit
structure Cx where
 prog : Program
 w : World
 K : PySem.W.Frag
 mg : Str -> Option Value
 base : Heap
 A : Around
 N : List Str
 s₀ : Shared
 H₀ : Hp
 env : Env
 outer : List Env
 stack : List Env
 ex : List Addr
 fn : Str -> Bool
 calm : Bool
 pn : List (Addr × Obj)
 xe : Value -> Shared -> Prop
noncomputable def frs (l : List Env) : List Addr := l.filterMap (·.frame)
abbrev Cx.fs (X : Cx) : List Addr := frs X.outer
noncomputable def Vis (sc : Scope) (x : Str) : Prop := sc.names.lookup x = some .local \/ sc.names.lookup x = some .cell \/ sc.names.lookup x = some .free
noncomputable def Loc (sc : Scope) (x : Str) : Prop := sc.names.lookup x = some .local \/ sc.names.lookup x = some .cell
noncomputable def tZ (env : Env) (h : Heap) (m : Str -> Option Value) (x : Str) (u : Value) : Prop :=
 (env.kindOf x = some .local /\ m x = some u) \/ ((env.kindOf x = some .cell \/ env.kindOf x = some .free) /\ ∃ c, env.cells.lookup x = some c /\ h.IsCell c (some u))
structure Cx.Ok (X : Cx) : Prop where
 mod : Mod X.K X.mg X.base
 kind : X.env.scope.kind = .function
 glob : X.env.globals = mainGlobals
 blt : X.env.builtins = builtinsNs
 above : X.s₀.heap.objs.size <= X.env.locals
 inj : ∀ x y c, X.env.cells.lookup x = some c -> X.env.cells.lookup y = some c -> x = y
 has : ∀ x, (X.env.kindOf x = some .cell \/ X.env.kindOf x = some .free) -> ∃ c, X.env.cells.lookup x = some c
 cab : ∀ x c, X.fn x = true -> X.env.cells.lookup x = some c -> X.s₀.heap.objs.size <= c
 hd : X.calm = true -> X.A.handled = none
 frames : X.A.frames = some X.stack
 stk : X.stack = X.outer \/ (X.stack = X.env :: X.outer /\ X.env.frame = some X.env.locals)
 exf : ∀ b ∈ X.ex, b ≠ X.env.locals /\ ∀ x c, X.env.cells.lookup x = some c -> c ≠ b
 bs : ∀ b o, X.base.get? b = some o -> X.s₀.heap.get? b = some o /\ X.H₀ b = none
 bsz : X.base.objs.size <= X.s₀.heap.objs.size
 noex : ∀ b o, X.base.get? b = some o -> b ∉ X.ex
 exfs : ∀ b ∈ X.ex, b ∉ X.fs
 funs : X.s₀.heap.FunFrames X.base X.outer
 frf : ∀ b ∈ X.fs, X.H₀ b = none
structure Inv (X : Cx) (pins : List (Addr × Obj)) (σ : List (Option V)) (H : Hp) (s : Shared) : Prop where
 ok : X.Ok
 os : s.os = X.s₀.os
 bare : AllBare s.gens
 base : Un X.fs X.ex X.H₀ H X.s₀.heap s.heap
 loc : ∃ m, s.heap.Ns X.env.locals m /\ ∀ (i : Nat) (x : Str) (v : V), X.N[i]? = some x -> σ[i]? = some (some v) -> Vis X.env.scope x -> ∃ u, RelV v u /\ tZ X.env s.heap m x u
 cell : ∀ x c, X.env.cells.lookup x = some c -> ∃ v, s.heap.IsCell c v
 free : H X.env.locals = none
 freeC : ∀ x c, X.env.cells.lookup x = some c -> H c = none
 pin : ∀ p ∈ X.pn ++ pins, s.heap.get? p.1 = some p.2 /\ H p.1 = none /\ p.1 ≠ X.env.locals /\ p.1 ∉ X.fs /\ ∀ v, p.2.data ≠ .cell v
 hok : HOk X.prog X.w H s.heap
 len : σ.length = X.N.length
section
variable {X : Cx} {pins : List (Addr × Obj)} {σ : List (Option V)} {H H' : Hp} {s : Shared} {h' : Heap}
theorem Cx.Ok.nofr (ok : X.Ok) {b : Addr} {o : Obj} (e : X.base.get? b = some o) : b ∉ X.fs := fun hb => by
 have := (ok.funs.mem hb).1
 rw [e] at this; cases this
theorem Inv.bs (I : Inv X pins σ H s) : ∀ b o, X.base.get? b = some o -> s.heap.get? b = some o /\ H b = none := fun b o e =>
 ⟨I.base.keep b o (I.ok.bs b o e).1 (I.ok.bs b o e).2 (I.ok.nofr e) (I.ok.noex b o e), I.base.free b o (I.ok.bs b o e).1 (I.ok.bs b o e).2 (I.ok.noex b o e)⟩
theorem Inv.bk (I : Inv X pins σ H s) : ∀ b o, X.base.get? b = some o -> s.heap.get? b = some o := fun b o e => (I.bs b o e).1
theorem Inv.mod (I : Inv X pins σ H s) : Mod X.K X.mg X.base := I.ok.mod
theorem Inv.kIn (I : Inv X pins σ H s) : X.K.In s.heap := I.ok.mod.kin.keeps I.bk
theorem Inv.lt (I : Inv X pins σ H s) : X.env.locals < s.heap.objs.size := let ⟨_, hn, _⟩ := I.loc; hn.lt
theorem Inv.sz (I : Inv X pins σ H s) : X.s₀.heap.objs.size <= s.heap.objs.size := Nat.le_trans I.ok.above (Nat.le_of_lt I.lt)
theorem Inv.nofs (I : Inv X pins σ H s) {a : Addr} (h : s.heap.objs.size <= a) : a ∉ X.fs := fun hb => by
 obtain ⟨_, o, ho, _⟩ := I.ok.funs.mem hb
 exact absurd (Nat.lt_of_lt_of_le (Heap.lt_size ho) (Nat.le_trans I.sz h)) (Nat.lt_irrefl _)
theorem Inv.cne (I : Inv X pins σ H s) : ∀ x c, X.env.cells.lookup x = some c -> c ≠ X.env.locals := fun x c e z => by
 obtain ⟨v, o, ho, hd⟩ := I.cell x c e
 obtain ⟨m, ⟨o', es, ep, ho', hd', _⟩, _⟩ := I.loc
 rw [z, ho'] at ho; cases ho; rw [hd'] at hd; cases hd
theorem Inv.funs (I : Inv X pins σ H s) : s.heap.FunFrames X.base X.outer := by
 have all : ∀ (l : List Env), (∀ b ∈ frs l, b ∈ X.fs) -> X.s₀.heap.FunFrames X.base l -> s.heap.FunFrames X.base l := by
  intro l
  induction l with
  | nil => intro _ _; trivial
  |
   cons env r ih =>
   intro hs hl
   obtain ⟨hk, ⟨L, o, hf, hn, ho, hd⟩, hr⟩ := hl
   have hL : L ∈ X.fs := hs L (by unfold frs; rw [List.filterMap_cons, hf]; exact List.mem_cons_self)
   obtain ⟨sl, e⟩ := I.base.slot L o ho (I.ok.frf L hL) hL fun z => I.ok.exfs L z hL
   exact ⟨hk, ⟨L, _, hf, hn, e, hd⟩, ih (fun b hb => hs b (by unfold frs; rw [List.filterMap_cons, hf]; exact List.mem_cons_of_mem _ hb)) hr⟩
 exact all X.outer (fun _ hb => hb) I.ok.funs
theorem Inv.stack (I : Inv X pins σ H s) : s.heap.FunFrames X.base X.stack := by
 rcases I.ok.stk with e | ⟨e, hf⟩
 ·rw [e]; exact I.funs
 ·rw [e]
  obtain ⟨m, hn, _⟩ := I.loc
  refine .cons (by rw [I.ok.kind]; decide) hf hn ?_ I.funs
  exact Heap.get?_none_of_le (Nat.le_trans I.ok.bsz I.ok.above)
theorem Inv.stkSub (I : Inv X pins σ H s) : ∀ b ∈ frs X.stack, b ∈ X.env.locals :: X.fs := fun b hb => by
 rcases I.ok.stk with e | ⟨e, hf⟩
 ·rw [e] at hb; exact List.mem_cons_of_mem _ hb
 ·rw [e] at hb
  unfold frs at hb
  rw [List.filterMap_cons, hf] at hb
  exact hb
theorem Inv.stkFree (I : Inv X pins σ H s) : ∀ b ∈ frs X.stack, H b = none := fun b hb => by
 rcases List.mem_cons.mp (I.stkSub b hb) with e | hb
 ·rw [e]; exact I.free
 ·obtain ⟨_, o, ho, _⟩ := I.ok.funs.mem hb
  exact I.base.free b o ho (I.ok.frf b hb) fun z => I.ok.exfs b z hb
theorem Inv.step {g' : Array GenState} {t' : Nat} {d' : Drawn} {ch : List Addr} (I : Inv X pins σ H s)
  (hch : ∀ b ∈ ch, (b ∈ X.ex \/ X.s₀.heap.objs.size <= b) /\ b ≠ X.env.locals /\ (∀ x c, X.env.cells.lookup x = some c -> c ≠ b) /\ ∀ p ∈ X.pn ++ pins, p.1 ≠ b)
  (keep : ∀ b o, b ≠ X.env.locals -> b ∉ X.fs -> b ∉ ch -> s.heap.get? b = some o -> H b = none -> h'.get? b = some o)
  (slot : ∀ b o, b ≠ X.env.locals -> b ∈ X.fs -> b ∉ ch -> s.heap.get? b = some o -> H b = none -> ∃ sl, h'.get? b = some { o with slots := sl }) (free : ∀ b o, b ∉ ch -> s.heap.get? b = some o -> H b = none -> H' b = none)
  (there : ∀ b o, b ∉ ch -> s.heap.get? b = some o -> ∃ o', h'.get? b = some o')
  (tups : ∀ b xs, H b = some (.tup xs) -> H' b = some (.tup xs)) (frzs : ∀ b o u, H b = some (.frz o u) -> H' b = some (.frz o u)) (tbls : ∀ b ps, H b = some (.tbl ps) -> ∃ more, H' b = some (.tbl (ps ++ more)))
  (ns : ∀ m, s.heap.Ns X.env.locals m -> h'.Ns X.env.locals m) (hok : HOk X.prog X.w H' h') (hg : AllBare g') :
  Inv X pins σ H' { s with heap := h', gens := g', drawn := d', toks := t' } := by
 have neL : ∀ b o, X.s₀.heap.get? b = some o -> b ≠ X.env.locals := fun b o e => Nat.ne_of_lt (Nat.lt_of_lt_of_le (Heap.lt_size e) I.ok.above)
 have neC : ∀ b o, X.s₀.heap.get? b = some o -> b ∉ X.ex -> b ∉ ch := fun b o e hx hb => by
  rcases (hch b hb).1 with z | z
  ·exact hx z
  ·exact absurd (Nat.lt_of_lt_of_le (Heap.lt_size e) z) (Nat.lt_irrefl _)
 have cellK : ∀ x c, X.env.cells.lookup x = some c -> ∀ v, s.heap.IsCell c v -> h'.IsCell c v := fun x c e v ⟨o, ho, hd⟩ => by
  have nch : c ∉ ch := fun z => (hch c z).2.2.1 x c e rfl
  by_cases hc : c ∈ X.fs
  ·obtain ⟨sl, q⟩ := slot c o (I.cne x c e) hc nch ho (I.freeC x c e)
   exact ⟨_, q, hd⟩
  ·exact ⟨o, keep c o (I.cne x c e) hc nch ho (I.freeC x c e), hd⟩
 refine ⟨I.ok, I.os, hg, ⟨fun b o e n hb hx => ?_, fun b o e n hb hx => ?_, fun b o e n hx => ?_, fun b o e hx => ?_, fun b xs e => tups b xs (I.base.tups b xs e), fun b o xs e => frzs b o xs (I.base.frzs b o xs e), fun b ps e => ?_⟩, ?_, fun x c e => ?_, ?_, fun x c e => ?_, fun p hp => ?_, hok, I.len⟩
 ·exact keep b o (neL b o e) hb (neC b o e hx) (I.base.keep b o e n hb hx) (I.base.free b o e n hx)
 ·obtain ⟨sl, e1⟩ := I.base.slot b o e n hb hx
  obtain ⟨sl', e2⟩ := slot b _ (neL b o e) hb (neC b o e hx) e1 (I.base.free b o e n hx)
  exact ⟨sl', e2⟩
 ·obtain ⟨o', e1⟩ := I.base.there b o e hx
  exact free b o' (neC b o e hx) e1 (I.base.free b o e n hx)
 ·obtain ⟨o', e1⟩ := I.base.there b o e hx
  exact there b o' (neC b o e hx) e1
 ·obtain ⟨m1, e1⟩ := I.base.tbls b ps e
  obtain ⟨m2, e2⟩ := tbls b _ e1
  exact ⟨m1 ++ m2, by rw [e2, Array.append_assoc]⟩
 ·obtain ⟨m, hn, hl⟩ := I.loc
  refine ⟨m, ns m hn, fun i x v e1 e2 e3 => ?_⟩
  obtain ⟨u, r, l⟩ := hl i x v e1 e2 e3
  refine ⟨u, r, ?_⟩
  rcases l with l | ⟨k, c, e, z⟩
  ·exact .inl l
  ·exact .inr ⟨k, c, e, cellK x c e _ z⟩
 ·obtain ⟨v, z⟩ := I.cell x c e
  exact ⟨v, cellK x c e v z⟩
 ·obtain ⟨m, ⟨o, _, _, ho, _⟩, _⟩ := I.loc
  exact free _ o (fun z => (hch _ z).2.1 rfl) ho I.free
 ·obtain ⟨v, o, ho, hd⟩ := I.cell x c e
  exact free c o (fun z => (hch c z).2.2.1 x c e rfl) ho (I.freeC x c e)
 ·obtain ⟨e, n, ne, nf, d⟩ := I.pin p hp
  have nch : p.1 ∉ ch := fun z => (hch p.1 z).2.2.2 p hp rfl
  exact ⟨keep p.1 p.2 ne nf nch e n, free p.1 p.2 nch e n, ne, nf, d⟩
theorem Inv.un {t' : Nat} (I : Inv X pins σ H s) (u : Un X.fs [] H H' s.heap h') (hok : HOk X.prog X.w H' h') : Inv X pins σ H' { s with heap := h', toks := t' } := by
 obtain ⟨m, ⟨o, es, ep, ho, r⟩, _⟩ := id I.loc
 obtain ⟨sl, hL⟩ := u.any ho I.free (by simp)
 exact I.step (g' := s.gens) (d' := s.drawn) (ch := []) (fun _ z => nomatch z) (fun b o _ hb _ e n => u.keep b o e n hb (by simp)) (fun b o _ hb _ e n => u.slot b o e n hb (by simp)) (fun b o _ e n => u.free b o e n (by simp)) (fun b o _ e => u.there b o e (by simp)) u.tups u.frzs u.tbls (fun m' hm => by
  obtain ⟨o', es', ep', ho', r'⟩ := hm
  rw [ho] at ho'; cases ho'
  exact ⟨_, es', ep', hL, r'⟩) hok I.bare
theorem Inv.call {g' : Array GenState} {t' : Nat} {d' : Drawn} {ch : List Addr} (I : Inv X pins σ H s) (u : Un (frs X.stack) ch H H' s.heap h') (hok : HOk X.prog X.w H' h') (hg : AllBare g')
  (hch : ∀ b ∈ ch, (b ∈ X.ex \/ X.s₀.heap.objs.size <= b) /\ b ≠ X.env.locals /\ (∀ x c, X.env.cells.lookup x = some c -> c ≠ b) /\ ∀ p ∈ X.pn ++ pins, p.1 ≠ b) :
  Inv X pins σ H' { s with heap := h', gens := g', drawn := d', toks := t' } := by
 obtain ⟨m, ⟨o, es, ep, ho, r⟩, _⟩ := id I.loc
 obtain ⟨sl, hL⟩ := u.any ho I.free fun z => (hch _ z).2.1 rfl
 exact I.step (ch := ch) hch (fun b o hL hb hc e n => u.keep b o e n (fun z => (List.mem_cons.mp (I.stkSub b z)).elim hL hb) hc) (fun b o _ _ hc e n => u.any e n hc) (fun b o hc e n => u.free b o e n hc) (fun b o hc e => u.there b o e hc) u.tups u.frzs u.tbls (fun m' hm => by
  obtain ⟨o', es', ep', ho', r'⟩ := hm
  rw [ho] at ho'; cases ho'
  exact ⟨_, es', ep', hL, r'⟩) hok hg
theorem Inv.turned {t' : Nat} {it : Addr} (I : Inv X pins σ H s) (k : ∀ b o, b ≠ it -> s.heap.get? b = some o -> h'.get? b = some o) (hn : H it = none) (hL : it ≠ X.env.locals)
  (h1 : it ∈ X.ex \/ X.s₀.heap.objs.size <= it) (h2 : ∀ x c, X.env.cells.lookup x = some c -> c ≠ it) (h3 : ∀ p ∈ X.pn ++ pins, p.1 ≠ it) : Inv X pins σ H { s with heap := h', toks := t' } := by
 have nit : ∀ b u, H b = some u -> b ≠ it := fun b u e z => by rw [z, hn] at e; cases e
 refine I.step (g' := s.gens) (d' := s.drawn) (ch := [it]) (fun b hb => ?_) (fun b o _ _ hc e _ => k b o (fun z => hc (by simp [z])) e) (fun b o _ _ hc e _ => ⟨o.slots, k b o (fun z => hc (by simp [z])) e⟩) (fun _ _ _ _ n => n)
  (fun b o hc e => ⟨o, k b o (fun z => hc (by simp [z])) e⟩) (fun _ _ e => e) (fun _ _ _ e => e) (fun b ps e => ⟨#[], by rw [e]; simp⟩) (fun m hm => ?_) (fun b u e => ?_) I.bare
 ·have e : b = it := by simpa using hb
  subst e
  exact ⟨h1, hL, h2, h3⟩
 ·obtain ⟨o, es, ep, ho, r⟩ := hm
  exact ⟨o, es, ep, k _ o (Ne.symm hL) ho, r⟩
 ·refine (I.hok b u e).stay (fun c v hc q => k c v ?_ q) (fun _ q => q) fun _ _ q => q
  rcases hc with z | z
  ·rw [z]; exact nit b u e
  ·exact nit c _ z
theorem Inv.tok (I : Inv X pins σ H s) (t : Nat) : Inv X pins σ H { s with toks := t } := I.un (h' := s.heap) (t' := t) Un.refl I.hok
theorem Inv.kept {t' : Nat} (I : Inv X pins σ H s) (k : ∀ b u, s.heap.get? b = some u -> h'.get? b = some u) : Inv X pins σ H { s with heap := h', toks := t' } := I.un (Un.kept k) (I.hok.kept k)
theorem Inv.laid {a : Addr} {o : HO} {t' : Nat} (I : Inv X pins σ H s) (k : ∀ b u, s.heap.get? b = some u -> h'.get? b = some u) (hp : s.heap.objs.size <= a) (new : ObjOk X.prog X.w (upd H a o) h' a o) :
  Inv X pins σ (upd H a o) { s with heap := h', toks := t' } := I.un (Un.laid k hp (I.hok.fresh hp)) (I.hok.laid k hp new)
theorem Inv.write {x e : Addr} {o : HO} {t' : Nat} (I : Inv X pins σ H s) (mu : Mut (H x)) (he : e = x \/ H e = some (.own x)) (k : ∀ b u, b ≠ e -> s.heap.get? b = some u -> h'.get? b = some u) (heo : ∃ u, h'.get? e = some u)
  (new : ObjOk X.prog X.w (upd H x o) h' x o) : Inv X pins σ (upd H x o) { s with heap := h', toks := t' } := I.un (Un.write mu he k heo) (I.hok.write mu he k heo new)
theorem Inv.pins_of {pins' : List (Addr × Obj)} (I : Inv X pins σ H s) (h : ∀ p ∈ pins', s.heap.get? p.1 = some p.2 /\ H p.1 = none /\ p.1 ≠ X.env.locals /\ p.1 ∉ X.fs /\ ∀ v, p.2.data ≠ .cell v) : Inv X pins' σ H s :=
 ⟨I.ok, I.os, I.bare, I.base, I.loc, I.cell, I.free, I.freeC, fun p hp => (List.mem_append.mp hp).elim (fun z => I.pin p (List.mem_append_left _ z)) (h p), I.hok, I.len⟩
theorem mq {N : List Str} (hN : N.Nodup) {i j : Nat} {x : Str} (a : N[i]? = some x) (b : N[j]? = some x) : i = j := by
 obtain ⟨h1, e1⟩ := List.getElem?_eq_some_iff.mp a
 obtain ⟨h2, e2⟩ := List.getElem?_eq_some_iff.mp b
 exact (List.getElem_inj hN).mp (e1.trans e2.symm)
theorem
    lJ {M : Model} {A : Around} {E : Value -> Shared -> Prop} {i : Nat} {x : Str} {v : V} {u : Value} {Q : Unit -> Shared -> Prop} (I : Inv X pins σ H s) (hN : X.N.Nodup) (hi : X.N[i]? = some x) (hx : Loc X.env.scope x) (r : RelV v u)
  (h : ∀ s', Inv X pins (σ.set i (some v)) H s' -> (∃ a, Heap.SameBut a s.heap s'.heap /\ (a = X.env.locals \/ X.env.cells.lookup x = some a)) -> Q () s') (hf : X.fn x = true \/ X.env.scope.names.lookup x = some .local := by first | exact .inl rfl | exact .inr rfl | assumption) : wpAny M A (storeName X.env x u) Q E s := by
 obtain ⟨m, hn, hl⟩ := id I.loc
 have hcls : (X.env.scope.kind == .class || (X.env.scope.kind == .module && X.env.locals != X.env.globals)) = false := by rw [I.ok.kind]; rfl
 have hiσ : i < σ.length := by rw [I.len]; exact (List.getElem?_eq_some_iff.mp hi).1
 have cne := I.cne
 have tracked : ∀ {a : Addr} {h' : Heap}, (∃ o, s.heap.get? a = some o /\ H a = none) -> Heap.SameBut a s.heap h' -> HOk X.prog X.w H h' := fun {a h'} ha hs b ob e => by
  obtain ⟨_, _, hfree⟩ := ha
  refine (I.hok b ob e).stay (fun c w' hc q => (hs.2 c ?_).trans q) (fun _ q => q) fun _ _ q => q
  rintro rfl
  rcases hc with rfl | hc
  ·rw [hfree] at e; cases e
  ·rw [hfree] at hc; cases hc
 rcases hx with hk | hk
 ·refine wpAny_storeName_local hk hn (fun h' hn' hs => ?_) hcls
  obtain ⟨oL, _, _, hoL, _⟩ := id hn
  refine h _ ⟨I.ok, I.os, I.bare, ⟨fun b o e n hb hx => ?_, fun b o e n hb hx => ?_, I.base.free, fun b o e hx => ?_, I.base.tups, I.base.frzs, I.base.tbls⟩, ⟨_, hn', fun j y v' e1 e2 e3 => ?_⟩, fun y c e => ?_, I.free, I.freeC, fun p hp => ?_, tracked ⟨oL, hoL, I.free⟩ hs, by simpa using I.len⟩ ⟨_, hs, .inl rfl⟩
  ·exact (hs.2 b (Nat.ne_of_lt (Nat.lt_of_lt_of_le (Heap.lt_size e) I.ok.above))).trans (I.base.keep b o e n hb hx)
  ·obtain ⟨sl, e1⟩ := I.base.slot b o e n hb hx
   exact ⟨sl, (hs.2 b (Nat.ne_of_lt (Nat.lt_of_lt_of_le (Heap.lt_size e) I.ok.above))).trans e1⟩
  ·obtain ⟨o', e1⟩ := I.base.there b o e hx
   exact ⟨o', (hs.2 b (Nat.ne_of_lt (Nat.lt_of_lt_of_le (Heap.lt_size e) I.ok.above))).trans e1⟩
  ·by_cases hj : j = i
   ·subst hj
    rw [hi] at e1; cases e1
    rw [List.getElem?_set_self hiσ] at e2
    cases e2
    exact ⟨u, r, .inl ⟨hk, by simp⟩⟩
   ·rw [List.getElem?_set_ne (Ne.symm hj)] at e2
    obtain ⟨u', r', q⟩ := hl j y v' e1 e2 e3
    refine ⟨u', r', ?_⟩
    rcases q with ⟨k, e⟩ | ⟨k, c, e, z⟩
    ·refine .inl ⟨k, ?_⟩
     have : y ≠ x := fun e => hj (mq hN e1 (e ▸ hi))
     simp [this, e]
    ·exact .inr ⟨k, c, e, z.sameBut hs (cne y c e)⟩
  ·obtain ⟨w', z⟩ := I.cell y c e
   exact ⟨w', z.sameBut hs (cne y c e)⟩
  ·obtain ⟨e, n, ne, nf, d⟩ := I.pin p hp
   exact ⟨(hs.2 p.1 ne).trans e, n, ne, nf, d⟩
 ·have hfn : X.fn x = true := by
   rcases hf with z | z
   ·exact z
   ·rw [z] at hk; cases hk
  obtain ⟨c, hc⟩ := I.ok.has x (.inl hk)
  obtain ⟨w', z⟩ := I.cell x c hc
  refine wpAny_storeName_cell I.ok.kind hk hc z (fun h' hc' hs => ?_)
  obtain ⟨oc, hoc, hocd⟩ := id z
  refine h { s with heap := h' } ⟨I.ok, I.os, I.bare, ⟨fun b o e n hb hx => ?_, fun b o e n hb hx => ?_, I.base.free, fun b o e hx => ?_, I.base.tups, I.base.frzs, I.base.tbls⟩, ⟨m, hn.sameBut hs (Ne.symm (cne x c hc)), fun j y v' e1 e2 e3 => ?_⟩, fun y c' e => ?_, I.free, I.freeC, fun p hp => ?_, tracked ⟨oc, hoc, I.freeC x c hc⟩ hs, by simpa using I.len⟩ ⟨c, hs, .inr hc⟩
  ·exact (hs.2 b (Nat.ne_of_lt (Nat.lt_of_lt_of_le (Heap.lt_size e) (I.ok.cab x c hfn hc)))).trans (I.base.keep b o e n hb hx)
  ·obtain ⟨sl, e1⟩ := I.base.slot b o e n hb hx
   exact ⟨sl, (hs.2 b (Nat.ne_of_lt (Nat.lt_of_lt_of_le (Heap.lt_size e) (I.ok.cab x c hfn hc)))).trans e1⟩
  ·obtain ⟨o', e1⟩ := I.base.there b o e hx
   exact ⟨o', (hs.2 b (Nat.ne_of_lt (Nat.lt_of_lt_of_le (Heap.lt_size e) (I.ok.cab x c hfn hc)))).trans e1⟩
  ·by_cases hj : j = i
   ·subst hj
    rw [hi] at e1; cases e1
    rw [List.getElem?_set_self hiσ] at e2
    cases e2
    exact ⟨u, r, .inr ⟨.inl hk, c, hc, hc'⟩⟩
   ·rw [List.getElem?_set_ne (Ne.symm hj)] at e2
    obtain ⟨u', r', q⟩ := hl j y v' e1 e2 e3
    refine ⟨u', r', ?_⟩
    rcases q with q | ⟨k, c', e, z'⟩
    ·exact .inl q
    ·refine .inr ⟨k, c', e, z'.sameBut hs ?_⟩
     rintro rfl
     exact hj (mq hN e1 (I.ok.inj _ _ _ e hc ▸ hi))
  ·by_cases hcc : c' = c
   ·subst hcc; exact ⟨_, hc'⟩
   ·obtain ⟨w2, z2⟩ := I.cell y c' e
    exact ⟨w2, z2.sameBut hs hcc⟩
  ·obtain ⟨e, n, ne, nf, d⟩ := I.pin p hp
   refine ⟨(hs.2 p.1 ?_).trans e, n, ne, nf, d⟩
   intro q
   rw [q, hoc] at e
   have q' : oc = p.2 := Option.some.inj e
   exact d w' (by rw [<- q']; exact hocd)
theorem gD {M : Model} {A : Around} {E : Value -> Shared -> Prop} {i : Nat} {x : Str} {v : V} {u : Value} {Q : Unit -> Shared -> Prop} (I : Inv X pins σ H s) (hN : X.N.Nodup) (hi : X.N[i]? = some x) (hx : Loc X.env.scope x) (r : RelV v u)
  (h : ∀ s', Inv X pins (σ.set i (some v)) H s' -> Q () s') (hf : X.fn x = true \/ X.env.scope.names.lookup x = some .local := by first | exact .inl rfl | exact .inr rfl | assumption) : wpAny M A (storeName X.env x u) Q E s :=
 lJ I hN hi hx r (fun s' I' _ => h s' I') hf
theorem Inv.call' {s' : Shared} {ch : List Addr} (I : Inv X pins σ H s) (ho : s'.os = s.os) (u : Un (frs X.stack) ch H H' s.heap s'.heap) (hok : HOk X.prog X.w H' s'.heap) (hg : AllBare s'.gens)
  (hch : ∀ b ∈ ch, (b ∈ X.ex \/ X.s₀.heap.objs.size <= b) /\ b ≠ X.env.locals /\ (∀ x c, X.env.cells.lookup x = some c -> c ≠ b) /\ ∀ p ∈ X.pn ++ pins, p.1 ≠ b) : Inv X pins σ H' s' := by
 obtain ⟨h', g', d', t', o'⟩ := s'
 have e : o' = s.os := ho
 subst e
 exact I.call (g' := g') (t' := t') (d' := d') u hok hg hch
end
abbrev XK := Value -> Option Addr -> Hp -> Prop
abbrev St := List (Option V)
abbrev VK := V -> Hp -> Prop
abbrev TE := St -> Hp -> VK -> Prop
abbrev TT := St -> Hp -> (Bool -> Hp -> Prop) -> Prop
abbrev TA := St -> Hp -> (List V -> Hp -> Prop) -> Prop
structure Ends where
 nx : St -> Hp -> Prop
 rt : VK
 bk : St -> Hp -> Prop := fun _ _ => False
 ct : St -> Hp -> Prop := fun _ _ => False
abbrev TS := Ends -> St -> Hp -> Prop
noncomputable def EP (X : Cx) (pins : List (Addr × Obj)) (σ : St) (Q : VK) (u : Value) (s' : Shared) : Prop := ∃ v H', Inv X pins σ H' s' /\ RelV v u /\ Q v H'
noncomputable def TP (X : Cx) (pins : List (Addr × Obj)) (σ : St) (Q : Bool -> Hp -> Prop) (b : Bool) (s' : Shared) : Prop := ∃ H', Inv X pins σ H' s' /\ Q b H'
noncomputable def AP (X : Cx) (pins : List (Addr × Obj)) (σ : St) (Q : List V -> Hp -> Prop) (us : List Value) (s' : Shared) : Prop := ∃ vs H', Inv X pins σ H' s' /\ Vals vs us /\ Q vs H'
noncomputable def SP (X : Cx) (pins : List (Addr × Obj)) (D : Ends) (f : Flow) (s' : Shared) : Prop :=
 match f with
 | .next => ∃ σ' H', Inv X pins σ' H' s' /\ D.nx σ' H'
 | .brk => ∃ σ' H', Inv X pins σ' H' s' /\ D.bk σ' H'
 | .cont => ∃ σ' H', Inv X pins σ' H' s' /\ D.ct σ' H'
 | .ret u => ∃ v σ' H', Inv X pins σ' H' s' /\ RelV v u /\ D.rt v H'
noncomputable def PE (X : Cx) (e : Expr) (t : TE) : Prop :=
 ∀ (pins : List (Addr × Obj)) (s : Shared) (σ : St) (H : Hp) (Q : VK), Inv X pins σ H s -> t σ H Q -> wpAny (model X.prog X.w) X.A (eval e X.env) (EP X pins σ Q) X.xe s
noncomputable def PT (X : Cx) (e : Expr) (t : TT) : Prop :=
 ∀ (pins : List (Addr × Obj)) (s : Shared) (σ : St) (H : Hp) (Q : Bool -> Hp -> Prop), Inv X pins σ H s -> t σ H Q -> wpAny (model X.prog X.w) X.A (isTrue e X.env (eval e X.env)) (TP X pins σ Q) X.xe s
noncomputable def PW (X : Cx) (e : Expr) (t : TT) : Prop :=
 ∀ (whole : Sem Value) (pins : List (Addr × Obj)) (s : Shared) (σ : St) (H : Hp) (Q : Bool -> Hp -> Prop), Inv X pins σ H s -> t σ H Q -> wpAny (model X.prog X.w) X.A (isTrue e X.env whole) (TP X pins σ Q) X.xe s
theorem PW.pt {X : Cx} {e : Expr} {t : TT} (h : PW X e t) : PT X e t := h _
noncomputable def PA (X : Cx) (es : List Expr) (t : TA) : Prop :=
 ∀ (pos : Pos) (pins : List (Addr × Obj)) (s : Shared) (σ : St) (H : Hp) (Q : List V -> Hp -> Prop), Inv X pins σ H s -> t σ H Q -> wpAny (model X.prog X.w) X.A (spliced (backTo pos (starEach es X.env))) (AP X pins σ Q) X.xe s
noncomputable def PS (X : Cx) (st : Stmt) (t : TS) : Prop :=
 ∀ (pins : List (Addr × Obj)) (s : Shared) (σ : St) (H : Hp) (D : Ends), Inv X pins σ H s -> t D σ H -> wpAny (model X.prog X.w) X.A (exec st X.env) (SP X pins D) X.xe s
noncomputable def PSs (X : Cx) (st : List Stmt) (t : TS) : Prop :=
 ∀ (pins : List (Addr × Obj)) (s : Shared) (σ : St) (H : Hp) (D : Ends), Inv X pins σ H s -> t D σ H -> wpAny (model X.prog X.w) X.A (execs st X.env) (SP X pins D) X.xe s
theorem thn {α : Type} {t : Sem α} {Q Q' : α -> Shared -> Prop} {M : Model} {A : Around} {E : Value -> Shared -> Prop} {s : Shared} (h : wpAny M A t Q E s) (hQ : ∀ a s, Q a s -> Q' a s) : wpAny M A t Q' E s := wpAny_mono h hQ fun _ _ x => x
end L2
namespace L2
open PySem PySem.Spec PyProof.Rows
section
variable {X : Cx}
noncomputable def tVar (i : Nat) : TE := fun σ H Q => ∃ v, σ[i]? = some (some v) /\ Q v H
noncomputable def tC (v : V) : TE := fun _ H Q => Q v H
theorem Ar {i : Nat} {x : Str} {pos : Pos} (hN : X.N[i]? = some x) (hv : Vis X.env.scope x) (hd : (x == ("__debug__" : Str)) = false := by decide) (hcd : (x == ("__classdict__" : Str)) = false := by decide) : PE X (.Name x pos) (tVar i) := by
 intro pins s σ H Q I h
 obtain ⟨v, e, h⟩ := h
 obtain ⟨m, hn, hl⟩ := I.loc
 obtain ⟨u, r, l⟩ := hl i x v hN e hv
 have fin : EP X pins σ Q u s := ⟨v, H, I, r, h⟩
 rcases l with ⟨hk, hm⟩ | ⟨hk, c, hc, hcell⟩
 ·exact wpAny_Name (wpAny_loadName_local I.ok.kind hk hn hm fin) hd
 ·rcases hk with hk | hk
  ·exact wpAny_Name (wpAny_loadName_cell I.ok.kind hk hc hcell fin) hd
  ·exact wpAny_Name (wpAny_loadName_free I.ok.kind hk hc hcell fin hcd) hd
theorem Al {i j pos} : PE X (.Constant (.int i) j pos) (tC (.int i)) := fun _ _ _ H _ I h => wpAny_Constant_int ⟨.int i, H, I.tok _, ⟨_, rfl⟩, h⟩
theorem Dv {b j pos} : PE X (.Constant (.bool b) j pos) (tC (.bl b)) := fun _ _ _ H _ I h => Constant_bool ⟨.bl b, H, I, rfl, h⟩
theorem sf {x j pos} : PE X (.Constant (.str x) j pos) (tC (.str x)) := fun _ _ _ H _ I h => Calls.Constant_str ⟨.str x, H, I.tok _, ⟨_, rfl⟩, h⟩
noncomputable def Gl (X : Cx) (x : Str) : Prop := X.env.kindOf x = some .globalImplicit
theorem oz {E : Value -> Shared -> Prop} {pins : List (Addr × Obj)} {s : Shared} {σ : St} {H : Hp} {x : Str} {u : Value} {pos : Pos} {Q : Value -> Shared -> Prop} (I : Inv X pins σ H s) (hg : Gl X x) (hm : X.mg x = some u) (h : Q u s)
  (hd : (x == ("__debug__" : Str)) = false := by decide) : wpAny (model X.prog X.w) X.A (eval (.Name x pos) X.env) Q E s :=
 Calls.Name_function_global I.ok.kind hg (Calls.loadGlobal_global (by rw [I.ok.glob]; exact I.mod.glob.keeps I.bk) hm h) hd
theorem iF {E : Value -> Shared -> Prop} {pins : List (Addr × Obj)} {s : Shared} {σ : St} {H : Hp} {x : Str} {u : Value} {pos : Pos} {Q : Value -> Shared -> Prop} (I : Inv X pins σ H s) (hg : Gl X x) (hm : X.mg x = none) (hv : bootBuiltins x = some u) (h : Q u s)
  (hn : x ≠ "__name__" := by decide) (hd : (x == ("__debug__" : Str)) = false := by decide) : wpAny (model X.prog X.w) X.A (eval (.Name x pos) X.env) Q E s := by
 obtain ⟨mb, h1, h2⟩ := I.mod.blt
 exact Calls.Name_function_global I.ok.kind hg (Calls.loadGlobal_builtin (by rw [I.ok.glob]; exact I.mod.glob.keeps I.bk) hm (by rw [I.ok.blt]; exact h1.keeps I.bk) ((h2 x hn).trans hv) h) hd
theorem wG {x : Str} {v : V} {u : Value} {pos : Pos} (hg : Gl X x) (hm : X.mg x = none) (hv : bootBuiltins x = some u) (r : RelV v u) (hn : x ≠ "__name__" := by decide) (hd : (x == ("__debug__" : Str)) = false := by decide) : PE X (.Name x pos) (tC v) :=
 fun _ _ _ H _ I h => iF I hg hm hv ⟨v, H, I, r, h⟩ hn hd
variable {a b : Expr} {ta tb : TE} {pos : Pos}
noncomputable def tB (t : TE) : TT := fun σ H Q => t σ H fun x H1 => ∃ c, x = .bl c /\ Q c H1
theorem BI {e : Expr} {t : TE} (h : PE X e t) (he : ∀ whole, isTrue e X.env whole = (do let v <- whole; standAt e.pos; holding [v] (truthy v)) := by intro _; rfl) : PT X e (tB t) := by
 intro pins s σ H Q I hw
 refine isTrue_plain (thn (h pins s σ H _ I hw) fun v s1 ⟨x, H1, I1, r1, q1⟩ => ?_) (he _)
 obtain ⟨d, rfl, q⟩ := q1
 cases r1
 exact wpAny_truthy_bool ⟨H1, I1, q⟩
variable {tA tB' : TT} {dO : List Expr}
noncomputable def tAnd (t u : TT) : TT := fun σ H Q => t σ H fun c H1 => if c = true then u σ H1 Q else Q false H1
noncomputable def tOr (t u : TT) : TT := fun σ H Q => t σ H fun c H1 => if c = true then Q true H1 else u σ H1 Q
noncomputable def tNot (t : TT) : TT := fun σ H Q => t σ H fun c H1 => Q (!c) H1
theorem we (ha : PT X a tA) : PW X (.BoolOp .And [a] pos) tA := by
 intro wh pins s σ H Q I h
 refine isTrue_and (thn (ha pins s σ H Q I h) fun c s1 e => ?_)
 cases c with
 | true => exact isTrue_and_nil e
 | false => exact e
theorem A9 (ha : PT X a tA) : PW X (.BoolOp .Or [a] pos) tA := by
 intro wh pins s σ H Q I h
 refine isTrue_or (thn (ha pins s σ H Q I h) fun c s1 e => ?_)
 cases c with
 | false => exact isTrue_or_nil e
 | true => exact e
theorem zu (ha : PT X a tA) (hb : PW X (.BoolOp .And (b :: dO) pos) tB') : PW X (.BoolOp .And (a :: b :: dO) pos) (tAnd tA tB') := by
 intro wh pins s σ H Q I h
 refine isTrue_and (thn (ha pins s σ H _ I h) fun c s1 ⟨H1, I1, q1⟩ => ?_)
 cases c with
 | true => exact hb wh pins s1 σ H1 Q I1 q1
 | false => exact ⟨H1, I1, q1⟩
theorem B4 (ha : PT X a tA) (hb : PW X (.BoolOp .Or (b :: dO) pos) tB') : PW X (.BoolOp .Or (a :: b :: dO) pos) (tOr tA tB') := by
 intro wh pins s σ H Q I h
 refine isTrue_or (thn (ha pins s σ H _ I h) fun c s1 ⟨H1, I1, q1⟩ => ?_)
 cases c with
 | true => exact ⟨H1, I1, q1⟩
 | false => exact hb wh pins s1 σ H1 Q I1 q1
theorem Aw (ha : PT X a tA) : PT X (.UnaryOp .Not a pos) (tNot tA) := by
 intro pins s σ H Q I h
 exact isTrue_not (ha pins s σ H (fun c H1 => Q (!c) H1) I h)
noncomputable def Di (ta tb : TE) : TE := fun σ H Q => ta σ H fun x H1 => ∃ c, x = .bl c /\ if c = true then tb σ H1 Q else Q (.bl false) H1
noncomputable def tOrV (ta tb : TE) : TE := fun σ H Q => ta σ H fun x H1 => ∃ c, x = .bl c /\ if c = true then Q (.bl true) H1 else tb σ H1 Q
noncomputable def DX (ta : TE) : TE := fun σ H Q => ta σ H fun x H1 => ∃ c, x = .bl c /\ Q (.bl (!c)) H1
theorem zW {op} {t : TE} (h : PE X a t) : PE X (.BoolOp op [a] pos) t := fun pins s σ H Q I hw => BoolOp_one (h pins s σ H Q I hw)
theorem zc (ha : PE X a ta) (hb : PE X (.BoolOp .And (b :: dO) pos) tb) : PE X (.BoolOp .And (a :: b :: dO) pos) (Di ta tb) := by
 intro pins s σ H Q I h
 refine BoolOp_and (thn (ha pins s σ H _ I h) fun v s1 ⟨x, H1, I1, r1, q1⟩ => ?_)
 obtain ⟨c, rfl, q1⟩ := q1
 cases r1
 refine wpAny_truthy_bool ?_
 cases c with
 | true => exact hb pins s1 σ H1 Q I1 q1
 | false => exact ⟨.bl false, H1, I1, rfl, q1⟩
theorem Dr (ha : PE X a ta) (hb : PE X (.BoolOp .Or (b :: dO) pos) tb) : PE X (.BoolOp .Or (a :: b :: dO) pos) (tOrV ta tb) := by
 intro pins s σ H Q I h
 refine BoolOp_or (thn (ha pins s σ H _ I h) fun v s1 ⟨x, H1, I1, r1, q1⟩ => ?_)
 obtain ⟨c, rfl, q1⟩ := q1
 cases r1
 refine wpAny_truthy_bool ?_
 cases c with
 | false => exact hb pins s1 σ H1 Q I1 q1
 | true => exact ⟨.bl true, H1, I1, rfl, q1⟩
theorem yz (ha : PE X a ta) : PE X (.UnaryOp .Not a pos) (DX ta) := by
 intro pins s σ H Q I h
 refine UnaryOp_ (thn (ha pins s σ H _ I h) fun v s1 ⟨x, H1, I1, r1, q1⟩ => ?_)
 obtain ⟨c, rfl, q1⟩ := q1
 cases r1
 exact not_of (wpAny_truthy_bool ⟨.bl (!c), H1, I1, rfl, q1⟩)
end
end L2
namespace L2
open PySem PySem.Spec PyProof.Rows
noncomputable def SqL (K : PySem.W.Frag) (H : Hp) (a : Addr) (xs : List V) : Prop :=
 Rd H a (.lst xs) \/
  ∃ (o : Obj) (its : Array Value) (n : Nat), K.lookup a = some o /\ o.cls = .type "list" /\ o.dict = none /\ o.data = .seq its n /\ its.size <= sizeLine /\ Vals xs its.toList
noncomputable def SqT (K : PySem.W.Frag) (H : Hp) (a : Addr) (xs : List V) : Prop :=
 Rd H a (.tup xs) \/
  ∃ (o : Obj) (its : Array Value) (n : Nat), K.lookup a = some o /\ o.cls = .type "tuple" /\ o.data = .seq its n /\ its.size <= sizeLine /\ Vals xs its.toList
noncomputable def absV : Value -> Option V
 | .none => some .non
 | .bool b => some (.bl b)
 | .int i _ => some (.int i)
 | .str x _ => some (.str x)
 | .bytes b _ => some (.byt b)
 | .float b _ => some (.flt b)
 | .ref a => some (.ref a)
 | .type n => some (.ty n)
 | _ => none
theorem RelV.abs {x : V} {u : Value} (r : RelV x u) : absV u = some x := by
 cases x with
 | non => cases r; rfl
 | bl _ => cases r; rfl
 | int _ => obtain ⟨t, rfl⟩ := r; rfl
 | str _ => obtain ⟨t, rfl⟩ := r; rfl
 | byt _ => obtain ⟨t, rfl⟩ := r; rfl
 | flt _ => obtain ⟨t, rfl⟩ := r; rfl
 | ref _ => cases r; rfl
 | ty _ => cases r; rfl
theorem RelV.inj {x y : V} {u : Value} (r : RelV x u) (q : RelV y u) : x = y := Option.some.inj (r.abs.symm.trans q.abs)
theorem Vals.inj {xs ys : List V} {us : List Value} (r : Vals xs us) (q : Vals ys us) : xs = ys := by
 induction r generalizing ys with
 | nil => cases q; rfl
 |
  cons r t ih =>
  cases q with
  | cons q t' => rw [r.inj q, ih t']
section
variable {X : Cx} {pins : List (Addr × Obj)} {σ : St} {H : Hp} {s : Shared} {a : Addr} {xs ys : List V}
theorem SqL.of {K : PySem.W.Frag} (h : H a = some (.lst xs)) : SqL K H a xs := .inl (.inl h)
theorem SqT.of {K : PySem.W.Frag} (h : H a = some (.tup xs)) : SqT K H a xs := .inl (.inl h)
theorem Inv.list (I : Inv X pins σ H s) (h : SqL X.K H a xs) : ∃ its : List Value, Vals xs its /\ PlainL s.heap a its.toArray /\ xs.length <= sizeLine := by
 rcases h with h | ⟨o, its, n, hk, hc, hd, hs, hz, r⟩
 ·obtain ⟨z, its, n, r, e⟩ := h.ok I.hok
  exact ⟨its, r, ⟨_, n, e, rfl, rfl, rfl⟩, z⟩
 ·refine ⟨its.toList, r, ⟨o, n, I.kIn a o hk, hc, hd, by simpa using hs⟩, ?_⟩
  have e := r.length
  simp only [Array.length_toList] at e
  omega
theorem Inv.tuple (I : Inv X pins σ H s) (h : SqT X.K H a xs) : ∃ its : List Value, Vals xs its /\ IsTup s.heap a its.toArray /\ xs.length <= sizeLine := by
 rcases h with h | ⟨o, its, n, hk, hc, hs, hz, r⟩
 ·obtain ⟨z, its, r, p⟩ := h.ok I.hok
  exact ⟨its, r, p, z⟩
 ·refine ⟨its.toList, r, ⟨o, I.kIn a o hk, hc, n, by simpa using hs⟩, ?_⟩
  have e := r.length
  simp only [Array.length_toList] at e
  omega
theorem Inv.list_inj (I : Inv X pins σ H s) (h : SqL X.K H a xs) (h' : SqL X.K H a ys) : xs = ys := by
 obtain ⟨its, r, ⟨o, n, e, _, _, d⟩, _⟩ := I.list h
 obtain ⟨its', r', ⟨o', n', e', _, _, d'⟩, _⟩ := I.list h'
 rw [e] at e'; cases e'
 rw [d] at d'
 injection d' with d1 _
 have : its = its' := by simpa using congrArg Array.toList d1
 subst this
 exact r.inj r'
theorem Inv.tuple_inj (I : Inv X pins σ H s) (h : SqT X.K H a xs) (h' : SqT X.K H a ys) : xs = ys := by
 obtain ⟨its, r, ⟨o, e, _, n, d⟩, _⟩ := I.tuple h
 obtain ⟨its', r', ⟨o', e', _, n', d'⟩, _⟩ := I.tuple h'
 rw [e] at e'; cases e'
 rw [d] at d'
 injection d' with d1 _
 have : its = its' := by simpa using congrArg Array.toList d1
 subst this
 exact r.inj r'
end
section
variable {X : Cx} {pins : List (Addr × Obj)} {σ : St} {H : Hp} {s : Shared} {E : Value -> Shared -> Prop}
end
section
variable {X : Cx} {st : Stmt} {dO : List Stmt} {t u : TS} {e : Expr} {te : TE} {pos : Pos}
noncomputable def CL : TS := fun D σ H => D.nx σ H
noncomputable def tSeq (t u : TS) : TS := fun D σ H => t { D with nx := u D } σ H
theorem wR : PSs X [] CL := fun _ _ σ H _ I h => wpAny_execs_nil ⟨σ, H, I, h⟩
theorem uX (h1 : PS X st t) (h2 : PSs X dO u) : PSs X (st :: dO) (tSeq t u) := by
 intro pins s σ H D I h
 refine wpAny_execs_cons (thn (h1 pins s σ H { D with nx := u D } I h) fun f s1 q => ?_)
 cases f with
 |
  next =>
  obtain ⟨σ', H', I', q⟩ := q
  exact h2 pins s1 σ' H' D I' q
 | ret v => exact q
 | brk => exact q
 | cont => exact q
theorem wV (h1 : PS X st t) : PSs X [st] t := by
 intro pins s σ H D I h
 refine wpAny_execs_cons (thn (h1 pins s σ H D I h) fun f s1 q => ?_)
 cases f with
 | next => exact wpAny_execs_nil q
 | ret v => exact q
 | brk => exact q
 | cont => exact q
theorem Inv.quiet {pins : List (Addr × Obj)} {σ : St} {H : Hp} {s : Shared} (I : Inv X pins σ H s) : interactive X.env = false := by simp [interactive, I.ok.kind]
noncomputable def Ce (te : TE) : TS := fun D σ H => te σ H fun _ H1 => D.nx σ H1
theorem wj (he : PE X e te) (hs : swapsWith e none pos.line X.env = pure false := by rfl) : PS X (.Expr e pos) (Ce te) := by
 intro pins s σ H D I h
 exact wpAny_Expr_any (thn (he pins s σ H _ I h) fun v s1 ⟨x, H1, I1, r1, q1⟩ => ⟨σ, H1, I1, q1⟩) I.quiet hs
noncomputable def tRet (te : TE) : TS := fun D σ H => te σ H D.rt
theorem zB (he : PE X e te) : PS X (.Return (some e) pos) (tRet te) := by
 intro pins s σ H D I h
 exact wpAny_Return_some (thn (he pins s σ H _ I h) fun v s1 ⟨x, H1, I1, r1, q1⟩ => ⟨x, σ, H1, I1, r1, q1⟩)
noncomputable def tIfS (c : TT) (t u : TS) : TS := fun D σ H => c σ H fun b H1 => if b = true then t D σ H1 else u D σ H1
theorem Cn {c : Expr} {a b : List Stmt} {tc : TT} (hc : PT X c tc) (ha : PSs X a t) (hb : PSs X b u) : PS X (.If c a b pos) (tIfS tc t u) := by
 intro pins s σ H D I h
 refine wpAny_If (thn (hc pins s σ H _ I h) fun d s1 ⟨H1, I1, q1⟩ => ?_)
 cases d with
 | true => exact ha pins s1 σ H1 D I1 q1
 | false => exact hb pins s1 σ H1 D I1 q1
end
abbrev TG := V -> St -> Hp -> (St -> Hp -> Prop) -> Prop
abbrev TGs := List V -> St -> Hp -> (St -> Hp -> Prop) -> Prop
noncomputable def PG (X : Cx) (target : Expr) (t : TG) : Prop :=
 ∀
  (pins : List (Addr × Obj)) (s : Shared) (σ : St) (H : Hp) (v : V) (u : Value) (Q : St -> Hp -> Prop), Inv X pins σ H s -> RelV v u -> t v σ H Q ->
  wpAny (model X.prog X.w) X.A (assign target X.env u) (fun _ s' => ∃ σ' H', Inv X pins σ' H' s' /\ Q σ' H') X.xe s
noncomputable def PGs (X : Cx) (ts : List Expr) (t : TGs) : Prop :=
 ∀
  (pins : List (Addr × Obj)) (s : Shared) (σ : St) (H : Hp) (vs : List V) (us : List Value) (Q : St -> Hp -> Prop), Inv X pins σ H s -> Vals vs us -> t vs σ H Q ->
  wpAny (model X.prog X.w) X.A (assignInOrder ((assignEach ts X.env).map (·.2)) us) (fun _ s' => ∃ σ' H', Inv X pins σ' H' s' /\ Q σ' H') X.xe s
abbrev jB := V -> V -> V -> Hp -> (Hp -> Prop) -> Prop
noncomputable def nL (X : Cx) (t : jB) : Prop :=
 ∀
  (pins : List (Addr × Obj)) (s : Shared) (σ : St) (H : Hp) (o i v : V) (ov iv u : Value) (Q : Hp -> Prop), Inv X pins σ H s -> RelV o ov -> RelV i iv -> RelV v u -> t o i v H Q ->
  wpAny (model X.prog X.w) X.A (setItem ov iv u) (fun _ s' => ∃ H', Inv X pins σ H' s' /\ Q H') X.xe s
section
variable {X : Cx} {pos : Pos}
noncomputable def jZ (i : Nat) : TG := fun v σ H Q => Q (σ.set i (some v)) H
theorem wB {i : Nat} {x : Str} (hN : X.N.Nodup) (hi : X.N[i]? = some x) (hx : Loc X.env.scope x) (hf : X.fn x = true \/ X.env.scope.names.lookup x = some .local := by first | exact .inl rfl | exact .inr rfl | assumption) : PG X (.Name x pos) (jZ i) := by
 intro pins s σ H v u Q I r h
 exact wpAny_assign_Name (gD I hN hi hx r (fun s' I' => ⟨_, H, I', h⟩) hf)
noncomputable def gNil : TGs := fun vs σ H Q => vs = [] /\ Q σ H
noncomputable def Dk (t : TG) (u : TGs) : TGs := fun vs σ H Q => ∃ v r, vs = v :: r /\ t v σ H fun σ' H' => u r σ' H' Q
theorem xQ : PGs X [] gNil := by
 intro pins s σ H vs us Q I r h
 obtain ⟨e, h⟩ := h
 subst e
 cases r
 exact assignInOrder_nil ⟨σ, H, I, h⟩
theorem tN {e : Expr} {es : List Expr} {t : TG} {u : TGs} (h1 : PG X e t) (h2 : PGs X es u)
  (hs : (assignEach (e :: es) X.env).map (·.2) = assign e X.env :: (assignEach es X.env).map (·.2) := by rfl) : PGs X (e :: es) (Dk t u) := by
 intro pins s σ H vs us Q I r h
 obtain ⟨v, vr, e1, h⟩ := h
 subst e1
 cases r with
 |
  cons r rr =>
  rw [hs]
  refine assignInOrder_cons (thn (h1 pins s σ H _ _ _ I r h) fun _ s1 ⟨σ1, H1, I1, q1⟩ => ?_)
  exact h2 pins s1 σ1 H1 _ _ Q I1 rr q1
noncomputable def gTup (K : PySem.W.Frag) (n : Nat) (t : TGs) : TG := fun v σ H Q => ∃ a xs, v = .ref a /\ SqT K H a xs /\ xs.length = n /\ t xs σ H Q
theorem sy {es : List Expr} {k : Nat} {t : TGs} {n : Nat} (hc : X.calm = true) (h : PGs X es t)
  (hn : (assignEach es X.env).length = n := by rfl) (hst : (assignEach es X.env).findIdx? (·.1) = none := by rfl) : PG X (.Tuple es k pos) (gTup X.K n t) := by
 intro pins s σ H v u Q I r hw
 obtain ⟨a, xs, e1, hq, hl, hw⟩ := hw
 subst e1
 cases r
 obtain ⟨its, rv, ht, hz⟩ := I.tuple hq
 refine assign_Tuple_tuple (I.ok.hd hc) ht (by simp [hn, <- hl, rv.length]) hst fun h' hx => ?_
 have I1 : Inv X pins σ H { s with heap := h' } := I.kept (t' := s.toks) fun b o e => hx b o (Nat.ne_of_lt (Heap.lt_size e)) e
 exact h pins _ σ H xs _ Q I1 (by simpa using rv) hw
noncomputable def gSub (to ti : TE) (t : jB) : TG := fun v σ H Q => to σ H fun o H1 => ti σ H1 fun i H2 => t o i v H2 fun H3 => Q σ H3
theorem zv {o i : Expr} {to ti : TE} {t : jB} (ho : PE X o to) (hi : PE X i ti) (hs : nL X t)
  (ha : ∀ v, assign (.Subscript o i pos) X.env v = (do
   let ov <- holding [v] (eval o X.env)
   let iv <- holding [v, ov] (eval i X.env)
   standAt pos
   holding [v, ov, iv] (setItem ov iv v)
   release [v, ov, iv] []) := by intro _; rfl) : PG X (.Subscript o i pos) (gSub to ti t) := by
 intro pins s σ H v u Q I r h
 rw [ha]
 refine wpAny_bind (wpAny_holding (thn (ho pins s σ H _ I h) fun ov s1 ⟨x, H1, I1, r1, q1⟩ => ?_))
 refine wpAny_bind (wpAny_holding (thn (hi pins s1 σ H1 _ I1 q1) fun iv s2 ⟨y, H2, I2, r2, q2⟩ => ?_))
 refine wpAny_bind (wpAny_standAt (wpAny_bind (wpAny_holding (thn (hs pins s2 σ H2 x y v ov iv u _ I2 r1 r2 r q2) fun _ s3 ⟨H3, I3, q3⟩ => ?_))))
 exact wpAny_release ⟨σ, H3, I3, q3⟩
noncomputable def mP (te : TE) (g : TG) : TS := fun D σ H => te σ H fun x H1 => g x σ H1 D.nx
theorem A8 {tg e : Expr} {te : TE} {g : TG} (he : PE X e te) (hg : PG X tg g) (hs : swapsWithSole [tg] e pos.line X.env = pure false := by rfl) (hw : swappedStores [tg] e X.env = pure none := by rfl)
  (h1 : (assignEach [tg] X.env).map (·.2) = [assign tg X.env] := by rfl) : PS X (.Assign [tg] e pos) (mP te g) := by
 intro pins s σ H D I h
 refine wpAny_Assign_stores (thn (he pins s σ H _ I h) fun v s1 ⟨x, H1, I1, r1, q1⟩ => ?_) hs hw
 rw [h1]
 exact thn (hg pins s1 σ H1 x v _ I1 r1 q1) fun _ s2 q => q
theorem yu {i : Nat} {x : Str} {e : Expr} {te : TE} {pos' : Pos} (hN : X.N.Nodup) (hi : X.N[i]? = some x) (hx : Loc X.env.scope x) (he : PE X e te) (hs : swapsWith e (some (.Name x pos')) pos.line X.env = pure false := by rfl) (hf : X.fn x = true \/ X.env.scope.names.lookup x = some .local := by first | exact .inl rfl | exact .inr rfl | assumption) :
  PS X (.Assign [.Name x pos'] e pos) (mP te (jZ i)) := by
 intro pins s σ H D I h
 refine wpAny_Assign_Name (thn (he pins s σ H _ I h) fun v s1 ⟨y, H1, I1, r1, q1⟩ => ?_) hs
 exact gD I1 hN hi hx r1 (fun s2 I2 => ⟨_, H1, I2, q1⟩) hf
noncomputable def tPar (i j : Nat) (ta : TA) : TS := fun D σ H => ta σ H fun vs H1 => ∃ v w, vs = [v, w] /\ D.nx ((σ.set i (some v)).set j (some w)) H1
theorem
    BC {i j : Nat} {x y : Str} {a b : Expr} {ta : TA} {px py pt : Pos} {kt k2 pt2} (hc : X.calm = true) (hN : X.N.Nodup) (hi : X.N[i]? = some x) (hj : X.N[j]? = some y) (hij : i ≠ j)
  (hx : X.env.scope.names.lookup x = some .local) (hy : X.env.scope.names.lookup y = some .local) (ha : PA X [a, b] ta)
  (hw : swappedStores [.Tuple [.Name x px, .Name y py] kt pt] (.Tuple [a, b] k2 pt2) X.env = pure (some [x, y]))
  (hs : swapsWithSole [.Tuple [.Name x px, .Name y py] kt pt] (.Tuple [a, b] k2 pt2) pos.line X.env = pure false := by rfl) :
  PS X (.Assign [.Tuple [.Name x px, .Name y py] kt pt] (.Tuple [a, b] k2 pt2) pos) (tPar i j ta) := by
 intro pins s σ H D I h
 rw [exec_Assign_arm]
 refine wpAny_bind (wpAny_standAt ?_)
 rw [hs]
 refine wpAny_bind (wpAny_pure ?_)
 rw [if_neg (by decide)]
 refine wpAny_bind (Tuple_ (thn (ha _ pins s σ H _ I h) fun us s1 ⟨vs, H1, I1, r1, q1⟩ => ?_))
 obtain ⟨v, w, e1, q1⟩ := q1
 subst e1
 obtain ⟨u1, u2, rfl, rv, rw'⟩ : ∃ u1 u2, us = [u1, u2] /\ RelV v u1 /\ RelV w u2 := by
  cases r1 with
  |
   cons p q =>
   cases q with
   |
    cons p' q' =>
    cases q'
    exact ⟨_, _, rfl, p, p'⟩
 refine wpAny_newObj_type ?_ (by show 2 <= sizeLine; decide)
 have I2 : Inv X pins σ H1 { s1 with heap := s1.heap.push { cls := .type "tuple", data := .seq [u1, u2].toArray } } := I1.kept (t' := s1.toks) fun b o e => Heap.get?_push_of_some _ e
 rw [hw]
 refine wpAny_bind (wpAny_pure ?_)
 show wpAny (model X.prog X.w) X.A (do rule "assign.swapped-stores"; let items <- unpackItems (.ref s1.heap.objs.size) 2 none; assignInOrder [fun v => bindName X.env y v, fun v => bindName X.env x v] items.reverse; pure Flow.next) _ _ _
 refine wpAny_bind (wpAny_rule (wpAny_bind (unpackItems_tuple (items := #[u1, u2]) (I.ok.hd hc) (IsTup.new s1.heap _) fun h' hx' => ?_)))
 have I3 := I2.kept (h' := h') (t' := s1.toks) fun b o e => hx' b o (Nat.ne_of_lt (Heap.lt_size e)) e
 show wpAny _ _ (assignInOrder [fun v => bindName X.env y v, fun v => bindName X.env x v] [u2, u1] >>= fun _ => pure Flow.next) _ _ _
 refine wpAny_bind (assignInOrder_cons (wpAny_bindName (gD I3 hN hj (.inl hy) rw' (fun s2 I4 => ?_) (.inr hy))))
 refine assignInOrder_cons (wpAny_bindName (gD I4 hN hi (.inl hx) rv (fun s3 I5 => assignInOrder_nil (wpAny_pure ?_)) (.inr hx)))
 rw [List.set_comm _ _ (Ne.symm hij)] at I5
 exact ⟨_, H1, I5, q1⟩
end
section
variable {X : Cx} {pos : Pos}
noncomputable def zG (c : TT) (tb : TS) : TS := fun D σ H => ∃ W : Nat -> St -> Hp -> Prop, (∃ m, W m σ H) /\ ∀ m σ H, W m σ H ->
 c σ H fun b H1 => if b = true then ∃ N : St -> Hp -> Prop, (∀ σ' H', N σ' H' -> ∃ m', m' < m /\ W m' σ' H') /\ tb { D with nx := N, ct := N, bk := D.nx } σ H1 else D.nx σ H1
theorem ud {c : Expr} {body : List Stmt} {tc : TT} {tb : TS} (hp : PassesOwn (model X.prog X.w) X.A X.env X.xe) (hc : PT X c tc) (hb : PSs X body tb) : PS X (.While c body [] pos) (zG tc tb) := by
 intro pins s σ H D I h
 obtain ⟨W, ⟨m0, w0⟩, turn⟩ := h
 refine wpAny_While (codeAny_whileLoop (fun n s' => ∃ σ' H', Inv X pins σ' H' s' /\ W n σ' H') ?_ m0 ⟨σ, H, I, w0⟩)
 rintro n s1 ⟨σ1, H1, I1, w1⟩
 refine wpAny_passesOwn hp (thn (hc pins s1 σ1 H1 _ I1 (turn n σ1 H1 w1)) fun b s2 ⟨H2, I2, q2⟩ => ?_)
 cases b with
 |
  true =>
  obtain ⟨N, hN, q2⟩ := q2
  rw [if_pos rfl]
  refine wpAny_passesOwn hp (thn (hb pins s2 σ1 H2 _ I2 q2) fun f s3 q3 => ?_)
  cases f with
  |
   next =>
   obtain ⟨σ3, H3, I3, n3⟩ := q3
   obtain ⟨m', hm, w3⟩ := hN σ3 H3 n3
   exact ⟨m', hm, σ3, H3, I3, w3⟩
  |
   cont =>
   obtain ⟨σ3, H3, I3, n3⟩ := q3
   obtain ⟨m', hm, w3⟩ := hN σ3 H3 n3
   exact ⟨m', hm, σ3, H3, I3, w3⟩
  | brk => exact q3
  | ret v => exact q3
 |
  false =>
  rw [if_neg Bool.false_ne_true]
  exact wpAny_execs_nil ⟨σ1, H2, I2, q2⟩
end
structure It where
 go : Nat -> Hp -> Prop
 yld : Nat -> Hp -> V -> Hp -> Prop
 stop : Nat -> Hp -> Prop
noncomputable def FpOk (X : Cx) (pins : List (Addr × Obj)) (H : Hp) (b : Addr) : Prop :=
 H b = none /\ b ≠ X.env.locals /\ b ∉ X.fs /\ (b ∈ X.ex \/ X.s₀.heap.objs.size <= b) /\ (∀ x c, X.env.cells.lookup x = some c -> c ≠ b) /\ ∀ p ∈ X.pn ++ pins, p.1 ≠ b
theorem Inv.fpOk {X : Cx} {pins : List (Addr × Obj)} {σ : St} {H H' : Hp} {s : Shared} {b : Addr} (I : Inv X pins σ H s) (hb : s.heap.objs.size <= b) (hn : H' b = none) : FpOk X pins H' b := by
 refine ⟨hn, Nat.ne_of_gt (Nat.lt_of_lt_of_le I.lt hb), I.nofs hb, .inr (Nat.le_trans I.sz hb), fun x c e z => ?_, fun p hp z => ?_⟩
 ·obtain ⟨v, q⟩ := I.cell x c e
  exact absurd (Nat.lt_of_lt_of_le q.lt (by rw [z]; exact hb)) (Nat.lt_irrefl _)
 ·exact absurd (Nat.lt_of_lt_of_le (Heap.lt_size (I.pin p hp).1) (by rw [z]; exact hb)) (Nat.lt_irrefl _)
structure Turn (P : Program) (w : World) (K : PySem.W.Frag) (tg : Expr) (J : It) (fp : List Addr) (it : Addr) (tn : Nat -> Heap -> Prop) : Prop where
 mem : it ∈ fp
 obj : ∀ i h, tn i h -> ∀ b ∈ fp, ∃ o, h.get? b = some o /\ ∀ v, o.data ≠ .cell v
 keep : ∀ i h h', tn i h -> (∀ b ∈ fp, ∀ o, h.get? b = some o -> h'.get? b = some o) -> tn i h'
 item : ∀ (X : Cx), X.prog = P -> X.w = w -> X.K = K -> X.calm = true -> ∀ (i : Nat) (pins : List (Addr × Obj)) (s : Shared) (σ : St) (H : Hp) (E : Value -> Shared -> Prop), Inv X pins σ H s -> (∀ b ∈ fp, FpOk X pins H b) -> tn i s.heap -> J.go i H ->
  wpAny (model P w) X.A (pyNext (.ref it)) (fun r s1 => ∃ u, r = some u /\
   wpAny (model P w) X.A (letOwnedTupleGo tg (.ref it) u) (fun _ s2 => ∃ x H', Inv X pins σ H' s2 /\ RelV x u /\ J.yld i H x H' /\ tn (i + 1) s2.heap /\ ∀ b ∈ fp, H' b = none) E s1) E s
 done : ∀ (X : Cx), X.prog = P -> X.w = w -> X.K = K -> X.calm = true -> ∀ (i : Nat) (pins : List (Addr × Obj)) (s : Shared) (σ : St) (H : Hp) (E : Value -> Shared -> Prop), Inv X pins σ H s -> (∀ b ∈ fp, FpOk X pins H b) -> tn i s.heap -> J.stop i H ->
  wpAny (model P w) X.A (pyNext (.ref it)) (fun r s1 => r = none /\ Inv X pins σ H s1) E s
 self : ∀ (A : Around) (i : Nat) (s : Shared) (Q : Value -> Shared -> Prop) (E : Value -> Shared -> Prop), tn i s.heap -> Q (.ref it) s -> wpAny (model P w) A (pyIter (.ref it)) Q E s
abbrev TI := St -> Hp -> (It -> Hp -> Prop) -> Prop
noncomputable def PIE (X : Cx) (pins : List (Addr × Obj)) (σ : St) (tg : Expr) (R : It -> Hp -> Prop) (itv : Value) (s2 : Shared) : Prop :=
 ∃ (it : Addr) (fp : List Addr) (tn : Nat -> Heap -> Prop) (J : It) (H' : Hp), itv = .ref it /\ Inv X pins σ H' s2 /\ Turn X.prog X.w X.K tg J fp it tn /\ tn 0 s2.heap /\ (∀ b ∈ fp, FpOk X pins H' b) /\ R J H'
noncomputable def PI (X : Cx) (tg iter : Expr) (wi : TI) : Prop :=
 ∀
  (pins : List (Addr × Obj)) (s : Shared) (σ : St) (H : Hp) (R : It -> Hp -> Prop), Inv X pins σ H s -> wi σ H R ->
  wpAny (model X.prog X.w) X.A (eval iter X.env) (fun v s1 => wpAny (model X.prog X.w) X.A (pyIter v) (PIE X pins σ tg R) X.xe s1) X.xe s
theorem pq {M : Model} {A : Around} {E : Value -> Shared -> Prop} {s : Shared} {tg : Expr} {it : Addr} {u : Value} {o : Obj} {n : String} {vs : Array Value} {Q : Unit -> Shared -> Prop} (ho : s.heap.get? it = some o) (hc : o.cls = .type n) (hd : o.data = .fields vs)
  (hn : ["enumerate", "zip", "dict_itemiterator", "dict_reverseitemiterator", "odict_iterator", "itertools.zip_longest", "itertools.pairwise"].contains n = false) (hQ : Q () s) : wpAny M A (letOwnedTupleGo tg (.ref it) u) Q E s := by
 unfold letOwnedTupleGo
 cases tg
      <;> first
  | exact wpAny_pure hQ
  | (cases u <;> first
    | exact wpAny_pure hQ
    | (
      refine wpAny_bind (wpAny_load ho ?_)
      rw [hc, hd]
      show wpAny M A (if (["enumerate", "zip", "dict_itemiterator", "dict_reverseitemiterator", "odict_iterator", "itertools.zip_longest", "itertools.pairwise"].contains n && vs[0]? == some (rawInt _)) = true then _ else _) Q E s
      rw [if_neg (by intro h; rw [hn, Bool.false_and] at h; cases h)]
      exact wpAny_pure hQ))
noncomputable def Itl (K : PySem.W.Frag) (a : Addr) : It :=
 ⟨fun i H => ∃ xs x, SqL K H a xs /\ xs[i]? = some x, fun i H x H' => H' = H /\ ∀ xs, SqL K H a xs -> xs[i]? = some x, fun i H => ∃ xs, SqL K H a xs /\ xs.length <= i⟩
noncomputable def Itt (K : PySem.W.Frag) (a : Addr) : It :=
 ⟨fun i H => ∃ xs x, SqT K H a xs /\ xs[i]? = some x, fun i H x H' => H' = H /\ ∀ xs, SqT K H a xs -> xs[i]? = some x, fun i H => ∃ xs, SqT K H a xs /\ xs.length <= i⟩
noncomputable def Itr (lo : Int) (n : Nat) : It := ⟨fun i _ => i < n, fun i H x H' => H' = H /\ x = .int (lo + i), fun i _ => n <= i⟩
theorem rZ {P : Program} {w : World} {K : PySem.W.Frag} {tg : Expr} (a it : Addr) : Turn P w K tg (Itl K a) [it] it (fun i h => h.IsListIter it a i) where
 mem := by simp
 obj := fun i h st b hb => by
  have e : b = it := by simpa using hb
  subst e
  obtain ⟨o, e, c, d⟩ := st
  exact ⟨o, e, fun v z => by rw [d] at z; cases z⟩
 keep := fun i h h' st k => st.at fun o e => k it (by simp) o e
 item := by
  intro X hP hw hK hc i pins s σ H E I hf st hg
  subst hP hw hK
  obtain ⟨xs, x, hq, hx⟩ := hg
  obtain ⟨its, rv, p, hz⟩ := I.list hq
  obtain ⟨u, hu, ru⟩ := rv.get hx
  obtain ⟨f0, f1, f2, f3, f4, f5⟩ := hf it (by simp)
  refine wpAny_pyNext_list_item st p.isList (x := u) (by simpa using hu) fun h' st' sb => ?_
  have I1 : Inv X pins σ H { s with heap := h' } := I.turned (t' := s.toks) (fun b o hb e => (sb.2 b hb).trans e) f0 f1 f3 f4 f5
  obtain ⟨o, e, c, d⟩ := id st'
  exact ⟨u, rfl, pq (s := { s with heap := h' }) e c d (by decide) ⟨x, H, I1, ru, ⟨rfl, fun ys hy => by rw [I.list_inj hy hq]; exact hx⟩, st', fun b hb => (hf b hb).1⟩⟩
 done := by
  intro X hP hw hK hc i pins s σ H E I hf st hg
  subst hP hw hK
  obtain ⟨xs, hq, hx⟩ := hg
  obtain ⟨its, rv, p, hz⟩ := I.list hq
  obtain ⟨f0, f1, f2, f3, f4, f5⟩ := hf it (by simp)
  have hl := rv.length
  exact wpAny_pyNext_list_end (I.ok.hd hc) st p.isList (by simp; omega) fun h' eb => ⟨rfl, I.turned (t' := s.toks) (fun b o hb e => eb b o hb e) f0 f1 f3 f4 f5⟩
 self := fun _ _ _ _ _ st h => wpAny_pyIter_listiter st h
theorem pI {P : Program} {w : World} {K : PySem.W.Frag} {tg : Expr} (a it : Addr) : Turn P w K tg (Itt K a) [it] it (fun i h => h.IsTupleIter it a i) where
 mem := by simp
 obj := fun i h st b hb => by
  have e : b = it := by simpa using hb
  subst e
  obtain ⟨o, e, c, d⟩ := st
  exact ⟨o, e, fun v z => by rw [d] at z; cases z⟩
 keep := fun i h h' st k => st.at fun o e => k it (by simp) o e
 item := by
  intro X hP hw hK hc i pins s σ H E I hf st hg
  subst hP hw hK
  obtain ⟨xs, x, hq, hx⟩ := hg
  obtain ⟨its, rv, p, hz⟩ := I.tuple hq
  obtain ⟨u, hu, ru⟩ := rv.get hx
  obtain ⟨f0, f1, f2, f3, f4, f5⟩ := hf it (by simp)
  refine wpAny_pyNext_tuple_item st (show s.heap.IsTuple a its.toArray from p) (x := u) (by simpa using hu) fun h' st' sb => ?_
  have I1 : Inv X pins σ H { s with heap := h' } := I.turned (t' := s.toks) (fun b o hb e => (sb.2 b hb).trans e) f0 f1 f3 f4 f5
  obtain ⟨o, e, c, d⟩ := id st'
  exact ⟨u, rfl, pq (s := { s with heap := h' }) e c d (by decide) ⟨x, H, I1, ru, ⟨rfl, fun ys hy => by rw [I.tuple_inj hy hq]; exact hx⟩, st', fun b hb => (hf b hb).1⟩⟩
 done := by
  intro X hP hw hK hc i pins s σ H E I hf st hg
  subst hP hw hK
  obtain ⟨xs, hq, hx⟩ := hg
  obtain ⟨its, rv, p, hz⟩ := I.tuple hq
  obtain ⟨f0, f1, f2, f3, f4, f5⟩ := hf it (by simp)
  have hl := rv.length
  exact wpAny_pyNext_tuple_end (I.ok.hd hc) st (show s.heap.IsTuple a its.toArray from p) (by simp; omega) fun h' eb => ⟨rfl, I.turned (t' := s.toks) (fun b o hb e => eb b o hb e) f0 f1 f3 f4 f5⟩
 self := fun _ _ _ _ _ st h => wpAny_pyIter_tupleiter st h
theorem qb {P : Program} {w : World} {K : PySem.W.Frag} {tg : Expr} (it : Addr) (lo : Int) (n : Nat) : Turn P w K tg (Itr lo n) [it] it (fun i h => IsRangeIter h it (lo + (i : Nat) * 1) ((n : Int) - (i : Nat)) 1) where
 mem := by simp
 obj
   := fun i h st b hb => by
  have e : b = it := by simpa using hb
  subst e
  exact ⟨_, st, fun v z => by
   have z' : Data.fields _ = Data.cell v := z
   cases z'⟩
 keep := fun i h h' st k => k it (by simp) _ st
 item := by
  intro X hP hw hK hc i pins s σ H E I hf st hg
  subst hP hw hK
  obtain ⟨f0, f1, f2, f3, f4, f5⟩ := hf it (by simp)
  have W := Walks.range (prog := X.prog) (w := X.w) (I.ok.hd hc) it lo 1 n
  refine W.item i s _ _ hg st fun v h' tk hv st' kk => ?_
  obtain ⟨t, rfl⟩ := hv
  have I1 : Inv X pins σ H { s with heap := h', toks := tk } := I.turned (fun b o hb e => kk b o (by simpa using hb) e) f0 f1 f3 f4 f5
  refine ⟨_, rfl, pq (s := { s with heap := h', toks := tk }) (n := "range_iterator") st' rfl rfl (by decide) ⟨.int (lo + i), H, I1, ⟨t, ?_⟩, ⟨rfl, rfl⟩, st', fun b hb => (hf b hb).1⟩⟩
  rw [Int.mul_one]
 done := by
  intro X hP hw hK hc i pins s σ H E I hf st hg
  subst hP hw hK
  obtain ⟨f0, f1, f2, f3, f4, f5⟩ := hf it (by simp)
  exact wpAny_pyNext_range_end (I.ok.hd hc) st (by have : n <= i := hg; omega) fun h' eb => ⟨rfl, I.turned (t' := s.toks) (fun b o hb e => eb b o hb e) f0 f1 f3 f4 f5⟩
 self := fun _ _ _ _ _ st h => wpAny_pyIter_rangeiter st h
end L2
namespace L2
open PySem PySem.Spec PyProof.Rows
section
variable {X : Cx} {tg : Expr}
theorem uj {pins : List (Addr × Obj)} {σ : St} {H : Hp} {s : Shared} {R : It -> Hp -> Prop} {E : Value -> Shared -> Prop} {lo hi : Int} {t u v : Tok} {tk : Nat} (I : Inv X pins σ H s) (h1 : -(2 ^ 62) <= lo) (h2 : lo < 2 ^ 62) (h3 : -(2 ^ 62) <= hi) (h4 : hi < 2 ^ 62)
  (q : R (Itr lo (hi - lo).toNat) H) : wpAny (model X.prog X.w) X.A (pyIter (.ref s.heap.objs.size)) (PIE X pins σ tg R) E { s with heap := s.heap.push { cls := .type "range", data := .fields #[.int lo t, .int hi u, .int 1 v] }, toks := tk } := by
 refine wpAny_pyIter_range (IsRange.new ..) (small_one h1 h2 h3 h4) ?_
 have I1 : Inv X pins σ H { s with heap := s.heap.push { cls := .type "range", data := .fields #[.int lo t, .int hi u, .int 1 v] }, toks := tk } := I.kept fun b o e => Heap.get?_push_of_some _ e
 refine ⟨(s.heap.push { cls := .type "range", data := .fields #[.int lo t, .int hi u, .int 1 v] }).objs.size, [(s.heap.push { cls := .type "range", data := .fields #[.int lo t, .int hi u, .int 1 v] }).objs.size], _, _, H, rfl,
  I1.kept (t' := tk) fun b o e => Heap.get?_push_of_some _ e, qb _ lo (hi - lo).toNat, ?_, fun b hb => ?_, q⟩
 ·have e1 : lo + ((0 : Nat) : Int) * 1 = lo := by simp
  have e2 : (((hi - lo).toNat : Nat) : Int) - ((0 : Nat) : Int) = Builtin.Range.rangeSize lo hi 1 := by rw [rangeSize_one]; split <;> omega
  show IsRangeIter _ _ (lo + ((0 : Nat) : Int) * 1) ((((hi - lo).toNat : Nat) : Int) - ((0 : Nat) : Int)) 1
  rw [e1, e2]
  exact Heap.get?_push_size _ rfl
 ·have e : b = (s.heap.push { cls := .type "range", data := .fields #[.int lo t, .int hi u, .int 1 v] }).objs.size := by simpa using hb
  subst e
  exact I1.fpOk (Nat.le_refl _) (I1.hok.fresh (Nat.le_refl _))
noncomputable def CP (ta : TA) : TI := fun σ H R => ta σ H fun vs H1 => ∃ j : Int, vs = [.int j] /\ -(2 ^ 62) <= j /\ j < 2 ^ 62 /\ R (Itr 0 j.toNat) H1
theorem rq {a : Expr} {ta : TA} {p pos : Pos} (hg : Gl X "range") (hm : X.mg "range" = none) (ha : PA X [a] ta) (hs : starEach [a] X.env = [(false, eval a X.env)] := by rfl) : PI X tg (.Call (.Name "range" p) [a] [] pos) (CP ta) := by
 intro pins s σ H R I h
 refine Call_ (iF I hg hm boot_range (PyProof.Rows.callWith_type1 (thn (ha pos pins s σ H _ I h) fun us s1 ⟨vs, H1, I1, r1, q1⟩ => ?_) hs rfl))
 obtain ⟨j, e, q1, q2, q⟩ := q1
 subst e
 cases r1 with
 |
  cons r rr =>
  cases rr
  obtain ⟨t, rfl⟩ := r
  exact call_range_1 (uj I1 (by omega) (by omega) q1 q2 (by simpa using q))
noncomputable def tFor (wi : TI) (g : TG) (tb : TS) : TS := fun D σ H => wi σ H fun J H1 => ∃ W : Nat -> Nat -> St -> Hp -> Prop, (∃ m, W 0 m σ H1) /\ ∀ i m σ H, W i m σ H ->
 (J.stop i H /\ D.nx σ H) \/ (J.go i H /\ ∃ N : St -> Hp -> Prop, (∀ σ' H', N σ' H' -> ∃ m', m' < m /\ W (i + 1) m' σ' H') /\ ∀ x H', J.yld i H x H' -> g x σ H' fun σ2 H2 => tb { D with nx := N, ct := N, bk := D.nx } σ2 H2)
noncomputable def gf (fp : List Addr) (h : Heap) : List (Addr × Obj) := fp.filterMap fun b => (h.get? b).map fun o => (b, o)
theorem cV {fp : List Addr} {h : Heap} {b : Addr} {o : Obj} (hb : b ∈ fp) (e : h.get? b = some o) : (b, o) ∈ gf fp h := List.mem_filterMap.mpr ⟨b, hb, by rw [e]; rfl⟩
theorem rS {fp : List Addr} {h : Heap} {p : Addr × Obj} (hp : p ∈ gf fp h) : p.1 ∈ fp /\ h.get? p.1 = some p.2 := by
 obtain ⟨b, hb, e⟩ := List.mem_filterMap.mp hp
 cases q : h.get? b with
 | none => rw [q] at e; cases e
 |
  some o =>
  rw [q] at e
  have e' : (b, o) = p := Option.some.inj e
  subst e'
  exact ⟨hb, q⟩
theorem Inv.pinned {pins : List (Addr × Obj)} {σ : St} {H : Hp} {s : Shared} {fp : List Addr} (I : Inv X pins σ H s) (hf : ∀ b ∈ fp, FpOk X pins H b) (ho : ∀ b ∈ fp, ∃ o, s.heap.get? b = some o /\ ∀ v, o.data ≠ .cell v) : Inv X (pins ++ gf fp s.heap) σ H s :=
 I.pins_of fun p hp => (List.mem_append.mp hp).elim (fun z => I.pin p (List.mem_append_right _ z)) fun z => by
  obtain ⟨hb, e⟩ := rS z
  obtain ⟨f0, f1, f2, _⟩ := hf p.1 hb
  obtain ⟨o, e', d⟩ := ho p.1 hb
  rw [e] at e'; cases e'
  exact ⟨e, f0, f1, f2, d⟩
theorem Inv.unpinned {pins pl : List (Addr × Obj)} {σ : St} {H : Hp} {s : Shared} (I : Inv X (pins ++ pl) σ H s) : Inv X pins σ H s := I.pins_of fun p hp => I.pin p (List.mem_append_right _ (List.mem_append_left _ hp))
theorem yI {iter : Expr} {body : List Stmt} {wi : TI} {g : TG} {tb : TS} {pos : Pos} (hp : PassesOwn (model X.prog X.w) X.A X.env X.xe) (hc : X.calm = true) (hi : PI X tg iter wi) (hg : PG X tg g) (hb : PSs X body tb)
  (hs : ∀ x, foldedSetIterable iter X.env x = pure x := by intro _; rfl) : PS X (.For tg iter body [] pos) (tFor wi g tb) := by
 intro pins s σ H D I h
 refine wpAny_For (thn (hi pins s σ H _ I h) fun v s1 h1 => thn h1 fun itv s2 h2 => ?_) hs
 obtain ⟨it, fp, tn, J, H2, e, I2, T, st2, f2, W, ⟨m0, w0⟩, turn⟩ := h2
 subst e
 have stat : ∀ {H' : Hp}, (∀ b ∈ fp, H' b = none) -> ∀ b ∈ fp, FpOk X pins H' b := fun hn b hb => ⟨hn b hb, (f2 b hb).2⟩
 refine codeAny_forLoop_any (fun n s' => ∃ i σ' H', Inv X pins σ' H' s' /\ tn i s'.heap /\ (∀ b ∈ fp, H' b = none) /\ W i n σ' H') ?_ m0 ⟨0, σ, H2, I2, st2, fun b hb => (f2 b hb).1, w0⟩
 rintro n s3 ⟨i, σ3, H3, I3, st3, fr3, w3⟩
 rcases turn i n σ3 H3 w3 with ⟨stop, qn⟩ | ⟨go, N, hN, step⟩
 ·refine wpAny_passesOwn hp (thn (T.done X rfl rfl rfl hc i pins s3 σ3 H3 X.xe I3 (stat fr3) st3 stop) fun r s4 ⟨hr, I4⟩ => ?_)
  subst hr
  exact wpAny_execs_nil ⟨σ3, H3, I4, qn⟩
 ·refine wpAny_passesOwn hp (thn (T.item X rfl rfl rfl hc i pins s3 σ3 H3 X.xe I3 (stat fr3) st3 go) fun r s4 ⟨u, hr, h4⟩ => ?_)
  subst hr
  refine wpAny_passesOwn hp (thn h4 fun _ s5 ⟨x, H5, I5, r5, y5, st5, fr5⟩ => ?_)
  have I5' := I5.pinned (stat fr5) (T.obj _ _ st5)
  refine wpAny_passesOwn hp (thn (hg _ s5 σ3 H5 x u _ I5' r5 (step x H5 y5)) fun _ s6 ⟨σ6, H6, I6, q6⟩ => ?_)
  refine wpAny_passesOwn hp (thn (hb _ s6 σ6 H6 _ I6 q6) fun f s7 q7 => ?_)
  have again : ∀ {σ7 : St} {H7 : Hp}, Inv X (pins ++ gf fp s5.heap) σ7 H7 s7 -> N σ7 H7 -> ∃ m, m < n /\ ∃ i σ' H', Inv X pins σ' H' s7 /\ tn i s7.heap /\ (∀ b ∈ fp, H' b = none) /\ W i m σ' H' := fun {σ7 H7} I7 n7 => by
   obtain ⟨m', hm, w7⟩ := hN σ7 H7 n7
   refine ⟨m', hm, i + 1, σ7, H7, I7.unpinned, T.keep _ _ _ st5 fun b hb o e => (I7.pin (b, o) (List.mem_append_right _ (List.mem_append_right _ (cV hb e)))).1, fun b hb => ?_, w7⟩
   obtain ⟨o, e, d⟩ := T.obj _ _ st5 b hb
   exact (I7.pin (b, o) (List.mem_append_right _ (List.mem_append_right _ (cV hb e)))).2.1
  cases f with
  | next => obtain ⟨σ7, H7, I7, n7⟩ := q7; exact again I7 n7
  | cont => obtain ⟨σ7, H7, I7, n7⟩ := q7; exact again I7 n7
  | brk => obtain ⟨σ7, H7, I7, q7⟩ := q7; exact ⟨σ7, H7, I7.unpinned, q7⟩
  | ret v => obtain ⟨x7, σ7, H7, I7, r7, q7⟩ := q7; exact ⟨x7, σ7, H7, I7.unpinned, r7, q7⟩
end
end L2
namespace L2
open PySem PySem.Spec PyProof.Rows
abbrev R2 := V -> V -> Hp -> VK -> Prop
noncomputable def OpR (X : Cx) (f : Value -> Value -> Sem Value) (r : R2) : Prop :=
 ∀
  (pins : List (Addr × Obj)) (s : Shared) (σ : St) (H : Hp) (x y : V) (v u : Value) (Q : VK), Inv X pins σ H s -> RelV x v -> RelV y u -> r x y H Q ->
  wpAny (model X.prog X.w) X.A (f v u) (EP X pins σ Q) X.xe s
noncomputable def UnR (X : Cx) (f : Value -> Sem Value) (r : V -> Hp -> VK -> Prop) : Prop :=
 ∀
  (pins : List (Addr × Obj)) (s : Shared) (σ : St) (H : Hp) (x : V) (v : Value) (Q : VK), Inv X pins σ H s -> RelV x v -> r x H Q ->
  wpAny (model X.prog X.w) X.A (f v) (EP X pins σ Q) X.xe s
noncomputable def CallR (X : Cx) (f : Value) (r : List V -> Hp -> VK -> Prop) : Prop :=
 ∀
  (pins : List (Addr × Obj)) (s : Shared) (σ : St) (H : Hp) (xs : List V) (us : List Value) (Q : VK), Inv X pins σ H s -> Vals xs us -> r xs H Q ->
  wpAny (model X.prog X.w) X.A (call f us) (EP X pins σ Q) X.xe s
noncomputable def tOp (r : R2) (ta tb : TE) : TE := fun σ H Q => ta σ H fun x H1 => tb σ H1 fun y H2 => r x y H2 Q
noncomputable def tUn (r : V -> Hp -> VK -> Prop) (ta : TE) : TE := fun σ H Q => ta σ H fun x H1 => r x H1 Q
noncomputable def rI (C : Int -> Int -> Prop) (g : Int -> Int -> V) : R2 := fun x y H Q => ∃ i j, x = .int i /\ y = .int j /\ C i j /\ Q (g i j) H
noncomputable def rI0 (g : Int -> Int -> V) : R2 := fun x y H Q => ∃ i j, x = .int i /\ y = .int j /\ Q (g i j) H
noncomputable def rU (g : Int -> V) : V -> Hp -> VK -> Prop := fun x H Q => ∃ i, x = .int i /\ Q (g i) H
section
variable {X : Cx} {a b c : Expr} {ta tb tc : TE} {pos : Pos}
theorem uL (ha : PE X a ta) (hb : PE X b tb) {pins : List (Addr × Obj)} {s : Shared} {σ : St} {H : Hp} {R : V -> V -> Hp -> Prop} (I : Inv X pins σ H s)
  (h : ta σ H fun x H1 => tb σ H1 fun y H2 => R x y H2) {Q : Value -> Shared -> Prop} {f : Value -> Value -> Sem Value}
  (hf : ∀ v u s2 x y H2, Inv X pins σ H2 s2 -> RelV x v -> RelV y u -> R x y H2 -> wpAny (model X.prog X.w) X.A (f v u) Q X.xe s2) :
  wpAny (model X.prog X.w) X.A (eval a X.env) (fun v s₁ => wpAny (model X.prog X.w) X.A (eval b X.env) (fun u s₂ => wpAny (model X.prog X.w) X.A (f v u) Q X.xe s₂) X.xe s₁) X.xe s := by
 refine thn (ha pins s σ H _ I h) fun v s1 ⟨x, H1, I1, r1, q1⟩ => ?_
 refine thn (hb pins s1 σ H1 _ I1 q1) fun u s2 ⟨y, H2, I2, r2, q2⟩ => ?_
 exact hf v u s2 x y H2 I2 r1 r2 q2
theorem D2 {op : Operator} {r : R2} (ho : OpR X (binaryOp op) r) (ha : PE X a ta) (hb : PE X b tb) : PE X (.BinOp a op b pos) (tOp r ta tb) := by
 intro pins s σ H Q I h
 exact wpAny_BinOp (uL ha hb I h fun v u s2 x y H2 I2 rx ry q => ho pins s2 σ H2 x y v u Q I2 rx ry q)
theorem DC {op : UnaryOp} {r : V -> Hp -> VK -> Prop} (ho : UnR X (unaryOp op) r) (ha : PE X a ta) : PE X (.UnaryOp op a pos) (tUn r ta) := by
 intro pins s σ H Q I h
 exact UnaryOp_ (thn (ha pins s σ H _ I h) fun v s1 ⟨x, H1, I1, r1, q1⟩ => ho pins s1 σ H1 x v Q I1 r1 q1)
theorem opI {f : Value -> Value -> Sem Value} {C : Int -> Int -> Prop} {g : Int -> Int -> Int}
  (rule : ∀ (i j : Int) (t u : Tok) (s : Shared) (Q : Value -> Shared -> Prop) (E : Value -> Shared -> Prop), C i j -> Q (.int (g i j) s.toks) { s with toks := s.toks + 1 } -> wpAny (model X.prog X.w) X.A (f (.int i t) (.int j u)) Q E s) :
  OpR X f (rI C fun i j => .int (g i j)) := by
 intro pins s σ H x y v u Q I rx ry h
 obtain ⟨i, j, rfl, rfl, hc, q⟩ := h
 obtain ⟨t, rfl⟩ := rx
 obtain ⟨t', rfl⟩ := ry
 exact rule i j t t' s _ _ hc ⟨.int (g i j), H, I.tok _, ⟨_, rfl⟩, q⟩
theorem opI0 {f : Value -> Value -> Sem Value} {g : Int -> Int -> Int}
  (rule : ∀ (i j : Int) (t u : Tok) (s : Shared) (Q : Value -> Shared -> Prop) (E : Value -> Shared -> Prop), Q (.int (g i j) s.toks) { s with toks := s.toks + 1 } -> wpAny (model X.prog X.w) X.A (f (.int i t) (.int j u)) Q E s) :
  OpR X f (rI0 fun i j => .int (g i j)) := by
 intro pins s σ H x y v u Q I rx ry h
 obtain ⟨i, j, rfl, rfl, q⟩ := h
 obtain ⟨t, rfl⟩ := rx
 obtain ⟨t', rfl⟩ := ry
 exact rule i j t t' s _ _ ⟨.int (g i j), H, I.tok _, ⟨_, rfl⟩, q⟩
theorem u6 {f : Value -> Value -> Sem Value} {g : Int -> Int -> Bool}
  (rule : ∀ (i j : Int) (t u : Tok) (s : Shared) (Q : Value -> Shared -> Prop) (E : Value -> Shared -> Prop), Q (.bool (g i j)) s -> wpAny (model X.prog X.w) X.A (f (.int i t) (.int j u)) Q E s) :
  OpR X f (rI0 fun i j => .bl (g i j)) := by
 intro pins s σ H x y v u Q I rx ry h
 obtain ⟨i, j, rfl, rfl, q⟩ := h
 obtain ⟨t, rfl⟩ := rx
 obtain ⟨t', rfl⟩ := ry
 exact rule i j t t' s _ _ ⟨.bl (g i j), H, I, rfl, q⟩
noncomputable def kI (i j : Int) : Prop := 0 <= j /\ j <= 1000000 /\ i.natAbs < 2 ^ 64
noncomputable def CMul (i j : Int) : Prop := (-(2 ^ 64) < i /\ i < 2 ^ 64) \/ (-(2 ^ 64) < j /\ j < 2 ^ 64)
theorem CMul.ok {i j : Int} (h : CMul i j) : IntMulOk i j := by
 rcases h with ⟨h1, h2⟩ | ⟨h1, h2⟩
 ·exact .of_left (intBits_le_64 h1 h2)
 ·exact .of_right (intBits_le_64 h1 h2)
theorem yH : OpR X (binaryOp .Add) (rI0 fun i j => .int (i + j)) := opI0 fun _ _ _ _ _ _ _ q => add_int q
theorem rO : OpR X (binaryOp .Sub) (rI0 fun i j => .int (i - j)) := opI0 fun _ _ _ _ _ _ _ q => sub_int q
theorem zD : OpR X (binaryOp .Mult) (rI CMul fun i j => .int (i * j)) := opI fun _ _ _ _ _ _ _ hc q => mul_int q hc.ok
theorem bT : OpR X (binaryOp .Mod) (rI (fun _ j => j ≠ 0) fun i j => .int (i.fmod j)) := opI fun _ _ _ _ _ _ _ hc q => mod_int' hc q
theorem sx : OpR X (binaryOp .Pow) (rI kI fun i j => .int (i ^ j.toNat)) := opI fun _ _ _ _ _ _ _ hc q => pow_int_small hc.1 hc.2.1 hc.2.2 q
theorem unI {f : Value -> Sem Value} {g : Int -> Int}
  (rule : ∀ (i : Int) (t : Tok) (s : Shared) (Q : Value -> Shared -> Prop) (E : Value -> Shared -> Prop), Q (.int (g i) s.toks) { s with toks := s.toks + 1 } -> wpAny (model X.prog X.w) X.A (f (.int i t)) Q E s) :
  UnR X f (rU fun i => .int (g i)) := by
 intro pins s σ H x v Q I rx h
 obtain ⟨i, rfl, q⟩ := h
 obtain ⟨t, rfl⟩ := rx
 exact rule i t s _ _ ⟨.int (g i), H, I.tok _, ⟨_, rfl⟩, q⟩
theorem rB : UnR X (unaryOp .USub) (rU fun i => .int (-i)) := unI fun _ _ _ _ _ q => neg_int q
end
section
variable {X : Cx} {a b c : Expr} {ta tb tc : TE} {pos : Pos}
theorem rD {pins : List (Addr × Obj)} {σ : St} {H : Hp} {s : Shared} {Q : VK} {k k' : Bool} (I : Inv X pins σ H s) (q : Q (.bl k) H) (e : k = k') : EP X pins σ Q (.bool k') s := by
 subst e
 exact ⟨.bl k, H, I, rfl, q⟩
theorem lY : OpR X (compareOp .Lt) (rI0 fun i j => .bl (decide (i < j))) := u6 fun _ _ _ _ _ _ _ q => lt_int q
theorem iI : OpR X (compareOp .Gt) (rI0 fun i j => .bl (decide (j < i))) := u6 fun _ _ _ _ _ _ _ q => gt_int q
theorem vT : OpR X (compareOp .GtE) (rI0 fun i j => .bl (decide (j <= i))) := u6 fun _ _ _ _ _ _ _ q => ge_int q
theorem OpR.or {f : Value -> Value -> Sem Value} {r r' : R2} (h : OpR X f r) (h' : OpR X f r') : OpR X f (fun x y H Q => r x y H Q \/ r' x y H Q) := by
 intro pins s σ H x y v u Q I rx ry q
 rcases q with q | q
 ·exact h pins s σ H x y v u Q I rx ry q
 ·exact h' pins s σ H x y v u Q I rx ry q
theorem aJ (b : Expr) {op : CmpOp} (h : op ≠ .In := by decide) (h2 : op ≠ .NotIn := by decide) : behindInMarks op b = false := by
 have e1 : (op == CmpOp.In) = false := by cases op <;> first | rfl | exact absurd rfl h
 have e2 : (op == CmpOp.NotIn) = false := by cases op <;> first | rfl | exact absurd rfl h2
 cases b <;> simp [behindInMarks, e1, e2]
theorem xG {op : CmpOp} {r : R2} (ho : OpR X (compareOp op) r) (ha : PE X a ta) (hb : PE X b tb) (hm : behindInMarks op b = false) : PE X (.Compare a [op] [b] pos) (tOp r ta tb) := by
 intro pins s σ H Q I h
 exact wpAny_Compare1 (uL ha hb I h fun v u s2 x y H2 I2 rx ry q => ho pins s2 σ H2 x y v u Q I2 rx ry q) hm
noncomputable def Cp (t : TE) : TT := fun σ H Q => t σ H fun x H' => ∃ k, x = .bl k /\ Q k H'
theorem wA {op : CmpOp} {r : R2} (ho : OpR X (compareOp op) r) (ha : PE X a ta) (hb : PE X b tb) (hm : behindInMarks op b = false) : PT X (.Compare a [op] [b] pos) (Cp (tOp r ta tb)) := by
 intro pins s σ H Q I h
 refine wpAny_isTrue_Compare1 (thn (ha pins s σ H _ I h) fun v s1 ⟨x, H1, I1, r1, q1⟩ => thn (hb pins s1 σ H1 _ I1 q1) fun u s2 ⟨y, H2, I2, r2, q2⟩ =>
  thn (ho pins s2 σ H2 x y v u _ I2 r1 r2 q2) fun c s3 ⟨z, H3, I3, r3, k, e, q3⟩ => ?_) hm
 subst e
 cases r3
 exact wpAny_truthy_bool ⟨H3, I3, q3⟩
theorem ig : (sizeLine : Nat) < 2 ^ 63 := by rw [sizeLine_eq]; decide
theorem iY {x : V} {us : List Value} (r : Vals [x] us) : ∃ u, us = [u] /\ RelV x u := by
 cases r with
 | cons r1 r2 => cases r2; exact ⟨_, rfl, r1⟩
theorem vP {x y : V} {us : List Value} (r : Vals [x, y] us) : ∃ u w', us = [u, w'] /\ RelV x u /\ RelV y w' := by
 cases r with
 |
  cons r1 r2 =>
  cases r2 with
  | cons r3 r4 => cases r4; exact ⟨_, _, rfl, r1, r3⟩
theorem jw : CallR X (.builtin "abs") (fun xs H Q => ∃ i, xs = [.int i] /\ Q (.int (if i < 0 then -i else i)) H) := by
 intro pins s σ H xs us Q I r h
 obtain ⟨i, rfl, q⟩ := h
 obtain ⟨u, rfl, t, rfl⟩ := iY r
 exact call_abs_int fun u tk => ⟨.int (if i < 0 then -i else i), H, I.tok _, ⟨_, rfl⟩, q⟩
end
end L2
namespace L2
open PySem PySem.Spec PyProof.Rows
structure ObjM (h : Heap) (x dx C : Addr) (mA : Str -> Option Value) : Prop where
 obj : h.get? x = some (PySem.W.instObj C dx)
 ns : h.Ns1 dx mA
 ne : dx ≠ x
theorem qT {h : Heap} {dx : Addr} {mA : Str -> Option Value} (n : h.Ns1 dx mA) : ∃ od, h.get? dx = some od /\ ∀ name, PySem.W.lookIn name od = some (mA name) := by
 obtain ⟨o, es, ep, ho, hd, hk, _, hm⟩ := n
 refine ⟨o, ho, fun name => ?_⟩
 have e := hm name
 unfold nsFind findBy at e
 rw [<- Array.find?_toList] at e
 unfold PySem.W.lookIn
 rw [hd]
 dsimp only
 split
 ·rename_i y q
  rw [q] at e
  exact congrArg some e
 ·rename_i q
  rw [q] at e
  have a : es.toList.any (·.refKey) = false := by
   rw [List.any_eq_false]
   intro y hy
   obtain ⟨z, t, hkey⟩ := hk y (Array.mem_toList_iff.mp hy)
   simp [DictEntry.refKey, hkey]
  have a' : ¬ es.toList.any (·.refKey) = true := by rw [a]; exact Bool.false_ne_true
  rw [if_neg a']
  exact congrArg some e
theorem ObjM.look {h : Heap} {x dx C : Addr} {mA : Str -> Option Value} (I : ObjM h x dx C mA) : ∃ od, PySem.W.InstAt h x (PySem.W.instObj C dx) C (some od) /\ ∀ name, PySem.W.lookIn name od = some (mA name) :=
 let ⟨od, ho, hl⟩ := qT I.ns
 ⟨od, ⟨I.obj, rfl, rfl, ho⟩, hl⟩
section
variable {prog : Program} {w : World} {A : Around} {E : Value -> Shared -> Prop} {s : Shared} {K : PySem.W.Frag} {x dx C f : Addr} {mA : Str -> Option Value} {name : Str} {v : Value}
end
theorem RelO.some_of {v : V} {o : Option Value} (r : RelO (some v) o) : ∃ u, o = some u /\ RelV v u := by
 cases o with
 | none => exact (show False from r).elim
 | some u => exact ⟨u, rfl, r⟩
section
variable {P : Program} {w : World} {H H' : Hp} {h h' : Heap} {a C dx : Addr} {fs fs' : List (Str × V)}
theorem xq (hok : HOk P w H h) (e : H a = some (.ins C dx fs)) : ∃ mA, ObjM h a dx C mA /\ (∀ f, RelO (fs.lookup f) (mA f)) /\ PySem.Within mA (fs.map (·.1)) /\ fs.length <= 1000 /\ H dx = some (.own a) := by
 obtain ⟨d, z, ne, ob, mA, n, r, q⟩ := (show ObjOk P w H h a (.ins C dx fs) from hok a _ e)
 exact ⟨mA, ⟨ob, n, ne⟩, r, q, z, d⟩
end
structure Cls (K : PySem.W.Frag) (C : Addr) : Prop where
 pg : PySem.W.plainGet K C Str.empty = true
 hd : PySem.W.hasDictIn K C = true
 po : PySem.W.plainOver K C = true
 sa : PySem.W.findIn K (.ref C) "__setattr__" = some (some (.builtin "object.__setattr__"))
theorem Cls.get {K : PySem.W.Frag} {C : Addr} (c : Cls K C) (f : Str) : PySem.W.plainGet K C f = true := c.pg
structure Con (K : PySem.W.Frag) (C : Addr) (f : Str) (v : V) (u : Value) : Prop where
 at_ : PySem.W.findIn K (.ref C) f = some (some u)
 rel : RelV v u
 get : PySem.W.specialIn K u "__get__" = some none
 cp : PySem.W.copiedNames.contains f = false
structure Meth (K : PySem.W.Frag) (C : Addr) (m : Str) (f : Addr) : Prop where
 at_ : PySem.W.findIn K (.ref C) m = some (some (.ref f))
 fn : PySem.W.isFn K (.ref f) = true
 kp : PySem.W.keepIn K (.ref f) = true
section
variable {X : Cx} {pins : List (Addr × Obj)} {σ : St} {H : Hp} {s : Shared} {a C dx : Addr} {fs : List (Str × V)} {f : Str} {v : V} {A : Around} {E : Value -> Shared -> Prop}
end
section
variable {X : Cx} {o e value : Expr} {f : Str} {pos pos' tpos : Pos} {ta tv : TE}
end
section
variable {X : Cx} {pins : List (Addr × Obj)} {σ : St} {H : Hp} {s : Shared} {A : Around} {E : Value -> Shared -> Prop} {Q : Value -> Shared -> Prop} {c : Value} {b : Bool}
inductive TyOf (K : PySem.W.Frag) (H : Hp) : V -> Value -> Prop where
 | non : TyOf K H .non (.type "NoneType")
 | bl (x : Bool) : TyOf K H (.bl x) (.type "bool")
 | int (i : Int) : TyOf K H (.int i) (.type "int")
 | str (x : Str) : TyOf K H (.str x) (.type "str")
 | flt (x : UInt64) : TyOf K H (.flt x) (.type "float")
 | lst {a : Addr} {xs : List V} (e : H a = some (.lst xs)) : TyOf K H (.ref a) (.type "list")
 | frz {a : Addr} {o : Obj} {xs : List V} (e : H a = some (.frz o (.lst xs))) : TyOf K H (.ref a) (.type "list")
 | tup {a : Addr} {xs : List V} (e : H a = some (.tup xs)) : TyOf K H (.ref a) (.type "tuple")
 | dK {a : Addr} {kvs : List (Key × V)} (e : H a = some (.dK kvs)) : TyOf K H (.ref a) (.type "dict")
 | dT {a : Addr} {kvs : List (List Key × V)} (e : H a = some (.dT kvs)) : TyOf K H (.ref a) (.type "dict")
 | ins {a C dx : Addr} {fs : List (Str × V)} (e : H a = some (.ins C dx fs)) (cl : Cls K C) (ha : PySem.W.findIn K (.ref C) "__class__" = some (some (.builtin "object.__class__")))
   (hn : PySem.W.specialIn K (.builtin "object.__class__") "__get__" = some (some (.builtin "getset_descriptor.__get__"))) (htk : PySem.W.takesIn K (.builtin "object.__class__") = some true)
   (hm : PySem.W.mroIn K C (.type "object") = some true) : TyOf K H (.ref a) (.ref C)
end
end L2
namespace L2
open PySem PySem.Spec PyProof.Rows
structure Room (k : Nat) (A : Around) : Prop where
 hd : A.handled = none
 dp : A.depth + 3 * k + 5 < recursionLimit
 un : A.units + 16 * k + 200 < cLine
theorem Room.mono {j k : Nat} {A : Around} (r : Room k A) (h : j <= k) : Room j A := ⟨r.hd, by have := r.dp; omega, by have := r.un; omega⟩
theorem Room.deeper {k : Nat} {A : Around} (r : Room (k + 1) A) (env : Env) : Room k (A.deeper env) :=
 ⟨r.hd, by have := r.dp; show A.depth + 1 + 3 * k + 5 < _; omega, by have := r.un; show A.units + 3 + 16 * k + 200 < _; omega⟩
theorem Room.depth {k : Nat} {A : Around} (r : Room k A) : A.depth < recursionLimit := by have := r.dp; omega
theorem Room.units {k : Nat} {A : Around} (r : Room k A) : A.units + 64 < cLine := by have := r.un; omega
noncomputable def tNil : TA := fun _ H Q => Q [] H
noncomputable def Ci (ta : TE) (tr : TA) : TA := fun σ H Q => ta σ H fun x H1 => tr σ H1 fun xs H2 => Q (x :: xs) H2
section
variable {X : Cx} {e : Expr} {es : List Expr} {te : TE} {t : TA} {pos : Pos}
theorem yr : PA X [] tNil := fun _ _ _ _ H Q I h => Calls.spliced_nil ⟨[], H, I, .nil, h⟩
theorem wJ (ha : PE X e te) (hr : PA X es t) (hs : starEach (e :: es) X.env = (false, eval e X.env) :: starEach es X.env := by rfl) : PA X (e :: es) (Ci te t) := by
 intro pos pins s σ H Q I h
 rw [hs]
 show wpAny _ _ (spliced ((false, eval e X.env) :: backTo pos (starEach es X.env))) _ _ s
 refine Calls.spliced_cons (thn (ha pins s σ H _ I h) fun u s1 ⟨x, H1, I1, r1, q1⟩ => ?_)
 exact thn (hr pos pins s1 σ H1 _ I1 q1) fun us s2 ⟨xs, H2, I2, r2, q2⟩ => ⟨x :: xs, H2, I2, .cons r1 r2, q2⟩
noncomputable def tTup (t : TA) : TE := fun σ H Q => t σ H fun xs H1 => xs.length <= sizeLine /\ ∀ p, H1 p = none -> Q (.ref p) (upd H1 p (.tup xs))
noncomputable def tLst (t : TA) : TE := fun σ H Q => t σ H fun xs H1 => xs.length <= sizeLine /\ ∀ p, H1 p = none -> Q (.ref p) (upd H1 p (.lst xs))
theorem AB {x1} (h : PA X es t) : PE X (.Tuple es x1 pos) (tTup t) := by
 intro pins s σ H Q I hq
 refine wpAny_Tuple_spliced (thn (h pos pins s σ H _ I hq) fun us s1 ⟨xs, H1, I1, r, z, q⟩ => ⟨by rw [<- r.length]; exact z, ?_⟩)
 have hf : H1 s1.heap.objs.size = none := I1.hok.fresh (Nat.le_refl _)
 refine ⟨.ref s1.heap.objs.size, upd H1 s1.heap.objs.size (.tup xs), I1.laid (t' := s1.toks) (fun b u e => Heap.get?_push_of_some _ e) (Nat.le_refl _) ?_, rfl, q _ hf⟩
 exact ⟨z, us, r, ⟨_, Heap.get?_push_size _ rfl, rfl, _, rfl⟩⟩
theorem AD (h : PA X es t) : PE X (.List es pos) (tLst t) := by
 intro pins s σ H Q I hq
 refine wpAny_List_spliced (thn (h pos pins s σ H _ I hq) fun us s1 ⟨xs, H1, I1, r, z, q⟩ => ⟨by rw [<- r.length]; exact z, ?_⟩)
 have hf : H1 s1.heap.objs.size = none := I1.hok.fresh (Nat.le_refl _)
 refine ⟨.ref s1.heap.objs.size, upd H1 s1.heap.objs.size (.lst xs), I1.laid (t' := s1.toks) (fun b u e => Heap.get?_push_of_some _ e) (Nat.le_refl _) ?_, rfl, q _ hf⟩
 exact ⟨z, us, 0, r, Heap.get?_push_size _ rfl⟩
end
abbrev Sp := List V -> Hp -> VK -> XK -> Prop
abbrev CXT := List Env -> Hp -> Shared -> XK -> Value -> Shared -> Prop
structure Env0 (P : Program) (w : World) (K : PySem.W.Frag) (mg : Str -> Option Value) (base : Heap) (A : Around) (outer : List Env) (s : Shared) (H : Hp) : Prop where
 frames : A.frames = some outer
 mod : Mod K mg base
 bs : ∀ b o, base.get? b = some o -> s.heap.get? b = some o /\ H b = none
 bsz : base.objs.size <= s.heap.objs.size
 funs : s.heap.FunFrames base outer
 frf : ∀ b ∈ frs outer, H b = none
 hok : HOk P w H s.heap
 bare : AllBare s.gens
noncomputable def CE (outer : List Env) (P : Program) (w : World) (H : Hp) (s : Shared) (Q : VK) (u : Value) (s' : Shared) : Prop :=
 ∃ v H', s'.os = s.os /\ AllBare s'.gens /\ Un (frs outer) [] H H' s.heap s'.heap /\ HOk P w H' s'.heap /\ RelV v u /\ Q v H'
noncomputable def CR (CX : CXT) (outer : List Env) (P : Program) (w : World) (H : Hp) (s : Shared) (Q : VK) (E : XK) (r : Result) (s' : Shared) : Prop :=
 match r with
 | .ok (.ret u) => CE outer P w H s Q u s'
 | .ok _ => False
 | .error e => CX outer H s E e s'
structure FnOk (P : Program) (w : World) (K : PySem.W.Frag) (mg : Str -> Option Value) (base : Heap) (CX : CXT) (k : Nat) (f : Addr) (fd : FuncData) (ps : List Str) (sp : Sp) : Prop where
 len : ∀ vs H Q E, sp vs H Q E -> vs.length = ps.length
 run : ∀ (A : Around) (outer : List Env) (s : Shared) (H : Hp) (args : Args) (us : List Value) (vs : List V) (Q : VK) (E : XK), Room k A -> Env0 P w K mg base A outer s H -> BindsTo s fd args (ps.zip us) -> Vals vs us -> sp vs H Q E ->
  codeAny (model P w) A (.call (.ref f) args) (CR CX outer P w H s Q E) s
theorem FnOk.imp {P : Program} {w : World} {K : PySem.W.Frag} {mg : Str -> Option Value} {base : Heap} {CX : CXT} {k : Nat} {f : Addr} {fd : FuncData} {ps : List Str} {sp sp' : Sp} (F : FnOk P w K mg base CX k f fd ps sp)
  (h : ∀ vs H Q E, sp' vs H Q E -> sp vs H Q E) : FnOk P w K mg base CX k f fd ps sp' :=
 ⟨fun vs H Q E q => F.len vs H Q E (h _ _ _ _ q), fun A outer s H args us vs Q E hr he hb hv hs => F.run A outer s H args us vs Q E hr he hb hv (h _ _ _ _ hs)⟩
section
variable {X : Cx} {pins : List (Addr × Obj)} {σ : St} {H : Hp} {s s' : Shared}
theorem Inv.env0 (I : Inv X pins σ H s) : Env0 X.prog X.w X.K X.mg X.base X.A X.stack s H :=
 ⟨I.ok.frames, I.ok.mod, I.bs, Nat.le_trans I.ok.bsz I.sz, I.stack, I.stkFree, I.hok, I.bare⟩
theorem Inv.after {Q : VK} {u : Value} (I : Inv X pins σ H s) (h : CE X.stack X.prog X.w H s Q u s') : EP X pins σ Q u s' := by
 obtain ⟨v, H', os, bare, un, hok, r, q⟩ := h
 obtain ⟨hh, g, d, t, os'⟩ := s'
 obtain rfl : os' = s.os := os
 exact ⟨v, H', I.call (h' := hh) (g' := g) (d' := d) (t' := t) (ch := []) un hok bare (fun b z => absurd z (by simp)), r, q⟩
end
noncomputable def Binds (K : PySem.W.Frag) (fd : FuncData) (ps : List Str) (ds : List Value) : Prop :=
 ∀ (s : Shared) (us : List Value), K.In s.heap -> (us ++ ds).length = ps.length -> BindsTo s fd ⟨us, []⟩ (ps.zip (us ++ ds))
theorem Binds.all {K : PySem.W.Frag} {fd : FuncData} {ps : List Str} (h : ∀ us : List Value, us.length = ps.length -> bindArgs fd ⟨us, []⟩ = pure (ps.zip us)) : Binds K fd ps [] := fun s us _ hl => by
 rw [List.append_nil] at hl ⊢
 exact .of_eq (h us hl)
noncomputable def ny (CX : CXT) (X : Cx) (E : XK) : Prop := ∀ (pins : List (Addr × Obj)) (σ : St) (H : Hp) (s : Shared) (e : Value) (s' : Shared), Inv X pins σ H s -> CX X.stack H s E e s' -> X.xe e s'
section
variable {X : Cx} {CX : CXT} {k : Nat} {f C : Addr} {fd : FuncData} {ps : List Str} {sp : Sp} {dvs : List V} {ds : List Value} {E : XK} {x m : Str} {p pos apos : Pos} {e o : Expr} {es : List Expr} {ta : TE} {t : TA}
structure Mk (K : PySem.W.Frag) (C f : Addr) : Prop where
 makes : PySem.W.makesIn K C = true
 init : PySem.W.findIn K (.ref C) "__init__" = some (some (.ref f))
 fn : PySem.W.isFn K (.ref f) = true
 kp : PySem.W.keepIn K (.ref C) = true
end
section
variable {X : Cx} {CX : CXT} {k : Nat} {f C : Addr} {fd : FuncData} {ps ks : List Str} {sp : Sp} {E : XK} {x m : Str} {p pos apos kpos : Pos} {e o : Expr} {es : List Expr} {kws : List Keyword} {te ta : TE} {t tk : TA} {nm : Option Str}
structure KBinds (K : PySem.W.Frag) (fd : FuncData) (ps ks : List Str) (g : List Value -> List Value -> List Value) (gV : List V -> List V -> List V) : Prop where
 to : ∀ (s : Shared) (us ws : List Value), K.In s.heap -> (g us ws).length = ps.length -> BindsTo s fd ⟨us, ks.zip ws⟩ (ps.zip (g us ws))
 rel : ∀ {vs : List V} {us : List Value} {zs : List V} {ws : List Value}, Vals vs us -> Vals zs ws -> Vals (gV vs zs) (g us ws)
variable {g : List Value -> List Value -> List Value} {gV : List V -> List V -> List V}
end
structure FnScope (N P : List Str) (sc : Scope) : Prop where
 kind : sc.kind = .function
 co : sc.isCoroutine = false
 gen : sc.isGenerator = false
 nd : N.Nodup
 pre : N.take P.length = P
 par : ∀ x ∈ P, sc.names.lookup x = some .local \/ sc.names.lookup x = some .cell
 nofree : ∀ y ∈ sc.names, y.2 ≠ .free
theorem k8 {kindOf : Str -> Option NameKind} {x : Str} : ∀ {binds : List (Str × Value)} {m : Str -> Option Value}, (∀ v, (x, v) ∉ binds) -> bindL kindOf binds m x = m x
 | [], _, _ => rfl
 |
  (n, v) :: r, m, h => by
  unfold bindL
  rw [k8 fun w hw => h w (List.mem_cons_of_mem _ hw)]
  split
  ·have : x ≠ n := by rintro rfl; exact h v List.mem_cons_self
   simp [this]
  ·rfl
theorem lr {kindOf : Str -> Option NameKind} {x : Str} : ∀ {binds : List (Str × Value)} {m : Str -> Option Value}, (∀ v, (x, v) ∉ binds) -> bindC kindOf binds m x = m x
 | [], _, _ => rfl
 |
  (n, v) :: r, m, h => by
  unfold bindC
  rw [lr fun w hw => h w (List.mem_cons_of_mem _ hw)]
  split
  ·rfl
  ·have : x ≠ n := by rintro rfl; exact h v List.mem_cons_self
   simp [this]
theorem lp {kindOf : Str -> Option NameKind} {x : Str} {v : Value} : ∀ {P : List Str} {vs : List Value} {i : Nat} {m : Str -> Option Value}, P.Nodup -> P[i]? = some x -> vs[i]? = some v -> kindOf x = some .local ->
  bindL kindOf (P.zip vs) m x = some v
 | [], _, _, _, _, h, _, _ => by simp at h
 | _ :: _, [], _, _, _, _, h, _ => by simp at h
 |
  p :: P, w :: vs, 0, m, nd, h1, h2, hk => by
  simp at h1 h2; subst h1; subst h2
  show bindL kindOf ((p, w) :: P.zip vs) m p = _
  unfold bindL
  rw [k8 fun v hv => (List.nodup_cons.mp nd).1 (List.of_mem_zip hv).1, if_pos hk]
  simp
 |
  p :: P, w :: vs, i + 1, m, nd, h1, h2, hk => by
  show bindL kindOf ((p, w) :: P.zip vs) m x = _
  unfold bindL
  exact lp (i := i) (List.nodup_cons.mp nd).2 (by simpa using h1) (by simpa using h2) hk
theorem lb {kindOf : Str -> Option NameKind} {x : Str} {v : Value} : ∀ {P : List Str} {vs : List Value} {i : Nat} {m : Str -> Option Value}, P.Nodup -> P[i]? = some x -> vs[i]? = some v -> kindOf x ≠ some .local ->
  bindC kindOf (P.zip vs) m x = some v
 | [], _, _, _, _, h, _, _ => by simp at h
 | _ :: _, [], _, _, _, _, h, _ => by simp at h
 |
  p :: P, w :: vs, 0, m, nd, h1, h2, hk => by
  simp at h1 h2; subst h1; subst h2
  show bindC kindOf ((p, w) :: P.zip vs) m p = _
  unfold bindC
  rw [lr fun v hv => (List.nodup_cons.mp nd).1 (List.of_mem_zip hv).1, if_neg hk]
  simp
 |
  p :: P, w :: vs, i + 1, m, nd, h1, h2, hk => by
  show bindC kindOf ((p, w) :: P.zip vs) m x = _
  unfold bindC
  exact lb (i := i) (List.nodup_cons.mp nd).2 (by simpa using h1) (by simpa using h2) hk
noncomputable def dE (N : List Str) (vs : List V) : St := vs.map some ++ List.replicate (N.length - vs.length) none
noncomputable def dm (CX : CXT) (P : Program) (w : World) (K : PySem.W.Frag) (mg : Str -> Option Value) (base : Heap) (N : List Str) (qual : Str) (scope : Scope) (f : Addr) (cd : Value) (A : Around) (outer : List Env) (s : Shared) (H : Hp) (E : XK) : Cx where
 prog := P
 w := w
 K := K
 mg := mg
 base := base
 A := A.deeper (envOfC qual scope s.heap.objs.size f cd)
 N := N
 s₀ := s
 H₀ := H
 env := envOfC qual scope s.heap.objs.size f cd
 outer := outer
 stack := envOfC qual scope s.heap.objs.size f cd :: outer
 ex := []
 calm := true
 fn := fun _ => true
 pn := []
 xe := fun e s' => wpAny (model P w) (A.deeper (envOfC qual scope s.heap.objs.size f cd)) (leaving (envOfC qual scope s.heap.objs.size f cd) e) (fun _ s'' => CX outer H s E e s'') (fun e' s'' => CX outer H s E e' s'') s'
theorem mz {sc : Scope} {n : Nat} {x : Str} (h : sc.names.lookup x = some .cell) : ∃ c, (cellsFrom n sc.names []).lookup x = some c := by
 have q := PySem.W.cellsFrom_some sc.names n [] (.inl h)
 exact Option.isSome_iff_exists.mp q
theorem
    r9 {CX : CXT} {P : Program} {w : World} {K : PySem.W.Frag} {mg : Str -> Option Value} {base : Heap} {N ps : List Str} {qual : Str} {scope : Scope} {f : Addr} {cd : Value} {A : Around} {outer : List Env} {s s1 : Shared} {H : Hp} {E : XK} {us : List Value} {vs : List V}
  (S : FnScope N ps scope) (hd : A.handled = none) (e0 : Env0 P w K mg base A outer s H) (hl : vs.length = ps.length) (r : Vals vs us)
  (x : InCallC s s.heap.objs.size (bindL (envOfC qual scope s.heap.objs.size f cd).kindOf (ps.zip us) fun _ => none) (cellsFrom (s.heap.objs.size + 1) scope.names []) (bindC (envOfC qual scope s.heap.objs.size f cd).kindOf (ps.zip us) fun _ => none) s1) :
  Inv (dm CX P w K mg base N qual scope f cd A outer s H E) [] (dE N vs) H s1 := by
 have hpl : ps.length <= N.length := by have := congrArg List.length S.pre; rw [List.length_take] at this; omega
 obtain ⟨h1, tk, rfl, hk⟩ := x.done
 have noA : ∀ b : Addr, b ∉ (dm CX P w K mg base N qual scope f cd A outer s H E).ex := fun b z => absurd (show b ∈ ([] : List Addr) from z) (by simp)
 refine ⟨⟨e0.mod, S.kind, rfl, rfl, Nat.le_refl _, fun y z c h1 h2 => ?_, fun y hy => ?_, fun y c _ h => ?_, fun _ => hd, Around.frames_deeper e0.frames, .inr ⟨rfl, rfl⟩, fun b z => absurd z (noA b), e0.bs, e0.bsz, fun b _ _ => noA b, fun b z => absurd z (noA b), e0.funs, e0.frf⟩,
  rfl, e0.bare, Un.kept hk, ⟨_, x.toInCall.ns, fun i y v h1 h2 h3 => ?_⟩, fun y c h => ⟨_, x.cell y c h⟩, e0.hok.fresh (Nat.le_refl _), fun y c h => ?_, fun p hp => absurd (show p ∈ ([] : List (Addr × Obj)) from hp) (by simp), e0.hok.kept hk, ?_⟩
 ·exact name_of_addr x.apart (PySem.mem_of_lookup h1) (PySem.mem_of_lookup h2)
 ·have hy : scope.names.lookup y = some .cell \/ scope.names.lookup y = some .free := hy
  rcases hy with hy | hy
  ·exact mz hy
  ·exact absurd rfl (S.nofree _ (PySem.mem_of_lookup hy))
 ·exact Nat.le_of_lt (x.above y c (PySem.mem_of_lookup h))
 ·have hi : i < vs.length := by
   unfold dE at h2
   by_cases hi : i < vs.length
   ·exact hi
   ·rw [List.getElem?_append_right (by simpa using hi)] at h2
    rw [List.getElem?_replicate] at h2
    split at h2 <;> cases h2
  have ha : vs[i]? = some v := by
   unfold dE at h2
   rw [List.getElem?_append_left (by simpa using hi), List.getElem?_map] at h2
   cases e : vs[i]? with
   | none => rw [e] at h2; cases h2
   | some a => rw [e] at h2; cases h2; rfl
  obtain ⟨u, hu, rv⟩ := r.get ha
  have hp : ps[i]? = some y := by
   rw [<- S.pre, List.getElem?_take_of_lt (by omega)]; exact h1
  have ndP : ps.Nodup := by rw [<- S.pre]; exact S.nd.sublist (List.take_sublist _ _)
  refine ⟨u, rv, ?_⟩
  rcases S.par y (List.mem_of_getElem? hp) with k | k
  ·exact .inl ⟨k, lp ndP hp hu k⟩
  ·obtain ⟨c, e⟩ := mz (n := s.heap.objs.size + 1) k
   refine .inr ⟨.inl k, c, e, ?_⟩
   have q := x.cell y c e
   rw [lb ndP hp hu (by show scope.names.lookup y ≠ _; rw [k]; decide)] at q
   exact q
 ·exact e0.hok.fresh (Nat.le_of_lt (x.above y c (PySem.mem_of_lookup h)))
 ·unfold dE
  show _ = N.length
  rw [List.length_append, List.length_map, List.length_replicate]
  omega
theorem DU {CX : CXT} {P : Program} {w : World} {K : PySem.W.Frag} {mg : Str -> Option Value} {base : Heap} {k : Nat} {f : Addr} {name qual : Str} {params : Arguments} {body : List Stmt} {scope : Scope} {dV kV doc pm cdv ct oc : Value} {an od : Option Addr}
  {osl : Array (Option Value)} {N ps : List Str} {sp : Sp} (lk : K.lookup f = some ⟨oc, od, .func (PySem.W.fnOf name qual params body scope dV kV doc pm an cdv ct), osl⟩) (hcd : PySem.W.codeIn K cdv qual = true) (S : FnScope N ps scope)
  (len : ∀ vs H Q E, sp vs H Q E -> vs.length = ps.length)
  (hbody : ∀ (A : Around) (outer : List Env) (s : Shared) (H : Hp) (vs : List V) (Q : VK) (E : XK), Room k (A.deeper (envOfC qual scope s.heap.objs.size f cdv)) -> sp vs H Q E ->
   ∃ t, PSs (dm CX P w K mg base N qual scope f cdv A outer s H E) body t /\ t { nx := fun _ H' => Q .non H', rt := Q } (dE N vs) H) :
  FnOk P w K mg base CX (k + 1) f (PySem.W.fnOf name qual params body scope dV kV doc pm an cdv ct) ps sp := by
 refine ⟨len, fun A outer s H args us vs Q E hr e0 hb r hsp => ?_⟩
 have hl := len _ _ _ _ hsp
 have KX : K.In s.heap := e0.mod.kin.keeps fun b o e => (e0.bs b o e).1
 have lim : s.heap.NoLimit := e0.mod.nolimit.keeps fun b o e => (e0.bs b o e).1
 have hkind : ∀ y ∈ ps.zip us, scope.names.lookup y.1 = some .local \/ (scope.names.lookup y.1 = some .cell /\ ((cellsFrom (s.heap.objs.size + 1) scope.names []).lookup y.1).isSome = true) := fun ⟨n, v⟩ hy => by
  rcases S.par n (List.of_mem_zip hy).1 with q | q
  ·exact .inl q
  ·exact .inr ⟨q, PySem.W.cellsFrom_some _ _ _ (.inl q)⟩
 refine codeAny_call_function hr.depth (KX _ _ lk) rfl S.co S.gen rfl (PySem.W.codeRec_of KX hcd) (hb _ _ _ _ ?_)
 refine wpAny_newFunctionEnv_cells S.kind hkind fun env he s1 x => ?_
 subst he
 refine ⟨lim.keeps x.toInCall.keep, codeAny_func ?_⟩
 obtain ⟨t, ht, hq⟩ := hbody A outer s H vs Q E (hr.deeper _) hsp
 have I : Inv (dm CX P w K mg base N qual scope f cdv A outer s H E) [] (dE N vs) H s1 := r9 S hr.hd e0 hl r x
 refine wpAny_mono (ht [] s1 (dE N vs) H _ I hq) (fun fl s' hs => ?_) fun e s' hs => hs
 have fin : ∀ {σ' : St} {H' : Hp} {v : V} {u : Value}, Inv (dm CX P w K mg base N qual scope f cdv A outer s H E) [] σ' H' s' -> RelV v u -> Q v H' -> CE outer P w H s Q u s' :=
  fun {σ' H' v u} J rv q => ⟨v, H', J.os, J.bare, J.base, J.hok, rv, q⟩
 cases fl with
 |
  ret u =>
  obtain ⟨v, σ', H', J, rv, q⟩ := hs
  exact fin J rv q
 |
  next =>
  obtain ⟨σ', H', J, q⟩ := hs
  exact fin (v := V.non) (u := Value.none) J rfl q
 |
  brk =>
  obtain ⟨_, _, _, q⟩ := hs
  exact False.elim q
 |
  cont =>
  obtain ⟨_, _, _, q⟩ := hs
  exact False.elim q
end L2
namespace L2
open PySem PySem.Spec PyProof.Rows
section
variable {X : Cx} {x : Str} {p pos : Pos} {e : Expr} {es : List Expr} {t : TA} {id T : String} {r : List V -> Hp -> VK -> Prop}
noncomputable def tCB (r : List V -> Hp -> VK -> Prop) (t : TA) : TE := fun σ H Q => t σ H fun vs H1 => r vs H1 Q
theorem ug (hc : CallR X (.builtin id) r) (hg : Gl X x) (hm : X.mg x = none) (hv : bootBuiltins x = some (.builtin id)) (ha : PA X (e :: es) t) (hn : x ≠ "__name__" := by decide) (hdb : (x == ("__debug__" : Str)) = false := by decide)
  (he : starEach (e :: es) X.env = (false, eval e X.env) :: starEach es X.env := by rfl) (hpl : (backTo pos (starEach es X.env)).any (·.1) = false := by rfl) : PE X (.Call (.Name x p) (e :: es) [] pos) (tCB r t) := by
 intro pins s σ H Q I h
 refine wpAny_Call_Name_kw (iF I hg hm hv ?_ hn hdb)
 exact PyProof.Rows.callWith_builtin1 (thn (ha pos pins s σ H _ I h) fun us s1 ⟨vs, H1, I1, r1, q1⟩ => hc pins s1 σ H1 vs us Q I1 r1 q1) he hpl
theorem rW (hc : CallR X (.type T) r) (hg : Gl X x) (hm : X.mg x = none) (hv : bootBuiltins x = some (.type T)) (ha : PA X (e :: es) t) (hn : x ≠ "__name__" := by decide) (hdb : (x == ("__debug__" : Str)) = false := by decide)
  (he : starEach (e :: es) X.env = (false, eval e X.env) :: starEach es X.env := by rfl) (hpl : (backTo pos (starEach es X.env)).any (·.1) = false := by rfl) : PE X (.Call (.Name x p) (e :: es) [] pos) (tCB r t) := by
 intro pins s σ H Q I h
 refine wpAny_Call_Name_kw (iF I hg hm hv ?_ hn hdb)
 exact PyProof.Rows.callWith_type1 (thn (ha pos pins s σ H _ I h) fun us s1 ⟨vs, H1, I1, r1, q1⟩ => hc pins s1 σ H1 vs us Q I1 r1 q1) he hpl
end
end L2
namespace HT
open PySem PyProof.Rows
section
open PySem.SeqAt
open PySem.AutoSeq1 (wpAny_loadPart')
open PySem.MeetsSeq PySem.MeetsSeq2 PySem.MeetsSeq3
end
section
variable {prog : Program} {w : World} {A : Around} {E : Value -> Shared -> Prop} {s : Shared}
theorem cat_tup {t b : Addr} {vs ws : List Value} {Q : Value -> Shared -> Prop} (ht : IsTup s.heap t vs.toArray) (hb : IsTup s.heap b ws.toArray) (hv : vs ≠ [])
  (h1 : ws = [] -> Q (.ref t) s) (h2 : ws ≠ [] -> Q (.ref s.heap.objs.size) { s with heap := s.heap.push { cls := .type "tuple", data := .seq (vs ++ ws).toArray } })
  (hsz : vs.length + ws.length <= sizeLine) : wpAny (model prog w) A (binaryOp .Add (.ref t) (.ref b)) Q E s := by
 obtain ⟨⟨cls, dd, data, sl⟩, ho, hc, n, hd⟩ := id ht
 obtain ⟨⟨cls2, dd2, data2, sl2⟩, ho2, hc2, n2, hd2⟩ := id hb
 simp only at hc hd hc2 hd2
 subst hc hd hc2 hd2
 have e : vs.toArray ++ ws.toArray = (vs ++ ws).toArray := by simp
 by_cases hw : ws = []
 ·exact concat_meets ⟨_, ho, rfl⟩ ⟨_, ho2, rfl⟩ noFill_tuple_add seq_tuple_add PySem.F.slot_tuple_add PySem.F.entry_tuple_add (PySem.F.args_tuple_add_2 _ _)
   (tuple_addW1 t b vs.toArray ws.toArray n n2 dd dd2 sl sl2 (by simpa using hv) (by simp [hw])) ⟨ho, ho2, h1 hw⟩
 ·refine concat_meets ⟨_, ho, rfl⟩ ⟨_, ho2, rfl⟩ noFill_tuple_add seq_tuple_add PySem.F.slot_tuple_add PySem.F.entry_tuple_add (PySem.F.args_tuple_add_2 _ _)
   (tuple_addW2 t b vs.toArray ws.toArray n n2 dd dd2 sl sl2 (by simpa using hv) (by simpa using hw) (by rw [List.size_toArray, List.size_toArray]; exact hsz)) ⟨ho, ho2, ?_⟩
  rw [e]
  exact h2 hw
noncomputable def sIx (n d : Nat) : Option Int -> Nat
 | none => d
 | some v => if v < 0 then (v + (n : Int)).toNat else min v.toNat n
theorem sIx_none (n d : Nat) : sIx n d none = d := rfl
theorem sIx_nat (n d k : Nat) : sIx n d (some (k : Int)) = min k n := by
 show (if (k : Int) < 0 then ((k : Int) + (n : Int)).toNat else min (k : Int).toNat n) = min k n
 rw [if_neg (by omega), Int.toNat_natCast]
theorem A0 (n d : Nat) (hd : d <= n) (o : Option Int) : sIx n d o <= n := by
 cases o with
 | none => exact hd
 |
  some v =>
  show (if v < 0 then (v + (n : Int)).toNat else min v.toNat n) <= n
  by_cases hv : v < 0
  ·rw [if_pos hv]; omega
  ·rw [if_neg hv]; exact Nat.min_le_right _ _
theorem oE (v : Int) (n d : Nat) : (if v < 0 then max (v + (n : Int)) 0 else min v (n : Int)) = ((sIx n d (some v) : Nat) : Int) := by
 show (if v < 0 then max (v + (n : Int)) 0 else min v (n : Int)) = (((if v < 0 then (v + (n : Int)).toNat else min v.toNat n) : Nat) : Int)
 by_cases hv : v < 0
 ·simp only [if_pos hv]; omega
 ·simp only [if_neg hv]; omega
theorem pD (lo hi : Option Int) (n : Nat) : Builtin.Slice.sliceAdjust lo hi 1 (n : Int) = (((sIx n 0 lo : Nat) : Int), ((sIx n n hi : Nat) : Int)) := by
 have h1 : ¬ ((1 : Int) < 0) := by omega
 unfold Builtin.Slice.sliceAdjust
 simp only [h1, if_false]
 refine Prod.ext ?_ ?_
 ·cases lo with
  | none => rfl
  | some v => exact oE v n 0
 ·cases hi with
  | none => rfl
  | some v => exact oE v n n
theorem o9 (i j : Nat) : Builtin.Slice.slicePlaces (i : Int) (j : Int) 1 = j - i := by
 unfold Builtin.Slice.slicePlaces
 have h1 : (1 : Int) > 0 := by omega
 simp only [h1, if_true, Int.ediv_one]
 split <;> omega
theorem jJ {v : Value} {o : Option Int} {Q : Option Int -> Shared -> Prop} (p : IsPart v o) (h : Q o s) : wpAny (model prog w) A (Builtin.Slice.slicePartIndex v) Q E s := by
 cases p with
 | none => exact slicePart_none h
 | int i t => exact slicePart_int h
theorem jh {sl : Addr} {vl vu : Value} {lo hi : Option Int} {n : Nat} {Q : Int × Int × Nat -> Shared -> Prop} (hs : s.heap.IsSliceOf sl vl vu .none) (pl : IsPart vl lo) (pu : IsPart vu hi)
  (h : Q (((sIx n 0 lo : Nat) : Int), 1, sIx n n hi - sIx n 0 lo) s) : wpAny (model prog w) A (Builtin.Slice.sliceApplied (.ref sl) (pure (n : Int))) Q E s := by
 obtain ⟨os, hos, hcs, hds⟩ := id hs
 unfold Builtin.Slice.sliceApplied Builtin.Slice.sliceFields
 refine wpAny_bind (wpAny_bind (wpAny_field hos hds (x := vl) rfl (wpAny_bind (wpAny_field hos hds (x := vu) rfl (wpAny_bind (wpAny_field hos hds (x := .none) rfl (wpAny_pure ?_)))))))
 refine wpAny_bind (slicePart_none ?_)
 show wpAny _ _ (if ((1 : Int) == 0) = true then _ else _) _ _ s
 rw [if_neg (by decide)]
 refine wpAny_bind (jJ pl (wpAny_bind (jJ pu (wpAny_bind (wpAny_pure ?_)))))
 show wpAny _ _ (match Builtin.Slice.sliceAdjust lo hi 1 (n : Int) with | (lo, hi) => pure (lo, (1 : Int), Builtin.Slice.slicePlaces lo hi 1)) _ _ s
 rw [pD lo hi n]
 show wpAny _ _ (pure (((sIx n 0 lo : Nat) : Int), (1 : Int), Builtin.Slice.slicePlaces ((sIx n 0 lo : Nat) : Int) ((sIx n n hi : Nat) : Int) 1)) _ _ s
 rw [o9]
 exact wpAny_pure h
theorem sO (xs : Array Value) (i k : Nat) : ((List.range k).filterMap fun (m : Nat) => xs[((i : Int) + (m : Int) * 1).toNat]?).toArray = ((xs.toList.drop i).take k).toArray := by
 have e : (fun (m : Nat) => xs[((i : Int) + (m : Int) * 1).toNat]?) = fun m => xs[i + m]? := by
  funext m
  have : ((i : Int) + (m : Int) * 1).toNat = i + m := by omega
  rw [this]
 rw [e]
 have := pick_run xs i k
 rw [List.filterMap_map] at this
 have e2 : ((fun x => xs[x]?) ∘ fun x => i + x) = fun m => xs[i + m]? := rfl
 rw [e2] at this
 rw [this]
theorem getItem_tuple_cut {t sl : Addr} {items : Array Value} {vl vu : Value} {lo hi : Option Int} {Q : Value -> Shared -> Prop} (ht : IsTup s.heap t items) (hs : s.heap.IsSliceOf sl vl vu .none) (pl : IsPart vl lo) (pu : IsPart vu hi)
  (hw : ¬ (sIx items.size 0 lo = 0 /\ sIx items.size items.size hi = items.size))
  (h : Q (.ref s.heap.objs.size) { s with heap := s.heap.push { cls := .type "tuple", data := .seq ((items.toList.drop (sIx items.size 0 lo)).take (sIx items.size items.size hi - sIx items.size 0 lo)).toArray } })
  (hsz : items.size <= sizeLine) : wpAny (model prog w) A (getItem (.ref t) (.ref sl)) Q E s := by
 have htake : sizeOk (.seq ((items.toList.drop (sIx items.size 0 lo)).take (sIx items.size items.size hi - sIx items.size 0 lo)).toArray) := by
  show ((items.toList.drop (sIx items.size 0 lo)).take (sIx items.size items.size hi - sIx items.size 0 lo)).toArray.size <= sizeLine
  rw [List.size_toArray, List.length_take, List.length_drop, Array.length_toList]
  omega
 have hj : sIx items.size items.size hi <= items.size := A0 _ _ (Nat.le_refl _) hi
 obtain ⟨os, hos, hcs, hds⟩ := id hs
 have hTs : s.TypeIs (.ref sl) "slice" := ⟨os, hos, hcs⟩
 unfold getItem
 try with_reducible refine wpAny_holding ?_
 first | refine wpAny_bind (wpAny_pure ?_) | skip
 refine wpAny_bind (wpAny_sequenceKey ht.typeIs (by decide) ?_)
 refine wpAny_bind (wpAny_callSpecial?_slot (name := Str.ofString "__getitem__") ht.typeIs PyProof.Rows.slot_tuple_getitem
  (wpAny_call_entry PyProof.Rows.slot_tuple_getitem ht.typeIs entry_tuple_getitem ?_ (args_tuple_getitem _ _)))
 show wpAny _ _ (Builtin.Tuple.tupleItemsOf (.ref t) >>= _) _ _ s
 refine wpAny_bind (tupleItemsOf_ ht ?_)
 refine wpAny_bind (wpAny_typeOf hTs ?_)
 rw [if_pos (by decide)]
 refine wpAny_bind (jh hs pl pu ?_)
 have hno : ¬ ((((sIx items.size 0 lo : Nat) : Int) == 0 && (1 : Int) == 1 && (sIx items.size items.size hi - sIx items.size 0 lo) == items.size) = true) := by
  intro q
  rw [Bool.and_eq_true, Bool.and_eq_true] at q
  have q1 : ((sIx items.size 0 lo : Nat) : Int) = 0 := eq_of_beq q.1.1
  have q2 : sIx items.size items.size hi - sIx items.size 0 lo = items.size := eq_of_beq q.2
  exact hw ⟨by omega, by omega⟩
 show wpAny _ _ (if (((sIx items.size 0 lo : Nat) : Int) == 0 && (1 : Int) == 1 && (sIx items.size items.size hi - sIx items.size 0 lo) == items.size) = true then _ else _) _ _ s
 rw [if_neg hno, sO]
 first
  | exact wpAny_bind (m := Builtin.Tuple.tupleExact _) (wpAny_newObj_type (wpAny_pure ⟨_, rfl, wpAny_pure h⟩) htake)
  | exact wpAny_bind (m := Builtin.Tuple.tupleExact _) (wpAny_newObj_type (wpAny_bind (wpAny_pure (wpAny_pure ⟨_, rfl, wpAny_pure h⟩))) htake)
  | exact wpAny_bind (wpAny_bind (m := Builtin.Tuple.tupleExact _) (wpAny_newObj_type (wpAny_pure (wpAny_pure ⟨_, rfl, wpAny_pure h⟩)) htake))
  | exact wpAny_bind (wpAny_bind (m := Builtin.Tuple.tupleExact _) (wpAny_newObj_type (wpAny_pure ⟨_, rfl, wpAny_pure h⟩) htake))
end
end HT
namespace L2
open PySem PySem.Spec PyProof.Rows
abbrev TO := St -> Hp -> (Option Int -> Hp -> Prop) -> Prop
noncomputable def PO (X : Cx) (e : Option Expr) (t : TO) : Prop :=
 ∀
  (pins : List (Addr × Obj)) (s : Shared) (σ : St) (H : Hp) (Q : Option Int -> Hp -> Prop), Inv X pins σ H s -> t σ H Q ->
  wpAny (model X.prog X.w) X.A (evalPart e X.env) (fun u s' => ∃ o H', Inv X pins σ H' s' /\ IsPart u o /\ Q o H') X.xe s
noncomputable def xm : TO := fun _ H Q => Q none H
noncomputable def Dz (t : TE) : TO := fun σ H Q => t σ H fun x H1 => ∃ i, x = .int i /\ Q (some i) H1
section
variable {X : Cx} {e : Expr} {te : TE} {lo hi : Option Expr} {tl th : TO} {pos p2 : Pos}
theorem wu : PO X none xm := by
 intro pins s σ H Q I h
 rw [evalPart_none]
 exact wpAny_pure ⟨none, H, I, .none, h⟩
theorem v7 (h : PE X e te) : PO X (some e) (Dz te) := by
 intro pins s σ H Q I hw
 rw [evalPart_some]
 refine thn (h pins s σ H _ I hw) fun u s1 ⟨x, H1, I1, r1, q1⟩ => ?_
 obtain ⟨i, rfl, q⟩ := q1
 obtain ⟨t, rfl⟩ := r1
 exact ⟨some i, H1, I1, .int i t, q⟩
noncomputable def SlR (X : Cx) (r : V -> Option Int -> Option Int -> Hp -> VK -> Prop) : Prop :=
 ∀
  (pins : List (Addr × Obj)) (s : Shared) (σ : St) (H : Hp) (x : V) (v vl vu : Value) (lo hi : Option Int) (sl : Addr) (Q : VK), Inv X pins σ H s -> RelV x v -> s.heap.IsSliceOf sl vl vu .none -> IsPart vl lo -> IsPart vu hi -> r x lo hi H Q ->
  ∃ T id, typeLookup (.type T) "__getitem__" = pure (some (.builtin id)) /\ s.TypeIs v T /\ wpAny (model X.prog X.w) X.A (getItem v (.ref sl)) (EP X pins σ Q) X.xe s
theorem SlR.or {r r' : V -> Option Int -> Option Int -> Hp -> VK -> Prop} (h : SlR X r) (h' : SlR X r') : SlR X (fun x lo hi H Q => r x lo hi H Q \/ r' x lo hi H Q) := by
 intro pins s σ H x v vl vu lo hi sl Q I rx hs pl pu q
 rcases q with q | q
 ·exact h pins s σ H x v vl vu lo hi sl Q I rx hs pl pu q
 ·exact h' pins s σ H x v vl vu lo hi sl Q I rx hs pl pu q
noncomputable def tSl (r : V -> Option Int -> Option Int -> Hp -> VK -> Prop) (te : TE) (tl th : TO) : TE := fun σ H Q => te σ H fun x H1 => tl σ H1 fun l H2 => th σ H2 fun u H3 => r x l u H3 Q
theorem uO {r : V -> Option Int -> Option Int -> Hp -> VK -> Prop} (hr : SlR X r) (he : PE X e te) (hl : PO X lo tl) (hu : PO X hi th) : PE X (.Subscript e (.Slice lo hi none p2) pos) (tSl r te tl th) := by
 intro pins s σ H Q I h
 refine Subscript_ (thn (he pins s σ H _ I h) fun v s1 ⟨x, H1, I1, r1, q1⟩ => ?_)
 refine wpAny_Slice (thn (hl pins s1 σ H1 _ I1 q1) fun vl s2 ⟨l, H2, I2, pl, q2⟩ => thn (hu pins s2 σ H2 _ I2 q2) fun vu s3 ⟨u, H3, I3, pu, q3⟩ => ?_)
 rw [evalPart_none]
 refine wpAny_pure ?_
 have I4 : Inv X pins σ H3 { s3 with heap := s3.heap.push { cls := .type "slice", data := .fields #[vl, vu, .none] } } := I3.kept (t' := s3.toks) fun b ob q => Heap.get?_push_of_some _ q
 obtain ⟨T, id, hT, ht, hg⟩ := hr pins { s3 with heap := s3.heap.push { cls := .type "slice", data := .fields #[vl, vu, .none] } } σ H3 x v vl vu l u s3.heap.objs.size Q I4 r1 (Heap.IsSliceOf.new ..) pl pu q3
 show wpAny (model X.prog X.w) X.A (subscriptTail e (.Slice lo hi none p2) v (.ref s3.heap.objs.size)) (EP X pins σ Q) X.xe { s3 with heap := s3.heap.push { cls := .type "slice", data := .fields #[vl, vu, .none] } }
 exact tail_any (ops := [.ref s3.heap.objs.size, v]) ht hT hg (by with_unfolding_all rfl)
noncomputable def iE (xs : List V) (lo hi : Option Int) : List V := (xs.drop (HT.sIx xs.length 0 lo)).take (HT.sIx xs.length xs.length hi - HT.sIx xs.length 0 lo)
theorem jd (xs : List V) (lo hi : Option Int) : (iE xs lo hi).length <= xs.length := by
 unfold iE
 rw [List.length_take, List.length_drop]
 omega
noncomputable def rSlT (K : PySem.W.Frag) : V -> Option Int -> Option Int -> Hp -> VK -> Prop := fun x lo hi H Q => ∃ a xs, x = .ref a /\ SqT K H a xs /\
 ¬ (HT.sIx xs.length 0 lo = 0 /\ HT.sIx xs.length xs.length hi = xs.length) /\ ∀ p, H p = none -> Q (.ref p) (upd H p (.tup (iE xs lo hi)))
theorem AN : SlR X (rSlT X.K) := by
 intro pins s σ H x v vl vu lo hi sl Q I rx hs pl pu h
 obtain ⟨a, xs, rfl, hx, hw, q⟩ := h
 cases rx
 obtain ⟨its, r, ht, hz⟩ := I.tuple hx
 have hlen : its.toArray.size = xs.length := by rw [List.size_toArray]; exact r.length.symm
 refine ⟨"tuple", _, PyProof.Rows.slot_tuple_getitem.lookup, ht.typeIs, ?_⟩
 refine HT.getItem_tuple_cut ht hs pl pu (by rw [hlen]; exact hw) ?_ (by rw [hlen]; exact hz)
 rw [hlen]
 refine ⟨.ref s.heap.objs.size, _, I.laid (t' := s.toks) (o := .tup (iE xs lo hi)) (fun b ob q => Heap.get?_push_of_some _ q) (Nat.le_refl _) ?_, rfl, q _ (I.hok.fresh (Nat.le_refl _))⟩
 exact ⟨Nat.le_trans (jd xs lo hi) hz, _, (r.drop (HT.sIx xs.length 0 lo)).take (HT.sIx xs.length xs.length hi - HT.sIx xs.length 0 lo), IsTup.new _ _⟩
noncomputable def iX (K : PySem.W.Frag) : R2 := fun x y H Q => ∃ a b xs ys, x = .ref a /\ y = .ref b /\ SqT K H a xs /\ SqT K H b ys /\ xs ≠ [] /\ xs.length + ys.length <= sizeLine /\
 (ys = [] -> Q (.ref a) H) /\ (ys ≠ [] -> ∀ p, H p = none -> Q (.ref p) (upd H p (.tup (xs ++ ys))))
theorem Vals.nil_iff {xs : List V} {us : List Value} (r : Vals xs us) : us = [] ↔ xs = [] := by
 cases r with
 | nil => simp
 | cons _ _ => simp
theorem xx : OpR X (binaryOp .Add) (iX X.K) := by
 intro pins s σ H x y v u Q I rx ry h
 obtain ⟨a, b, xs, ys, rfl, rfl, ha, hb, hx, hz, q1, q2⟩ := h
 cases rx
 cases ry
 obtain ⟨its, r1, p1, _⟩ := I.tuple ha
 obtain ⟨its2, r2, p2, _⟩ := I.tuple hb
 refine HT.cat_tup p1 p2 (fun z => hx (r1.nil_iff.mp z)) (fun z => ⟨.ref a, H, I, rfl, q1 (r2.nil_iff.mp z)⟩) (fun z => ?_) (by rw [<- r1.length, <- r2.length]; exact hz)
 refine ⟨.ref s.heap.objs.size, _, I.laid (t' := s.toks) (o := .tup (xs ++ ys)) (fun b ob q => Heap.get?_push_of_some _ q) (Nat.le_refl _) ?_, rfl, q2 (fun w => z (r2.nil_iff.mpr w)) _ (I.hok.fresh (Nat.le_refl _))⟩
 exact ⟨by rw [List.length_append]; exact hz, _, r1.append r2, IsTup.new _ _⟩
end
end L2
namespace L2
open PySem PySem.Spec PyProof.Rows
noncomputable def ixN (n : Nat) (i : Int) : Option Nat := if 0 <= i then (if i < n then some i.toNat else none) else if -(n : Int) <= i then some (i + n).toNat else none
noncomputable def atI {α : Type} (xs : List α) (i : Int) : Option α := (ixN xs.length i).bind fun j => xs[j]?
theorem oH {n : Nat} {i : Int} {j : Nat} (h : ixN n i = some j) : seqIndex? i n = some j /\ j < n /\ -(n : Int) <= i /\ i < n := by
 unfold ixN at h
 by_cases h0 : 0 <= i
 ·rw [if_pos h0] at h
  by_cases h1 : i < n
  ·rw [if_pos h1] at h
   have e : i.toNat = j := Option.some.inj h
   exact ⟨by rw [seqIndex_of h0 h1, e], by omega, by omega, h1⟩
  ·rw [if_neg h1] at h; cases h
 ·rw [if_neg h0] at h
  by_cases h1 : -(n : Int) <= i
  ·rw [if_pos h1] at h
   have e : (i + n).toNat = j := Option.some.inj h
   exact ⟨by rw [seqIndex_neg (by omega) h1, e], by omega, h1, by omega⟩
  ·rw [if_neg h1] at h; cases h
theorem oV {α : Type} {xs : List α} {i : Int} {v : α} (h : atI xs i = some v) : ∃ j, seqIndex? i xs.length = some j /\ xs[j]? = some v /\ j < xs.length /\ -(xs.length : Int) <= i /\ i < xs.length := by
 unfold atI at h
 cases e : ixN xs.length i with
 | none => rw [e] at h; cases h
 |
  some j =>
  rw [e] at h
  obtain ⟨h1, h2, h3, h4⟩ := oH e
  exact ⟨j, h1, h, h2, h3, h4⟩
noncomputable def kO (b : Expr) : Prop := ∀ o i, subscripted b false o i = operate [o, i] (getItem o i)
noncomputable def IxR (X : Cx) (r : R2) : Prop :=
 ∀
  (value slice : Expr) (pins : List (Addr × Obj)) (s : Shared) (σ : St) (H : Hp) (x y : V) (v u : Value) (Q : VK), Inv X pins σ H s -> RelV x v -> RelV y u -> r x y H Q ->
  subscripted slice false v u = operate [v, u] (getItem v u) -> wpAny (model X.prog X.w) X.A (subscriptTail value slice v u) (EP X pins σ Q) X.xe s
noncomputable def MtR (X : Cx) (id : String) (r : V -> List V -> Hp -> VK -> Prop) : Prop :=
 ∀
  (pins : List (Addr × Obj)) (s : Shared) (σ : St) (H : Hp) (x : V) (xs : List V) (v : Value) (us : List Value) (Q : VK), Inv X pins σ H s -> RelV x v -> Vals xs us -> r x xs H Q ->
  wpAny (model X.prog X.w) X.A (call (.builtin id) (v :: us)) (EP X pins σ Q) X.xe s
section
variable {X : Cx} {a b : Expr} {ta tb : TE} {pos : Pos}
theorem IxR.or {r r' : R2} (h : IxR X r) (h' : IxR X r') : IxR X (fun x y H Q => r x y H Q \/ r' x y H Q) := by
 intro value slice pins s σ H x y v u Q I rx ry q hs
 rcases q with q | q
 ·exact h value slice pins s σ H x y v u Q I rx ry q hs
 ·exact h' value slice pins s σ H x y v u Q I rx ry q hs
theorem Cd {r : R2} (hr : IxR X r) (ha : PE X a ta) (hb : PE X b tb) (hs : kO b) : PE X (.Subscript a b pos) (tOp r ta tb) := by
 intro pins s σ H Q I h
 exact Subscript_ (uL ha hb I h fun v u s2 x y H2 I2 rx ry q => hr a b pins s2 σ H2 x y v u Q I2 rx ry q (hs _ _))
noncomputable def pH (K : PySem.W.Frag) : R2 := fun x y H Q => ∃ p xs i v, x = .ref p /\ y = .int i /\ SqL K H p xs /\ atI xs i = some v /\ Q v H
noncomputable def pz (K : PySem.W.Frag) : R2 := fun x y H Q => ∃ p xs i v, x = .ref p /\ y = .int i /\ SqT K H p xs /\ atI xs i = some v /\ Q v H
theorem vW : IxR X (pH X.K) := by
 intro value slice pins s σ H x y v u Q I rx ry h hs
 obtain ⟨p, xs, i, z, rfl, rfl, hq, he, q⟩ := h
 cases rx
 obtain ⟨t, rfl⟩ := ry
 obtain ⟨its, r, pl, hz⟩ := I.list hq
 obtain ⟨j, h1, h2, h3, h4, h5⟩ := oV he
 obtain ⟨w, ew, rw'⟩ := r.get h2
 have hl := r.length
 have hn := ig
 have fin : EP X pins σ Q w s := ⟨z, H, I, rw', q⟩
 by_cases h0 : 0 <= i
 ·have hj : i.toNat = j := by
   rw [seqIndex_of h0 h5] at h1
   exact Option.some.inj h1
  exact item_listR pl.isList h0 (by omega) (by rw [hj]; simpa using ew) fin hs
 ·have hj : (i + (its.toArray.size : Int)).toNat = j := by
   rw [seqIndex_neg (by omega) h4] at h1
   rw [List.size_toArray, <- hl]
   exact Option.some.inj h1
  exact subscriptTail_builtinR (x := w) pl.isList.typeIs slot_list_getitem.lookup
   (wpAny_getItem_list_neg (Q := fun r s' => r = w /\ EP X pins σ Q r s') pl.isList (by omega) (by rw [List.size_toArray] <;> omega) (by omega) (by rw [hj]; simpa using ew) ⟨rfl, fin⟩) hs
theorem Bh : IxR X (pz X.K) := by
 intro value slice pins s σ H x y v u Q I rx ry h hs
 obtain ⟨p, xs, i, z, rfl, rfl, hq, he, q⟩ := h
 cases rx
 obtain ⟨t, rfl⟩ := ry
 obtain ⟨its, r, pl, hz⟩ := I.tuple hq
 obtain ⟨j, h1, h2, h3, h4, h5⟩ := oV he
 obtain ⟨w, ew, rw'⟩ := r.get h2
 have hl := r.length
 have hn := ig
 have fin : EP X pins σ Q w s := ⟨z, H, I, rw', q⟩
 exact subscriptTail_builtinR (x := w) pl.typeIs slot_tuple_getitem.lookup
  (getItem_tuple (j := j) (Q := fun r s' => r = w /\ EP X pins σ Q r s') pl (by omega) (by omega) (by rw [List.size_toArray, <- hl]; exact h1) (by simpa using ew) ⟨rfl, fin⟩) hs
theorem pb (its : List Value) (n j : Nat) (u : Value) : Obj.mapSeq (·.setIfInBounds j u) { cls := .type "list", data := .seq its.toArray n } = { cls := .type "list", data := .seq (its.set j u).toArray n } := by
 simp [Obj.mapSeq]
theorem Inv.lst {pins : List (Addr × Obj)} {σ : St} {H : Hp} {s : Shared} {p : Addr} {xs : List V} (I : Inv X pins σ H s) (h : H p = some (.lst xs)) :
  ∃ (its : List Value) (n : Nat), Vals xs its /\ s.heap.get? p = some { cls := .type "list", data := .seq its.toArray n } /\ xs.length <= sizeLine := by
 obtain ⟨z, its, n, r, e⟩ := I.hok p _ h
 exact ⟨its, n, r, e, z⟩
theorem Inv.lstUpd {pins : List (Addr × Obj)} {σ : St} {H : Hp} {s : Shared} {p : Addr} {xs ys : List V} {its its' : List Value} {n n' : Nat} {f : Obj -> Obj} (I : Inv X pins σ H s) (h : H p = some (.lst xs))
  (ho : s.heap.get? p = some { cls := .type "list", data := .seq its.toArray n }) (hf : f { cls := .type "list", data := .seq its.toArray n } = { cls := .type "list", data := .seq its'.toArray n' }) (r : Vals ys its') (hz : ys.length <= sizeLine) (t : Nat) :
  Inv X pins σ (upd H p (.lst ys)) { s with heap := s.heap.update p f, toks := t } := by
 have e : (s.heap.update p f).get? p = some { cls := .type "list", data := .seq its'.toArray n' } := by
  rw [Heap.get?_update_self f ho (by rw [hf] <;> rfl), hf]
 refine I.write (x := p) (e := p) (by rw [h]; trivial) (.inl rfl) (fun b u hb q => (Heap.get?_update_other _ _ (Ne.symm hb)).trans q) ⟨_, e⟩ ?_
 exact ⟨hz, its', n', r, e⟩
noncomputable def pR : V -> V -> V -> Hp -> (Hp -> Prop) -> Prop := fun o i v H Q => ∃ p xs k j, o = .ref p /\ i = .int k /\ H p = some (.lst xs) /\ ixN xs.length k = some j /\ Q (upd H p (.lst (xs.set j v)))
theorem nH : nL X pR := by
 intro pins s σ H o i v ov iv u Q I ro ri rv h
 obtain ⟨p, xs, k, j, rfl, rfl, hp, hj, q⟩ := h
 cases ro
 obtain ⟨t, rfl⟩ := ri
 obtain ⟨its, n, r, ho, hz⟩ := I.lst hp
 obtain ⟨h1, h2, h3, h4⟩ := oH hj
 have hl := r.length
 have hn := ig
 have I' : Inv X pins σ (upd H p (.lst (xs.set j v))) { s with heap := s.heap.update p (Obj.mapSeq (·.setIfInBounds j u)) } :=
  I.lstUpd hp ho (pb its n j u) (r.set rv j) (by rw [List.length_set]; exact hz) s.toks
 by_cases h0 : 0 <= k
 ·have hk : k.toNat = j := by
   rw [seqIndex_of h0 h4] at h1
   exact Option.some.inj h1
  exact PySem.W.ki_setAt ho h0 (by omega) (by rw [List.size_toArray, <- hl]; exact h4) (by rw [hk]; exact ⟨_, I', q⟩)
 ·have hk : (k + (its.toArray.size : Int)).toNat = j := by
   rw [seqIndex_neg (by omega) h3] at h1
   rw [List.size_toArray, <- hl]
   exact Option.some.inj h1
  exact PySem.W.ki_setBack ho (by omega) (by rw [List.size_toArray, <- hl]; exact h3) (by omega) (by rw [hk]; exact ⟨_, I', q⟩)
theorem mU (lo hi : Option Int) (n : Nat) : (sliceBounds lo hi none n).1 = ((HT.sIx n 0 lo : Nat) : Int) /\ (sliceBounds lo hi none n).2.1 = ((HT.sIx n n hi : Nat) : Int) /\ (sliceBounds lo hi none n).2.2 = 1 := by
 refine ⟨?_, ?_, rfl⟩
 ·cases lo with
  | none => simp [sliceBounds, HT.sIx]
  |
   some i =>
   simp only [sliceBounds, HT.sIx, Option.getD_none, show (1 : Int) > 0 by decide, if_true]
   by_cases h : i < 0
   ·simp only [h, if_true] <;> omega
   ·simp only [h, if_false] <;> omega
 ·cases hi with
  | none => simp [sliceBounds, HT.sIx]
  |
   some i =>
   simp only [sliceBounds, HT.sIx, Option.getD_none, show (1 : Int) > 0 by decide, if_true]
   by_cases h : i < 0
   ·simp only [h, if_true] <;> omega
   ·simp only [h, if_false] <;> omega
theorem lM (its : List Value) (lo hi : Option Int) : slicePick its.toArray lo hi none = ((its.drop (HT.sIx its.length 0 lo)).take (HT.sIx its.length its.length hi - HT.sIx its.length 0 lo)).toArray := by
 obtain ⟨h1, h2, h3⟩ := mU lo hi its.toArray.size
 unfold slicePick
 rw [h1, h2, h3]
 simp only [sliceRange_one, pick_run, List.size_toArray] <;> rfl
noncomputable def rSlL (K : PySem.W.Frag) : V -> Option Int -> Option Int -> Hp -> VK -> Prop := fun x lo hi H Q => ∃ a xs, x = .ref a /\ SqL K H a xs /\ ∀ p, H p = none -> Q (.ref p) (upd H p (.lst (iE xs lo hi)))
theorem wK : SlR X (rSlL X.K) := by
 intro pins s σ H x v vl vu lo hi sl Q I rx hs pl pu h
 obtain ⟨a, xs, rfl, hx, q⟩ := h
 cases rx
 obtain ⟨its, r, ht, hz⟩ := I.list hx
 have hlen := r.length
 refine ⟨"list", _, slot_list_getitem.lookup, ht.isList.typeIs, ?_⟩
 refine wpAny_getItem_list_slice ht.isList hs pl pu .none (by simp) ?_ (by rw [List.size_toArray] <;> omega)
 rw [lM, <- hlen]
 refine ⟨.ref s.heap.objs.size, _, I.laid (t' := s.toks) (o := .lst (iE xs lo hi)) (fun b ob q => Heap.get?_push_of_some _ q) (Nat.le_refl _) ?_, rfl, q _ (I.hok.fresh (Nat.le_refl _))⟩
 exact ⟨Nat.le_trans (jd xs lo hi) hz, _, 0, (r.drop (HT.sIx xs.length 0 lo)).take (HT.sIx xs.length xs.length hi - HT.sIx xs.length 0 lo), Heap.get?_push_size _ rfl⟩
noncomputable def cC : V -> Bool
 | .non => true
 | .bl _ => true
 | .int _ => true
 | .str _ => true
 | _ => false
theorem nj : CallR X (.builtin "len") (fun xs H Q => ∃ p ys, xs = [.ref p] /\ (SqL X.K H p ys \/ SqT X.K H p ys) /\ Q (.int ys.length) H) := by
 intro pins s σ H xs us Q I r h
 obtain ⟨p, ys, rfl, hq, q⟩ := h
 obtain ⟨u, rfl, rx⟩ := iY r
 cases rx
 have hn := ig
 rcases hq with hq | hq
 ·obtain ⟨its, r', pl, hz⟩ := I.list hq
  have hlen := r'.length
  exact Calls.call_len_list pl.isList (by simp only [List.size_toArray] <;> omega) ⟨.int ys.length, H, I.tok _, ⟨s.toks + 1, by rw [List.size_toArray, hlen]⟩, q⟩
 ·obtain ⟨its, r', pl, hz⟩ := I.tuple hq
  have hlen := r'.length
  exact len_tuple pl (by simp only [List.size_toArray] <;> omega) ⟨.int ys.length, H, I.tok _, ⟨s.toks + 1, by rw [List.size_toArray, hlen]⟩, q⟩
theorem mM : CallR X (.builtin "len") (fun xs H Q => ∃ z, xs = [.str z] /\ z.length <= sizeLine /\ Q (.int z.length) H) := by
 intro pins s σ H xs us Q I r h
 obtain ⟨z, rfl, hz, q⟩ := h
 obtain ⟨u, rfl, t, rfl⟩ := iY r
 have hn := ig
 exact len_str (by omega) ⟨.int z.length, H, I.tok _, ⟨_, rfl⟩, q⟩
theorem CallR.or {f : Value} {r r' : List V -> Hp -> VK -> Prop} (h : CallR X f r) (h' : CallR X f r') : CallR X f (fun xs H Q => r xs H Q \/ r' xs H Q) := by
 intro pins s σ H xs us Q I rs q
 rcases q with q | q
 ·exact h pins s σ H xs us Q I rs q
 ·exact h' pins s σ H xs us Q I rs q
theorem mJ : CallR X (.type "list") (fun xs H Q => ∃ p ys, xs = [.ref p] /\ (SqL X.K H p ys \/ SqT X.K H p ys) /\ ∀ l, H l = none -> Q (.ref l) (upd H l (.lst ys))) := by
 intro pins s σ H xs us Q I r h
 obtain ⟨p, ys, rfl, hq, q⟩ := h
 obtain ⟨u, rfl, rx⟩ := iY r
 cases rx
 have fin : ∀ (its : List Value), Vals ys its -> ys.length <= sizeLine -> ∀ (h' : Heap) (c' : Nat), (∀ b o', s.heap.get? b = some o' -> h'.get? b = some o') ->
   h'.get? s.heap.objs.size = some { cls := .type "list", dict := none, data := .seq its.toArray c', slots := #[] } -> EP X pins σ Q (.ref s.heap.objs.size) { s with heap := h' } := fun its r' hz h' c' kp e =>
  ⟨.ref s.heap.objs.size, _, I.laid (t' := s.toks) kp (Nat.le_refl _) (show ObjOk X.prog X.w _ h' _ (.lst ys) from ⟨hz, its, c', r', e⟩), rfl, q _ (I.hok.fresh (Nat.le_refl _))⟩
 rcases hq with hq | hq
 ·obtain ⟨its, r', pl, hz⟩ := I.list hq
  have hlen := r'.length
  obtain ⟨o, ho, hc, n, hd⟩ := pl.isList
  exact call_list_seq p (.inl rfl) ho hc hd (fun h' c' kp e => fin its r' hz h' c' kp e) (by simp only [List.size_toArray] <;> omega)
 ·obtain ⟨its, r', pl, hz⟩ := I.tuple hq
  have hlen := r'.length
  obtain ⟨o, ho, hc, n, hd⟩ := pl
  exact call_list_seq p (.inr rfl) ho hc hd (fun h' c' kp e => fin its r' hz h' c' kp e) (by simp only [List.size_toArray] <;> omega)
noncomputable def tyV (K : PySem.W.Frag) (T : String) (x : V) (H : Hp) : Prop := match x with
 | .str _ => T = "str"
 | .int _ => T = "int"
 | .ref p => (T = "list" /\ ∃ xs, SqL K H p xs) \/ (T = "tuple" /\ ∃ o, K.lookup p = some o /\ o.cls = .type "tuple" /\ o.dict = none) \/
   (T = "dict" /\ ((∃ kvs, H p = some (.dK kvs)) \/ ∃ kvs, H p = some (.dT kvs))) \/ (T = "set" /\ ∃ S n, H p = some (.set S n))
 | _ => False
theorem
    AK {pins : List (Addr × Obj)} {σ : St} {H : Hp} {s : Shared} {T : String} {x : V} {v : Value} (I : Inv X pins σ H s) (r : RelV x v) (ty : tyV X.K T x H) :
  s.TypeIs v T /\ ∀ a, v = .ref a -> ∃ ob, s.heap.get? a = some ob /\ ob.dict = none := by
 cases x with
 |
  str z =>
  obtain ⟨t, rfl⟩ := r
  cases (show T = "str" from ty)
  exact ⟨typeIs_str s z t, fun _ e => nomatch e⟩
 |
  int i =>
  obtain ⟨t, rfl⟩ := r
  cases (show T = "int" from ty)
  exact ⟨typeIs_int s i t, fun _ e => nomatch e⟩
 |
  ref p =>
  cases r
  rcases ty with ⟨rfl, xs, hq⟩ | ⟨rfl, o, hk, hc, hd⟩ | ⟨rfl, hk⟩ | ⟨rfl, S, n, hk⟩
  ·obtain ⟨its, _, pl, _⟩ := I.list hq
   refine ⟨pl.isList.typeIs, fun a e => ?_⟩
   cases e
   obtain ⟨o, n, e, c, hd, _⟩ := pl
   exact ⟨o, e, hd⟩
  ·refine ⟨⟨o, I.kIn p o hk, hc⟩, fun a e => ?_⟩
   cases e
   exact ⟨o, I.kIn _ o hk, hd⟩
  ·have z : ∃ o, s.heap.get? p = some o /\ o.ExactDict := by
    rcases hk with ⟨kvs, hk⟩ | ⟨kvs, hk⟩
    ·obtain ⟨_, _, _, _, o, _, _, e, ex, _⟩ := I.hok p _ hk
     exact ⟨o, e, ex⟩
    ·obtain ⟨_, _, _, _, o, _, _, e, ex, _⟩ := I.hok p _ hk
     exact ⟨o, e, ex⟩
   obtain ⟨o, e, ex⟩ := z
   refine ⟨⟨o, e, ex.1⟩, fun a e2 => ?_⟩
   cases e2
   exact ⟨o, e, ex.2.1⟩
  ·obtain ⟨o, _, _, _, e, ex, _⟩ := I.hok p _ hk
   refine ⟨⟨o, e, ex.1⟩, fun a e2 => ?_⟩
   cases e2
   exact ⟨o, e, ex.2.1⟩
 | _ => exact False.elim ty
noncomputable def tBM (K : PySem.W.Frag) (T : String) (r : V -> List V -> Hp -> VK -> Prop) (to : TE) (t : TA) : TE := fun σ H Q => to σ H fun x H1 => tyV K T x H1 /\ t σ H1 fun xs H2 => r x xs H2 Q
variable {o e : Expr} {es : List Expr} {to : TE} {t : TA} {name : Str} {apos cpos : Pos} {T id : String} {r : V -> List V -> Hp -> VK -> Prop}
theorem Cs (pa : PlainAttrs T) (slot : Slot T name id) (hty : typeOf (.builtin id) = pure (.type "method_descriptor")) (hm : MtR X id r) (ho : PE X o to) (ha : PA X (e :: es) t)
  (hbase : attributeBase o name X.env (eval o X.env) = eval o X.env := by rfl)
  (hfew : ((backTo cpos (starEach (e :: es) X.env)).all (fun x => !x.1) && (backToKw cpos (keywordEach [] X.env)).all (fun x => x.1.isSome)
   && decide ((e :: es).length + ([] : List Keyword).length + (if ([] : List Keyword).isEmpty then 0 else 1) < 30)) = true := by rfl)
  (hline : (apos.endLine == cpos.line) = true := by rfl) (hs : starEach (e :: es) X.env = (false, eval e X.env) :: starEach es X.env := by rfl) (hplain : (backTo cpos (starEach es X.env)).any (·.1) = false := by rfl) :
  PE X (.Call (.Attribute o name apos) (e :: es) [] cpos) (tBM X.K T r to t) := by
 intro pins s σ H Q I h
 refine wpAny_Call_method_late hbase hfew hline rfl (thn (ho pins s σ H _ I h) fun v s1 ⟨x, H1, I1, r1, ty, q1⟩ => ?_)
 obtain ⟨h1, h2⟩ := AK I1 r1 ty
 refine ⟨T, id, pa, slot, hty, h1, h2, ?_⟩
 have hA := ha cpos pins s1 σ H1 _ I1 q1
 rw [hs] at hA ⊢
 refine Calls.callWith_builtin (by show (false || (backTo cpos (starEach es X.env)).any (·.1)) = false; rw [hplain] <;> rfl) (Calls.evalArgs_plain ?_)
 exact thn hA fun us s2 ⟨vs, H2, I2, r2, q2⟩ => hm pins s2 σ H2 x vs v us Q I2 r1 r2 q2
end
end L2
namespace L2
open PySem PySem.Spec PyProof.Rows
noncomputable def MtM (X : Cx) (id : String) (r : V -> List V -> Hp -> VK -> Prop) : Prop :=
 ∀
  (pins : List (Addr × Obj)) (s : Shared) (σ : St) (H : Hp) (x : V) (xs : List V) (v : Value) (us : List Value) (Q : VK), Inv X pins σ H s -> RelV x v -> Vals xs us -> r x xs H Q ->
  wpAny (model X.prog X.w) X.A (call (.builtin id) (v :: us)) (EP X pins σ Q) X.xe s
theorem Vals.one {x : V} {us : List Value} (r : Vals [x] us) : ∃ u, us = [u] /\ RelV x u := by
 cases r with
 | cons r t => cases t; exact ⟨_, rfl, r⟩
section
variable {X : Cx} {pins : List (Addr × Obj)} {σ : St} {H : Hp} {s : Shared} {l b : Addr} {xs ys zs : List V}
theorem Inv.lset {its its' : List Value} {n : Nat} {f : Array Value -> Array Value} {t' : Nat} (I : Inv X pins σ H s) (hH : H l = some (.lst xs))
  (e : s.heap.get? l = some { cls := .type "list", data := .seq its.toArray n }) (hf : f its.toArray = its'.toArray) (hv : Vals ys its') (hz : ys.length <= sizeLine) :
  Inv X pins σ (upd H l (.lst ys)) { s with heap := s.heap.update l (Obj.mapSeq f), toks := t' } := by
 have q := PySem.IsL.update e f
 rw [hf] at q
 refine I.write (x := l) (e := l) (by rw [hH]; exact trivial) (.inl rfl) (fun b' u hb hu => (Heap.get?_update_other s.heap (Obj.mapSeq f) (Ne.symm hb)).trans hu) ⟨_, q⟩ ?_
 exact ⟨hz, its', _, hv, q⟩
theorem Inv.lnew {its : List Value} {t' : Nat} (I : Inv X pins σ H s) (hv : Vals ys its) (hz : ys.length <= sizeLine) :
  Inv X pins σ (upd H s.heap.objs.size (.lst ys)) { s with heap := s.heap.push { cls := .type "list", data := .seq its.toArray }, toks := t' } :=
 I.laid (fun _ _ q => Heap.get?_push_of_some _ q) (Nat.le_refl _) ⟨hz, its, 0, hv, Heap.get?_push_size _ rfl⟩
theorem Inv.fresh (I : Inv X pins σ H s) : H s.heap.objs.size = none := I.hok.fresh (Nat.le_refl _)
theorem Inv.lstM (I : Inv X pins σ H s) (hH : H l = some (.lst xs)) : xs.length <= sizeLine /\ ∃ (its : List Value) (n : Nat), Vals xs its /\ xs.length = its.length /\ s.heap.get? l = some { cls := .type "list", data := .seq its.toArray n } := by
 obtain ⟨z, its, n, r, e⟩ := I.hok l _ hH
 exact ⟨z, its, n, r, r.length, e⟩
theorem ng {n : Nat} (h : n <= sizeLine) : Builtin.List.listTooLong n = false := by
 unfold Builtin.List.listTooLong
 exact decide_eq_false (by omega)
end
section
variable {X : Cx}
noncomputable def kT : V -> List V -> Hp -> VK -> Prop := fun x vs H Q => ∃ l xs y, x = .ref l /\ vs = [y] /\ H l = some (.lst xs) /\ xs.length < sizeLine /\ Q .non (upd H l (.lst (xs ++ [y])))
theorem lE : MtM X "list.append" kT := by
 intro pins s σ H x vs v us Q I rx rv h
 obtain ⟨l, xs, y, rfl, rfl, hH, hz, q⟩ := h
 cases rx
 obtain ⟨u, rfl, ru⟩ := rv.one
 obtain ⟨z, its, n, r, hl, e⟩ := I.lstM hH
 refine call_meets F.slot_list_append ⟨_, e, rfl⟩ F.entry_list_append (F.args_list_append_2 _ _) (PySem.list_append l its.toArray n u (by rw [List.size_toArray]; omega)) ⟨e, ?_⟩
 refine ⟨.non, _, I.lset (its' := its ++ [u]) hH e (by simp) (r.append (.cons ru .nil)) ?_, rfl, q⟩
 rw [List.length_append, List.length_singleton]
 omega
noncomputable def kS : R2 := fun x y H Q => ∃ l b xs zs, x = .ref l /\ y = .ref b /\ H l = some (.lst xs) /\ H b = some (.lst zs) /\ xs.length + zs.length <= sizeLine /\ ∀ p, H p = none -> Q (.ref p) (upd H p (.lst (xs ++ zs)))
theorem yn : OpR X (binaryOp .Add) kS := by
 intro pins s σ H x y v u Q I rx ry h
 obtain ⟨l, b, xs, zs, rfl, rfl, hH, hB, hz, q⟩ := h
 cases rx
 cases ry
 obtain ⟨z, its, n, r, hl, e⟩ := I.lstM hH
 obtain ⟨z2, its2, n2, r2, hl2, e2⟩ := I.lstM hB
 refine PySem.P.add_list e e2 ?_ (by rw [List.size_toArray, List.size_toArray]; omega)
 have ea : its.toArray ++ its2.toArray = (its ++ its2).toArray := by simp
 rw [ea]
 exact ⟨.ref _, _, I.lnew (t' := s.toks) (r.append r2) (by rw [List.length_append]; omega), rfl, q _ I.fresh⟩
end
section
variable {prog : Program} {w : World} {A : Around} {E : Value -> Shared -> Prop} {s : Shared}
theorem rX (its its2 : List Value) (a c : Nat) : its.toArray.extract 0 a ++ its2.toArray ++ its.toArray.extract c its.toArray.size = (its.take a ++ its2 ++ its.drop c).toArray := by
 apply Array.toList_inj.mp
 first
  | (
    simp
    exact List.take_of_length_le (by simp))
  | simp [List.take_of_length_le]
  | simp
set_option maxRecDepth 100000 in
end
section
variable {X : Cx}
end
end L2
namespace Att
open PySem PySem.W PySem.Calls PyProof.Rows
theorem j7 {P : Params} {h : Heap} : ∀ (ns : List Int) (vs : List Value), WellAll P h vs (ns.map WData.int) -> IntsAre vs ns := by
 intro ns
 induction ns with
 |
  nil =>
  intro vs w
  rw [List.map_nil] at w
  cases w
  exact .nil
 |
  cons n ns ih =>
  intro vs w
  rw [List.map_cons] at w
  cases w with
  |
   cons a b =>
   cases a
   exact .cons _ _ (ih _ b)
theorem sA {l : OpenLaw} {n : Nat} (hn : l.most = some n) {P : Params} {h : Heap} {args : List WData} {vals : List Value}
  (hpre : l.row.toRowW.claim.pre args = true) (hwl : WellAll P h vals args) :
  ∃ a vs ns, vals = [Value.ref a] /\ args = [WData.list (ns.map WData.int)] /\ h.get? a = some { cls := .type "list", data := .seq vs.toArray } /\ IntsAre vs ns /\ ns.length <= n := by
 have hsh : WShape.hasAll [] args [.list .int] = true := (pre_splitW hpre).1
 have hc : l.pre.holds [] { args := args } = true := (pre_splitW hpre).2
 obtain ⟨d, r, rfl, h1, h2⟩ := hasAllW_cons hsh
 obtain rfl := hasAllW_nil h2
 obtain ⟨xs, rfl, h3⟩ := hasW_list h1
 obtain ⟨ns, rfl⟩ := items_int h3
 have hlen : ns.length <= n := by
  unfold OpenLaw.pre at hc
  have h4 : (WTm.not (.lt (.lit (.int (n : Int))) (.len (.arg 0)))).holds [] { args := [.list (ns.map .int)] } = true := by
   have h4 := (holds_andW hc).1
   rw [hn] at h4
   exact h4
  have h5 := condW_of h4 (w_not (w_lt w_lit (w_len_list (w_arg rfl))))
  rw [List.length_map] at h5
  refine Nat.le_of_not_lt fun q => ?_
  have q' : (n : Int) < ((ns.length : Nat) : Int) := by omega
  first
   | (rw [decide_eq_true q'] at h5; exact absurd h5 (by decide))
   | (simp at h5; omega)
 cases hwl with
 |
  cons w1 w2 =>
  cases w2
  cases w1 with
  | list ho hall => exact ⟨_, _, ns, rfl, rfl, ho, j7 ns _ hall, hlen⟩
theorem qZ (l : OpenLaw) (args : List WData) : l.row.toRowW.claim.post args (.bool true) args = true :=
 postW_of (r := l.row.toRowW) (X := (true == true))
  (show WShape.has [] (.bool true) .bool = true by first | rfl | decide | simp [WShape.has, WShape.arms, WShape.armsAll])
  (show (WTm.eq .res (.lit (.bool true))).value [] { args := args, res := some (.bool true), after := args } = some (.bool (true == true)) from w_eq_bool (w_res rfl) w_lit) rfl
theorem attach_call {l : OpenLaw} {n : Nat} {q : Program} {loose : List Str} {XP : (Str -> Option Value) -> Heap -> Prop} {YP : World -> Heap -> Prop} {d : DefRec}
  (hn : l.most = some n) (hdf : d.params.defaults = [])
  (call : ∀ (w : World) (s₀ s₁ : Shared) (mg mb : Str -> Option Value) (fa : Addr) (o : Obj) (pm cd doc : Value) (a : Addr) (vs : List Value) (ns : List Int),
   Ground q loose [] XP w s₀ mg mb s₁.heap -> YP w s₁.heap ->
   s₁.heap.get? fa = some o -> o.data = .func (docDef d.name d.params d.body d.scope pm cd doc) -> s₁.heap.CodeRec cd d.name -> mg d.name = some (.ref fa) ->
   s₁.heap.get? a = some { cls := .type "list", data := .seq vs.toArray } -> IntsAre vs ns -> ns.length <= n -> s₁.gens = #[] ->
   codeAny (model l.prog w) callerA (.call (.ref fa) ⟨[.ref a], []⟩) (fun r s' => r = .ok (.ret (.bool true)) /\ OldK s₁.heap s'.heap /\ s'.os = s₁.os /\ AllBare s'.gens) s₁) :
  WalkO q loose XP YP l.row.toRowW d [] (fun f vs => PySem.call f vs) := by
 intro w s₀ s₁ mg mb G Y fa o pm cd doc dV kV ho hd hcd hD hmg hg args vals as hpre hlay hrd hwl hlo
 obtain rfl : dV = .none := Dflts.none hD hdf
 obtain rfl : kV = .none := Dflts.noKw hD
 obtain ⟨a, vs, ns, rfl, rfl, hobj, hints, hlen⟩ := sA hn hpre hwl
 refine enter_call (codeAny_mono (call w s₀ s₁ mg mb fa o pm cd doc a vs ns G Y ho (fd_plain hd) hcd hmg hobj hints hlen hg) fun r s' hq => ?_)
 obtain ⟨rfl, h2, h3, h4⟩ := hq
 exact ⟨.inl ⟨.bool true, .bool true, [], rfl, fun _ => rfl, .bool true, qZ l _, fun _ => ⟨List.Pairwise.nil, fun _ hm => (nomatch hm)⟩⟩, h2, h3, h4⟩
section
variable {prog : Program} {w : World} {A : Around} {E : Value -> Shared -> Prop} {s : Shared} {K : Frag}
noncomputable def ledger (h : Heap) (L d : Addr) : List (Addr × Obj) := (List.range h.objs.size).filterMap fun a => if a = L \/ a = d then none else (h.get? a).map fun o => (a, o)
end
end Att
namespace L2
open PySem PySem.Spec PyProof.Rows
theorem kZ : ∀ {vs : List Value} {ns : List Int}, IntsAre vs ns -> Vals (ns.map V.int) vs
 | _, _, .nil => .nil
 | _, _, .cons n t h => .cons ⟨t, rfl⟩ (kZ h)
noncomputable def ki (H : Hp) : Prop := ∀ b, H b = none \/ ∃ o xs, H b = some (.frz o (.lst xs))
theorem
    u5 {P : Program} {w : World} {K : PySem.W.Frag} {mg mb : Str -> Option Value} {CX : CXT} {k : Nat} {fa a : Addr} {fd : FuncData} {x : Str} {sp : Sp} {s₁ : Shared} {vs : List Value} {ns : List Int}
  (KX : K.In s₁.heap) (hns : s₁.heap.Ns mainGlobals mg) (hb : s₁.heap.Ns builtinsNs mb) (hbb : ∀ x : Str, x ≠ "__name__" -> mb x = bootBuiltins x) (hlim : s₁.heap.NoLimit) (hg : s₁.gens = #[])
  (ha : s₁.heap.get? a = some { cls := .type "list", data := .seq vs.toArray }) (hi : IntsAre vs ns) (hl : ns.length <= sizeLine) (hr : Room k callerA)
  (F : ∀ base : Heap, K.In base -> base.Ns mainGlobals mg -> FnOk P w K mg base CX k fa fd [x] sp) (hbind : ∀ (s : Shared) (u : Value), BindsTo s fd ⟨[u], []⟩ [(x, u)])
  (hsp : ∀ H : Hp, ki H -> SqL K H a (ns.map V.int) -> sp [.ref a] H (fun v _ => v = .bl true) fun _ _ _ => False)
  (hCX : ∀ H e s', CX [] H s₁ (fun _ _ _ => False) e s' -> False) :
  codeAny (model P w) callerA (.call (.ref fa) ⟨[.ref a], []⟩) (fun r s' => r = .ok (.ret (.bool true)) /\ OldK s₁.heap s'.heap /\ s'.os = s₁.os /\ AllBare s'.gens) s₁ := by
 have rv := kZ hi
 have lenV := hi.length
 have core
      : ∀ H : Hp, ki H -> SqL K H a (ns.map V.int) -> HOk P w H s₁.heap -> (∀ b, H b ≠ none -> b = a) -> (H a ≠ none -> K.lookup a = none) ->
   codeAny (model P w) callerA (.call (.ref fa) ⟨[.ref a], []⟩) (fun r s' => r = .ok (.ret (.bool true)) /\ OldK s₁.heap s'.heap /\ s'.os = s₁.os /\ AllBare s'.gens) s₁ := by
  intro H hO hS hok hA hK
  have base_of : ∀ {b : Addr} {o : Obj}, s₁.heap.get? b = some o -> H b = none -> (gR s₁.heap H).get? b = some o := fun e n => ub e n
  have noA : ∀ {b : Addr} {o : Obj} {es : Array DictEntry} {ep : Nat}, s₁.heap.get? b = some o -> o.data = .dict es ep -> H b = none := fun {b o es ep} e d => by
   cases q : H b with
   | none => rfl
   |
    some u =>
    have e' : b = a := hA b (by rw [q]; simp)
    subst e'
    rw [ha] at e; cases e
    have d' : Data.seq vs.toArray _ = Data.dict es ep := d
    cases d'
  have nsK : ∀ {b : Addr} {m : Str -> Option Value}, s₁.heap.Ns b m -> (gR s₁.heap H).Ns b m := fun {b m} ⟨o, es, ep, e, d, r⟩ => ⟨o, es, ep, base_of e (noA e d), d, r⟩
  have hKb : K.In (gR s₁.heap H) := fun b o e => base_of (KX b o e) (by
   cases q : H b with
   | none => rfl
   |
    some u =>
    have e' : b = a := hA b (by rw [q]; simp)
    subst e'
    rw [hK (by rw [q]; simp)] at e; cases e)
  have hM : Mod K mg (gR s₁.heap H) := ⟨hKb, nsK hns, ⟨mb, nsK hb, hbb⟩, let ⟨mc, h1, h2⟩ := hlim; ⟨mc, nsK h1, h2⟩⟩
  have e0 : Env0 P w K mg (gR s₁.heap H) callerA [] s₁ H := ⟨rfl, hM, fun b o e => yb e, Nat.le_of_eq (qH _ _), trivial, fun b hb => absurd (show b ∈ ([] : List Addr) from hb) (by simp), hok, .of_eq hg⟩
  refine codeAny_mono ((F _ hKb (nsK hns)).run callerA [] s₁ H ⟨[.ref a], []⟩ [.ref a] [.ref a] _ _ hr e0 (hbind s₁ (.ref a)) (.cons rfl .nil) (hsp H hO hS)) fun r s' h => ?_
  cases r with
  | error e => exact (hCX H e s' h).elim
  |
   ok fl =>
   cases fl with
   | next => exact False.elim h
   | brk => exact False.elim h
   | cont => exact False.elim h
   |
    ret u =>
    obtain ⟨v, H', os, bare, un, hok', r', q⟩ := h
    have q' : v = .bl true := q
    subst q'
    obtain rfl : u = Value.bool true := r'
    refine ⟨rfl, OldK.of_keep fun b o e => ?_, os, bare⟩
    cases q : H b with
    | none => exact un.keep b o e q (by intro z; exact absurd (show b ∈ ([] : List Addr) from z) (by simp)) (by simp)
    |
     some u =>
     rcases hO b with z | ⟨ob, xs, z⟩
     ·rw [q] at z; cases z
     ·have z2 := un.frzs b ob _ z
      obtain ⟨e1, _⟩ := hok b _ z
      obtain ⟨e2, _⟩ := hok' b _ z2
      rw [e] at e1; cases e1
      exact e2
 cases hk : K.lookup a with
 |
  some o =>
  have e := KX a o hk
  rw [ha] at e
  cases e
  refine core (fun _ => none) (fun _ => .inl rfl) (.inr ⟨_, vs.toArray, _, hk, rfl, rfl, rfl, by rw [List.size_toArray, lenV]; exact hl, by simpa using rv⟩) (fun b u z => by have z' : (none : Option HO) = some u := z; cases z') (fun b z => absurd rfl z) fun z => absurd rfl z
 |
  none =>
  refine core (fun b => if b = a then some (.frz { cls := .type "list", data := .seq vs.toArray } (.lst (ns.map V.int))) else none) (fun b => ?_) (.inl (.inr ⟨{ cls := .type "list", data := .seq vs.toArray }, if_pos rfl⟩)) (fun b u z => ?_) (fun b z => ?_) fun _ => hk
  ·by_cases hb : b = a
   ·exact .inr ⟨_, _, if_pos hb⟩
   ·exact .inl (if_neg hb)
  ·by_cases hb : b = a
   ·have z' := (if_pos hb).symm.trans z
    cases z'
    subst hb
    exact ⟨ha, by rw [List.length_map]; exact hl, vs, _, rv, ha⟩
   ·have z' := (if_neg hb).symm.trans z
    cases z'
  ·by_cases hb : b = a
   ·exact hb
   ·exact absurd (if_neg hb) z
end L2
namespace L2
open PySem PySem.Spec PyProof.Rows
abbrev KOf {K : PySem.W.Frag} {h : Heap} (_ : K.In h) : PySem.W.Frag := K
theorem
    walk_of {l : PySem.W.OpenLaw} {n k : Nat} {q : Program} {loose : List Str} {XP : (Str -> Option Value) -> Heap -> Prop} {YP : World -> Heap -> Prop} {d : DefRec} {K : Params -> PySem.W.Frag} {CX : World -> CXT} {sp : World -> Sp} {x : Str}
  (hn : l.most = some n) (hn2 : n <= sizeLine) (hdf : d.params.defaults = []) (hr : Room k callerA)
  (hY : ∀ (w : World) (h : Heap), YP w h -> (K w.params).In h)
  (F : ∀ (w : World) (mg : Str -> Option Value) (fa : Addr) (h : Heap), (K w.params).In h -> h.Ns mainGlobals mg -> mg d.name = some (.ref fa) ->
   ∃
    fd : FuncData, (∀ (s : Shared) (u : Value), BindsTo s fd ⟨[u], []⟩ [(x, u)]) /\
    ∀ base : Heap, (K w.params).In base -> base.Ns mainGlobals mg -> FnOk l.prog w (K w.params) mg base (CX w) k fa fd [x] (sp w))
  (hsp : ∀ (w : World) (H : Hp) (a : Addr) (ns : List Int), ns.length <= n -> ki H -> SqL (K w.params) H a (ns.map V.int) -> sp w [.ref a] H (fun v _ => v = .bl true) fun _ _ _ => False)
  (hCX : ∀ (w : World) (H : Hp) (s : Shared) (e : Value) (s' : Shared), CX w [] H s (fun _ _ _ => False) e s' -> False) :
  PySem.W.WalkO q loose XP YP l.row.toRowW d [] (fun f vs => PySem.call f vs) := by
 refine Att.attach_call hn hdf fun w s₀ s₁ mg mb fa o pm cd doc a vs ns G Y ho hd hcd hmg hobj hints hlen hg => ?_
 have KX := hY w _ Y
 obtain ⟨fd, hb, hF⟩ := F w mg fa _ KX G.T.g hmg
 exact u5 KX G.T.g G.T.b G.T.builtins G.T.nolimit hg hobj hints (Nat.le_trans hlen hn2) hr hF hb (fun H hO hS => hsp w H a ns hlen hO hS) fun H e s' => hCX w H s₁ e s'
end L2
namespace L2
open PySem PySem.Spec PyProof.Rows
noncomputable def cX (s : Stmt) : Arguments := match s with
 | .FunctionDef _ a _ _ _ _ _ _ _ _ => a
 | _ => { posonlyargs := [], args := [], vararg := none, kwonlyargs := [], kw_defaults := [], kwarg := none, defaults := [] }
noncomputable def bR (s : Stmt) : List Stmt := match s with
 | .FunctionDef _ _ b _ _ _ _ _ _ _ => b
 | _ => []
noncomputable def au (s : Stmt) : Scope := match s with
 | .FunctionDef _ _ _ _ _ _ sc _ _ _ => sc
 | _ => { kind := .function, names := [], isGenerator := false, isCoroutine := false }
abbrev E0 : XK := fun _ _ _ => False
structure Fun (K : PySem.W.Frag) (x qual : Str) (st : Stmt) (f : Addr) (fd : FuncData) : Prop where
 ex : ∃ (oc : Value) (od : Option Addr) (kV doc pm : Value) (an : Option Addr) (cdv ct : Value) (osl : Array (Option Value)),
  fd = PySem.W.fnOf x qual (cX st) (bR st) (au st) .none kV doc pm an cdv ct /\ K.lookup f = some ⟨oc, od, .func fd, osl⟩ /\ PySem.W.codeIn K cdv qual = true
 kp : PySem.W.keepIn K (.ref f) = true
section
variable {P : Program} {w : World} {K : PySem.W.Frag} {mg : Str -> Option Value} {base : Heap}
theorem Fun.binds {x qual : Str} {st : Stmt} {f : Addr} {fd : FuncData} {ps : List Str} (F : Fun K x qual st f fd)
  (h : ∀ (kV doc pm : Value) (an : Option Addr) (cdv ct : Value) (us : List Value), us.length = ps.length -> bindArgs (PySem.W.fnOf x qual (cX st) (bR st) (au st) .none kV doc pm an cdv ct) ⟨us, []⟩ = pure (ps.zip us)) : Binds K fd ps [] := by
 obtain ⟨oc, od, kV, doc, pm, an, cdv, ct, osl, rfl, lk, hcd⟩ := F.ex
 exact .all (h kV doc pm an cdv ct)
theorem zA {x qual : Str} {st : Stmt} {f : Addr} {oc : Value} {od an : Option Addr} {osl : Array (Option Value)} {kV doc pm cdv ct : Value} (l : K.lookup f = some ⟨oc, od, .func (PySem.W.fnOf x qual (cX st) (bR st) (au st) .none kV doc pm an cdv ct), osl⟩)
  (c : PySem.W.codeIn K cdv qual = true) (k : PySem.W.keepIn K (.ref f) = true) : Fun K x qual st f (PySem.W.fnOf x qual (cX st) (bR st) (au st) .none kV doc pm an cdv ct) := ⟨⟨oc, od, kV, doc, pm, an, cdv, ct, osl, rfl, l, c⟩, k⟩
end
theorem dz {A : Around} {k : Nat} (hr : Room k A) : A.units + 1 < cLine := Nat.lt_of_le_of_lt (Nat.add_le_add_left (by decide : 1 <= 64) _) hr.units
section
variable {X : Cx}
end
end L2
set_option Elab.async false
set_option linter.all false
set_option maxRecDepth 100000
namespace L2
open PySem PySem.Spec PyProof.Rows
section
variable {X : Cx} {pins : List (Addr × Obj)} {σ : St} {H : Hp} {s : Shared}
theorem Inv.track {a : Addr} {o : HO} (I : Inv X pins σ H s) (hn : H a = none) (h0 : X.s₀.heap.get? a = none) (hL : a ≠ X.env.locals) (hc : ∀ x c, X.env.cells.lookup x = some c -> c ≠ a)
  (hp : ∀ p ∈ X.pn ++ pins, p.1 ≠ a) (new : ObjOk X.prog X.w (upd H a o) s.heap a o) : Inv X pins σ (upd H a o) s := by
 have ne : ∀ b u, H b = some u -> b ≠ a := fun b u e z => by rw [z, hn] at e; cases e
 have ne0 : ∀ b u, X.s₀.heap.get? b = some u -> b ≠ a := fun b u e z => by rw [z, h0] at e; cases e
 refine ⟨I.ok, I.os, I.bare, ⟨I.base.keep, I.base.slot, fun b u e n hx => ?_, I.base.there, fun b xs e => ?_, fun b u xs e => ?_, fun b ps e => ?_⟩, I.loc, I.cell, ?_, fun x c e => ?_, fun p hp' => ?_, fun b u e => ?_, I.len⟩
 ·rw [aC (ne0 b u e)]; exact I.base.free b u e n hx
 ·have q := I.base.tups b xs e
  rw [aC (ne _ _ q)]; exact q
 ·have q := I.base.frzs b u xs e
  rw [aC (ne _ _ q)]; exact q
 ·obtain ⟨m, q⟩ := I.base.tbls b ps e
  exact ⟨m, by rw [aC (ne _ _ q)]; exact q⟩
 ·rw [aC (Ne.symm hL)]; exact I.free
 ·rw [aC (hc x c e)]; exact I.freeC x c e
 ·obtain ⟨e, n, r⟩ := I.pin p hp'
  exact ⟨e, by rw [aC (hp p hp')]; exact n, r⟩
 ·by_cases hb : b = a
  ·subst hb; rw [bz] at e; cases e; exact new
  ·rw [aC hb] at e
   exact (I.hok b u e).stay (fun c v _ q => q) (fun c q => by rw [aC (ne _ _ q)]; exact q) fun c xs q => by rw [aC (ne _ _ q)]; exact q
end
theorem
    gr {env : Env} : ∀ {names : List (Str × NameKind)} (cs : List (Str × Addr)), (∀ x ∈ names, x.2 = .free -> ∃ c, env.cells.lookup x.1 = some c) -> (∀ x c, cs.lookup x = some c -> env.cells.lookup x = some c) ->
  ∃
   cl, (forIn names cs fun (x : Str × NameKind) (r : List (Str × Addr)) => if (x.2 == NameKind.free) = true then do let a <- cellOf env x.1; pure (ForInStep.yield ((x.1, a) :: r)) else pure (ForInStep.yield r) : Sem (List (Str × Addr))) = pure cl /\
   (∀ x c, cl.lookup x = some c -> env.cells.lookup x = some c) /\ (∀ x c, cs.lookup x = some c -> ∃ c', cl.lookup x = some c') /\ ∀ x ∈ names, x.2 = .free -> ∃ c, cl.lookup x.1 = some c
 | [], cs, _, h => ⟨cs, by simp, h, fun x c e => ⟨c, e⟩, fun _ hx => nomatch hx⟩
 |
  (n, k) :: r, cs, hf, h => by
  rw [List.forIn_cons]
  by_cases hk : k = .free
  ·subst hk
   obtain ⟨c, hc⟩ := hf (n, .free) List.mem_cons_self rfl
   have hcell : cellOf env n = pure c := by unfold cellOf; rw [hc]
   have h' : ∀ x d, ((n, c) :: cs).lookup x = some d -> env.cells.lookup x = some d := fun x d e => by
    rw [List.lookup_cons] at e
    cases q : x == n with
    | true => rw [q] at e; cases e; rw [beq_iff_eq.mp q]; exact hc
    | false => rw [q] at e; exact h x d e
   obtain ⟨cl, e1, e2, e3, e4⟩ := gr (env := env) (names := r) ((n, c) :: cs) (fun x hx => hf x (List.mem_cons_of_mem _ hx)) h'
   have top : ∃ c', cl.lookup n = some c' := e3 n c (by rw [List.lookup_cons]; simp)
   refine ⟨cl, ?_, e2, fun x d e => ?_, fun x hx hfr => ?_⟩
   ·simp only [beq_self_eq_true, if_true, hcell]
    exact e1
   ·by_cases q : x = n
    ·rw [q]; exact top
    ·exact e3 x d (by rw [List.lookup_cons, (beq_eq_false_iff_ne.mpr q : (x == n) = false)]; exact e)
   ·rcases List.mem_cons.mp hx with rfl | hx
    ·exact top
    ·exact e4 x hx hfr
  ·have hb : (k == NameKind.free) = false := by simpa using hk
   obtain ⟨cl, e1, e2, e3, e4⟩ := gr (env := env) (names := r) cs (fun x hx => hf x (List.mem_cons_of_mem _ hx)) h
   refine ⟨cl, ?_, e2, e3, fun x hx hfr => ?_⟩
   ·simp only [hb, Bool.false_eq_true, if_false]
    exact e1
   ·rcases List.mem_cons.mp hx with rfl | hx
    ·exact absurd hfr hk
    ·exact e4 x hx hfr
theorem ic {env : Env} {scope : Scope} (hf : ∀ x ∈ scope.names, x.2 = .free -> ∃ c, env.cells.lookup x.1 = some c) :
  ∃ cl, closureFor scope env = pure cl /\ (∀ x c, cl.lookup x = some c -> env.cells.lookup x = some c) /\ ∀ x ∈ scope.names, x.2 = .free -> ∃ c, cl.lookup x.1 = some c := by
 obtain ⟨cl, e1, e2, _, e4⟩ := gr (env := env) (names := scope.names) [] hf (fun x c e => by simp at e)
 refine ⟨cl, ?_, e2, e4⟩
 unfold closureFor
 simp only [e1]
 rfl
noncomputable def aZ (X : Cx) (N : List Str) (scope : Scope) (cl : List (Str × Addr)) (C : Addr) (s₂ : Shared) (H : Hp) (fp : List Addr) : Cx :=
 { X with N := N, s₀ := s₂, H₀ := H, env := compEnvC scope cl C X.env, outer := X.stack, stack := X.stack, ex := fp, fn := fun _ => false, pn := [], xe := fun _ _ => False }
noncomputable def cq (sub : List (Option Nat)) (σ : St) : St := sub.map fun o => o.bind fun i => (σ[i]?).bind id
noncomputable def LcW (J : It) (sub : List (Option Nat)) (g : TG) (tc : TT) (te : TE) (σ : St) (H1 : Hp) (Q : VK) : Prop := ∃ W : Nat -> Nat -> List V -> St -> Hp -> Prop, (∃ m, W 0 m [] (cq sub σ) H1) /\ ∀ i m ys σ H, W i m ys σ H ->
 (J.stop i H /\ ys.length <= sizeLine /\ ∀ D, H D = none -> Q (.ref D) (upd H D (.lst ys))) \/
 (J.go i H /\ ys.length < sizeLine /\ ∃ Nx : List V -> St -> Hp -> Prop, (∀ ys' σ' H', Nx ys' σ' H' -> ∃ m', m' < m /\ W (i + 1) m' ys' σ' H') /\
  ∀ x H', J.yld i H x H' -> g x σ H' fun σ2 H2 => tc σ2 H2 fun b H3 => if b = true then te σ2 H3 fun y H4 => Nx (ys ++ [y]) σ2 H4 else Nx ys σ2 H3)
noncomputable def iP (wi : TI) (sub : List (Option Nat)) (g : TG) (tc : TT) (te : TE) : TE := fun σ H Q => wi σ H fun J H1 => LcW J sub g tc te σ H1 Q
abbrev sY : TT := fun _ H Q => Q true H
section
variable {prog : Program} {w : World} {A : Around} {R : Result -> Shared -> Prop} {s : Shared}
theorem ij {elt target iter : Expr} {ifs : List Expr} {scope : Scope} {pos : Pos} {it acc : Value} {env : Env} (I : Nat -> Shared -> Prop)
  (turn
     : ∀ n s, I n s -> wpAny (model prog w) A (pyNext it) (fun r s₁ => match r with
   | none => R (.ok .next) s₁
   | some v => wpAny (model prog w) A (letOwnedTupleGo target it v) (fun _ s₁' => wpAny (model prog w) A (assign target env v) (fun _ s₂ =>
     wpAny (model prog w) A (forIn ifs true fun c r => if r = true then do let ok <- isTrue c env (eval c env); pure (ForInStep.yield ok) else pure (ForInStep.yield r))
      (fun ok s₃ => if ok = true then wpAny (model prog w) A (eval elt env) (fun x s₄ => wpAny (model prog w) A (call (.builtin "list.append") [acc, x]) (fun _ s₅ => ∃ m, m < n /\ I m s₅) (fun _ _ => False) s₄) (fun _ _ => False) s₃
       else ∃ m, m < n /\ I m s₃) (fun _ _ => False) s₂) (fun _ _ => False) s₁') (fun _ _ => False) s₁) (fun _ _ => False) s)
  (n : Nat) (h : I n s) :
  codeAny (model prog w) A (.compLoop (.ListComp elt [⟨target, iter, ifs, 0⟩] scope pos) 0 it acc env) R s := by
 refine codeAny_loop rfl I (fun n s hI => ?_) n h
 show wpAny _ _ ((compTurn (.ListComp elt [⟨target, iter, ifs, 0⟩] scope pos) 0 it acc env).onRaise (fun x => do noteFrame x env; theTreesLotGoes x)) _ _ s
 refine wpAny_noted ?_
 rw [compTurn_list]
 refine wpAny_mono (E := fun _ _ => False) ?_ (fun _ _ q => q) fun _ _ q => q.elim
 refine wpAny_bind (wpAny_standAt (wpAny_bind (wpAny_mono (turn n s hI) (fun r s₁ h₁ => ?_) fun _ _ h' => h')))
 cases r with
 | none => exact wpAny_pure h₁
 |
  some v =>
  refine wpAny_bind (wpAny_mono h₁ (fun _ s₁' h₁' => ?_) fun _ _ h' => h')
  refine wpAny_bind (wpAny_mono h₁' (fun _ s₂ h₂ => ?_) fun _ _ h' => h')
  refine wpAny_bind (wpAny_mono h₂ (fun ok s₃ h₃ => ?_) fun _ _ h' => h')
  cases ok with
  |
   true =>
   simp only [if_true] at h₃ ⊢
   refine wpAny_bind (wpAny_bind (wpAny_mono h₃ (fun x s₄ h₄ => ?_) fun _ _ h' => h'))
   refine wpAny_bind (wpAny_mono h₄ (fun _ s₅ h₅ => ?_) fun _ _ h' => h')
   exact wpAny_pure (wpAny_pure ⟨rfl, h₅⟩)
  |
   false =>
   simp only [Bool.false_eq_true, if_false] at h₃ ⊢
   first
    | exact wpAny_bind (wpAny_pure (wpAny_pure ⟨rfl, h₃⟩))
    | exact wpAny_pure ⟨rfl, h₃⟩
end
section
variable {X : Cx}
noncomputable def PTs (X : Cx) (ifs : List Expr) (t : TT) : Prop :=
 ∀
  (pins : List (Addr × Obj)) (s : Shared) (σ : St) (H : Hp) (Q : Bool -> Hp -> Prop), Inv X pins σ H s -> t σ H Q ->
  wpAny (model X.prog X.w) X.A (forIn ifs true fun c r => if r = true then do let ok <- isTrue c X.env (eval c X.env); pure (ForInStep.yield ok) else pure (ForInStep.yield r)) (TP X pins σ Q) X.xe s
theorem oK : PTs X [] (fun _ H Q => Q true H) := fun pins s σ H Q I h => by
 rw [List.forIn_nil]
 exact wpAny_pure ⟨H, I, h⟩
theorem
    AV {elt iter tg : Expr} {ifs : List Expr} {scope : Scope} {pos : Pos} {wi : TI} {g : TG} {tc : TT} {te : TE} {N : List Str} {sub : List (Option Nat)}
  (hc : X.calm = true) (hi : PI X tg iter wi)
  (hk : scope.kind = .function) (hnc : ∀ x ∈ scope.names, x.2 ≠ .cell) (hnames : ∀ x ∈ scope.names, x.2 = .local -> scope.names.lookup x.1 = some .local)
  (hfr : ∀ x ∈ scope.names, x.2 = .free -> X.env.kindOf x.1 = some .cell \/ X.env.kindOf x.1 = some .free)
  (hsl : sub.length = N.length) (hsub : ∀ (j i : Nat) (x : Str), sub[j]? = some (some i) -> N[j]? = some x -> X.N[i]? = some x /\ scope.names.lookup x = some .free)
  (hg : ∀ cl C s₂ H fp, PG (aZ X N scope cl C s₂ H fp) tg g) (ht : ∀ cl C s₂ H fp, PTs (aZ X N scope cl C s₂ H fp) ifs tc) (he : ∀ cl C s₂ H fp, PE (aZ X N scope cl C s₂ H fp) elt te)
  (hs : ∀ x, foldedSetIterable iter X.env x = pure x := by intro _; rfl) :
  PE X (.ListComp elt [⟨tg, iter, ifs, 0⟩] scope pos) (iP wi sub g tc te) := by
 intro pins s σ H Q I h
 obtain ⟨cl, hclos, hcl, hclf⟩ := ic (env := X.env) (scope := scope) fun x hx hf => I.ok.has x.1 (hfr x hx hf)
 rw [eval_ListComp]
 refine wpAny_comprehension_free (use := none) rfl hs hclos hk hnames ?_
 show wpAny _ _ (eval iter X.env) _ _ _
 refine thn (hi pins s σ H _ I h) fun v s1 h1 => thn h1 fun itv s2 h2 => ?_
 obtain ⟨it, fp, tn, J, H2, e, I2, T, st2, f2, W, ⟨m0, w0⟩, turn⟩ := h2
 subst e
 refine wpAny_newObj_type (wpAny_newFunctionEnv hnc (by intro y hy; simp at hy) (fun h₁ hns₁ hsb₁ => ?_) hk)
 dsimp only at hns₁ hsb₁ ⊢
 generalize hH2 : s2.heap.push { cls := .type "list", dict := none, data := .seq ([] : List Value).toArray } = G2 at hns₁ hsb₁ ⊢
 have hC : G2.objs.size = s2.heap.objs.size + 1 := by rw [<- hH2, Heap.size_push]
 have hDC : s2.heap.objs.size ≠ G2.objs.size := by omega
 have below : ∀ b, b < s2.heap.objs.size -> b ≠ G2.objs.size /\ b ≠ s2.heap.objs.size := fun b hb => ⟨by omega, by omega⟩
 have old : ∀ b o, s2.heap.get? b = some o -> h₁.get? b = some o := fun b o e => hsb₁.extBut b o (below b (Heap.lt_size e)).1 (Heap.get?_push_of_some _ (hH2 ▸ Heap.get?_push_of_some _ e))
 have hD₁ : h₁.get? s2.heap.objs.size = some { cls := .type "list", dict := none, data := .seq ([] : List Value).toArray } := hsb₁.extBut _ _ hDC (Heap.get?_push_of_some _ (hH2 ▸ Heap.get?_push_size _ rfl))
 have fresh : ∀ a, s2.heap.objs.size <= a -> s2.heap.get? a = none := fun a ha => Heap.get?_none_of_le ha
 have cellOld : ∀ x c, cl.lookup x = some c -> c < s2.heap.objs.size := fun x c e => by
  obtain ⟨v, z⟩ := I2.cell x c (hcl x c e)
  exact z.lt
 have fpOld : ∀ b ∈ fp, b < s2.heap.objs.size := fun b hb => by
  obtain ⟨o, e, _⟩ := T.obj _ _ st2 b hb
  exact Heap.lt_size e
 let Y : Cx := aZ X N scope cl G2.objs.size s2 H2 fp
 have okY : Y.Ok
         := by
  refine ⟨I2.ok.mod, ?_, I2.ok.glob, I2.ok.blt, ?_, fun x y c e1 e2 => I2.ok.inj x y c (hcl x c e1) (hcl y c e2), fun x hx => ?_, fun x c hfn _ => absurd hfn Bool.false_ne_true, I2.ok.hd, I2.ok.frames, .inl rfl,
   fun b hb => ⟨?_, fun x c e z => ?_⟩, I2.bs, Nat.le_trans I2.ok.bsz I2.sz, fun b o e hb => ?_, fun b hb hf => ?_, I2.stack, I2.stkFree⟩
  ·show (relabel scope X.env).kind = .function
   exact hk
  ·show s2.heap.objs.size <= G2.objs.size
   omega
  ·have hx' : (
         relabel scope X.env).names.lookup x = some .cell \/ (relabel scope X.env).names.lookup x = some .free := hx
   have : ∃ k,
         (x, k) ∈ scope.names /\ k = .free := by
    have gen : ∀ (names : List (Str × NameKind)), (∀ y ∈ names, y.2 ≠ .cell) -> ∀ kk, (kk = NameKind.cell \/ kk = NameKind.free) -> (names.map fun (n, k) => if (k == NameKind.free && X.env.scope.kind == .function && X.env.kindOf n == some .cell) then (n, NameKind.cell) else (n, k)).lookup x = some kk -> ∃ k, (x, k) ∈ names /\ k = .free := by
     intro names
     induction names with
     | nil => intro _ kk _ e; simp at e
     |
      cons y r ih =>
      intro hn kk hkk e
      obtain ⟨n, k⟩ := y
      rw [List.map_cons, List.lookup_cons] at e
      by_cases hkf : k = .free
      ·subst hkf
       by_cases hxn : x = n
       ·exact ⟨.free, by rw [hxn]; exact List.mem_cons_self, rfl⟩
       ·have hb : (x == (if (NameKind.free == NameKind.free && X.env.scope.kind == .function && X.env.kindOf n == some .cell) = true then (n, NameKind.cell) else (n, NameKind.free)).1) = false := by
         split <;> exact beq_eq_false_iff_ne.mpr hxn
        rw [hb] at e
        obtain ⟨k', m, q⟩ := ih (fun z hz => hn z (List.mem_cons_of_mem _ hz)) kk hkk e
        exact ⟨k', List.mem_cons_of_mem _ m, q⟩
      ·have hb0 : (k == NameKind.free && X.env.scope.kind == .function && X.env.kindOf n == some .cell) = false := by
        have : (k == NameKind.free) = false := by simpa using hkf
        rw [this]; rfl
       rw [hb0] at e
       simp only [Bool.false_eq_true, if_false] at e
       cases q : x == n with
       |
        true =>
        rw [q] at e
        have e' : k = kk := Option.some.inj e
        subst e'
        rcases hkk with z | z
        ·exact absurd z (hn (n, k) List.mem_cons_self)
        ·exact absurd z hkf
       |
        false =>
        rw [q] at e
        obtain ⟨k', m, q⟩ := ih (fun z hz => hn z (List.mem_cons_of_mem _ hz)) kk hkk e
        exact ⟨k', List.mem_cons_of_mem _ m, q⟩
    rcases hx' with z | z
    ·exact gen scope.names hnc _ (.inl rfl) z
    ·exact gen scope.names hnc _ (.inr rfl) z
   obtain ⟨k, m, q⟩ := this
   exact hclf (x, k) m q
  ·show b ≠ G2.objs.size
   exact (below b (fpOld b hb)).1
  ·exact (f2 b hb).2.2.2.2.1 x c (hcl x c e) z
  ·rcases (f2 b hb).2.2.2.1 with z | z
   ·exact I2.ok.noex b o e z
   ·exact absurd (Nat.lt_of_lt_of_le (Heap.lt_size e) (Nat.le_trans I2.ok.bsz z)) (Nat.lt_irrefl _)
  ·have hf' : b ∈ frs X.stack := hf
   rcases List.mem_cons.mp (I2.stkSub b hf') with z | z
   ·exact (f2 b hb).2.1 z
   ·exact (f2 b hb).2.2.1 z
 have startLoc
        : ∃ m, h₁.Ns G2.objs.size m /\ ∀ (i : Nat) (x : Str) (v : V), N[i]? = some x -> (cq sub σ)[i]? = some (some v) -> Vis (relabel scope X.env) x -> ∃ u, RelV v u /\ tZ Y.env h₁ m x u := by
  refine ⟨_, hns₁, fun j x v e1 e2 e3 => ?_⟩
  unfold cq at e2
  rw [List.getElem?_map] at e2
  cases q : sub[j]? with
  | none => rw [q] at e2; cases e2
  |
   some o =>
   rw [q] at e2
   cases o with
   | none => cases e2
   |
    some i =>
    obtain ⟨hNi, hfree⟩ := hsub j i x q e1
    have e2' : (σ[i]?).bind id = some v := Option.some.inj e2
    have e2'' : σ[i]? = some (some v) := by
     cases z : σ[i]? with
     | none => rw [z] at e2'; cases e2'
     | some y => rw [z] at e2'; rw [show y = some v from e2']
    obtain ⟨m2, hn2, hl2⟩ := I2.loc
    have hkx := hfr (x, .free) (PySem.mem_of_lookup hfree) rfl
    obtain ⟨u, r, l⟩ := hl2 i x v hNi e2'' (by rcases hkx with z | z; exact .inr (.inl z); exact .inr (.inr z))
    refine ⟨u, r, .inr ⟨?_, ?_⟩⟩
    ·rcases e3
          with z | z | z
     ·exfalso
      have gen : ∀ (names : List (Str × NameKind)), names.lookup x = some .free -> (names.map fun (n, k) => if (k == NameKind.free && X.env.scope.kind == .function && X.env.kindOf n == some .cell) then (n, NameKind.cell) else (n, k)).lookup x = some .local -> False := by
       intro names
       induction names with
       | nil => intro e _; simp at e
       |
        cons y r ih =>
        intro e1 e2
        obtain ⟨n, k⟩ := y
        rw [List.lookup_cons] at e1
        rw [List.map_cons, List.lookup_cons] at e2
        by_cases hxn : x = n
        ·have hb1 : (x == n) = true := beq_iff_eq.mpr hxn
         rw [hb1] at e1
         have : k = .free := Option.some.inj e1
         subst this
         split at e2
         ·rename_i hq
          split at e2 <;> cases e2
         ·rename_i hq
          split at hq <;> (rw [hb1] at hq; cases hq)
        ·have hb1 : (x == n) = false := beq_eq_false_iff_ne.mpr hxn
         rw [hb1] at e1
         refine ih e1 ?_
         split at e2
         ·rename_i hq
          split at hq <;> (rw [hb1] at hq; cases hq)
         ·exact e2
      exact gen scope.names hfree z
     ·exact .inl z
     ·exact .inr z
    ·obtain ⟨c, hc'⟩ := hclf (x, .free) (PySem.mem_of_lookup hfree) rfl
     refine ⟨c, hc', ?_⟩
     rcases l with ⟨k, _⟩ | ⟨_, c2, ec2, z⟩
     ·rcases hkx with z | z <;> (rw [k] at z; cases z)
     ·have := hcl x c hc'
      rw [ec2] at this
      cases this
      obtain ⟨oc, hoc, hd⟩ := z
      exact ⟨oc, old _ _ hoc, hd⟩
 have pinD : ∀ {σ' : St} {H' : Hp} {s' : Shared} {pl : List (Addr × Obj)} {o : Obj}, Inv Y pl σ' H' s' -> s'.heap.get? s2.heap.objs.size = some o -> (∀ v, o.data ≠ .cell v) -> H' s2.heap.objs.size = none -> Inv Y [(s2.heap.objs.size, o)] σ' H' s' := fun {σ' H' s' pl o} IY e d n =>
  IY.pins_of fun p hp => by
   have e' : p = (s2.heap.objs.size, o) := by simpa using hp
   subst e'
   refine ⟨e, n, ?_, ?_, d⟩
   ·show s2.heap.objs.size ≠ G2.objs.size
    omega
   ·intro hf
    have hf' : s2.heap.objs.size ∈ frs X.stack := hf
    obtain ⟨_, o', ho', _⟩ := I2.stack.mem hf'
    exact absurd (Heap.lt_size ho') (Nat.lt_irrefl _)
 have fpY : ∀ {H' : Hp} {pl : List (Addr × Obj)}, (∀ b ∈ fp, H' b = none) -> (∀ p ∈ pl, p.1 ∉ fp) -> ∀ b ∈ fp, FpOk Y pl H' b := fun {H' pl} hn hp b hb => by
  refine ⟨hn b hb, ?_, ?_, .inl hb, fun x c e => ?_, fun p hp' => ?_⟩
  ·exact (okY.exf b hb).1
  ·exact okY.exfs b hb
  ·exact (okY.exf b hb).2 x c e
  ·intro z
   have hp'' : p ∈ pl := by simpa [Y, aZ] using hp'
   exact hp p hp'' (by rw [z]; exact hb)
 have hDfp : s2.heap.objs.size ∉ fp := fun z => Nat.lt_irrefl _ (fpOld _ z)
 have loop
      : ∀ s₃ : Shared, s₃ = { s2 with heap := h₁, toks := s2.toks + ([] : List (Str × Value)).length } ->
   codeAny (model X.prog X.w) X.A (.compLoop (.ListComp elt [⟨tg, iter, ifs, 0⟩] scope pos) 0 (.ref it) (.ref s2.heap.objs.size) (compEnvC scope cl G2.objs.size X.env))
    (compPost (model X.prog X.w) X.A X.xe none (EP X pins σ Q) (.ref s2.heap.objs.size) G2.objs.size) s₃ := by
  rintro s₃ rfl
  have IY0 : Inv Y [(s2.heap.objs.size, { cls := .type "list", dict := none, data := .seq ([] : List Value).toArray })] (cq sub σ) H2 { s2 with heap := h₁, toks := s2.toks + ([] : List (Str × Value)).length } := by
   have J0 : Inv Y [] (cq sub σ) H2 { s2 with heap := h₁, toks := s2.toks + ([] : List (Str × Value)).length } := by
    refine ⟨okY, rfl, I2.bare, Un.kept old, startLoc, fun x c e => ?_, I2.hok.fresh (by show s2.heap.objs.size <= G2.objs.size; omega), fun x c e => I2.freeC x c (hcl x c e), fun p hp => absurd (show p ∈ ([] : List (Addr × Obj)) from hp) (by simp), I2.hok.kept old, ?_⟩
    ·obtain ⟨v, oc, hoc, hd⟩ := I2.cell x c (hcl x c e)
     exact ⟨v, oc, old _ _ hoc, hd⟩
    ·show (cq sub σ).length = N.length
     unfold cq
     rw [List.length_map]; exact hsl
   exact pinD J0 hD₁ (fun v z => by cases z) I2.fresh
  refine ij (fun n s' => ∃ (i : Nat) (ys : List V) (its : List Value) (k : Nat) (σ' : St) (H' : Hp), Inv Y [(s2.heap.objs.size, { cls := .type "list", dict := none, data := .seq its.toArray k })] σ' H' s' /\ Vals ys its /\ tn i s'.heap /\ (∀ b ∈ fp, H' b = none) /\ W i n ys σ' H') ?_ m0
   ⟨0, [], [], 0, cq sub σ, H2, IY0, .nil, T.keep _ _ _ st2 (fun b hb o e => old b o e), fun b hb => (f2 b hb).1, w0⟩
  rintro n s3 ⟨i, ys, its, k, σ3, H3, I3, rv, st3, fr3, w3⟩
  have npl : ∀ (o : Obj), ∀ p ∈ [(s2.heap.objs.size, o)], p.1 ∉ fp := fun o p hp => by
   have e' : p = (s2.heap.objs.size, o) := by simpa using hp
   subst e'
   exact hDfp
  rcases turn i n ys σ3 H3 w3 with ⟨stop, hz, qn⟩ | ⟨go, hz, Nx, hNx, step⟩
  ·refine wpAny_mono (T.done Y rfl rfl rfl hc i _ s3 σ3 H3 (fun _ _ => False) I3 (fpY fr3 (npl _)) st3 stop) (fun r s4 ⟨hr, I4⟩ => ?_) fun _ _ z => z
   subst hr
   obtain ⟨m4, hn4, _⟩ := I4.loc
   refine ⟨m4, hn4, fun h' hs' => ?_⟩
   have hCfree : H3 G2.objs.size = none := I4.free
   have hD4 := I4.pin (s2.heap.objs.size, { cls := .type "list", dict := none, data := .seq its.toArray k }) (List.mem_append_right _ List.mem_cons_self)
   have un4 : Un (frs X.stack) fp H2 H3 s2.heap s4.heap := I4.base
   have up : ∀ b o, b ≠ G2.objs.size -> s4.heap.get? b = some o -> h'.get? b = some o := fun b o hb e => hs'.extBut b o hb e
   have ne2 : ∀ b o, s2.heap.get? b = some o -> b ≠ G2.objs.size := fun b o e => (below b (Heap.lt_size e)).1
   have un5 : Un (frs X.stack) fp H2 H3 s2.heap h' := by
    refine ⟨fun b o e n hb hx => up b o (ne2 b o e) (un4.keep b o e n hb hx), fun b o e n hb hx => ?_, un4.free, fun b o e hx => ?_, un4.tups, un4.frzs, un4.tbls⟩
    ·obtain ⟨sl, q⟩ := un4.slot b o e n hb hx
     exact ⟨sl, up b _ (ne2 b o e) q⟩
    ·obtain ⟨o', q⟩ := un4.there b o e hx
     exact ⟨o', up b _ (ne2 b o e) q⟩
   have hok5 : HOk X.prog X.w H3 h' := fun b u e => (I4.hok b u e).stay (fun c v hcc q => up c v (fun z => by
    rcases hcc with zz | zz
    ·rw [zz] at z; rw [z, hCfree] at e; cases e
    ·rw [z, hCfree] at zz; cases zz) q) (fun _ q => q) fun _ _ q => q
   have I5 : Inv X pins σ H3 { s4 with heap := h' } := I2.call' (s' := { s4 with heap := h' }) (ch := fp) I4.os un5 hok5 I4.bare fun b hb => by
    obtain ⟨_, g1, _, g3, g4, g5⟩ := f2 b hb
    exact ⟨g3, g1, g4, g5⟩
   have hDfree : H3 s2.heap.objs.size = none := hD4.2.1
   have sz0 : X.s₀.heap.objs.size <= s2.heap.objs.size := I2.sz
   refine ⟨.ref s2.heap.objs.size, _, I5.track (o := .lst ys) hDfree (Heap.get?_none_of_le sz0) (Nat.ne_of_gt I2.lt) (fun x c e z => ?_) (fun p hp z => ?_) ?_, rfl, qn _ hDfree⟩
   ·obtain ⟨v, q⟩ := I2.cell x c e
    exact absurd q.lt (by rw [z]; exact Nat.lt_irrefl _)
   ·exact absurd (Heap.lt_size (I2.pin p hp).1) (by rw [z]; exact Nat.lt_irrefl _)
   ·exact ⟨hz, its, k, rv, up _ _ hDC hD4.1⟩
  ·refine wpAny_mono (T.item Y rfl rfl rfl hc i _ s3 σ3 H3 (fun _ _ => False) I3 (fpY fr3 (npl _)) st3 go) (fun r s4 ⟨u, hr, h4⟩ => ?_) fun _ _ z => z
   subst hr
   refine wpAny_mono h4 (fun _ s5 ⟨x, H5, I5, r5, y5, st5, fr5⟩ => ?_) fun _ _ z => z
   have I5' := I5.pinned (fpY fr5 (npl _)) (T.obj _ _ st5)
   refine wpAny_mono (hg cl G2.objs.size s2 H2 fp _ s5 σ3 H5 x u _ I5' r5 (step x H5 y5)) (fun _ s6 ⟨σ6, H6, I6, q6⟩ => ?_) fun _ _ z => z
   refine wpAny_mono (ht cl G2.objs.size s2 H2 fp _ s6 σ6 H6 _ I6 q6) (fun ok s7 ⟨H7, I7, q7⟩ => ?_) fun _ _ z => z
   have back : ∀ {σ' : St} {H' : Hp} {s' : Shared}, Inv Y ([(s2.heap.objs.size, { cls := .type "list", dict := none, data := .seq its.toArray k })] ++ gf fp s5.heap) σ' H' s' -> tn (i + 1) s'.heap /\ ∀ b ∈ fp, H' b = none := fun {σ' H' s'} IB => by
    refine ⟨T.keep _ _ _ st5 fun b hb o e => (IB.pin (b, o) (List.mem_append_right _ (List.mem_append_right _ (cV hb e)))).1, fun b hb => ?_⟩
    obtain ⟨o, e, d⟩ := T.obj _ _ st5 b hb
    exact (IB.pin (b, o) (List.mem_append_right _ (List.mem_append_right _ (cV hb e)))).2.1
   cases ok with
   |
    false =>
    rw [if_neg Bool.false_ne_true] at q7
    obtain ⟨m', hm, w7⟩ := hNx _ _ _ q7
    rw [if_neg Bool.false_ne_true]
    obtain ⟨t7, f7⟩ := back I7
    exact ⟨m', hm, i + 1, ys, its, k, σ6, H7, I7.unpinned, rv, t7, f7, w7⟩
   |
    true =>
    rw [if_pos rfl] at q7
    rw [if_pos rfl]
    refine wpAny_mono (he cl G2.objs.size s2 H2 fp _ s7 σ6 H7 _ I7 q7) (fun y s8 ⟨yv, H8, I8, r8, q8⟩ => ?_) fun _ _ z => z
    obtain ⟨m', hm, w8⟩ := hNx _ _ _ q8
    obtain ⟨t8, f8⟩ := back I8
    have I9 := I8.unpinned
    have hD9 := I9.pin (s2.heap.objs.size, { cls := .type "list", dict := none, data := .seq its.toArray k }) (List.mem_append_right _ List.mem_cons_self)
    have e9 : s8.heap.get? s2.heap.objs.size = some { cls := .type "list", dict := none, data := .seq its.toArray k } := hD9.1
    have hlen := rv.length
    refine call_meets F.slot_list_append ⟨_, e9, rfl⟩ F.entry_list_append (F.args_list_append_2 _ _) (PySem.list_append _ its.toArray k y (by rw [List.size_toArray]; omega)) ⟨e9, ?_⟩
    have q9 := PySem.IsL.update e9 (fun xs => xs.push y)
    have ea : its.toArray.push y = (its ++ [y]).toArray := by simp
    rw [ea] at q9
    have k9 : ∀ b o, b ≠ s2.heap.objs.size -> s8.heap.get? b = some o -> (s8.heap.update s2.heap.objs.size (Obj.mapSeq fun xs => xs.push y)).get? b = some o := fun b o hb e => (Heap.get?_update_other _ _ (Ne.symm hb)).trans e
    have I10 : Inv Y [] σ6 H8 { s8 with heap := s8.heap.update s2.heap.objs.size (Obj.mapSeq fun xs => xs.push y) } :=
     (I9.pins_of (pins' := []) (fun p hp => nomatch hp)).turned (t' := s8.toks) k9 hD9.2.1 hD9.2.2.1 (.inr (Nat.le_refl _)) (fun x c e z => absurd (cellOld x c e) (by rw [z]; exact Nat.lt_irrefl _))
      (fun p hp => absurd (show p ∈ ([] : List (Addr × Obj)) from hp) (by simp))
    refine ⟨m', hm, i + 1, ys ++ [yv], its ++ [y], _, σ6, H8, pinD I10 q9 (fun v z => by cases z) hD9.2.1, rv.append (.cons r8 .nil), ?_, f8, w8⟩
    exact T.keep _ _ _ t8 fun b hb o e => k9 b o (fun z => hDfp (by rw [<- z]; exact hb)) e
 exact codeAny_compStart_list (loop _ rfl) (T.self _ 0 _ _ _ (T.keep _ _ _ st2 fun b hb o e => old b o e) (loop _ rfl))
noncomputable def fo (M : List Str) (names : List (Str × NameKind)) (sub : List (Option Nat)) (N : List Str) : Bool := (sub.zip N).all fun p => match p.1 with
 | none => true
 | some i => M[i]? == some p.2 && names.lookup p.2 == some .free
theorem mG {M : List Str} {names : List (Str × NameKind)} {sub : List (Option Nat)} {N : List Str} (h : fo M names sub N = true) (j i : Nat) (x : Str) (h1 : sub[j]? = some (some i)) (h2 : N[j]? = some x) :
  M[i]? = some x /\ names.lookup x = some .free := by
 unfold fo at h
 rw [List.all_eq_true] at h
 have hm : (some i, x) ∈ sub.zip N := by
  refine List.mem_of_getElem? (i := j) ?_
  rw [List.getElem?_zip_eq_some]
  exact ⟨h1, h2⟩
 have q := h _ hm
 simp only [Bool.and_eq_true, beq_iff_eq] at q
 exact q
noncomputable def il (kn names : List (Str × NameKind)) : Bool := names.all fun x => x.2 != .free || kn.lookup x.1 == some .cell || kn.lookup x.1 == some .free
theorem oy {kn names : List (Str × NameKind)} (h : il kn names = true) : ∀ x ∈ names, x.2 = .free -> kn.lookup x.1 = some .cell \/ kn.lookup x.1 = some .free := fun x hx hf => by
 unfold il at h
 rw [List.all_eq_true] at h
 have q := h x hx
 rw [hf] at q
 simpa using q
theorem C3 {elt iter tg : Expr} {scope : Scope} {pos : Pos} {wi : TI} {g : TG} {te : TE} (M : List Str) (kn : List (Str × NameKind)) (N : List Str) (sub : List (Option Nat))
  (hc : X.calm = true) (hi : PI X tg iter wi)
  (hg : ∀ cl C s₂ H fp, PG (aZ X N scope cl C s₂ H fp) tg g) (he : ∀ cl C s₂ H fp, PE (aZ X N scope cl C s₂ H fp) elt te)
  (hM : X.N = M := by rfl) (hkn : X.env.scope.names = kn := by rfl) (hsub : fo M scope.names sub N = true := by decide +kernel)
  (hk : scope.kind = .function := by rfl) (hnc : ∀ x ∈ scope.names, x.2 ≠ .cell := by decide +kernel) (hnames : ∀ x ∈ scope.names, x.2 = .local -> scope.names.lookup x.1 = some .local := by decide +kernel)
  (hfr : il kn scope.names = true := by decide +kernel)
  (hsl : sub.length = N.length := by rfl) (hs : ∀ x, foldedSetIterable iter X.env x = pure x := by intro _; rfl) :
  PE X (.ListComp elt [⟨tg, iter, [], 0⟩] scope pos) (iP wi sub g sY te) :=
 AV hc hi hk hnc hnames (by subst hkn; exact oy hfr) hsl (by subst hM; exact mG hsub) hg (fun cl C s₂ H fp => oK) he hs
end
end L2
set_option Elab.async false
set_option linter.all false
set_option maxRecDepth 100000
namespace L2
open PySem PySem.Spec PyProof.Rows PySem.W PySem.Builtin PySem.Builtin.ObjectAttr PySem.Builtin.Getset_descriptor
structure XCls (K : PySem.W.Frag) (C : Addr) : Prop where
 cls : (clsIn K C).isSome = true
 ga : findIn K (.ref C) "__getattribute__" = some (some (.builtin "BaseException.__getattribute__"))
 gt : findIn K (.ref C) "__getattr__" = some none
 at_ : findIn K (.ref C) "__class__" = some (some (.builtin "object.__class__"))
 gs : specialIn K (.builtin "object.__class__") "__get__" = some (some (.builtin "getset_descriptor.__get__"))
 tk : takesIn K (.builtin "object.__class__") = some true
 mo : mroIn K C (.type "object") = some true
 mb : mroIn K C (.type "BaseException") = some true
section
variable {prog : Program} {w : World} {A : Around} {E : Value -> Shared -> Prop} {K : PySem.W.Frag} {x C : Addr} {o : Obj}
theorem gu {M : Model} {h : Heap} (hx : h.get? x = some o) (hc : o.cls = .ref C) : Looks M h (typeOf (.ref x)) (.ref C) := hc ▸ (Looks.ld hx).andThen .now
theorem ui {M : Model} {h : Heap} (X : K.In h) (T : XCls K C) : Looks M h (find (.ref x) (.ref C) "__class__") (.bind (.builtin "getset_descriptor.__get__") (.builtin "object.__class__")) := by
 have L1 := looks_findIn (M := M) X T.at_
 have L2 : Looks M h (getOf (some (.builtin "object.__class__"))) (some (.builtin "getset_descriptor.__get__")) := looks_specialIn X T.gs
 have L3 := looks_takesIn (M := M) X T.tk
 refine L1.andThen (L2.andThen ?_)
 exact (show Looks M h (dataDescriptor? (some (.builtin "object.__class__")) (some (.builtin "getset_descriptor.__get__"))) (some (.builtin "getset_descriptor.__get__", .builtin "object.__class__")) from L3.andThen .now).andThen (Looks.tag .now)
theorem lN {s : Shared} {tp : Value} {R : Result -> Shared -> Prop} (X : K.In s.heap) (hx : s.heap.get? x = some o) (hc : o.cls = .ref C) (T : XCls K C)
  (h : R (.ok (.ret (.ref C))) s) : codeAny (model prog w) A (.call (.builtin "getset_descriptor.__get__") ⟨[.builtin "object.__class__", .ref x, tp], []⟩) R s := by
 obtain ⟨hh, g, dr, t, os⟩ := s
 have L0 := gu (M := model prog w) hx hc
 have L1 := looks_mroIn (M := model prog w) X T.mo
 refine codeAny_call_builtin KF.slot_gs.plain KF.entry_gs (KF.slot_gs.check _ _ _ _ _ _ _ _ KF.type_class (KF.args_gs _ _ _) ?_)
 unfold Builtin.«getset_descriptor.__get__» descrGet
 rw [dga_obj]
 refine wpAny_bind (wpAny_pure ?_)
 unfold descrGetter descrCheckInstance descrNameAndClass isInstance
 simp only [KF.owner_class]
 repeat lk
 refine ⟨Code.quiet_builtin _ (by decide +kernel), codeAny_builtin KF.entry_class ?_⟩
 unfold Builtin.«object.__class__» shownTypeOf
 repeat lk
 exact h
theorem qS {M : Model} {nameV : Value} {s : Shared} {Q : Unit -> Shared -> Prop} (X : K.In s.heap) (hx : s.heap.get? x = some o) (hc : o.cls = .ref C) (T : XCls K C) (hq : Q () s) :
  wpAny M A (checkBuiltinCall "BaseException.__getattribute__" ⟨[.ref x, nameV], []⟩) Q E s := by
 obtain ⟨h, g, dr, t, os⟩ := s
 have hk : builtinKind "BaseException.__getattribute__" = some .slot := by decide +kernel
 have hsplit : splitId "BaseException.__getattribute__" = some ("BaseException", "__getattribute__") := by decide +kernel
 have ha := PySem.F.args_bexc_ga (.ref x) nameV
 have L0 := gu (M := M) hx hc
 have LM := looks_mroIn (M := M) X T.mb
 have LI : Looks M h (isInstance (.ref x) (.type "BaseException")) true := L0.andThen LM
 simp only [checkBuiltinCall, hk, hsplit]
 refine wpAny_bind ?_
 refine LI.at ?_
 repeat (first | wp_step)
 all_goals exact hq
theorem zT {s : Shared} {Q : Option Value -> Shared -> Prop} (X : K.In s.heap) (hx : s.heap.get? x = some o) (hc : o.cls = .ref C) (T : XCls K C) (h : Q (some (.ref C)) { s with toks := s.toks + 1 }) :
  wpAny (model prog w) A (getAttr? (.ref x) "__class__") Q E s := by
 obtain ⟨hh, g, d, t, os⟩ := s
 have L0 := gu (M := model prog w) hx hc
 have L1 := looks_findIn (M := model prog w) X T.ga
 have L2 := looks_findIn (M := model prog w) X T.gt
 have LF := ui (M := model prog w) (x := x) X T
 have f3 := PySem.F.excAttr_ValueError.ga.bind (.ref x)
 have hx2 : (Value.builtin "BaseException.__getattribute__" == Value.builtin "object.__getattribute__") = false := by decide +kernel
 unfold getAttr? getAttrBy? getAttrBy
 refine wpAny_bind (wpAny_mkText (wpAny_bind (wpAny_attempt (wpAny_holding (wpAny_bind (L0.at (wpAny_bind (L1.at ?_))))))))
 dsimp only
 rw [if_neg (by rw [hx2]; simp)]
 unfold getAttrByItsOwn hookBefore
 rw [if_pos (show onTheHeap (Value.ref C) = true from rfl)]
 refine wpAny_bind (L2.at ?_)
 unfold callGetattribute
 refine wpAny_bind (wpAny_attempt (wpAny_holding ?_))
 rw [if_neg (by simp)]
 unfold boundAndCalled
 refine wpAny_bind (wpAny_of_eq f3 ?_)
 refine wpAny_call (codeAny_call_builtin PySem.F.excAttr_ValueError.ga.plain PySem.F.entry_bexc_ga (qS X hx hc T ?_))
 unfold Builtin.«object.__getattribute__»
 repeat (first | (refine wpAny_bind (L0.at ?_)) | (refine wpAny_bind (LF.at ?_)) | wp_step)
 refine lN (s := ⟨hh, g, d, t + 1, os⟩) X hx hc T ?_
 repeat (first | exact h | wp_step)
noncomputable def uR (x : Addr) (C : Addr) (h : Heap) : Prop := ∃ o vs, h.get? x = some o /\ o.cls = .ref C /\ o.data = .fields vs
theorem uw (T : XCls K C) : KitX K (.ref x) (.ref C) (uR x C) where
 ty := fun M h _ ⟨o, _, hx, hc, _⟩ => gu hx hc
 it := fun M h X _ => by
  obtain ⟨cd, hcd⟩ := Option.isSome_iff_exists.mp T.cls
  unfold clsIn at hcd
  split at hcd
  ·rename_i c' d' cd' sl' ho
   intro A' Q' E' s' k q
   unfold isType loadHead
   exact wpAny_bind (wpAny_loadPart (k _ _ (X _ _ ho)) (wpAny_pure q))
  ·cases hcd
 ne := fun h tp dd its n sl X htp => by
  obtain ⟨cd, hcd⟩ := Option.isSome_iff_exists.mp T.cls
  refine Bool.eq_false_iff.mpr fun q => ?_
  have e : C = tp := Value.ref.inj (beq_iff_eq.mp q)
  subst e
  unfold clsIn at hcd
  split at hcd
  ·rename_i c' d' cd' sl' ho
   have z := (X _ _ ho).symm.trans htp
   cases z
  ·cases hcd
 ca := fun X ⟨o, _, hx, hc, _⟩ k => zT X hx hc T k
end
inductive TyX (K : PySem.W.Frag) (H : Hp) : V -> Value -> Prop where
 | of {x : V} {t : Value} (h : TyOf K H x t) : TyX K H x t
 | exc {a C : Addr} (e : H a = some (.ext (uR a C))) (T : XCls K C) : TyX K H (.ref a) (.ref C)
 | sqT {a : Addr} {xs : List V} (h : SqT K H a xs) : TyX K H (.ref a) (.type "tuple")
 | sqL {a : Addr} {xs : List V} (h : SqL K H a xs) : TyX K H (.ref a) (.type "list")
section
variable {X : Cx} {pins : List (Addr × Obj)} {σ : St} {H : Hp} {s : Shared} {A : Around} {E : Value -> Shared -> Prop} {Q : Value -> Shared -> Prop} {c : Value} {b : Bool}
theorem oJ {x : V} {u t : Value} (I : Inv X pins σ H s) (rx : RelV x u) (ty : TyX X.K H x t) : ∃ Hh : Heap -> Prop, KitX X.K u t Hh /\ Hh s.heap /\ u ≠ .builtin "__main__.__loader__#opaque" := by
 cases ty with
 |
  exc ea T =>
  cases (show u = Value.ref _ from rx)
  exact ⟨_, uw T, (I.hok _ _ ea).1, fun z => nomatch z⟩
 |
  sqT h =>
  cases (show u = Value.ref _ from rx)
  obtain ⟨its, rv, ⟨o, e, c, _⟩, _⟩ := I.tuple h
  exact ⟨_, kitx_tuple, ⟨o, e, c⟩, fun z => nomatch z⟩
 |
  sqL h =>
  cases (show u = Value.ref _ from rx)
  obtain ⟨its, rv, ⟨o, n, e, c, _⟩, _⟩ := I.list h
  exact ⟨_, kitx_list, ⟨o, e, c⟩, fun z => nomatch z⟩
 |
  of ty =>
  cases ty with
  | non => cases (show u = Value.none from rx); exact ⟨_, kitx_none, True.intro, fun z => nomatch z⟩
  | bl y => cases (show u = Value.bool y from rx); exact ⟨_, kitx_bool, True.intro, fun z => nomatch z⟩
  | int i => obtain ⟨t, q⟩ := (show ∃ t, u = Value.int i t from rx); cases q; exact ⟨_, kitx_int, True.intro, fun z => nomatch z⟩
  | str y => obtain ⟨t, q⟩ := (show ∃ t, u = Value.str y t from rx); cases q; exact ⟨_, kitx_str, True.intro, fun z => nomatch z⟩
  | flt y => obtain ⟨t, q⟩ := (show ∃ t, u = Value.float y t from rx); cases q; exact ⟨_, kitx_float, True.intro, fun z => nomatch z⟩
  |
   @lst a xs ea =>
   cases (show u = Value.ref a from rx)
   obtain ⟨_, _, n, _, h1⟩ := (show ObjOk X.prog X.w H s.heap a (.lst xs) from I.hok a _ ea)
   exact ⟨_, kitx_list, ⟨_, h1, rfl⟩, fun z => nomatch z⟩
  |
   @frz a ob xs ea =>
   cases (show u = Value.ref a from rx)
   obtain ⟨_, _, _, n, _, h1⟩ := (show ObjOk X.prog X.w H s.heap a (.frz ob (.lst xs)) from I.hok a _ ea)
   exact ⟨_, kitx_list, ⟨_, h1, rfl⟩, fun z => nomatch z⟩
  |
   @tup a xs ea =>
   cases (show u = Value.ref a from rx)
   obtain ⟨_, _, _, p⟩ := (show ObjOk X.prog X.w H s.heap a (.tup xs) from I.hok a _ ea)
   obtain ⟨o, h1, h2, _⟩ := p
   exact ⟨_, kitx_tuple, ⟨o, h1, h2⟩, fun z => nomatch z⟩
  |
   @dK a kvs ea =>
   cases (show u = Value.ref a from rx)
   obtain ⟨_, _, vs, _, p⟩ := (show ObjOk X.prog X.w H s.heap a (.dK kvs) from I.hok a _ ea)
   obtain ⟨o, es, ep, h1, h2, _⟩ := p
   exact ⟨_, kitx_dict, ⟨o, h1, h2.1⟩, fun z => nomatch z⟩
  |
   @dT a kvs ea =>
   cases (show u = Value.ref a from rx)
   obtain ⟨_, _, xs, _, o, es, ep, h1, h2, _⟩ := (show ObjOk X.prog X.w H s.heap a (.dT kvs) from I.hok a _ ea)
   exact ⟨_, kitx_dict, ⟨o, h1, h2.1⟩, fun z => nomatch z⟩
  |
   @ins a C dx fs ea cl ha hn htk hm =>
   cases (show u = Value.ref a from rx)
   obtain ⟨mA, O, _⟩ := xq I.hok ea
   obtain ⟨od, J, _⟩ := O.look
   exact ⟨_, kitx_own (cl.get _) cl.hd ha hn htk hm, J, fun z => nomatch z⟩
end
section
variable {X : Cx}
noncomputable def dB : V -> Option Value
 | .ref C => some (.ref C)
 | .ty T => some (.type T)
 | _ => none
theorem nA {c : V} {u v : Value} (h : dB c = some v) (r : RelV c u) : u = v := by
 cases c with
 | ref C => cases r; exact Option.some.inj h
 | ty T => cases r; exact Option.some.inj h
 | _ => cases h
theorem
    lC : ∀ {cs : List V} {us vs : List Value}, cs.mapM dB = some vs -> Vals cs us -> us = vs
 |
  [], _, vs, h, .nil => by
  have h' : some ([] : List Value) = some vs := h
  exact Option.some.inj h'
 |
  c :: cs, _, vs, h, .cons r rr => by
  rw [List.mapM_cons] at h
  cases q : dB c with
  | none => rw [q] at h; cases h
  |
   some v =>
   rw [q] at h
   cases q2 : cs.mapM dB with
   | none => rw [q2] at h; cases h
   |
    some vs' =>
    rw [q2] at h
    have h' : some (v :: vs') = some vs := h
    cases h'
    rw [nA q r, lC q2 rr]
theorem sX : CallR X (.builtin "isinstance") (fun xs H Q => ∃ x c t v b, xs = [x, c] /\ TyX X.K H x t /\ dB c = some v /\ kitOne X.K t v = some b /\ Q (.bl b) H) := by
 intro pins s σ H xs us Q I r h
 obtain ⟨x, c, t, v, b, rfl, ty, hc, hk, q⟩ := h
 obtain ⟨u, w', rfl, rx, rc⟩ := vP r
 obtain rfl := nA hc rc
 obtain ⟨Hh, Z, p, hne⟩ := oJ I rx ty
 exact kia_one Z I.kIn p hk hne fun tk => ⟨.bl b, H, I.tok _, rfl, q⟩
end
end L2
set_option Elab.async false
set_option linter.all false
set_option maxRecDepth 100000
namespace L2
open PySem PySem.Spec PyProof.Rows
theorem ObjOk.there {P : Program} {w : World} {H : Hp} {h : Heap} {a : Addr} {o : HO} (x : ObjOk P w H h a o) : ∃ u, h.get? a = some u := by
 cases o with
 | lst xs => obtain ⟨_, _, _, _, e⟩ := x; exact ⟨_, e⟩
 | tup xs => obtain ⟨_, _, _, ob, e, _⟩ := x; exact ⟨_, e⟩
 | dK kvs => obtain ⟨_, _, _, _, o, _, _, e, _⟩ := x; exact ⟨_, e⟩
 | dT kvs => obtain ⟨_, _, _, _, o, _, _, e, _⟩ := x; exact ⟨_, e⟩
 | set S n => obtain ⟨o, _, _, _, e, _⟩ := x; exact ⟨_, e⟩
 | ins C dx fs => obtain ⟨_, _, _, e, _⟩ := x; exact ⟨_, e⟩
 | own y => exact x
 | xd fs => obtain ⟨_, ⟨_, _, _, e, _⟩, _⟩ := x; exact ⟨_, e⟩
 | rng lo hi => obtain ⟨_, _, _, e⟩ := x; exact ⟨_, e⟩
 | frz ob u => obtain ⟨e, _⟩ := x; exact ⟨_, e⟩
 | tbl ps => exact ⟨_, show h.get? a = some _ from x⟩
 | met f y => exact ⟨_, show h.get? a = some _ from x⟩
 | ext φ => obtain ⟨_, e, _⟩ := x; exact e
structure Fly (P : Program) (w : World) (outer : List Env) (H : Hp) (h₀ : Heap) (H' : Hp) (ea : Addr) (cls : Value) (h : Heap) (B : Heap) (t : Addr) : Prop where
 un : Un (frs outer) [] H H' h₀ h
 hok : HOk P w H' h
 fl : Heap.FlyingW B outer ea cls (.ref t) h
 old : ∀ b o, h₀.get? b = some o -> b ∉ frs outer -> ∃ o', B.get? b = some o'
 trk : ∀ b o, H' b = some o -> ∃ o', B.get? b = some o'
noncomputable def CX1 (P : Program) (w : World) : CXT := fun outer H s E e s' => ∃ (ea t : Addr) (cls : Value) (H' : Hp) (B : Heap), e = .ref ea /\ s'.os = s.os /\ AllBare s'.gens /\ Fly P w outer H s.heap H' ea cls s'.heap B t /\ E cls none H'
theorem mC {env : Env} {outer : List Env} {L : Addr} (h : env.frame = some L) : frs (env :: outer) = L :: frs outer := by
 unfold frs
 rw [List.filterMap_cons, h]
section
variable {P : Program} {w : World} {outer : List Env} {H H' : Hp} {h₀ h h' B : Heap} {ea t L : Addr} {cls : Value}
theorem Fly.step {outer' : List Env} (F : Fly P w outer H h₀ H' ea cls h B t) (fl' : Heap.FlyingW B outer' ea cls (.ref t) h') (up : h.UpToSlots h') :
  Un (frs outer) [] H H' h₀ h' /\ HOk P w H' h' := by
 have st := F.fl.1
 have o8 : ∀ b o, (∃ o', B.get? b = some o') -> h.get? b = some o -> h'.get? b = some o := fun b o ⟨o', e⟩ q => by
  have z := st b o' e
  rw [q] at z; cases z
  exact fl'.1 b _ e
 have frame : ∀ b o, b ∈ frs outer -> h.get? b = some o -> ∃ sl, h'.get? b = some { o with slots := sl } := fun b o hb q => by
  obtain ⟨_, o', ho', hd⟩ := F.fl.2.2.1.mem hb
  rw [q] at ho'; cases ho'
  exact up b o q hd
 refine ⟨⟨fun b o e n hb hx => o8 b o (F.old b o e hb) (F.un.keep b o e n hb hx), fun b o e n hb hx => ?_, F.un.free, fun b o e hx => ?_, F.un.tups, F.un.frzs, F.un.tbls⟩, fun a o e => ?_⟩
 ·obtain ⟨sl, q⟩ := F.un.slot b o e n hb hx
  obtain ⟨sl', q'⟩ := frame b _ hb q
  exact ⟨sl', q'⟩
 ·obtain ⟨o', q⟩ := F.un.there b o e hx
  by_cases hb : b ∈ frs outer
  ·obtain ⟨sl, q'⟩ := frame b _ hb q
   exact ⟨_, q'⟩
  ·exact ⟨o', o8 b o' (F.old b o e hb) q⟩
 ·refine (F.hok a o e).stay (fun b u hb q => o8 b u ?_ q) (fun _ q => q) fun _ _ q => q
  rcases hb with z | z
  ·rw [z]; exact F.trk a o e
  ·exact F.trk b _ z
end
structure Cx.Top (X : Cx) : Prop where
 ex : X.ex = []
 stk : X.stack = X.env :: X.outer
 fr : X.env.frame = some X.env.locals
section
variable {X : Cx} {pins : List (Addr × Obj)} {σ : St} {H : Hp} {s s' : Shared} {E : XK} {e : Value}
theorem qG {A : Around} {E' : Value -> Shared -> Prop} (T : X.Top) (hA : A.frames = some X.stack) (I : Inv X pins σ H s) (h : CX1 X.prog X.w X.stack H s E e s') :
  wpAny (model X.prog X.w) A (leaving X.env e) (fun _ s'' => CX1 X.prog X.w X.outer X.H₀ X.s₀ E e s'') E' s' := by
 obtain ⟨ea, t, cls, H', B, rfl, os, bare, F, q⟩ := h
 have F0 := F
 rw [T.stk] at F
 have hf := mC (outer := X.outer) T.fr
 refine wpAny_leaves_onW (by rw [hA, T.stk]) T.fr F.fl fun h'' fl'' up => ?_
 obtain ⟨un2, hok2⟩ := F.step fl'' up
 have exn : ∀ b, b ∉ X.ex := fun b z => by rw [T.ex] at z; cases z
 have neL : ∀ b o, X.s₀.heap.get? b = some o -> b ≠ X.env.locals := fun b o e => Nat.ne_of_lt (Nat.lt_of_lt_of_le (Heap.lt_size e) I.ok.above)
 have notin : ∀ b o, X.s₀.heap.get? b = some o -> b ∉ frs X.outer -> b ∉ frs (X.env :: X.outer) := fun b o e hb z => by
  rw [hf] at z
  rcases List.mem_cons.mp z with z | z
  ·exact neL b o e z
  ·exact hb z
 refine ⟨ea, t, cls, H', B, rfl, os.trans I.os, bare, ⟨⟨fun b o e n hb hx => ?_, fun b o e n hb hx => ?_, fun b o e n hx => ?_, fun b o e hx => ?_, fun b xs e => un2.tups b xs (I.base.tups b xs e), fun b o xs e => un2.frzs b o xs (I.base.frzs b o xs e), fun b ps e => ?_⟩, hok2, fl'', fun b o e hb => ?_, F.trk⟩, q⟩
 ·exact un2.keep b o (I.base.keep b o e n hb (exn b)) (I.base.free b o e n (exn b)) (notin b o e hb) (by simp)
 ·obtain ⟨sl, e1⟩ := I.base.slot b o e n hb (exn b)
  obtain ⟨sl', e2⟩ := un2.slot b _ e1 (I.base.free b o e n (exn b)) (by rw [hf]; exact List.mem_cons_of_mem _ hb) (by simp)
  exact ⟨sl', e2⟩
 ·obtain ⟨o', e1⟩ := I.base.there b o e (exn b)
  exact un2.free b o' e1 (I.base.free b o e n (exn b)) (by simp)
 ·obtain ⟨o', e1⟩ := I.base.there b o e (exn b)
  exact un2.there b o' e1 (by simp)
 ·obtain ⟨m1, e1⟩ := I.base.tbls b ps e
  obtain ⟨m2, e2⟩ := un2.tbls b _ e1
  exact ⟨m1 ++ m2, by rw [e2, Array.append_assoc]⟩
 ·obtain ⟨o', e1⟩ := I.base.there b o e (exn b)
  exact F.old b o' e1 (notin b o e hb)
theorem tJ {A : Around} {E' : Value -> Shared -> Prop} {h' : Heap} {ea : Addr} {cls : Value} {args : List Value} (T : X.Top) (hA : A.frames = some X.stack) (I : Inv X pins σ H s) (hx : Heap.MadeExcOf s.heap h' ea cls args) (q : E cls none H) :
  wpAny (model X.prog X.w) A (leaving X.env (.ref ea)) (fun _ s'' => CX1 X.prog X.w X.outer X.H₀ X.s₀ E (.ref ea) s'') E' { s with heap := h' } := by
 have hf := mC (outer := X.outer) T.fr
 have stk := I.stack
 rw [T.stk] at stk
 have hin : ∀ env ∈ (X.env :: X.outer), ∀ b, env.frame = some b -> b ∈ frs (X.env :: X.outer) := fun env he b hb => List.mem_filterMap.mpr ⟨env, he, hb⟩
 refine wpAny_leaves_madeW (base := PySem.W.hideAll s.heap (frs (X.env :: X.outer))) (h := s.heap) (by rw [hA, T.stk]) T.fr (fun b o q => PySem.W.of_hideAll _ q) (PySem.W.funFrames_hide stk hin) hx fun h'' t fl tup tn up => ?_
 have inB : ∀ b o, s.heap.get? b = some o -> b ∉ frs (X.env :: X.outer) -> (PySem.W.hideAll s.heap (frs (X.env :: X.outer))).get? b = some o := fun b o e hb => PySem.W.hideAll_get _ e hb
 have free : ∀ b ∈ frs (X.env :: X.outer), H b = none := fun b hb => I.stkFree b (by rw [T.stk]; exact hb)
 have up2 : s.heap.UpToSlots h'' := (Heap.UpToSlots.of_keeps hx.keeps).trans up
 have exn : ∀ b, b ∉ X.ex := fun b z => by rw [T.ex] at z; cases z
 have neL : ∀ b o, X.s₀.heap.get? b = some o -> b ≠ X.env.locals := fun b o e => Nat.ne_of_lt (Nat.lt_of_lt_of_le (Heap.lt_size e) I.ok.above)
 have notin : ∀ b o, X.s₀.heap.get? b = some o -> b ∉ frs X.outer -> b ∉ frs (X.env :: X.outer) := fun b o e hb z => by
  rw [hf] at z
  rcases List.mem_cons.mp z with z | z
  ·exact neL b o e z
  ·exact hb z
 have trk : ∀ b o, H b = some o -> ∃ o', (PySem.W.hideAll s.heap (frs (X.env :: X.outer))).get? b = some o' := fun b o e => by
  obtain ⟨u, hu⟩ := (I.hok b o e).there
  exact ⟨u, inB b u hu fun z => by rw [free b z] at e; cases e⟩
 refine ⟨ea, t, cls, H, _, rfl, I.os, I.bare, ⟨⟨fun b o e n hb hx => ?_, fun b o e n hb hx => ?_, fun b o e n hx => ?_, fun b o e hx => ?_, I.base.tups, I.base.frzs, I.base.tbls⟩, fun a o e => ?_, fl, fun b o e hb => ?_, trk⟩, q⟩
 ·exact fl.1 b o (inB b o (I.base.keep b o e n hb (exn b)) (notin b o e hb))
 ·obtain ⟨sl, e1⟩ := I.base.slot b o e n hb (exn b)
  obtain ⟨_, o', ho', hd⟩ := I.ok.funs.mem hb
  rw [e] at ho'; cases ho'
  obtain ⟨sl', e2⟩ := up2 b _ e1 hd
  exact ⟨sl', e2⟩
 ·exact I.base.free b o e n (exn b)
 ·obtain ⟨o', e1⟩ := I.base.there b o e (exn b)
  by_cases hb : b ∈ frs X.outer
  ·obtain ⟨_, o2, ho2, hd⟩ := I.funs.mem hb
   rw [e1] at ho2; cases ho2
   obtain ⟨sl', e2⟩ := up2 b _ e1 hd
   exact ⟨_, e2⟩
  ·exact ⟨o', fl.1 b o' (inB b o' e1 (notin b o e hb))⟩
 ·refine (I.hok a o e).stay (fun b u hb q => ?_) (fun _ q => q) fun _ _ q => q
  refine fl.1 b u (inB b u q fun z => ?_)
  rcases hb with y | y
  ·rw [y] at z; rw [free a z] at e; cases e
  ·rw [free b z] at y; cases y
 ·obtain ⟨o', e1⟩ := I.base.there b o e (exn b)
  exact ⟨o', inB b o' e1 (notin b o e hb)⟩
end
end L2
set_option Elab.async false
set_option linter.all false
set_option maxRecDepth 100000
namespace L2
open PySem PySem.Spec PyProof.Rows
section
variable {P : Program} {w : World} {K : PySem.W.Frag} {mg : Str -> Option Value} {base : Heap} {N : List Str} {qual : Str} {scope : Scope} {f : Addr} {cd : Value} {A : Around} {outer : List Env} {s : Shared} {H : Hp} {E : XK}
theorem vk : (dm (CX1 P w) P w K mg base N qual scope f cd A outer s H E).Top := ⟨rfl, rfl, rfl⟩
theorem aG : ny (CX1 P w) (dm (CX1 P w) P w K mg base N qual scope f cd A outer s H E) E := fun pins σ H s e s' I h => qG vk I.ok.frames I h
theorem BZ {X : Cx} : ny (CX1 P w) X E0 := fun pins σ H s e s' I ⟨_, _, _, _, _, _, _, _, _, q⟩ => q.elim
theorem gP : PassesOwn (model P w) (dm (CX1 P w) P w K mg base N qual scope f cd A outer s H E).A (dm (CX1 P w) P w K mg base N qual scope f cd A outer s H E).env (dm (CX1 P w) P w K mg base N qual scope f cd A outer s H E).xe := PassesOwn.leaving
noncomputable def Rz (X : Cx) (E : XK) : Prop := ∀ (pins : List (Addr × Obj)) (σ : St) (H : Hp) (s : Shared) (h' : Heap) (ea : Addr) (cls : Value) (args : List Value), Inv X pins σ H s -> Heap.MadeExcOf s.heap h' ea cls args -> E cls none H -> X.xe (.ref ea) { s with heap := h' }
theorem rz1 : Rz (dm (CX1 P w) P w K mg base N qual scope f cd A outer s H E) E := fun pins σ H s h' ea cls args I hx q => tJ vk I.ok.frames I hx q
theorem Fun.okR {x qual : Str} {st : Stmt} {f : Addr} {fd : FuncData} {N ps : List Str} {k : Nat} {sp : Sp} (F : Fun K x qual st f fd) (S : FnScope N ps (au st)) (len : ∀ vs H Q E, sp vs H Q E -> vs.length = ps.length)
  (hbody : ∀ (cdv : Value) (A : Around) (outer : List Env) (s : Shared) (H : Hp) (vs : List V) (Q : VK) (E : XK), Room k (A.deeper (envOfC qual (au st) s.heap.objs.size f cdv)) -> sp vs H Q E ->
   ∃ t, PSs (dm (CX1 P w) P w K mg base N qual (au st) f cdv A outer s H E) (bR st) t /\ t { nx := fun _ H' => Q .non H', rt := Q } (dE N vs) H) : FnOk P w K mg base (CX1 P w) (k + 1) f fd ps sp := by
 obtain ⟨oc, od, kV, doc, pm, an, cdv, ct, osl, rfl, lk, hcd⟩ := F.ex
 exact DU lk hcd S len fun A outer s H vs Q E hr hsp => hbody cdv A outer s H vs Q E hr hsp
end
abbrev gE : List Value := [.type "ValueError", .type "Exception", .type "BaseException", .type "object"]
theorem
    rF {K : PySem.W.Frag} {h : Heap} {C : Addr} (X : K.In h) (q : PySem.W.excIn K C gE "ValueError.__new__" = true) :
  ∃ bm N nm q' bs hdct sn sub ab col dd k0 k1 k2 k3 k5 mN, h.get? C = some (excClassObj nm q' C N bs bm hdct sn sub ab col dd k0 k1 k2 k3 k5 "ValueError.__new__") /\ h.Ns N mN /\ mN "__init__" = none /\ OwnTail h gE bm := by
 unfold PySem.W.excIn at q
 split at q
 ·rename_i dd cd sl ho
  split at q
  ·rename_i C' bm k0 k1 k2 k3 n k5 hm hs
   simp only [Bool.and_eq_true, beq_iff_eq, Bool.not_eq_true'] at q
   obtain ⟨⟨⟨⟨⟨rfl, rfl⟩, hdel⟩, ht⟩, hok⟩, hni⟩ := q
   obtain ⟨nm, bs, mro, ns, qn, hd, sn, sub, ab, col, del⟩ := cd
   dsimp only at hm hdel hok hni
   subst hm hdel
   have hsl : sl = #[k0, k1, k2, k3, some (.builtin "ValueError.__new__"), k5] := by
    obtain ⟨l⟩ := sl
    simp only at hs
    rw [hs]
   subst hsl
   exact ⟨bm, ns, nm, qn, bs, hd, sn, sub, ab, col, dd, k0, k1, k2, k3, k5, _, X _ _ ho, .of_isNs (PySem.W.isNs_of_in X hok), PySem.W.nsMap_none_of_in X hok hni, PySem.W.tail_of_in X ht⟩
  ·cases q
 ·cases q
section
variable {X : Cx} {x : Str} {C : Addr} {E : XK} {np cpos pos : Pos} {e₀ : Expr} {es : List Expr} {ta : TA}
noncomputable def yY (C : Addr) (E : XK) (ta : TA) : TS := fun _ σ H => ta σ H fun vs H1 => vs.length <= sizeLine /\ E (.ref C) none H1
theorem sZ (hc : X.calm = true) (hR : Rz X E) (hg : Gl X x) (hm : X.mg x = some (.ref C)) (hq : PySem.W.excIn X.K C gE "ValueError.__new__" = true) (ha : PA X (e₀ :: es) ta)
  (he : starEach (e₀ :: es) X.env = (false, eval e₀ X.env) :: starEach es X.env := by rfl) (hplain : (backTo cpos (starEach es X.env)).any (·.1) = false := by rfl) (hd : (x == ("__debug__" : Str)) = false := by decide) :
  PS X (.Raise (some (.Call (.Name x np) (e₀ :: es) [] cpos)) none pos) (yY C E ta) := by
 intro pins s σ H D I h
 obtain ⟨bm, N, nm, q', bs, hdct, sn, sub, ab, col, dd, k0, k1, k2, k3, k5, mN, hC, hN, hni, T⟩ := rF I.ok.mod.kin hq
 refine wpAny_Raise_call_subT (C := C) (nm := nm) (q := q') (N := N) (bs := bs) (bm := bm) (hdct := hdct) (sn := sn) (sub := sub) (ab := ab) (col := col) (dd := dd) (k0 := k0) (k1 := k1) (k2 := k2) (k3 := k3) (k5 := k5)
  PySem.F.excBase_ValueError (mN := mN) (T.hasType PySem.F.excBase_ValueError.hasBase) (I.ok.hd hc) (by rw [he]; show (false || (backTo cpos (starEach es X.env)).any (·.1)) = false; rw [hplain]; rfl) hni (oz I hg hm ⟨rfl, ?_⟩ hd)
 have hA := ha cpos pins s σ H _ I h
 rw [he] at hA ⊢
 refine Calls.evalArgs_plain (thn hA fun us s2 ⟨vs, H2, I2, r2, hz, q2⟩ => ⟨rfl, by rw [<- r2.length]; exact hz, I2.bk _ _ hC, hN.keeps I2.bk, T.keeps I2.bk, fun h' e hm' => ?_⟩)
 exact hR pins σ H2 s2 h' e _ _ I2 hm' q2
end
abbrev XS := St -> XK
abbrev TEx := St -> Hp -> VK -> XK -> Prop
abbrev TSx := Ends -> XS -> St -> Hp -> Prop
noncomputable def XP (X : Cx) (pins : List (Addr × Obj)) (E : XS) (e : Value) (s' : Shared) : Prop := ∃ σ1 H1 s1, Inv X pins σ1 H1 s1 /\ CX1 X.prog X.w X.stack H1 s1 (E σ1) e s'
noncomputable def PEx (X : Cx) (e : Expr) (t : TEx) : Prop :=
 ∀ (pins : List (Addr × Obj)) (s : Shared) (σ : St) (H : Hp) (Q : VK) (E : XS), Inv X pins σ H s -> t σ H Q (E σ) -> wpAny (model X.prog X.w) X.A (eval e X.env) (EP X pins σ Q) (XP X pins E) s
section
variable {X : Cx} {st : Stmt} {dO : List Stmt} {t u : TSx} {e : Expr} {es : List Expr} {te : TEx} {pos p : Pos} {x : Str} {f : Addr} {fd : FuncData} {ps : List Str} {sp : Sp} {k : Nat} {ta : TA} {dvs : List V} {ds : List Value}
end
section
variable {X : Cx} {pins : List (Addr × Obj)} {σ : St} {H : Hp} {s : Shared} {ea : Addr}
end
structure XHand (K : PySem.W.Frag) (C : Addr) : Prop where
 ty : PySem.W.typeIn K (.ref C) = some (.type "type")
 cls : (PySem.W.clsIn K C).isSome = true
 mb : PySem.W.mroIn K C (.type "BaseException") = some true
section
variable {X : Cx} {x n : Str} {C : Addr} {i : Nat} {body suite : List Stmt} {b₀ : Stmt} {tb : TSx} {ts : TS} {np hpos pos : Pos}
end
end L2
set_option Elab.async false
set_option linter.all false
set_option maxRecDepth 100000
namespace L2
open PySem PySem.Spec PyProof.Rows
mutual
inductive Rep (K : PySem.W.Frag) (H : Hp) : V -> PyData -> Prop where
 | non : Rep K H .non .none
 | bl (b : Bool) : Rep K H (.bl b) (.bool b)
 | int (i : Int) : Rep K H (.int i) (.int i)
 | str (x : Str) : Rep K H (.str x) (.str x)
 | tup {a : Addr} {xs : List V} {ds : List PyData} (h : SqT K H a xs) (r : Reps K H xs ds) : Rep K H (.ref a) (.tuple ds)
 | lst {a : Addr} {xs : List V} {ds : List PyData} (h : SqL K H a xs) (r : Reps K H xs ds) : Rep K H (.ref a) (.list ds)
inductive Reps (K : PySem.W.Frag) (H : Hp) : List V -> List PyData -> Prop where
 | nil : Reps K H [] []
 | cons {x : V} {d : PyData} {xs : List V} {ds : List PyData} (r : Rep K H x d) (rr : Reps K H xs ds) : Reps K H (x :: xs) (d :: ds)
end
section
variable {X : Cx} {pins : List (Addr × Obj)} {σ : St} {H H' : Hp} {s : Shared} {K : PySem.W.Frag}
theorem
    Rep.reads (I : Inv X pins σ H s) {v : V} {d : PyData} {u : Value} (r : Rep X.K H v d) (q : RelV v u) : ∃ as, Reads s.heap u d as :=
 Rep.rec (motive_1 := fun v d _ => ∀ u, RelV v u -> ∃ as, Reads s.heap u d as) (motive_2 := fun vs ds _ => ∀ us, Vals vs us -> ∃ as, ReadsAll s.heap us ds as)
  (fun u r => by cases r; exact ⟨_, .none⟩) (fun b u r => by cases r; exact ⟨_, .bool b⟩) (fun i u r => by obtain ⟨t, rfl⟩ := r; exact ⟨_, .int i t⟩) (fun x u r => by obtain ⟨t, rfl⟩ := r; exact ⟨_, .str x t⟩)
  (fun h _ ih u r => by
   cases r
   obtain ⟨its, rv, ⟨o, e, c, n, d⟩, _⟩ := I.tuple h
   obtain ⟨as, q⟩ := ih _ rv
   exact ⟨as, .tuple e c d (by simpa using q)⟩)
  (fun h _ ih u r => by
   cases r
   obtain ⟨its, rv, ⟨o, n, e, c, _, d⟩, _⟩ := I.list h
   obtain ⟨as, q⟩ := ih _ rv
   exact ⟨_, .list e c d (by simpa using q)⟩)
  (fun us r => by cases r; exact ⟨_, .nil⟩)
  (fun _ _ a b us q => by
   cases q with
   |
    cons q1 q2 =>
    obtain ⟨as, h1⟩ := a _ q1
    obtain ⟨bs, h2⟩ := b _ q2
    exact ⟨_, .cons h1 h2⟩) r u q
end
section
variable {X : Cx}
noncomputable def pj (K : PySem.W.Frag) : R2 := fun x y H Q => ∃ dx dy, Rep K H x dx /\ Rep K H y dy /\ SeqAt.shaped dx = true /\ SeqAt.shaped dy = true /\ Q (.bl (PyData.eqv dx dy)) H
noncomputable def pJ (K : PySem.W.Frag) : R2 := fun x y H Q => ∃ dx dy, Rep K H x dx /\ Rep K H y dy /\ SeqAt.shaped dx = true /\ SeqAt.shaped dy = true /\ Q (.bl (!PyData.eqv dx dy)) H
theorem yg (hu : X.A.units + 64 < cLine) : OpR X (compareOp .Eq) (pj X.K) := by
 intro pins s σ H x y v u Q I rx ry h
 obtain ⟨dx, dy, r1, r2, h1, h2, q⟩ := h
 obtain ⟨as, q1⟩ := r1.reads I rx
 obtain ⟨bs, q2⟩ := r2.reads I ry
 exact SeqAt.compareEq_shaped q1 q2 h1 h2 hu (rD I q rfl)
theorem Bn (hu : X.A.units + 64 < cLine) : OpR X (compareOp .NotEq) (pJ X.K) := by
 intro pins s σ H x y v u Q I rx ry h
 obtain ⟨dx, dy, r1, r2, h1, h2, q⟩ := h
 obtain ⟨as, q1⟩ := r1.reads I rx
 obtain ⟨bs, q2⟩ := r2.reads I ry
 exact SeqAt.compareNe_shaped q1 q2 h1 h2 hu (rD I q rfl)
open PySem.Builtin.Int (intBits)
noncomputable def CDivB (i j : Int) : Prop := j ≠ 0 /\ intBits j <= 8000
noncomputable def vS (i j : Int) : Prop := intBits i <= 100000 /\ intBits j <= 100000
theorem cB : OpR X (binaryOp .FloorDiv) (rI CDivB fun i j => .int (i.fdiv j)) := opI fun i j _ _ _ _ _ hc q => floordiv_int hc.1 q (.inl (PyProof.noPylong_of_log2 (by
 have h := hc.2
 have h0 := hc.1
 unfold intBits at h
 have hb : (j == 0) = false := by simpa using h0
 rw [hb] at h
 simp only [Bool.false_eq_true, if_false] at h
 omega)))
theorem xn : OpR X (binaryOp .Mult) (rI vS fun i j => .int (i * j)) := opI fun i j _ _ _ _ _ hc q => mul_int q (PySem.IntMulOk.of_le hc.1 hc.2 (by decide))
theorem rA (bs : List Bool) : ((List.range bs.length).all fun i => bs.getD i false) = bs.all id := by
 rw [Bool.eq_iff_iff, List.all_eq_true, List.all_eq_true]
 constructor
 ·intro h x hx
  obtain ⟨i, hi, rfl⟩ := List.mem_iff_getElem.mp hx
  have := h i (List.mem_range.mpr hi)
  simpa [List.getD_eq_getElem?_getD, hi] using this
 ·intro h i hi
  have hi' := List.mem_range.mp hi
  have := h bs[i] (List.getElem_mem hi')
  simpa [List.getD_eq_getElem?_getD, hi'] using this
theorem uP (hc : X.calm = true) : CallR X (.builtin "all") (fun xs H Q => ∃ (a : Addr) (bs : List Bool), xs = [.ref a] /\ SqL X.K H a (bs.map V.bl) /\ Q (.bl (bs.all id)) H) := by
 intro pins s σ H xs us Q I r h
 obtain ⟨a, bs, rfl, hq, q⟩ := h
 obtain ⟨u, rfl, ru⟩ := iY r
 cases ru
 obtain ⟨its, rv, p, hz⟩ := I.list hq
 have hl := rv.length
 rw [List.length_map] at hl
 have hlt : a < s.heap.objs.size := by obtain ⟨o, n, e, _⟩ := p; exact Heap.lt_size e
 refine call_all_walk (wpAny_pyIter_list p.isList ?_)
 refine ⟨s.heap.objs.size, _, _, _, _, _, fun i => bs.getD i false, rfl, Walks.list (A := X.A.in1) (I.ok.hd hc) s.heap.objs.size a (Nat.ne_of_lt hlt) its.toArray, ⟨⟨_, Heap.get?_push_size _ rfl, rfl, rfl⟩, (p.keeps fun b o e => Heap.get?_push_of_some _ e).isList⟩, fun i v s' Q' E' hP hQ => ?_, fun h' tk hk => ?_⟩
 ·have hP' : its[i]? = some v := by simpa using hP
  have hi : i < bs.length := by rw [hl]; exact (List.getElem?_eq_some_iff.mp hP').1
  have hb : (bs.map V.bl)[i]? = some (V.bl bs[i]) := by simp [hi]
  obtain ⟨u, hu, ru⟩ := rv.get hb
  rw [hP'] at hu
  cases hu
  cases ru
  refine wpAny_truthy_bool ?_
  have e : bs.getD i false = bs[i] := by simp [List.getD_eq_getElem?_getD, hi]
  show Q' bs[i] s'
  rw [<- e]
  exact hQ
 ·have e1 : its.toArray.size = bs.length := by rw [List.size_toArray, hl]
  rw [e1, rA]
  have hn : H s.heap.objs.size = none := I.fresh
  have I1 : Inv X pins σ H { s with heap := s.heap.push { cls := .type "list_iterator", dict := none, data := .fields #[.ref a, rawInt 0] } } := I.kept (t' := s.toks) fun b o e => Heap.get?_push_of_some _ e
  refine ⟨.bl _, H, ?_, rfl, q⟩
  refine I.kept (t' := tk) fun b o e => ?_
  have hne : b ≠ s.heap.objs.size := Nat.ne_of_lt (Heap.lt_size e)
  exact hk b o (by simpa using hne) (Heap.get?_push_of_some _ e)
end
end L2
set_option Elab.async false
set_option linter.all false
set_option maxRecDepth 100000
namespace L2
open PySem PySem.Spec PyProof.Rows
structure Def (K : PySem.W.Frag) (mg : Str -> Option Value) (x : Str) (st : Stmt) : Prop where
 ex : ∃ f fd, Fun K x x st f fd /\ mg x = some (.ref f)
theorem bh {K : PySem.W.Frag} {h : Heap} {mg : Str -> Option Value} {x : Str} {st : Stmt} {f : Addr} {oc : Value} {od an : Option Addr} {osl : Array (Option Value)} {kV doc pm cdv ct : Value} (X : K.In h) (G : h.Ns mainGlobals mg)
  (a : PySem.W.nsIn K mainGlobals x = some (some (.ref f))) (l : K.lookup f = some ⟨oc, od, .func (PySem.W.fnOf x x (cX st) (bR st) (au st) .none kV doc pm an cdv ct), osl⟩)
  (c : PySem.W.codeIn K cdv x = true) (k : PySem.W.keepIn K (.ref f) = true) : Def K mg x st := ⟨f, _, zA l c k, PySem.W.mg_of X G a⟩
theorem Fun.look {K : PySem.W.Frag} {x qual : Str} {st : Stmt} {f : Addr} {fd : FuncData} (F : Fun K x qual st f fd) : ∃ oc od osl, K.lookup f = some ⟨oc, od, .func fd, osl⟩ := by
 obtain ⟨oc, od, kV, doc, pm, an, cdv, ct, osl, rfl, lk, hcd⟩ := F.ex
 exact ⟨oc, od, osl, lk⟩
structure Callee (P : Program) (w : World) (K : PySem.W.Frag) (mg : Str -> Option Value) (base : Heap) (x : Str) (k : Nat) (ps : List Str) (sp : Sp) : Prop where
 ex : ∃ f fd, FnOk P w K mg base (CX1 P w) k f fd ps sp /\ mg x = some (.ref f) /\ PySem.W.keepIn K (.ref f) = true /\ Binds K fd ps [] /\ ∃ oc od osl, K.lookup f = some ⟨oc, od, .func fd, osl⟩
section
variable {P : Program} {w : World} {K : PySem.W.Frag} {mg : Str -> Option Value} {base : Heap} {x : Str} {st : Stmt} {k : Nat} {ps N : List Str} {sp : Sp}
theorem Callee.imp {sp' : Sp} (C : Callee P w K mg base x k ps sp) (h : ∀ vs H Q E, sp' vs H Q E -> sp vs H Q E) : Callee P w K mg base x k ps sp' := by
 obtain ⟨f, fd, F, r⟩ := C.ex
 exact ⟨f, fd, F.imp h, r⟩
theorem Def.okR (D : Def K mg x st) (S : FnScope N ps (au st))
  (hb : ∀ (kV doc pm : Value) (an : Option Addr) (cdv ct : Value) (us : List Value), us.length = ps.length -> bindArgs (PySem.W.fnOf x x (cX st) (bR st) (au st) .none kV doc pm an cdv ct) ⟨us, []⟩ = pure (ps.zip us))
  (len : ∀ vs H Q E, sp vs H Q E -> vs.length = ps.length)
  (hbody : ∀ (f : Addr) (cdv : Value) (A : Around) (outer : List Env) (s : Shared) (H : Hp) (vs : List V) (Q : VK) (E : XK), Room k (A.deeper (envOfC x (au st) s.heap.objs.size f cdv)) -> sp vs H Q E ->
   ∃ t, PSs (dm (CX1 P w) P w K mg base N x (au st) f cdv A outer s H E) (bR st) t /\ t { nx := fun _ H' => Q .non H', rt := Q } (dE N vs) H) : Callee P w K mg base x (k + 1) ps sp := by
 obtain ⟨f, fd, F, m⟩ := D.ex
 exact ⟨f, fd, F.okR S len (hbody f), m, F.kp, F.binds hb, F.look⟩
end
section
variable {X : Cx} {x : Str} {p pos : Pos} {e : Expr} {es : List Expr} {ta : TA} {k : Nat} {ps : List Str} {sp : Sp} {E : XK}
end
section
variable {X : Cx} {K : PySem.W.Frag} {tg l : Expr} {tl : TE}
theorem allK (h : X.K = K) (hc : X.calm = true) : CallR X (.builtin "all") (fun xs H Q => ∃ (a : Addr) (bs : List Bool), xs = [.ref a] /\ SqL K H a (bs.map V.bl) /\ Q (.bl (bs.all id)) H) := by subst h; exact uP hc
theorem jC (h : X.K = K) (hu : X.A.units + 64 < cLine) : OpR X (compareOp .Eq) (pj K) := by subst h; exact yg hu
theorem ia (h : X.K = K) (hu : X.A.units + 64 < cLine) : OpR X (compareOp .NotEq) (pJ K) := by subst h; exact Bn hu
end
end L2
set_option Elab.async false
set_option linter.all false
set_option maxRecDepth 100000
namespace L2
open PySem PySem.Spec PyProof.Rows
section
variable {X : Cx}
theorem
    Bm {elt iter tg : Expr} {ifs : List Expr} {scope : Scope} {pos : Pos} {wi : TI} {g : TG} {tc : TT} {te : TE} {N : List Str} {sub : List (Option Nat)} {iT : Nat} {xT : Str} {px spos : Pos}
  (hc : X.calm = true) (hN : X.N.Nodup) (hix : X.N[iT]? = some xT) (hxl : Loc X.env.scope xT) (hi : PI X tg iter wi)
  (hk : scope.kind = .function) (hnc : ∀ x ∈ scope.names, x.2 ≠ .cell) (hnames : ∀ x ∈ scope.names, x.2 = .local -> scope.names.lookup x.1 = some .local)
  (hfr : ∀ x ∈ scope.names, x.2 = .free -> X.env.kindOf x.1 = some .cell \/ X.env.kindOf x.1 = some .free)
  (hsl : sub.length = N.length) (hsub : ∀ (j i : Nat) (x : Str), sub[j]? = some (some i) -> N[j]? = some x -> X.N[i]? = some x /\ scope.names.lookup x = some .free)
  (hg : ∀ cl C s₂ H fp, PG (aZ X N scope cl C s₂ H fp) tg g) (ht : ∀ cl C s₂ H fp, PTs (aZ X N scope cl C s₂ H fp) ifs tc) (he : ∀ cl C s₂ H fp, PE (aZ X N scope cl C s₂ H fp) elt te)
  (hsw : swapsWith (.ListComp elt [⟨tg, iter, ifs, 0⟩] scope pos) (some (.Name xT px)) spos.line X.env = pure true)
  (hs : ∀ x, foldedSetIterable iter X.env x = pure x := by intro _; rfl) (hf : X.fn xT = true \/ X.env.scope.names.lookup xT = some .local := by first | exact .inl rfl | exact .inr rfl | assumption) :
  PS X (.Assign [.Name xT px] (.ListComp elt [⟨tg, iter, ifs, 0⟩] scope pos) spos) (mP (iP wi sub g tc te) (jZ iT)) := by
 intro pins s σ H D0 I h
 obtain ⟨cl, hclos, hcl, hclf⟩ := ic (env := X.env) (scope := scope) fun x hx hf => I.ok.has x.1 (hfr x hx hf)
 rw [exec_Assign_Name_used _ _ _ _ hsw]
 refine wpAny_bind (wpAny_standAt (wpAny_bind ?_))
 show wpAny _ X.A (do let _ <- comprehension (.ListComp elt [⟨tg, iter, ifs, 0⟩] scope pos) scope X.env _ (newList []) false (eval iter X.env) (some (assign (.Name xT px) X.env))) _ _ s
 refine wpAny_bind (wpAny_mono (wpAny_comprehension_free (use := some (assign (.Name xT px) X.env)) (Q := fun _ s' => SP X pins D0 .next s') rfl hs hclos hk hnames ?_) (fun _ s' hq => wpAny_pure (wpAny_pure hq)) fun _ _ e => e)
 show wpAny _ _ (eval iter X.env) _ _ _
 refine thn (hi pins s σ H _ I h) fun v s1 h1 => thn h1 fun itv s2 h2 => ?_
 obtain ⟨it, fp, tn, J, H2, e, I2, T, st2, f2, W, ⟨m0, w0⟩, turn⟩ := h2
 subst e
 refine wpAny_newObj_type (wpAny_newFunctionEnv hnc (by intro y hy; simp at hy) (fun h₁ hns₁ hsb₁ => ?_) hk)
 dsimp only at hns₁ hsb₁ ⊢
 generalize hH2 : s2.heap.push { cls := .type "list", dict := none, data := .seq ([] : List Value).toArray } = G2 at hns₁ hsb₁ ⊢
 have hC : G2.objs.size = s2.heap.objs.size + 1 := by rw [<- hH2, Heap.size_push]
 have hDC : s2.heap.objs.size ≠ G2.objs.size := by omega
 have below : ∀ b, b < s2.heap.objs.size -> b ≠ G2.objs.size /\ b ≠ s2.heap.objs.size := fun b hb => ⟨by omega, by omega⟩
 have old : ∀ b o, s2.heap.get? b = some o -> h₁.get? b = some o := fun b o e => hsb₁.extBut b o (below b (Heap.lt_size e)).1 (Heap.get?_push_of_some _ (hH2 ▸ Heap.get?_push_of_some _ e))
 have hD₁ : h₁.get? s2.heap.objs.size = some { cls := .type "list", dict := none, data := .seq ([] : List Value).toArray } := hsb₁.extBut _ _ hDC (Heap.get?_push_of_some _ (hH2 ▸ Heap.get?_push_size _ rfl))
 have fresh : ∀ a, s2.heap.objs.size <= a -> s2.heap.get? a = none := fun a ha => Heap.get?_none_of_le ha
 have cellOld : ∀ x c, cl.lookup x = some c -> c < s2.heap.objs.size := fun x c e => by
  obtain ⟨v, z⟩ := I2.cell x c (hcl x c e)
  exact z.lt
 have fpOld : ∀ b ∈ fp, b < s2.heap.objs.size := fun b hb => by
  obtain ⟨o, e, _⟩ := T.obj _ _ st2 b hb
  exact Heap.lt_size e
 let Y : Cx := aZ X N scope cl G2.objs.size s2 H2 fp
 have okY : Y.Ok
         := by
  refine ⟨I2.ok.mod, ?_, I2.ok.glob, I2.ok.blt, ?_, fun x y c e1 e2 => I2.ok.inj x y c (hcl x c e1) (hcl y c e2), fun x hx => ?_, fun x c hfn _ => absurd hfn Bool.false_ne_true, I2.ok.hd, I2.ok.frames, .inl rfl,
   fun b hb => ⟨?_, fun x c e z => ?_⟩, I2.bs, Nat.le_trans I2.ok.bsz I2.sz, fun b o e hb => ?_, fun b hb hf => ?_, I2.stack, I2.stkFree⟩
  ·show (relabel scope X.env).kind = .function
   exact hk
  ·show s2.heap.objs.size <= G2.objs.size
   omega
  ·have hx' : (
         relabel scope X.env).names.lookup x = some .cell \/ (relabel scope X.env).names.lookup x = some .free := hx
   have : ∃ k,
         (x, k) ∈ scope.names /\ k = .free := by
    have gen : ∀ (names : List (Str × NameKind)), (∀ y ∈ names, y.2 ≠ .cell) -> ∀ kk, (kk = NameKind.cell \/ kk = NameKind.free) -> (names.map fun (n, k) => if (k == NameKind.free && X.env.scope.kind == .function && X.env.kindOf n == some .cell) then (n, NameKind.cell) else (n, k)).lookup x = some kk -> ∃ k, (x, k) ∈ names /\ k = .free := by
     intro names
     induction names with
     | nil => intro _ kk _ e; simp at e
     |
      cons y r ih =>
      intro hn kk hkk e
      obtain ⟨n, k⟩ := y
      rw [List.map_cons, List.lookup_cons] at e
      by_cases hkf : k = .free
      ·subst hkf
       by_cases hxn : x = n
       ·exact ⟨.free, by rw [hxn]; exact List.mem_cons_self, rfl⟩
       ·have hb : (x == (if (NameKind.free == NameKind.free && X.env.scope.kind == .function && X.env.kindOf n == some .cell) = true then (n, NameKind.cell) else (n, NameKind.free)).1) = false := by
         split <;> exact beq_eq_false_iff_ne.mpr hxn
        rw [hb] at e
        obtain ⟨k', m, q⟩ := ih (fun z hz => hn z (List.mem_cons_of_mem _ hz)) kk hkk e
        exact ⟨k', List.mem_cons_of_mem _ m, q⟩
      ·have hb0 : (k == NameKind.free && X.env.scope.kind == .function && X.env.kindOf n == some .cell) = false := by
        have : (k == NameKind.free) = false := by simpa using hkf
        rw [this]; rfl
       rw [hb0] at e
       simp only [Bool.false_eq_true, if_false] at e
       cases q : x == n with
       |
        true =>
        rw [q] at e
        have e' : k = kk := Option.some.inj e
        subst e'
        rcases hkk with z | z
        ·exact absurd z (hn (n, k) List.mem_cons_self)
        ·exact absurd z hkf
       |
        false =>
        rw [q] at e
        obtain ⟨k', m, q⟩ := ih (fun z hz => hn z (List.mem_cons_of_mem _ hz)) kk hkk e
        exact ⟨k', List.mem_cons_of_mem _ m, q⟩
    rcases hx' with z | z
    ·exact gen scope.names hnc _ (.inl rfl) z
    ·exact gen scope.names hnc _ (.inr rfl) z
   obtain ⟨k, m, q⟩ := this
   exact hclf (x, k) m q
  ·show b ≠ G2.objs.size
   exact (below b (fpOld b hb)).1
  ·exact (f2 b hb).2.2.2.2.1 x c (hcl x c e) z
  ·rcases (f2 b hb).2.2.2.1 with z | z
   ·exact I2.ok.noex b o e z
   ·exact absurd (Nat.lt_of_lt_of_le (Heap.lt_size e) (Nat.le_trans I2.ok.bsz z)) (Nat.lt_irrefl _)
  ·have hf' : b ∈ frs X.stack := hf
   rcases List.mem_cons.mp (I2.stkSub b hf') with z | z
   ·exact (f2 b hb).2.1 z
   ·exact (f2 b hb).2.2.1 z
 have startLoc
        : ∃ m, h₁.Ns G2.objs.size m /\ ∀ (i : Nat) (x : Str) (v : V), N[i]? = some x -> (cq sub σ)[i]? = some (some v) -> Vis (relabel scope X.env) x -> ∃ u, RelV v u /\ tZ Y.env h₁ m x u := by
  refine ⟨_, hns₁, fun j x v e1 e2 e3 => ?_⟩
  unfold cq at e2
  rw [List.getElem?_map] at e2
  cases q : sub[j]? with
  | none => rw [q] at e2; cases e2
  |
   some o =>
   rw [q] at e2
   cases o with
   | none => cases e2
   |
    some i =>
    obtain ⟨hNi, hfree⟩ := hsub j i x q e1
    have e2' : (σ[i]?).bind id = some v := Option.some.inj e2
    have e2'' : σ[i]? = some (some v) := by
     cases z : σ[i]? with
     | none => rw [z] at e2'; cases e2'
     | some y => rw [z] at e2'; rw [show y = some v from e2']
    obtain ⟨m2, hn2, hl2⟩ := I2.loc
    have hkx := hfr (x, .free) (PySem.mem_of_lookup hfree) rfl
    obtain ⟨u, r, l⟩ := hl2 i x v hNi e2'' (by rcases hkx with z | z; exact .inr (.inl z); exact .inr (.inr z))
    refine ⟨u, r, .inr ⟨?_, ?_⟩⟩
    ·rcases e3
          with z | z | z
     ·exfalso
      have gen : ∀ (names : List (Str × NameKind)), names.lookup x = some .free -> (names.map fun (n, k) => if (k == NameKind.free && X.env.scope.kind == .function && X.env.kindOf n == some .cell) then (n, NameKind.cell) else (n, k)).lookup x = some .local -> False := by
       intro names
       induction names with
       | nil => intro e _; simp at e
       |
        cons y r ih =>
        intro e1 e2
        obtain ⟨n, k⟩ := y
        rw [List.lookup_cons] at e1
        rw [List.map_cons, List.lookup_cons] at e2
        by_cases hxn : x = n
        ·have hb1 : (x == n) = true := beq_iff_eq.mpr hxn
         rw [hb1] at e1
         have : k = .free := Option.some.inj e1
         subst this
         split at e2
         ·rename_i hq
          split at e2 <;> cases e2
         ·rename_i hq
          split at hq <;> (rw [hb1] at hq; cases hq)
        ·have hb1 : (x == n) = false := beq_eq_false_iff_ne.mpr hxn
         rw [hb1] at e1
         refine ih e1 ?_
         split at e2
         ·rename_i hq
          split at hq <;> (rw [hb1] at hq; cases hq)
         ·exact e2
      exact gen scope.names hfree z
     ·exact .inl z
     ·exact .inr z
    ·obtain ⟨c, hc'⟩ := hclf (x, .free) (PySem.mem_of_lookup hfree) rfl
     refine ⟨c, hc', ?_⟩
     rcases l with ⟨k, _⟩ | ⟨_, c2, ec2, z⟩
     ·rcases hkx with z | z <;> (rw [k] at z; cases z)
     ·have := hcl x c hc'
      rw [ec2] at this
      cases this
      obtain ⟨oc, hoc, hd⟩ := z
      exact ⟨oc, old _ _ hoc, hd⟩
 have pinD : ∀ {σ' : St} {H' : Hp} {s' : Shared} {pl : List (Addr × Obj)} {o : Obj}, Inv Y pl σ' H' s' -> s'.heap.get? s2.heap.objs.size = some o -> (∀ v, o.data ≠ .cell v) -> H' s2.heap.objs.size = none -> Inv Y [(s2.heap.objs.size, o)] σ' H' s' := fun {σ' H' s' pl o} IY e d n =>
  IY.pins_of fun p hp => by
   have e' : p = (s2.heap.objs.size, o) := by simpa using hp
   subst e'
   refine ⟨e, n, ?_, ?_, d⟩
   ·show s2.heap.objs.size ≠ G2.objs.size
    omega
   ·intro hf
    have hf' : s2.heap.objs.size ∈ frs X.stack := hf
    obtain ⟨_, o', ho', _⟩ := I2.stack.mem hf'
    exact absurd (Heap.lt_size ho') (Nat.lt_irrefl _)
 have fpY : ∀ {H' : Hp} {pl : List (Addr × Obj)}, (∀ b ∈ fp, H' b = none) -> (∀ p ∈ pl, p.1 ∉ fp) -> ∀ b ∈ fp, FpOk Y pl H' b := fun {H' pl} hn hp b hb => by
  refine ⟨hn b hb, ?_, ?_, .inl hb, fun x c e => ?_, fun p hp' => ?_⟩
  ·exact (okY.exf b hb).1
  ·exact okY.exfs b hb
  ·exact (okY.exf b hb).2 x c e
  ·intro z
   have hp'' : p ∈ pl := by simpa [Y, aZ] using hp'
   exact hp p hp'' (by rw [z]; exact hb)
 have hDfp : s2.heap.objs.size ∉ fp := fun z => Nat.lt_irrefl _ (fpOld _ z)
 have loop
      : ∀ s₃ : Shared, s₃ = { s2 with heap := h₁, toks := s2.toks + ([] : List (Str × Value)).length } ->
   codeAny (model X.prog X.w) X.A (.compLoop (.ListComp elt [⟨tg, iter, ifs, 0⟩] scope pos) 0 (.ref it) (.ref s2.heap.objs.size) (compEnvC scope cl G2.objs.size X.env))
    (compPost (model X.prog X.w) X.A X.xe (some (assign (.Name xT px) X.env)) (fun _ s' => SP X pins D0 .next s') (.ref s2.heap.objs.size) G2.objs.size) s₃ := by
  rintro s₃ rfl
  have IY0 : Inv Y [(s2.heap.objs.size, { cls := .type "list", dict := none, data := .seq ([] : List Value).toArray })] (cq sub σ) H2 { s2 with heap := h₁, toks := s2.toks + ([] : List (Str × Value)).length } := by
   have J0 : Inv Y [] (cq sub σ) H2 { s2 with heap := h₁, toks := s2.toks + ([] : List (Str × Value)).length } := by
    refine ⟨okY, rfl, I2.bare, Un.kept old, startLoc, fun x c e => ?_, I2.hok.fresh (by show s2.heap.objs.size <= G2.objs.size; omega), fun x c e => I2.freeC x c (hcl x c e), fun p hp => absurd (show p ∈ ([] : List (Addr × Obj)) from hp) (by simp), I2.hok.kept old, ?_⟩
    ·obtain ⟨v, oc, hoc, hd⟩ := I2.cell x c (hcl x c e)
     exact ⟨v, oc, old _ _ hoc, hd⟩
    ·show (cq sub σ).length = N.length
     unfold cq
     rw [List.length_map]; exact hsl
   exact pinD J0 hD₁ (fun v z => by cases z) I2.fresh
  refine ij (fun n s' => ∃ (i : Nat) (ys : List V) (its : List Value) (k : Nat) (σ' : St) (H' : Hp), Inv Y [(s2.heap.objs.size, { cls := .type "list", dict := none, data := .seq its.toArray k })] σ' H' s' /\ Vals ys its /\ tn i s'.heap /\ (∀ b ∈ fp, H' b = none) /\ W i n ys σ' H') ?_ m0
   ⟨0, [], [], 0, cq sub σ, H2, IY0, .nil, T.keep _ _ _ st2 (fun b hb o e => old b o e), fun b hb => (f2 b hb).1, w0⟩
  rintro n s3 ⟨i, ys, its, k, σ3, H3, I3, rv, st3, fr3, w3⟩
  have npl : ∀ (o : Obj), ∀ p ∈ [(s2.heap.objs.size, o)], p.1 ∉ fp := fun o p hp => by
   have e' : p = (s2.heap.objs.size, o) := by simpa using hp
   subst e'
   exact hDfp
  rcases turn i n ys σ3 H3 w3 with ⟨stop, hz, qn⟩ | ⟨go, hz, Nx, hNx, step⟩
  ·refine wpAny_mono (T.done Y rfl rfl rfl hc i _ s3 σ3 H3 (fun _ _ => False) I3 (fpY fr3 (npl _)) st3 stop) (fun r s4 ⟨hr, I4⟩ => ?_) fun _ _ z => z
   subst hr
   obtain ⟨m4, hn4, _⟩ := I4.loc
   have hs' : Heap.SameBut G2.objs.size s4.heap s4.heap := ⟨rfl, fun _ _ => rfl⟩
   obtain ⟨h', hh'⟩ : ∃ h', h' = s4.heap := ⟨_, rfl⟩
   rw [<- hh'] at hs'
   rw [hh'] at hs'
   clear hh' h'
   generalize hh' : s4.heap = h' at hs'
   have hs' : Heap.SameBut G2.objs.size s4.heap h' := by rw [hh']; exact hs'
   have hCfree : H3 G2.objs.size = none := I4.free
   have hD4 := I4.pin (s2.heap.objs.size, { cls := .type "list", dict := none, data := .seq its.toArray k }) (List.mem_append_right _ List.mem_cons_self)
   have un4 : Un (frs X.stack) fp H2 H3 s2.heap s4.heap := I4.base
   have up : ∀ b o, b ≠ G2.objs.size -> s4.heap.get? b = some o -> h'.get? b = some o := fun b o hb e => hs'.extBut b o hb e
   have ne2 : ∀ b o, s2.heap.get? b = some o -> b ≠ G2.objs.size := fun b o e => (below b (Heap.lt_size e)).1
   have un5 : Un (frs X.stack) fp H2 H3 s2.heap h' := by
    refine ⟨fun b o e n hb hx => up b o (ne2 b o e) (un4.keep b o e n hb hx), fun b o e n hb hx => ?_, un4.free, fun b o e hx => ?_, un4.tups, un4.frzs, un4.tbls⟩
    ·obtain ⟨sl, q⟩ := un4.slot b o e n hb hx
     exact ⟨sl, up b _ (ne2 b o e) q⟩
    ·obtain ⟨o', q⟩ := un4.there b o e hx
     exact ⟨o', up b _ (ne2 b o e) q⟩
   have hok5 : HOk X.prog X.w H3 h' := fun b u e => (I4.hok b u e).stay (fun c v hcc q => up c v (fun z => by
    rcases hcc with zz | zz
    ·rw [zz] at z; rw [z, hCfree] at e; cases e
    ·rw [z, hCfree] at zz; cases zz) q) (fun _ q => q) fun _ _ q => q
   have I5 : Inv X pins σ H3 { s4 with heap := h' } := I2.call' (s' := { s4 with heap := h' }) (ch := fp) I4.os un5 hok5 I4.bare fun b hb => by
    obtain ⟨_, g1, _, g3, g4, g5⟩ := f2 b hb
    exact ⟨g3, g1, g4, g5⟩
   have hDfree : H3 s2.heap.objs.size = none := hD4.2.1
   have sz0 : X.s₀.heap.objs.size <= s2.heap.objs.size := I2.sz
   have hCold : ∀ b, b < s2.heap.objs.size -> b ≠ G2.objs.size := fun b hb => (below b hb).1
   have I6 : Inv X pins σ (upd H3 s2.heap.objs.size (.lst ys)) { s4 with heap := h' } := by
    refine I5.track (o := .lst ys) hDfree (Heap.get?_none_of_le sz0) (Nat.ne_of_gt I2.lt) (fun x c e z => ?_) (fun p hp z => ?_) ?_
    ·obtain ⟨v, q⟩ := I2.cell x c e
     exact absurd q.lt (by rw [z]; exact Nat.lt_irrefl _)
    ·exact absurd (Heap.lt_size (I2.pin p hp).1) (by rw [z]; exact Nat.lt_irrefl _)
    ·exact ⟨hz, its, k, rv, up _ _ hDC hD4.1⟩
   have I6' : Inv X pins σ (upd H3 s2.heap.objs.size (.lst ys)) s4 := by
    have e4 : ({ s4 with heap := h' } : Shared) = s4 := by rw [<- hh']
    rw [e4] at I6; exact I6
   refine wpAny_assign_Name (lJ (v := .ref s2.heap.objs.size) I6' hN hix hxl rfl (fun s7 I7 ⟨a7, sb7, ha7⟩ => ?_) hf)
   have ha : a7 < s2.heap.objs.size := by
    rcases ha7 with z | z
    ·rw [z]; exact I2.lt
    ·obtain ⟨v, q⟩ := I2.cell xT a7 z
     exact q.lt
   refine ⟨m4, hn4.sameBut sb7 (Ne.symm (hCold a7 ha)), fun h8 hs8 => ?_⟩
   have I8 : Inv X pins (σ.set iT (some (.ref s2.heap.objs.size))) (upd H3 s2.heap.objs.size (.lst ys)) { s7 with heap := h8, toks := s7.toks } := by
    refine I7.turned (it := G2.objs.size) (t' := s7.toks) (fun b o hb e => hs8.extBut b o hb e) ?_ ?_ (.inr ?_) (fun x c e => ?_) (fun p hp => ?_)
    ·rw [aC (Ne.symm hDC)]; exact hCfree
    ·exact Ne.symm (hCold _ I2.lt)
    ·omega
    ·obtain ⟨v, q⟩ := I2.cell x c e
     exact hCold _ q.lt
    ·exact hCold _ (Heap.lt_size (I2.pin p hp).1)
   exact ⟨_, _, I8, qn _ hDfree⟩
  ·refine wpAny_mono (T.item Y rfl rfl rfl hc i _ s3 σ3 H3 (fun _ _ => False) I3 (fpY fr3 (npl _)) st3 go) (fun r s4 ⟨u, hr, h4⟩ => ?_) fun _ _ z => z
   subst hr
   refine wpAny_mono h4 (fun _ s5 ⟨x, H5, I5, r5, y5, st5, fr5⟩ => ?_) fun _ _ z => z
   have I5' := I5.pinned (fpY fr5 (npl _)) (T.obj _ _ st5)
   refine wpAny_mono (hg cl G2.objs.size s2 H2 fp _ s5 σ3 H5 x u _ I5' r5 (step x H5 y5)) (fun _ s6 ⟨σ6, H6, I6, q6⟩ => ?_) fun _ _ z => z
   refine wpAny_mono (ht cl G2.objs.size s2 H2 fp _ s6 σ6 H6 _ I6 q6) (fun ok s7 ⟨H7, I7, q7⟩ => ?_) fun _ _ z => z
   have back : ∀ {σ' : St} {H' : Hp} {s' : Shared}, Inv Y ([(s2.heap.objs.size, { cls := .type "list", dict := none, data := .seq its.toArray k })] ++ gf fp s5.heap) σ' H' s' -> tn (i + 1) s'.heap /\ ∀ b ∈ fp, H' b = none := fun {σ' H' s'} IB => by
    refine ⟨T.keep _ _ _ st5 fun b hb o e => (IB.pin (b, o) (List.mem_append_right _ (List.mem_append_right _ (cV hb e)))).1, fun b hb => ?_⟩
    obtain ⟨o, e, d⟩ := T.obj _ _ st5 b hb
    exact (IB.pin (b, o) (List.mem_append_right _ (List.mem_append_right _ (cV hb e)))).2.1
   cases ok with
   |
    false =>
    rw [if_neg Bool.false_ne_true] at q7
    obtain ⟨m', hm, w7⟩ := hNx _ _ _ q7
    rw [if_neg Bool.false_ne_true]
    obtain ⟨t7, f7⟩ := back I7
    exact ⟨m', hm, i + 1, ys, its, k, σ6, H7, I7.unpinned, rv, t7, f7, w7⟩
   |
    true =>
    rw [if_pos rfl] at q7
    rw [if_pos rfl]
    refine wpAny_mono (he cl G2.objs.size s2 H2 fp _ s7 σ6 H7 _ I7 q7) (fun y s8 ⟨yv, H8, I8, r8, q8⟩ => ?_) fun _ _ z => z
    obtain ⟨m', hm, w8⟩ := hNx _ _ _ q8
    obtain ⟨t8, f8⟩ := back I8
    have I9 := I8.unpinned
    have hD9 := I9.pin (s2.heap.objs.size, { cls := .type "list", dict := none, data := .seq its.toArray k }) (List.mem_append_right _ List.mem_cons_self)
    have e9 : s8.heap.get? s2.heap.objs.size = some { cls := .type "list", dict := none, data := .seq its.toArray k } := hD9.1
    have hlen := rv.length
    refine call_meets F.slot_list_append ⟨_, e9, rfl⟩ F.entry_list_append (F.args_list_append_2 _ _) (PySem.list_append _ its.toArray k y (by rw [List.size_toArray]; omega)) ⟨e9, ?_⟩
    have q9 := PySem.IsL.update e9 (fun xs => xs.push y)
    have ea : its.toArray.push y = (its ++ [y]).toArray := by simp
    rw [ea] at q9
    have k9 : ∀ b o, b ≠ s2.heap.objs.size -> s8.heap.get? b = some o -> (s8.heap.update s2.heap.objs.size (Obj.mapSeq fun xs => xs.push y)).get? b = some o := fun b o hb e => (Heap.get?_update_other _ _ (Ne.symm hb)).trans e
    have I10 : Inv Y [] σ6 H8 { s8 with heap := s8.heap.update s2.heap.objs.size (Obj.mapSeq fun xs => xs.push y) } :=
     (I9.pins_of (pins' := []) (fun p hp => nomatch hp)).turned (t' := s8.toks) k9 hD9.2.1 hD9.2.2.1 (.inr (Nat.le_refl _)) (fun x c e z => absurd (cellOld x c e) (by rw [z]; exact Nat.lt_irrefl _))
      (fun p hp => absurd (show p ∈ ([] : List (Addr × Obj)) from hp) (by simp))
    refine ⟨m', hm, i + 1, ys ++ [yv], its ++ [y], _, σ6, H8, pinD I10 q9 (fun v z => by cases z) hD9.2.1, rv.append (.cons r8 .nil), ?_, f8, w8⟩
    exact T.keep _ _ _ t8 fun b hb o e => k9 b o (fun z => hDfp (by rw [<- z]; exact hb)) e
 exact codeAny_compStart_list (loop _ rfl) (T.self _ 0 _ _ _ (T.keep _ _ _ st2 fun b hb o e => old b o e) (loop _ rfl))
theorem CF {elt iter tg : Expr} {scope : Scope} {pos px spos : Pos} {wi : TI} {g : TG} {te : TE} {iT : Nat} {xT : Str} (M : List Str) (kn : List (Str × NameKind)) (N : List Str) (sub : List (Option Nat))
  (hc : X.calm = true) (hN : X.N.Nodup) (hix : X.N[iT]? = some xT) (hxl : Loc X.env.scope xT) (hi : PI X tg iter wi)
  (hg : ∀ cl C s₂ H fp, PG (aZ X N scope cl C s₂ H fp) tg g) (he : ∀ cl C s₂ H fp, PE (aZ X N scope cl C s₂ H fp) elt te)
  (hsw : swapsWith (.ListComp elt [⟨tg, iter, [], 0⟩] scope pos) (some (.Name xT px)) spos.line X.env = pure true := by rfl)
  (hM : X.N = M := by rfl) (hkn : X.env.scope.names = kn := by rfl) (hsub : fo M scope.names sub N = true := by decide +kernel)
  (hk : scope.kind = .function := by rfl) (hnc : ∀ x ∈ scope.names, x.2 ≠ .cell := by decide +kernel) (hnames : ∀ x ∈ scope.names, x.2 = .local -> scope.names.lookup x.1 = some .local := by decide +kernel)
  (hfr : il kn scope.names = true := by decide +kernel)
  (hsl : sub.length = N.length := by rfl) (hs : ∀ x, foldedSetIterable iter X.env x = pure x := by intro _; rfl) (hf : X.fn xT = true \/ X.env.scope.names.lookup xT = some .local := by first | exact .inl rfl | exact .inr rfl | assumption) :
  PS X (.Assign [.Name xT px] (.ListComp elt [⟨tg, iter, [], 0⟩] scope pos) spos) (mP (iP wi sub g sY te) (jZ iT)) :=
 Bm hc hN hix hxl hi hk hnc hnames (by subst hkn; exact oy hfr) hsl (by subst hM; exact mG hsub) hg (fun cl C s₂ H fp => oK) he hsw hs hf
end
end L2
set_option Elab.async false
set_option linter.all false
set_option maxRecDepth 100000
namespace L2
open PySem PySem.Spec PyProof.Rows
end L2
namespace Fr
noncomputable def dv (a b : Int) : Int := if b < 0 then -((Int.gcd a b : Nat) : Int) else ((Int.gcd a b : Nat) : Int)
noncomputable def T (a b : Int) : Int := a.fdiv (dv a b)
noncomputable def B (a b : Int) : Int := b.fdiv (dv a b)
theorem mR {a b : Int} (hb : b ≠ 0) : 0 < Int.gcd a b := Int.gcd_pos_of_ne_zero_right a hb
theorem dv_ne {a b : Int} (hb : b ≠ 0) : dv a b ≠ 0 := by
 have := mR (a := a) hb
 unfold dv
 split <;> omega
theorem tG (a b : Int) : dv a b ∣ a := by
 have h : ((Int.gcd a b : Nat) : Int) ∣ a := Int.gcd_dvd_left a b
 unfold dv
 split
 ·exact Int.neg_dvd.mpr h
 ·exact h
theorem uT (a b : Int) : dv a b ∣ b := by
 have h : ((Int.gcd a b : Nat) : Int) ∣ b := Int.gcd_dvd_right a b
 unfold dv
 split
 ·exact Int.neg_dvd.mpr h
 ·exact h
theorem oZ {a d q : Int} (hd : d ≠ 0) (h : a = d * q) : a.fdiv d = q := by
 rw [h, Int.mul_comm]
 exact Int.mul_fdiv_cancel q hd
theorem T_mul {a b : Int} (hb : b ≠ 0) : T a b * dv a b = a := by
 obtain ⟨q, h⟩ := tG a b
 have : T a b = q := oZ (dv_ne hb) h
 rw [this, Int.mul_comm]; exact h.symm
theorem B_mul {a b : Int} (hb : b ≠ 0) : B a b * dv a b = b := by
 obtain ⟨q, h⟩ := uT a b
 have : B a b = q := oZ (dv_ne hb) h
 rw [this, Int.mul_comm]; exact h.symm
theorem B_pos {a b : Int} (hb : b ≠ 0) : 0 < B a b := by
 have h := B_mul (a := a) hb
 have hg := mR (a := a) hb
 generalize hx : B a b = x at h ⊢
 unfold dv at h
 split at h
 ·rename_i hneg
  have h2 : x * ((Int.gcd a b : Nat) : Int) = -b := by rw [Int.mul_neg] at h; omega
  rcases Int.lt_or_le 0 x with z | z
  ·exact z
  ·have : x * ((Int.gcd a b : Nat) : Int) <= 0 := Int.mul_nonpos_of_nonpos_of_nonneg z (by omega)
   omega
 ·rename_i hpos
  rcases Int.lt_or_le 0 x with z | z
  ·exact z
  ·have : x * ((Int.gcd a b : Nat) : Int) <= 0 := Int.mul_nonpos_of_nonpos_of_nonneg z (by omega)
   omega
theorem cross {a b : Int} (hb : b ≠ 0) : T a b * b = a * B a b := by
 have h1 := T_mul (a := a) hb
 have h2 := B_mul (a := a) hb
 generalize T a b = x at *
 generalize B a b = y at *
 generalize dv a b = d at *
 rw [<- h2, <- h1]
 rw [<- Int.mul_assoc, Int.mul_right_comm]
theorem dv_abs (a b : Int) : (dv a b).natAbs = Int.gcd a b := by
 unfold dv
 split <;> simp
theorem low {a b : Int} (hb : b ≠ 0) : Int.gcd (T a b) (B a b) = 1 := by
 have h1 := T_mul (a := a) hb
 have h2 := B_mul (a := a) hb
 have hg := mR (a := a) hb
 have e1 : a.natAbs = (T a b).natAbs * Int.gcd a b := by rw [<- dv_abs a b, <- Int.natAbs_mul, h1]
 have e2 : b.natAbs = (B a b).natAbs * Int.gcd a b := by rw [<- dv_abs a b, <- Int.natAbs_mul, h2]
 have e3 : Int.gcd a b = Nat.gcd ((T a b).natAbs * Int.gcd a b) ((B a b).natAbs * Int.gcd a b) := by rw [<- e1, <- e2]; rfl
 rw [Nat.gcd_mul_right] at e3
 show Nat.gcd (T a b).natAbs (B a b).natAbs = 1
 generalize Nat.gcd (T a b).natAbs (B a b).natAbs = k at *
 generalize Int.gcd a b = g at *
 have : (1 : Nat) * g = k * g := by omega
 exact (Nat.eq_of_mul_eq_mul_right hg this).symm
theorem uniq {x y x' y' : Int} (hy : 0 < y) (hy' : 0 < y') (h : Int.gcd x y = 1) (h' : Int.gcd x' y' = 1) (e : x * y' = x' * y) : x = x' /\ y = y' := by
 have c1 : Nat.Coprime y.natAbs x.natAbs := by rw [Nat.coprime_comm]; exact h
 have c2 : Nat.Coprime y'.natAbs x'.natAbs := by rw [Nat.coprime_comm]; exact h'
 have e1 : x.natAbs * y'.natAbs = x'.natAbs * y.natAbs := by rw [<- Int.natAbs_mul, <- Int.natAbs_mul, e]
 have d1 : y.natAbs ∣ y'.natAbs := c1.dvd_of_dvd_mul_left (by rw [e1]; exact Nat.dvd_mul_left _ _)
 have d2 : y'.natAbs ∣ y.natAbs := c2.dvd_of_dvd_mul_left (by rw [<- e1]; exact Nat.dvd_mul_left _ _)
 have ey : y.natAbs = y'.natAbs := Nat.dvd_antisymm d1 d2
 have ey' : y = y' := by omega
 subst ey'
 exact ⟨Int.eq_of_mul_eq_mul_right (by omega) e, rfl⟩
theorem o8 {a b c d : Int} (hb : b ≠ 0) (hd : d ≠ 0) (e : a * d = c * b) : T a b = T c d /\ B a b = B c d := by
 refine uniq (B_pos hb) (B_pos hd) (low hb) (low hd) ?_
 have h1 := cross (a := a) hb
 have h2 := cross (a := c) hd
 have hbd : b * d ≠ 0 := Int.mul_ne_zero hb hd
 refine Int.eq_of_mul_eq_mul_right hbd ?_
 calc T a b * B c d * (b * d) = (T a b * b) * (B c d * d) := by rw [Int.mul_assoc, Int.mul_left_comm (B c d) b d, <- Int.mul_assoc]
  _ = (a * B a b) * (B c d * d) := by rw [h1]
  _ = (a * d) * (B c d * B a b) := by rw [Int.mul_assoc a, Int.mul_assoc a, Int.mul_left_comm (B a b), Int.mul_left_comm d, Int.mul_comm (B a b) d]
  _ = (c * b) * (B c d * B a b) := by rw [e]
  _ = (c * B c d) * (B a b * b) := by rw [Int.mul_assoc c, Int.mul_assoc c, Int.mul_left_comm b, Int.mul_comm b (B a b)]
  _ = (T c d * d) * (B a b * b) := by rw [<- h2]
  _ = T c d * B a b * (b * d) := by rw [Int.mul_assoc, Int.mul_assoc, Int.mul_left_comm d, Int.mul_comm d b]
theorem self {a b : Int} (hb : 0 < b) (h : Int.gcd a b = 1) : T a b = a /\ B a b = b :=
 uniq (B_pos (by omega)) hb (low (by omega)) h (cross (by omega))
theorem euc (m n : Nat) : Nat.gcd n (m % n) = Nat.gcd m n := by
 rw [Nat.gcd_comm, <- Nat.gcd_rec, Nat.gcd_comm]
end Fr
set_option Elab.async false
set_option linter.all false
set_option maxRecDepth 100000
set_option maxHeartbeats 1000000
namespace L2
open PySem PySem.Spec PyProof.Rows
theorem Inv.turnedL {X : Cx} {pins : List (Addr × Obj)} {σ : St} {H : Hp} {s : Shared} {h' : Heap} {t' : Nat} {ch : List Addr} (I : Inv X pins σ H s) (k : ∀ b o, b ∉ ch -> s.heap.get? b = some o -> h'.get? b = some o) (hf : ∀ b ∈ ch, FpOk X pins H b) : Inv X pins σ H { s with heap := h', toks := t' } := by
 have away : ∀ b u, H b = some u -> b ∉ ch := fun b u e z => by have := (hf b z).1; rw [e] at this; cases this
 refine I.step (g' := s.gens) (d' := s.drawn) (ch := ch) (fun b hb => ⟨(hf b hb).2.2.2.1, (hf b hb).2.1, (hf b hb).2.2.2.2.1, (hf b hb).2.2.2.2.2⟩) (fun b o _ _ hc e _ => k b o hc e) (fun b o _ _ hc e _ => ⟨o.slots, k b o hc e⟩) (fun _ _ _ _ n => n)
  (fun b o hc e => ⟨o, k b o hc e⟩) (fun _ _ e => e) (fun _ _ _ e => e) (fun b ps e => ⟨#[], by rw [e]; simp⟩) (fun m hm => ?_) (fun b u e => ?_) I.bare
 ·obtain ⟨o, es, ep, ho, r⟩ := hm
  exact ⟨o, es, ep, k _ o (fun z => (hf _ z).2.1 rfl) ho, r⟩
 ·refine (I.hok b u e).stay (fun c v hc q => k c v ?_ q) (fun _ q => q) fun _ _ q => q
  rcases hc with z | z
  ·rw [z]; exact away b u e
  ·exact away c _ z
theorem FpOk.up {X : Cx} {pins : List (Addr × Obj)} {H : Hp} {b p : Addr} {o : HO} (f : FpOk X pins H b) (hn : b ≠ p) : FpOk X pins (upd H p o) b := ⟨by rw [aC hn]; exact f.1, f.2⟩
theorem qC {prog : Program} {w : World} {A : Around} {E : Value -> Shared -> Prop} {s : Shared} {j t : Addr} {n : Nat} {its : Array Value} {v : Value} {Q : Value -> Shared -> Prop} (hj : s.heap.IsTupleIter j t n) (ht : s.heap.IsTuple t its) (hv : its[n]? = some v)
  (k : ∀ h', h'.IsTupleIter j t (n + 1) -> Heap.SameBut j s.heap h' -> Q v { s with heap := h' }) : wpAny (model prog w) A (Builtin.SmallTypes.nextOf (.ref j)) Q E s := by
 obtain ⟨oj, ej, cj, dj⟩ := id hj
 obtain ⟨ot, et, _, m, dt⟩ := ht
 unfold Builtin.SmallTypes.nextOf
 refine wpAny_bind (wpAny_callSpecial?_slot (name := Str.ofString "__next__") hj.typeIs F.slot_tuple_iterator_next (wpAny_call_entry F.slot_tuple_iterator_next hj.typeIs F.entry_tuple_iterator_next ?_ (F.args_tuple_iterator_next_1 _)))
 show wpAny _ _ (field (.ref j) 0 >>= _) _ _ s
 refine wpAny_bind (wpAny_field ej dj (x := .ref t) rfl ?_)
 show wpAny _ _ (if (Value.ref t == Value.none) = true then _ else _) _ _ s; rw [if_neg (show ¬ ((Value.ref t == Value.none) = true) from Bool.false_ne_true)]
 show wpAny _ _ (field (.ref j) 1 >>= _) _ _ s
 refine wpAny_bind (wpAny_field ej dj (x := .int n 0) rfl ?_)
 show wpAny _ _ (seqItems? (.ref t) >>= _) _ _ s; refine wpAny_bind (wpAny_seqItems et dt ?_)
 simp only [Int.toNat_natCast, hv]
 refine wpAny_bind (wpAny_setField ej dj (by simp) (wpAny_pure ⟨v, rfl, wpAny_pure (k _ ?_ (Heap.SameBut.update ..))⟩))
 exact ⟨_, Heap.get?_update_self _ ej (Obj.isFreed_of_fields (Obj.data_mapFields dj _)), (Obj.cls_mapFields ..).trans cj, by rw [Obj.data_mapFields dj]; simp [rawInt]⟩
theorem kC {prog : Program} {w : World} {A : Around} {E : Value -> Shared -> Prop} {s : Shared} {j t : Addr} {n : Nat} {its : Array Value} {Q : Value -> Shared -> Prop} (hh : A.handled = none) (hj : s.heap.IsTupleIter j t n) (ht : s.heap.IsTuple t its) (hv : its[n]? = none)
  (k : ∀ h' e, Heap.ExtBut j s.heap h' -> (∃ o, h'.get? e = some o /\ o.cls = .type "StopIteration") -> E (.ref e) { s with heap := h' }) : wpAny (model prog w) A (Builtin.SmallTypes.nextOf (.ref j)) Q E s := by
 obtain ⟨oj, ej, cj, dj⟩ := id hj
 obtain ⟨ot, et, _, m, dt⟩ := ht
 unfold Builtin.SmallTypes.nextOf
 refine wpAny_bind (wpAny_callSpecial?_slot (name := Str.ofString "__next__") hj.typeIs F.slot_tuple_iterator_next (wpAny_call_entry F.slot_tuple_iterator_next hj.typeIs F.entry_tuple_iterator_next ?_ (F.args_tuple_iterator_next_1 _)))
 show wpAny _ _ (field (.ref j) 0 >>= _) _ _ s
 refine wpAny_bind (wpAny_field ej dj (x := .ref t) rfl ?_)
 show wpAny _ _ (if (Value.ref t == Value.none) = true then _ else _) _ _ s; rw [if_neg (show ¬ ((Value.ref t == Value.none) = true) from Bool.false_ne_true)]
 show wpAny _ _ (field (.ref j) 1 >>= _) _ _ s
 refine wpAny_bind (wpAny_field ej dj (x := .int n 0) rfl ?_)
 show wpAny _ _ (seqItems? (.ref t) >>= _) _ _ s; refine wpAny_bind (wpAny_seqItems et dt ?_)
 simp only [Int.toNat_natCast, hv]
 refine wpAny_bind (wpAny_rule (wpAny_bind (wpAny_setField ej dj (by simp) ?_))); show wpAny _ _ (newExc (.type "StopIteration") [] >>= _) _ _ _
 refine wpAny_bind ?_; simp only [newExc, newTuple]
 refine wpAny_bind (wpAny_newObj_type ?_ (by size_fits)); refine wpAny_bind (m := firstArgMember _ _) (wpAny_of_eq (a := Value.none) (by first | rfl | (simp only [firstArgMember]; rfl)) ?_)
 refine wpAny_newObj_type ?_ (by size_fits); simp only [raiseNew]
 refine wpAny_bind (wpAny_handled ?_); first | rw [show A.in1.handled = none from hh] | rw [hh]
 refine wpAny_bind (wpAny_pure (wpAny_throw ?_)); exact k _ _ (((Heap.SameBut.update ..).extBut.push _).push _) ⟨_, Heap.get?_push_size _ rfl, rfl⟩
noncomputable def SqB (K : PySem.W.Frag) (b : Bool) (H : Hp) (a : Addr) (xs : List V) : Prop := match b with
 | true => SqL K H a xs
 | false => SqT K H a xs
noncomputable def ItB (b : Bool) (h : Heap) (j a : Addr) (i : Nat) : Prop := match b with
 | true => h.IsListIter j a i
 | false => h.IsTupleIter j a i
theorem SqB.inj {X : Cx} {pins : List (Addr × Obj)} {σ : St} {H : Hp} {s : Shared} {b : Bool} {a : Addr} {xs ys : List V} (I : Inv X pins σ H s) (x : SqB X.K b H a xs) (y : SqB X.K b H a ys) : xs = ys := by
 cases b with
 | true => exact I.list_inj x y
 | false => exact I.tuple_inj x y
noncomputable def IteE (K : PySem.W.Frag) (b : Bool) (a : Addr) : It :=
 ⟨fun i H => ∃ xs x, SqB K b H a xs /\ xs[i]? = some x, fun i H x H' => ∃ p u, x = .ref p /\ H p = none /\ H' = upd H p (.tup [.int (i : Nat), u]) /\ ∀ xs, SqB K b H a xs -> xs[i]? = some u, fun i H => ∃ xs, SqB K b H a xs /\ xs.length = i⟩
theorem iJ {b : Bool} {h : Heap} {j a : Addr} {i : Nat} (z : ItB b h j a i) : ∃ o, h.get? j = some o /\ (∀ v, o.data ≠ .cell v) /\ o.cls = .type (if b then "list_iterator" else "tuple_iterator") := by
 cases b with
 | true => obtain ⟨o, e, c, d⟩ := z; exact ⟨o, e, (fun v y => by rw [d] at y; cases y), c⟩
 | false => obtain ⟨o, e, c, d⟩ := z; exact ⟨o, e, (fun v y => by rw [d] at y; cases y), c⟩
theorem bw {b : Bool} {h h' : Heap} {j a : Addr} {i : Nat} (z : ItB b h j a i) (k : ∀ o, h.get? j = some o -> h'.get? j = some o) : ItB b h' j a i := by
 cases b with
 | true => obtain ⟨o, e, r⟩ := z; exact ⟨o, k o e, r⟩
 | false => obtain ⟨o, e, r⟩ := z; exact ⟨o, k o e, r⟩
noncomputable def LsB (b : Bool) (h : Heap) (a : Addr) (its : Array Value) : Prop := match b with
 | true => h.IsList a its
 | false => h.IsTuple a its
theorem LsB.keep {b : Bool} {h h' : Heap} {a : Addr} {its : Array Value} (z : LsB b h a its) (k : ∀ o, h.get? a = some o -> h'.get? a = some o) : LsB b h' a its := by
 cases b <;> (obtain ⟨o, e, r⟩ := z; exact ⟨o, k o e, r⟩)
theorem qc {prog : Program} {w : World} {A : Around} {E : Value -> Shared -> Prop} {s : Shared} {b : Bool} {j a : Addr} {n : Nat} {its : Array Value} {v : Value} {Q : Value -> Shared -> Prop} (hj : ItB b s.heap j a n) (ht : LsB b s.heap a its) (hv : its[n]? = some v)
  (k : ∀ h', ItB b h' j a (n + 1) -> Heap.SameBut j s.heap h' -> Q v { s with heap := h' }) : wpAny (model prog w) A (Builtin.SmallTypes.nextOf (.ref j)) Q E s := by
 cases b with
 | true => exact wpAny_nextOf_list_item hj ht hv k
 | false => exact qC hj ht hv k
theorem lu {prog : Program} {w : World} {A : Around} {E : Value -> Shared -> Prop} {s : Shared} {b : Bool} {j a : Addr} {n : Nat} {its : Array Value} {Q : Value -> Shared -> Prop} (hh : A.handled = none) (hj : ItB b s.heap j a n) (ht : LsB b s.heap a its) (hv : its[n]? = none)
  (k : ∀ h' e, Heap.ExtBut j s.heap h' -> (∃ o, h'.get? e = some o /\ o.cls = .type "StopIteration") -> E (.ref e) { s with heap := h' }) : wpAny (model prog w) A (Builtin.SmallTypes.nextOf (.ref j)) Q E s := by
 cases b with
 | true => exact wpAny_nextOf_list_end hh hj ht hv k
 | false => exact kC hh hj ht hv k
section
variable {prog : Program} {w : World} {A : Around} {E : Value -> Shared -> Prop} {s : Shared} {b1 b2 : Bool} {z p q j1 j2 a1 a2 : Addr} {n : Nat} {xs ys : Array Value} {x y u v : Value}
theorem zipN {Q : Value -> Shared -> Prop} (D : ZipApart z p q j1 j2 a1 a2) (hz : IsZip s.heap z p q .none) (hp : IsPair s.heap p (.ref j1) (.ref j2)) (hq : IsPair s.heap q u v)
  (i1 : ItB b1 s.heap j1 a1 n) (i2 : ItB b2 s.heap j2 a2 n) (l1 : LsB b1 s.heap a1 xs) (l2 : LsB b2 s.heap a2 ys) (ex : xs[n]? = some x) (ey : ys[n]? = some y)
  (k : ∀ h', IsZip h' z p q (rawInt s.heap.objs.size) -> IsPair h' q x y -> ItB b1 h' j1 a1 (n + 1) -> ItB b2 h' j2 a2 (n + 1) -> IsPair h' s.heap.objs.size x y -> (∀ c o, c ≠ z -> c ≠ q -> c ≠ j1 -> c ≠ j2 -> s.heap.get? c = some o -> h'.get? c = some o) -> Q (.ref s.heap.objs.size) { s with heap := h' }) :
  wpAny (model prog w) A (Builtin.«zip.__next__» ⟨[.ref z], []⟩) (fun fin s' => ∃ v, fin = .done (.ret v) /\ Q v s') E s := by
 show wpAny _ _ (field (.ref z) 2 >>= _) _ _ _; refine wpAny_bind (wpAny_field hz rfl (x := .bool false) rfl ?_)
 show wpAny _ _ (field (.ref z) 3 >>= _) _ _ _; refine wpAny_bind (wpAny_field hz rfl (x := .ref p) rfl ?_)
 refine wpAny_bind (wpAny_seqItems hp rfl ?_); show wpAny _ _ (Builtin.SmallTypes.ownedTupleIsFree (.ref z) >>= _) _ _ _
 refine wpAny_bind ?_; unfold Builtin.SmallTypes.ownedTupleIsFree
 refine wpAny_bind (wpAny_field hz rfl (x := .none) rfl (wpAny_pure ?_)); simp only [if_true]
 refine wpAny_bind (wpAny_rule ?_); refine wpAny_bind (wpAny_field hz rfl (x := .ref q) rfl ?_)
 refine wpAny_bind (wpAny_setField_rec hz (by simp) fun g1 (y1 : IsZip g1 z p q .ellipsis) t1 => ?_)
 refine wpAny_bind ?_; simp only [List.zipIdx_cons, List.zipIdx_nil, List.forIn_cons, List.forIn_nil]
 refine wpAny_bind (wpAny_bind (wpAny_onRaise ?_)); show wpAny _ _ (Builtin.SmallTypes.nextOf (.ref j1) >>= _) _ _ _
 refine wpAny_bind (qc (bw i1 fun o e => t1.extBut _ _ D.i1z e) (l1.keep fun o e => t1.extBut _ _ D.l1z e) ex fun g2 m1 t2 => wpAny_pure ?_)
 have q2 : IsPair g2 q u v := t2.extBut _ _ D.TOi1 (t1.extBut _ _ D.TOz hq)
 refine wpAny_bind (wpAny_seqItems q2 rfl ?_); refine wpAny_bind (wpAny_updateSeq_pair q2 fun g3 (q3 : IsPair g3 q x v) t3 => ?_)
 refine wpAny_bind (wpAny_letGo (wpAny_pure ?_)); refine wpAny_bind (wpAny_bind (wpAny_onRaise ?_))
 show wpAny _ _ (Builtin.SmallTypes.nextOf (.ref j2) >>= _) _ _ _
 refine wpAny_bind (qc (bw i2 fun o e => t3.extBut _ _ D.TOi2.symm (t2.extBut _ _ D.i12.symm (t1.extBut _ _ D.i2z e))) (l2.keep fun o e => t3.extBut _ _ D.l2TO (t2.extBut _ _ D.l2i1 (t1.extBut _ _ D.l2z e))) ey fun g4 m2 t4 => wpAny_pure ?_)
 have q4 : IsPair g4 q x v := t4.extBut _ _ D.TOi2 q3
 refine wpAny_bind (wpAny_seqItems q4 rfl ?_); refine wpAny_bind (wpAny_updateSeq_pair q4 fun g5 (q5 : IsPair g5 q x y) t5 => ?_)
 refine wpAny_bind (wpAny_letGo (wpAny_pure (wpAny_pure ?_))); refine wpAny_bind (wpAny_seqItems q5 rfl ?_); refine wpAny_bind (wpAny_newTuple ?_)
 have sz : g5.objs.size = s.heap.objs.size := by rw [t5.1, t4.1, t3.1, t2.1, t1.1]
 have y5 : IsZip g5 z p q .ellipsis := t5.extBut _ _ D.TOz.symm (t4.extBut _ _ D.i2z.symm (t3.extBut _ _ D.TOz.symm (t2.extBut _ _ D.i1z.symm y1)))
 have all5 : ∀ c o, c ≠ z -> c ≠ q -> c ≠ j1 -> c ≠ j2 -> s.heap.get? c = some o -> g5.get? c = some o := fun c o c1 c2 c3 c4 e => t5.extBut _ _ c2 (t4.extBut _ _ c4 (t3.extBut _ _ c2 (t2.extBut _ _ c3 (t1.extBut _ _ c1 e))))
 have n1 : ItB b1 g5 j1 a1 (n + 1) := bw m1 fun o e => t5.extBut _ _ D.TOi1.symm (t4.extBut _ _ D.i12 (t3.extBut _ _ D.TOi1.symm e))
 have n2 : ItB b2 g5 j2 a2 (n + 1) := bw m2 fun o e => t5.extBut _ _ D.TOi2.symm e
 have zl : z < g5.objs.size := Heap.lt_size y5
 show wpAny _ _ (Builtin.SmallTypes.ownedTupleHandOut (.ref z) (.ref g5.objs.size) >>= _) _ _ _; refine wpAny_bind ?_; unfold Builtin.SmallTypes.ownedTupleHandOut
 have y6 : IsZip (g5.push { cls := .type "tuple", data := .seq #[x, y] }) z p q .ellipsis := Heap.get?_push_of_some _ y5
 refine wpAny_bind (wpAny_setField_rec y6 (by simp) fun g7 (y7 : IsZip g7 z p q (rawInt g5.objs.size)) t7 => ?_)
 refine wpAny_setField_rec y7 (by simp) fun g8 (y8 : IsZip g8 z p q (rawInt g5.objs.size)) t8 => ?_
 have up : ∀ c o, c ≠ z -> g5.get? c = some o -> g8.get? c = some o := fun c o c1 e => t8.extBut _ _ c1 (t7.extBut _ _ c1 (Heap.get?_push_of_some _ e))
 have w8 : IsPair g8 g5.objs.size x y := t8.extBut _ _ (Nat.ne_of_gt zl) (t7.extBut _ _ (Nat.ne_of_gt zl) (Heap.get?_push_size _ rfl))
 rw [sz] at y8 w8
 refine wpAny_pure ⟨_, rfl, ?_⟩
 show Q (.ref g5.objs.size) _; rw [sz]
 exact k g8 y8 (up _ _ D.TOz q5) (bw n1 fun o e => up _ o D.i1z e) (bw n2 fun o e => up _ o D.i2z e) w8 fun c o c1 c2 c3 c4 e => up c o c1 (all5 c o c1 c2 c3 c4 e)
theorem sT {Q : Fin -> Shared -> Prop} (hh : A.handled = none) (D : ZipApart z p q j1 j2 a1 a2) (hz : IsZip s.heap z p q .none) (hp : IsPair s.heap p (.ref j1) (.ref j2)) (hq : IsPair s.heap q u v)
  (i1 : ItB b1 s.heap j1 a1 n) (i2 : ItB b2 s.heap j2 a2 n) (l1 : LsB b1 s.heap a1 xs) (l2 : LsB b2 s.heap a2 ys) (en : xs[n]? = none \/ ys[n]? = none)
  (k : ∀ h' e, (∀ c o, c ≠ z -> c ≠ q -> c ≠ j1 -> c ≠ j2 -> s.heap.get? c = some o -> h'.get? c = some o) -> (∃ o, h'.get? e = some o /\ o.cls = .type "StopIteration") -> E (.ref e) { s with heap := h' }) : wpAny (model prog w) A (Builtin.«zip.__next__» ⟨[.ref z], []⟩) Q E s := by
 show wpAny _ _ (field (.ref z) 2 >>= _) _ _ _; refine wpAny_bind (wpAny_field hz rfl (x := .bool false) rfl ?_)
 show wpAny _ _ (field (.ref z) 3 >>= _) _ _ _; refine wpAny_bind (wpAny_field hz rfl (x := .ref p) rfl ?_)
 refine wpAny_bind (wpAny_seqItems hp rfl ?_); show wpAny _ _ (Builtin.SmallTypes.ownedTupleIsFree (.ref z) >>= _) _ _ _
 refine wpAny_bind ?_; unfold Builtin.SmallTypes.ownedTupleIsFree
 refine wpAny_bind (wpAny_field hz rfl (x := .none) rfl (wpAny_pure ?_)); simp only [if_true]
 refine wpAny_bind (wpAny_rule ?_); refine wpAny_bind (wpAny_field hz rfl (x := .ref q) rfl ?_)
 refine wpAny_bind (wpAny_setField_rec hz (by simp) fun g1 (y1 : IsZip g1 z p q .ellipsis) t1 => ?_)
 refine wpAny_bind ?_; simp only [List.zipIdx_cons, List.zipIdx_nil, List.forIn_cons, List.forIn_nil]
 refine wpAny_bind (wpAny_bind (wpAny_onRaise ?_)); show wpAny _ _ (Builtin.SmallTypes.nextOf (.ref j1) >>= _) _ _ _
 cases ex : xs[n]? with
 |
  none =>
  refine wpAny_bind (lu hh (bw i1 fun o e => t1.extBut _ _ D.i1z e) (l1.keep fun o e => t1.extBut _ _ D.l1z e) ex fun g2 e t2 ⟨oe, he, ce⟩ => ?_)
  have y2 : IsZip g2 z p q .ellipsis := t2 _ _ D.i1z.symm y1
  have ez : e ≠ z := fun w => by subst w; rw [y2] at he; cases he; simp at ce
  exact wpAny_setField_rec y2 (by simp) fun g3 _ t3 => k g3 e (fun c o c1 _ c3 _ w => t3.extBut _ _ c1 (t2 _ _ c3 (t1.extBut _ _ c1 w))) ⟨oe, t3.extBut _ _ ez he, ce⟩
 |
  some x =>
  have ey : ys[n]? = none := en.resolve_left fun w => by rw [ex] at w; cases w
  refine wpAny_bind (qc (bw i1 fun o e => t1.extBut _ _ D.i1z e) (l1.keep fun o e => t1.extBut _ _ D.l1z e) ex fun g2 m1 t2 => wpAny_pure ?_)
  have q2 : IsPair g2 q u v := t2.extBut _ _ D.TOi1 (t1.extBut _ _ D.TOz hq)
  refine wpAny_bind (wpAny_seqItems q2 rfl ?_); refine wpAny_bind (wpAny_updateSeq_pair q2 fun g3 q3 t3 => ?_); refine wpAny_bind (wpAny_letGo (wpAny_pure ?_))
  refine wpAny_bind (wpAny_bind (wpAny_onRaise ?_)); show wpAny _ _ (Builtin.SmallTypes.nextOf (.ref j2) >>= _) _ _ _
  refine wpAny_bind (lu hh (bw i2 fun o e => t3.extBut _ _ D.TOi2.symm (t2.extBut _ _ D.i12.symm (t1.extBut _ _ D.i2z e))) (l2.keep fun o e => t3.extBut _ _ D.l2TO (t2.extBut _ _ D.l2i1 (t1.extBut _ _ D.l2z e))) ey fun g4 e t4 ⟨oe, he, ce⟩ => ?_)
  have y4 : IsZip g4 z p q .ellipsis := t4 _ _ D.i2z.symm (t3.extBut _ _ D.TOz.symm (t2.extBut _ _ D.i1z.symm y1))
  have ez : e ≠ z := fun w => by subst w; rw [y4] at he; cases he; simp at ce
  exact wpAny_setField_rec y4 (by simp) fun g5 _ t5 => k g5 e (fun c o c1 c2 c3 c4 w => t5.extBut _ _ c1 (t4 _ _ c4 (t3.extBut _ _ c2 (t2.extBut _ _ c3 (t1.extBut _ _ c1 w))))) ⟨oe, t5.extBut _ _ ez he, ce⟩
end
end L2
set_option Elab.async false
set_option linter.all false
set_option maxRecDepth 100000
set_option maxHeartbeats 1000000
namespace L2
open PySem PySem.Spec PyProof.Rows
noncomputable def um (b : Bool) : String := if b then "list_iterator" else "tuple_iterator"
theorem oh {prog : Program} {w : World} {A : Around} {E : Value -> Shared -> Prop} {s : Shared} {b : Bool} {a : Addr} {its : Array Value} {Q : Value -> Shared -> Prop} (h : LsB b s.heap a its) (k : Q (.ref s.heap.objs.size) { s with heap := s.heap.push { cls := .type (um b), data := .fields #[.ref a, .int 0 0] } }) : wpAny (model prog w) A (pyIter (.ref a)) Q E s := by
 cases b with
 | true => exact wpAny_pyIter_list h k
 | false => exact wpAny_pyIter_tuple h k
abbrev zp1 (h : Heap) (b : Bool) (a : Addr) : Heap := h.push { cls := .type (um b), data := .fields #[.ref a, .int 0 0] }
abbrev zp2 (h : Heap) (b c : Bool) (a d : Addr) : Heap := zp1 (zp1 h b a) c d
abbrev zp3 (h : Heap) (b c : Bool) (a d : Addr) : Heap := (zp2 h b c a d).push { cls := .type "tuple", data := .seq #[.ref h.objs.size, .ref (zp1 h b a).objs.size] }
abbrev zp4 (h : Heap) (b c : Bool) (a d : Addr) : Heap := (zp3 h b c a d).push { cls := .type "tuple", data := .seq #[.none, .none] }
abbrev zp5 (h : Heap) (b c : Bool) (a d : Addr) : Heap := (zp4 h b c a d).push { cls := .type "zip", data := .fields #[.none, .bool false, .bool false, .ref (zp2 h b c a d).objs.size, .ref (zp3 h b c a d).objs.size] }
theorem uN (b c : Bool) (a d : Addr) (xs ys : Array Value) : Meets (Builtin.«zip.__new__» ⟨[.type "zip", .ref a, .ref d], []⟩) (fun _ R s => LsB b s.heap a xs /\ LsB c s.heap d ys /\ R (.ok (.ret (.ref (zp4 s.heap b c a d).objs.size))) { s with heap := zp5 s.heap b c a d }) :=
 .of_wp fun prog w A R s h => by
  obtain ⟨hp, g, dr, tk, os⟩ := s; obtain ⟨la, ld, h⟩ := h
  have hsub := sub_zip
  have L1 : LsB b (Shared.heap ⟨hp, g, dr, tk, os⟩) a xs := la
  have L2' : LsB c (Shared.heap ⟨hp.push { cls := .type (um b), data := .fields #[.ref a, .int 0 0] }, g, dr, tk, os⟩) d ys := ld.keep fun o e => Heap.get?_push_of_some _ e
  wp_walk using oh L1, oh L2'
  exact ⟨_, rfl, h⟩
theorem rY {prog : Program} {w : World} {A : Around} {E : Value -> Shared -> Prop} {s : Shared} {b c : Bool} {a d : Addr} {xs ys : Array Value} {Q : Value -> Shared -> Prop} (la : LsB b s.heap a xs) (ld : LsB c s.heap d ys)
  (k : ∀ h', IsZip h' (s.heap.objs.size + 4) (s.heap.objs.size + 2) (s.heap.objs.size + 3) .none -> IsPair h' (s.heap.objs.size + 2) (.ref s.heap.objs.size) (.ref (s.heap.objs.size + 1)) -> IsPair h' (s.heap.objs.size + 3) .none .none ->
   ItB b h' s.heap.objs.size a 0 -> ItB c h' (s.heap.objs.size + 1) d 0 -> (∀ c o, s.heap.get? c = some o -> h'.get? c = some o) -> Q (.ref (s.heap.objs.size + 4)) { s with heap := h' }) : wpAny (model prog w) A (call (.type "zip") [.ref a, .ref d]) Q E s := by
 refine callType_new F.called_zip (by decide) (F.typeCall_zip_2 _ _) (F.newCall_zip_2 _ _) (fun obj => F.args_object_init_3 obj _ _) F.entry_zip_new (uN b c a d xs ys) ⟨la, ld, ?_⟩
 have n1 : (zp1 s.heap b a).objs.size = s.heap.objs.size + 1 := Heap.size_push ..
 have n2 : (zp2 s.heap b c a d).objs.size = s.heap.objs.size + 2 := by rw [Heap.size_push, n1]
 have n3 : (zp3 s.heap b c a d).objs.size = s.heap.objs.size + 3 := by rw [Heap.size_push, n2]
 have n4 : (zp4 s.heap b c a d).objs.size = s.heap.objs.size + 4 := by rw [Heap.size_push, n3]
 have up := fun {h : Heap} {x : Addr} {o : Obj} (o' : Obj) (e : h.get? x = some o) => Heap.get?_push_of_some o' e
 have e5 : (zp5 s.heap b c a d).get? (zp4 s.heap b c a d).objs.size = some _ := Heap.get?_push_size _ rfl
 have e4 : (zp5 s.heap b c a d).get? (zp3 s.heap b c a d).objs.size = some _ := up _ (Heap.get?_push_size _ rfl)
 have e3 : (zp5 s.heap b c a d).get? (zp2 s.heap b c a d).objs.size = some _ := up _ (up _ (Heap.get?_push_size _ rfl))
 have e2 : (zp5 s.heap b c a d).get? (zp1 s.heap b a).objs.size = some _ := up _ (up _ (up _ (Heap.get?_push_size _ rfl)))
 have e1 : (zp5 s.heap b c a d).get? s.heap.objs.size = some _ := up _ (up _ (up _ (up _ (Heap.get?_push_size _ rfl))))
 show _ /\ _
 rw [n2, n3, n4] at e5; rw [n1, n2] at e3; rw [n3] at e4; rw [n1] at e2; rw [n4]
 have i1 : ItB b (zp5 s.heap b c a d) s.heap.objs.size a 0 := by cases b <;> exact ⟨_, e1, rfl, rfl⟩
 have i2 : ItB c (zp5 s.heap b c a d) (s.heap.objs.size + 1) d 0 := by cases c <;> exact ⟨_, e2, rfl, rfl⟩
 exact ⟨⟨_, e5, rfl⟩, k _ e5 e3 e4 i1 i2 fun x o e => up _ (up _ (up _ (up _ (up _ e))))⟩
noncomputable def ItZ (K : PySem.W.Frag) (b c : Bool) (a d : Addr) : It :=
 ⟨fun i H => ∃ xs ys x y, SqB K b H a xs /\ SqB K c H d ys /\ xs[i]? = some x /\ ys[i]? = some y,
  fun i H x H' => ∃ p u v, x = .ref p /\ H p = none /\ H' = upd H p (.tup [u, v]) /\ (∀ xs, SqB K b H a xs -> xs[i]? = some u) /\ ∀ ys, SqB K c H d ys -> ys[i]? = some v,
  fun i H => ∃ xs ys, SqB K b H a xs /\ SqB K c H d ys /\ (xs[i]? = none \/ ys[i]? = none)⟩
theorem gi {X : Cx} {pins : List (Addr × Obj)} {σ : St} {H : Hp} {s : Shared} {b : Bool} {a : Addr} {xs : List V} (I : Inv X pins σ H s) (hq : SqB X.K b H a xs) : ∃ its : List Value, Vals xs its /\ LsB b s.heap a its.toArray := by
 cases b with
 | true => obtain ⟨its, rv, p, _⟩ := I.list hq; exact ⟨its, rv, p.isList⟩
 | false => obtain ⟨its, rv, p, _⟩ := I.tuple hq; exact ⟨its, rv, p⟩
theorem
    vb {P : Program} {w : World} {K : PySem.W.Frag} {elts : List Expr} {x1 : Nat} {tp : Pos} (b c : Bool) (a d z p q j1 j2 : Addr) (D : ZipApart z p q j1 j2 a d) :
  Turn P w K (.Tuple elts x1 tp) (ItZ K b c a d) [z, p, q, j1, j2] z (fun i h => IsZip h z p q .none /\ IsPair h p (.ref j1) (.ref j2) /\ (∃ u v, IsPair h q u v) /\ ItB b h j1 a i /\ ItB c h j2 d i) where
 mem := by simp
 obj := fun i h st e he => by
  obtain ⟨s1, s2, ⟨u, v, s3⟩, s4, s5⟩ := st
  obtain ⟨o4, k4, l4, _⟩ := iJ s4
  obtain ⟨o5, k5, l5, _⟩ := iJ s5
  simp only [List.mem_cons, List.not_mem_nil, or_false] at he
  rcases he with rfl | rfl | rfl | rfl | rfl
  ·exact ⟨_, s1, fun v y => by cases y⟩
  ·exact ⟨_, s2, fun v y => by cases y⟩
  ·exact ⟨_, s3, fun v y => by cases y⟩
  ·exact ⟨o4, k4, l4⟩
  ·exact ⟨o5, k5, l5⟩
 keep := fun i h h' st k => by
  obtain ⟨s1, s2, ⟨u, v, s3⟩, s4, s5⟩ := st
  exact ⟨k z (by simp) _ s1, k p (by simp) _ s2, ⟨u, v, k q (by simp) _ s3⟩, bw s4 fun o e => k j1 (by simp) o e, bw s5 fun o e => k j2 (by simp) o e⟩
 item :=
     by
  intro X hP hw hK hc i pins s σ H E I hf st hg
  subst hP hw hK
  obtain ⟨xs, ys, x, y, qx, qy, ex, ey⟩ := hg
  obtain ⟨s1, s2, ⟨u, v, s3⟩, s4, s5⟩ := st
  obtain ⟨ix, rx, lx⟩ := gi I qx
  obtain ⟨iy, ry, ly⟩ := gi I qy
  obtain ⟨ux, hux, rux⟩ := rx.get ex
  obtain ⟨uy, huy, ruy⟩ := ry.get ey
  have hTy : s.TypeIs (.ref z) "zip" := ⟨_, s1, rfl⟩
  have zl := Heap.lt_size s1
  have pl := Heap.lt_size s2
  have ql := Heap.lt_size s3
  obtain ⟨o4, k4, _, _⟩ := iJ s4
  obtain ⟨o5, k5, _, _⟩ := iJ s5
  have j1l := Heap.lt_size k4
  have j2l := Heap.lt_size k5
  unfold pyNext
  refine wpAny_bind (wpAny_attempt (wpAny_callSpecial?_slot (name := Str.ofString "__next__") hTy F.slot_zip_next (wpAny_call_entry F.slot_zip_next hTy F.entry_zip_next (zipN D s1 s2 s3 s4 s5 lx ly (by simpa using hux) (by simpa using huy) fun h' y1 y3 y4 y5 yT hk => wpAny_pure ?_) (F.args_zip_next_1 _))))
  refine ⟨_, rfl, wpAny_letOwnedTupleGo_zip (s := { s with heap := h' }) y1 fun h2 z2 sb => ?_⟩
  have sb' : Heap.SameBut z h' h2 := sb
  have hT : H s.heap.objs.size = none := I.hok.fresh (Nat.le_refl _)
  have I1 : Inv X pins σ (upd H s.heap.objs.size (.tup [x, y])) { s with heap := s.heap.push { cls := .type "tuple", data := .seq #[ux, uy] }, toks := s.toks } :=
   I.laid (t' := s.toks) (fun c o q => Heap.get?_push_of_some _ q) (Nat.le_refl _) ⟨by show 2 <= sizeLine; decide, [ux, uy], .cons rux (.cons ruy .nil), ⟨_, Heap.get?_push_size _ rfl, rfl, _, rfl⟩⟩
  have fp' : ∀ e ∈ [z, p, q, j1, j2], FpOk X pins (upd H s.heap.objs.size (.tup [x, y])) e := fun e he => by
   have := hf e he
   simp only [List.mem_cons, List.not_mem_nil, or_false] at he
   rcases he with rfl | rfl | rfl | rfl | rfl
   ·exact this.up (Nat.ne_of_lt zl)
   ·exact this.up (Nat.ne_of_lt pl)
   ·exact this.up (Nat.ne_of_lt ql)
   ·exact this.up (Nat.ne_of_lt j1l)
   ·exact this.up (Nat.ne_of_lt j2l)
  have I2 : Inv X pins σ (upd H s.heap.objs.size (.tup [x, y])) { s with heap := h2, toks := s.toks } :=
   Inv.turnedL (s := { s with heap := s.heap.push { cls := .type "tuple", data := .seq #[ux, uy] }, toks := s.toks }) (ch := [z, p, q, j1, j2]) (t' := s.toks) I1 (fun e o he qe => by
    have c1 : e ≠ z := fun w => he (by simp [w])
    have c2 : e ≠ q := fun w => he (by simp [w])
    have c3 : e ≠ j1 := fun w => he (by simp [w])
    have c4 : e ≠ j2 := fun w => he (by simp [w])
    rw [sb'.2 e c1]
    have q' : (s.heap.push { cls := .type "tuple", data := .seq #[ux, uy] }).get? e = some o := qe
    by_cases w : e = s.heap.objs.size
    ·subst w
     rw [Heap.get?_push_size _ rfl] at q'
     cases q'
     exact yT
    ·rw [Heap.get?_push_ne _ _ _ w] at q'
     exact hk e o c1 c2 c3 c4 q') fp'
  refine ⟨.ref s.heap.objs.size, _, I2, rfl, ⟨_, x, y, rfl, hT, rfl, fun zs hz => by rw [SqB.inj I hz qx]; exact ex, fun zs hz => by rw [SqB.inj I hz qy]; exact ey⟩, ⟨z2, ?_, ⟨ux, uy, ?_⟩, bw y4 fun o e => (sb'.2 j1 D.i1z).trans e, bw y5 fun o e => (sb'.2 j2 D.i2z).trans e⟩, fun e he => (fp' e he).1⟩
  ·exact (sb'.2 p D.TIz).trans (hk p _ D.TIz D.TITO D.TIi1 D.TIi2 s2)
  ·exact (sb'.2 q D.TOz).trans y3
 done := by
  intro X hP hw hK hc i pins s σ H E I hf st hg
  subst hP hw hK
  obtain ⟨xs, ys, qx, qy, en⟩ := hg
  obtain ⟨s1, s2, ⟨u, v, s3⟩, s4, s5⟩ := st
  obtain ⟨ix, rx, lx⟩ := gi I qx
  obtain ⟨iy, ry, ly⟩ := gi I qy
  have hTy : s.TypeIs (.ref z) "zip" := ⟨_, s1, rfl⟩
  have en' : ix.toArray[i]? = none \/ iy.toArray[i]? = none := by
   rcases en with e | e
   ·left; rw [List.getElem?_eq_none_iff] at e; simp; rw [<- rx.length]; exact e
   ·right; rw [List.getElem?_eq_none_iff] at e; simp; rw [<- ry.length]; exact e
  unfold pyNext
  refine wpAny_bind (wpAny_attempt (wpAny_callSpecial?_slot (name := Str.ofString "__next__") hTy F.slot_zip_next (wpAny_call_entry F.slot_zip_next hTy F.entry_zip_next (sT (I.ok.hd hc) D s1 s2 s3 s4 s5 lx ly en' fun h' e hk ⟨o, ho, co⟩ => ?_) (F.args_zip_next_1 _))))
  refine wpAny_bind (wpAny_isInstance (T := "StopIteration") (b := true) ⟨o, ho, co⟩ isSubtype_stop (wpAny_pure ⟨rfl, ?_⟩))
  exact Inv.turnedL (ch := [z, p, q, j1, j2]) (t' := s.toks) I (fun e o he qe => hk e o (fun w => he (by simp [w])) (fun w => he (by simp [w])) (fun w => he (by simp [w])) (fun w => he (by simp [w])) qe) hf
 self := fun _ _ _ _ _ st h => wpAny_pyIter_zip st.1 h
theorem rM : bootBuiltins "zip" = some (.type "zip") := by decide +kernel
theorem
    AL {X : Cx} {l m : Expr} {tl : TA} {elts : List Expr} {x1 : Nat} {tp p pos : Pos} (hg : Gl X "zip") (hm : X.mg "zip" = none) (ha : PA X [l, m] tl) (hs : starEach [l, m] X.env = [(false, eval l X.env), (false, eval m X.env)] := by rfl) (hs2 : starEach [m] X.env = [(false, eval m X.env)] := by rfl) :
  PI X (.Tuple elts x1 tp) (.Call (.Name "zip" p) [l, m] [] pos) (fun σ H R => tl σ H fun vs H1 => ∃ (b c : Bool) (a d : Addr) (xs ys : List V), vs = [.ref a, .ref d] /\ SqB X.K b H1 a xs /\ SqB X.K c H1 d ys /\ R (ItZ X.K b c a d) H1) := by
 intro pins s σ H R I h
 refine Call_ (iF I hg hm rM (PyProof.Rows.callWith_type1 (thn (ha pos pins s σ H _ I h) fun us s1 ⟨vs, H1, I1, r1, q1⟩ => ?_) (by rw [hs, hs2]) (by rw [hs2]; rfl)))
 obtain ⟨b, c, a, d, xs, ys, e, qx, qy, q⟩ := q1
 subst e
 cases r1 with
 |
  cons r rr =>
  cases rr with
  |
   cons r' rr =>
   cases rr
   cases r
   cases r'
   obtain ⟨ix, rx, lx⟩ := gi I1 qx
   obtain ⟨iy, ry, ly⟩ := gi I1 qy
   have la : a < s1.heap.objs.size := by cases b <;> (obtain ⟨o, e, _⟩ := lx; exact Heap.lt_size e)
   have ld : d < s1.heap.objs.size := by cases c <;> (obtain ⟨o, e, _⟩ := ly; exact Heap.lt_size e)
   refine rY lx ly fun h' y1 y2 y3 y4 y5 hk => wpAny_pyIter_zip y1 ⟨s1.heap.objs.size + 4, [s1.heap.objs.size + 4, s1.heap.objs.size + 2, s1.heap.objs.size + 3, s1.heap.objs.size, s1.heap.objs.size + 1], _, _, H1, rfl, I1.kept (t' := s1.toks) fun c o z => hk c o z, vb b c a d _ _ _ _ _ (PySem.W.ktu_apart _ _ _ la ld), ⟨y1, y2, ⟨_, _, y3⟩, y4, y5⟩, fun e he => ?_, q⟩
   have hge : s1.heap.objs.size <= e := by
    simp only [List.mem_cons, List.not_mem_nil, or_false] at he
    rcases he with rfl | rfl | rfl | rfl | rfl
    ·exact Nat.le_add_right _ _
    ·exact Nat.le_add_right _ _
    ·exact Nat.le_add_right _ _
    ·exact Nat.le_refl _
    ·exact Nat.le_add_right _ _
   exact I1.fpOk hge (I1.hok.fresh hge)
end L2
set_option Elab.async false
set_option linter.all false
set_option maxRecDepth 100000
namespace L2
open PySem PySem.Spec PyProof.Rows
inductive D where
 | non | bl (b : Bool) | int (i : Int) | str (x : Str) | ty (n : String) | glb (x : Str) | exc (x : Str) | tup (xs : List D) | ref (n : Nat) | kl (xs : List D)
 deriving Inhabited
inductive Ob where
 | lst (xs : List D) | fz (xs : List D) | set (xs : List Int) | dct (kvs : List (Key × D)) | any
 deriving Inhabited
abbrev AH := List Ob
abbrev AE := List (Option D)
inductive R (α : Type) where
 | ok (a : α) (h : AH) | exc (c : Str) (h : AH) | stuck
inductive SR where
 | nx (ae : AE) (h : AH) | rt (d : D) (h : AH) | bk (ae : AE) (h : AH) | ct (ae : AE) (h : AH) | exc (c : Str) (ae : AE) (h : AH) | stuck
abbrev ME := AE -> AH -> R D
abbrev MT := AE -> AH -> R Bool
abbrev MA := AE -> AH -> R (List D)
abbrev MS := AE -> AH -> SR
abbrev Fn := List D -> AH -> R D
noncomputable def R.bind {α β : Type} (r : R α) (f : α -> AH -> R β) : R β := match r with
 | .ok a h => f a h
 | .exc c h => .exc c h
 | .stuck => .stuck
section
variable (K : PySem.W.Frag) (mg : Str -> Option Value)
mutual
inductive RelD (ρ : List Addr) (H : Hp) : D -> V -> Prop where
 | non : RelD ρ H .non .non
 | bl (b : Bool) : RelD ρ H (.bl b) (.bl b)
 | int (i : Int) : RelD ρ H (.int i) (.int i)
 | str (x : Str) : RelD ρ H (.str x) (.str x)
 | ty (n : String) : RelD ρ H (.ty n) (.ty n)
 | glb {x : Str} {a : Addr} (m : mg x = some (.ref a)) : RelD ρ H (.glb x) (.ref a)
 | exc {x : Str} {a C : Addr} (m : mg x = some (.ref C)) (e : H a = some (.ext (uR a C))) : RelD ρ H (.exc x) (.ref a)
 | tup {p : Addr} {vs : List V} {ds : List D} (h : SqT K H p vs) (r : RelDs ρ H ds vs) : RelD ρ H (.tup ds) (.ref p)
 | ref {n : Nat} {a : Addr} (e : ρ[n]? = some a) : RelD ρ H (.ref n) (.ref a)
 | kl {a : Addr} {vs : List V} {ds : List D} (h : ∃ (o : Obj) (its : Array Value) (n : Nat), K.lookup a = some o /\ o.cls = .type "list" /\ o.dict = none /\ o.data = .seq its n /\ its.size <= sizeLine /\ Vals vs its.toList) (r : RelDs ρ H ds vs) : RelD ρ H (.kl ds) (.ref a)
inductive RelDs (ρ : List Addr) (H : Hp) : List D -> List V -> Prop where
 | nil : RelDs ρ H [] []
 | cons {d : D} {v : V} {ds : List D} {vs : List V} (r : RelD ρ H d v) (rr : RelDs ρ H ds vs) : RelDs ρ H (d :: ds) (v :: vs)
end
structure Le (ρ : List Addr) (H : Hp) (ρ' : List Addr) (H' : Hp) : Prop where
 pre : ∀ (n : Nat) (a : Addr), ρ[n]? = some a -> ρ'[n]? = some a
 tup : ∀ b xs, H b = some (.tup xs) -> H' b = some (.tup xs)
 frz : ∀ b o u, H b = some (.frz o u) -> H' b = some (.frz o u)
 ext : ∀ b φ, H b = some (.ext φ) -> H' b = some (.ext φ)
noncomputable def ObR (ρ : List Addr) (H : Hp) (a : Addr) : Ob -> Prop
 | .lst ds => ∃ vs, H a = some (.lst vs) /\ RelDs K mg ρ H ds vs
 | .fz ds => ∃ o vs, H a = some (.frz o (.lst vs)) /\ RelDs K mg ρ H ds vs
 | .set xs => xs.Nodup /\ H a = some (.set (fun i => decide (i ∈ xs)) xs.length)
 | .dct kvs => ∃ ws, H a = some (.dK ws) /\ ws.map (·.1) = kvs.map (·.1) /\ RelDs K mg ρ H (kvs.map (·.2)) (ws.map (·.2))
 | .any => ∃ o, H a = some o
structure Wd (ρ : List Addr) (h : AH) (H : Hp) : Prop where
 len : ρ.length = h.length
 nd : ρ.Nodup
 ob : ∀ (n : Nat) (a : Addr) (o : Ob), ρ[n]? = some a -> h[n]? = some o -> ObR K mg ρ H a o
structure RelE (ρ : List Addr) (H : Hp) (ae : AE) (σ : St) : Prop where
 len : ae.length = σ.length
 at_ : ∀ (i : Nat) (d : D), ae[i]? = some (some d) -> ∃ v, σ[i]? = some (some v) /\ RelD K mg ρ H d v
noncomputable def PostG {α : Type} (ρ : List Addr) (H : Hp) (E : XK) (k : α -> AH -> List Addr -> Hp -> Prop) : R α -> Prop
 | .ok a h => ∀ ρ' H', Le ρ H ρ' H' -> Wd K mg ρ' h H' -> k a h ρ' H'
 | .exc c h => ∀ ρ' H' C, Le ρ H ρ' H' -> Wd K mg ρ' h H' -> mg c = some (.ref C) -> E (.ref C) none H'
 | .stuck => False
abbrev cZ (ρ : List Addr) (H : Hp) (Q : VK) (E : XK) (r : R D) : Prop := PostG K mg ρ H E (fun d _ ρ' H' => ∀ v, RelD K mg ρ' H' d v -> Q v H') r
abbrev vO (ρ : List Addr) (H : Hp) (Q : Bool -> Hp -> Prop) (E : XK) (r : R Bool) : Prop := PostG K mg ρ H E (fun b _ ρ' H' => Q b H') r
abbrev vI (ρ : List Addr) (H : Hp) (Q : List V -> Hp -> Prop) (E : XK) (r : R (List D)) : Prop := PostG K mg ρ H E (fun d _ ρ' H' => ∀ vs, RelDs K mg ρ' H' d vs -> Q vs H') r
noncomputable def PostS (ρ : List Addr) (H : Hp) (D : Ends) (ES : St -> XK) : SR -> Prop
 | .nx ae h => ∀ ρ' H' σ', Le ρ H ρ' H' -> Wd K mg ρ' h H' -> RelE K mg ρ' H' ae σ' -> D.nx σ' H'
 | .bk ae h => ∀ ρ' H' σ', Le ρ H ρ' H' -> Wd K mg ρ' h H' -> RelE K mg ρ' H' ae σ' -> D.bk σ' H'
 | .ct ae h => ∀ ρ' H' σ', Le ρ H ρ' H' -> Wd K mg ρ' h H' -> RelE K mg ρ' H' ae σ' -> D.ct σ' H'
 | .rt d h => ∀ ρ' H' v, Le ρ H ρ' H' -> Wd K mg ρ' h H' -> RelD K mg ρ' H' d v -> D.rt v H'
 | .exc c ae h => ∀ ρ' H' σ' C, Le ρ H ρ' H' -> Wd K mg ρ' h H' -> RelE K mg ρ' H' ae σ' -> mg c = some (.ref C) -> ES σ' (.ref C) none H'
 | .stuck => False
noncomputable def rdE (ES : St -> XK) (F : ME) : TE := fun σ H Q => ∃ ρ h ae, Wd K mg ρ h H /\ RelE K mg ρ H ae σ /\ cZ K mg ρ H Q (ES σ) (F ae h)
noncomputable def rdT (ES : St -> XK) (F : MT) : TT := fun σ H Q => ∃ ρ h ae, Wd K mg ρ h H /\ RelE K mg ρ H ae σ /\ vO K mg ρ H Q (ES σ) (F ae h)
noncomputable def rdA (ES : St -> XK) (F : MA) : TA := fun σ H Q => ∃ ρ h ae, Wd K mg ρ h H /\ RelE K mg ρ H ae σ /\ vI K mg ρ H Q (ES σ) (F ae h)
noncomputable def rdS (ES : St -> XK) (F : MS) : TS := fun D σ H => ∃ ρ h ae, Wd K mg ρ h H /\ RelE K mg ρ H ae σ /\ PostS K mg ρ H D ES (F ae h)
noncomputable def spD (n : Nat) (S : Fn) : Sp := fun vs H Q E => ∃ ρ h ds, Wd K mg ρ h H /\ RelDs K mg ρ H ds vs /\ ds.length = n /\ cZ K mg ρ H Q E (S ds h)
end
theorem rdE.el {K : PySem.W.Frag} {mg : Str -> Option Value} {ES : St -> XK} {F : ME} {σ : St} {H : Hp} {Q : VK} {C : Prop} (q : rdE K mg ES F σ H Q) (k : ∀ ρ h ae, Wd K mg ρ h H -> RelE K mg ρ H ae σ -> cZ K mg ρ H Q (ES σ) (F ae h) -> C) : C := by
 obtain ⟨ρ, h, ae, w, re, p⟩ := q
 exact k ρ h ae w re p
theorem rdT.el {K : PySem.W.Frag} {mg : Str -> Option Value} {ES : St -> XK} {F : MT} {σ : St} {H : Hp} {Q : Bool -> Hp -> Prop} {C : Prop} (q : rdT K mg ES F σ H Q) (k : ∀ ρ h ae, Wd K mg ρ h H -> RelE K mg ρ H ae σ -> vO K mg ρ H Q (ES σ) (F ae h) -> C) : C := by
 obtain ⟨ρ, h, ae, w, re, p⟩ := q
 exact k ρ h ae w re p
theorem rdA.el {K : PySem.W.Frag} {mg : Str -> Option Value} {ES : St -> XK} {F : MA} {σ : St} {H : Hp} {Q : List V -> Hp -> Prop} {C : Prop} (q : rdA K mg ES F σ H Q) (k : ∀ ρ h ae, Wd K mg ρ h H -> RelE K mg ρ H ae σ -> vI K mg ρ H Q (ES σ) (F ae h) -> C) : C := by
 obtain ⟨ρ, h, ae, w, re, p⟩ := q
 exact k ρ h ae w re p
theorem rdS.el {K : PySem.W.Frag} {mg : Str -> Option Value} {ES : St -> XK} {F : MS} {σ : St} {H : Hp} {De : Ends} {C : Prop} (q : rdS K mg ES F De σ H) (k : ∀ ρ h ae, Wd K mg ρ h H -> RelE K mg ρ H ae σ -> PostS K mg ρ H De ES (F ae h) -> C) : C := by
 obtain ⟨ρ, h, ae, w, re, p⟩ := q
 exact k ρ h ae w re p
section
variable {K : PySem.W.Frag} {mg : Str -> Option Value} {ρ ρ' ρ1 : List Addr} {H H' H1 : Hp} {h h' : AH} {ae : AE} {σ : St}
theorem Le.refl : Le ρ H ρ H := ⟨fun _ _ e => e, fun _ _ e => e, fun _ _ _ e => e, fun _ _ e => e⟩
theorem Le.trans (a : Le ρ H ρ1 H1) (b : Le ρ1 H1 ρ' H') : Le ρ H ρ' H' :=
 ⟨fun n x e => b.pre n x (a.pre n x e), fun x y e => b.tup x y (a.tup x y e), fun x y z e => b.frz x y z (a.frz x y z e), fun x y e => b.ext x y (a.ext x y e)⟩
theorem Le.sqT {a : Addr} {xs : List V} (l : Le ρ H ρ' H') (q : SqT K H a xs) : SqT K H' a xs := by
 rcases q with (q | ⟨o, q⟩) | q
 ·exact .inl (.inl (l.tup _ _ q))
 ·exact .inl (.inr ⟨o, l.frz _ _ _ q⟩)
 ·exact .inr q
theorem RelD.mono (l : Le ρ H ρ' H') {d : D} {v : V} (r : RelD K mg ρ H d v) : RelD K mg ρ' H' d v :=
 RelD.rec (motive_1 := fun d v _ => RelD K mg ρ' H' d v) (motive_2 := fun ds vs _ => RelDs K mg ρ' H' ds vs) .non (fun b => .bl b) (fun i => .int i) (fun x => .str x) (fun n => .ty n) (fun m => .glb m) (fun m e => .exc m (l.ext _ _ e)) (fun h _ ih => .tup (l.sqT h) ih) (fun e => .ref (l.pre _ _ e)) (fun h _ ih => .kl h ih) .nil (fun _ _ a b => .cons a b) r
theorem RelDs.ind {M : List D -> List V -> Prop} (h0 : M [] []) (h1 : ∀ {d v ds vs}, RelD K mg ρ H d v -> RelDs K mg ρ H ds vs -> M ds vs -> M (d :: ds) (v :: vs)) {ds : List D} {vs : List V} (r : RelDs K mg ρ H ds vs) : M ds vs := by
 induction ds generalizing vs with
 | nil => cases r; exact h0
 |
  cons d ds ih =>
  cases r with
  | cons r rr => exact h1 r rr (ih rr)
theorem RelDs.mono (l : Le ρ H ρ' H') {ds : List D} {vs : List V} (r : RelDs K mg ρ H ds vs) : RelDs K mg ρ' H' ds vs := r.ind .nil fun r _ ih => .cons (r.mono l) ih
theorem RelDs.len {ds : List D} {vs : List V} (r : RelDs K mg ρ H ds vs) : ds.length = vs.length := r.ind (M := fun ds vs => ds.length = vs.length) rfl fun _ _ ih => congrArg (· + 1) ih
theorem RelDs.getD {ds : List D} {vs : List V} {i : Nat} {d : D} (r : RelDs K mg ρ H ds vs) (e : ds[i]? = some d) : ∃ v, vs[i]? = some v /\ RelD K mg ρ H d v :=
 r.ind (M := fun ds vs => ∀ i, ds[i]? = some d -> ∃ v, vs[i]? = some v /\ RelD K mg ρ H d v) (fun _ e => by rw [List.getElem?_nil] at e; cases e) (fun r _ ih i e => match i, e with
  | 0, e => by cases e; exact ⟨_, rfl, r⟩
  | i + 1, e => ih i e) i e
theorem RelDs.append {ds es : List D} {vs ws : List V} (r : RelDs K mg ρ H ds vs) (q : RelDs K mg ρ H es ws) : RelDs K mg ρ H (ds ++ es) (vs ++ ws) := r.ind (M := fun ds vs => RelDs K mg ρ H (ds ++ es) (vs ++ ws)) q fun r _ ih => .cons r ih
theorem RelDs.take {ds : List D} {vs : List V} (n : Nat) (r : RelDs K mg ρ H ds vs) : RelDs K mg ρ H (ds.take n) (vs.take n) :=
 r.ind (M := fun ds vs => ∀ n : Nat, RelDs K mg ρ H (ds.take n) (vs.take n)) (fun n => by rw [List.take_nil, List.take_nil]; exact .nil) (fun r _ ih n => by cases n with | zero => exact .nil | succ n => exact .cons r (ih n)) n
theorem RelDs.drop {ds : List D} {vs : List V} (n : Nat) (r : RelDs K mg ρ H ds vs) : RelDs K mg ρ H (ds.drop n) (vs.drop n) :=
 r.ind (M := fun ds vs => ∀ n : Nat, RelDs K mg ρ H (ds.drop n) (vs.drop n)) (fun n => by rw [List.drop_nil, List.drop_nil]; exact .nil) (fun r rr ih n => by cases n with | zero => exact .cons r rr | succ n => exact ih n) n
theorem RelDs.set {d : D} {v : V} (r : RelD K mg ρ H d v) {ds : List D} {vs : List V} (i : Nat) (q : RelDs K mg ρ H ds vs) : RelDs K mg ρ H (ds.set i d) (vs.set i v) :=
 q.ind (M := fun ds vs => ∀ i : Nat, RelDs K mg ρ H (ds.set i d) (vs.set i v)) (fun _ => .nil) (fun q qq ih i => by cases i with | zero => exact .cons r qq | succ i => exact .cons q (ih i)) i
theorem RelDs.bls : ∀ {ns : List Bool} {vs : List V}, RelDs K mg ρ H (ns.map D.bl) vs -> vs = ns.map V.bl := by
 intro ns
 induction ns with
 | nil => intro vs r; cases r; rfl
 |
  cons n ns ih =>
  intro vs r
  cases r with
  | cons r rr => cases r; rw [ih rr]; rfl
theorem RelE.mono (l : Le ρ H ρ' H') (r : RelE K mg ρ H ae σ) : RelE K mg ρ' H' ae σ := ⟨r.len, fun i d e => by
 obtain ⟨v, h1, h2⟩ := r.at_ i d e
 exact ⟨v, h1, h2.mono l⟩⟩
theorem RelE.set {d : D} {v : V} (i : Nat) (r : RelE K mg ρ H ae σ) (q : RelD K mg ρ H d v) : RelE K mg ρ H (ae.set i (some d)) (σ.set i (some v)) := ⟨by rw [List.length_set, List.length_set]; exact r.len, fun j d' e => by
 rw [List.getElem?_set] at e ⊢
 by_cases hij : i = j
 ·rw [if_pos hij] at e ⊢
  by_cases hi : i < ae.length
  ·rw [if_pos hi] at e
   cases e
   rw [if_pos (by rw [<- r.len]; exact hi)]
   exact ⟨v, rfl, q⟩
  ·rw [if_neg hi] at e; cases e
 ·rw [if_neg hij] at e ⊢
  exact r.at_ j d' e⟩
theorem ObR.mono {a : Addr} {o : Ob} (l : Le ρ H ρ' H') (e : H' a = H a) (q : ObR K mg ρ H a o) : ObR K mg ρ' H' a o := by
 cases o with
 | lst ds => obtain ⟨vs, h1, h2⟩ := q; exact ⟨vs, e.trans h1, h2.mono l⟩
 | fz ds => obtain ⟨o, vs, h1, h2⟩ := q; exact ⟨o, vs, e.trans h1, h2.mono l⟩
 | set xs => exact ⟨q.1, e.trans q.2⟩
 | dct kvs => obtain ⟨ws, h1, h2, h3⟩ := q; exact ⟨ws, e.trans h1, h2, h3.mono l⟩
 | any => obtain ⟨o, h1⟩ := q; exact ⟨o, e.trans h1⟩
theorem ObR.there {a : Addr} {o : Ob} (q : ObR K mg ρ H a o) : ∃ u, H a = some u := by
 cases o with
 | lst ds => obtain ⟨vs, h1, _⟩ := q; exact ⟨_, h1⟩
 | fz ds => obtain ⟨o, vs, h1, _⟩ := q; exact ⟨_, h1⟩
 | set xs => exact ⟨_, q.2⟩
 | dct kvs => obtain ⟨ws, h1, _⟩ := q; exact ⟨_, h1⟩
 | any => exact q
theorem Wd.fresh (w : Wd K mg ρ h H) {p : Addr} (hp : H p = none) : p ∉ ρ := fun hm => by
 obtain ⟨n, hn⟩ := List.getElem?_of_mem hm
 have hl : n < h.length := by rw [<- w.len]; exact (List.getElem?_eq_some_iff.mp hn).1
 obtain ⟨u, hu⟩ := (w.ob n p h[n] hn (List.getElem?_eq_getElem hl)).there
 rw [hp] at hu; cases hu
theorem cT {p : Addr} {o : HO} (hp : H p = none) : Le ρ H ρ (upd H p o) :=
 ⟨fun _ _ e => e, fun b xs e => by rw [aC (bB e hp)]; exact e, fun b xs u e => by rw [aC (bB e hp)]; exact e, fun b xs e => by rw [aC (bB e hp)]; exact e⟩
theorem kx {m : List Addr} : Le ρ H (ρ ++ m) H :=
 ⟨fun n a e => by rw [List.getElem?_append_left (List.getElem?_eq_some_iff.mp e).1]; exact e, fun _ _ e => e, fun _ _ _ e => e, fun _ _ e => e⟩
theorem
    Wd.alloc {p : Addr} {u : HO} {o : Ob} (w : Wd K mg ρ h H) (hp : H p = none) (hn : ObR K mg (ρ ++ [p]) (upd H p u) p o) : Wd K mg (ρ ++ [p]) (h ++ [o]) (upd H p u) := by
 refine ⟨by rw [List.length_append, List.length_append, w.len]; rfl, ?_, fun n a ob e1 e2 => ?_⟩
 ·rw [List.nodup_append]
  exact ⟨w.nd, by simp, fun a ha b hb => by rw [List.mem_singleton] at hb; subst hb; intro z; subst z; exact w.fresh hp ha⟩
 ·by_cases hl : n < ρ.length
  ·rw [List.getElem?_append_left hl] at e1
   rw [List.getElem?_append_left (by rw [<- w.len]; exact hl)] at e2
   have q := w.ob n a ob e1 e2
   obtain ⟨v, hv⟩ := q.there
   exact q.mono ((cT hp).trans kx) (aC (bB hv hp))
  ·have h1 : n = ρ.length := by
    have := (List.getElem?_eq_some_iff.mp e1).1
    rw [List.length_append] at this
    simp at this
    omega
   subst h1
   rw [List.getElem?_append_right (Nat.le_refl _), Nat.sub_self] at e1
   rw [w.len, List.getElem?_append_right (Nat.le_refl _), Nat.sub_self] at e2
   simp at e1 e2
   subst e1 e2
   exact hn
theorem Wd.tuple {p : Addr} {u : HO} (w : Wd K mg ρ h H) (hp : H p = none) : Wd K mg ρ h (upd H p u) :=
 ⟨w.len, w.nd, fun n a ob e1 e2 => by
  have q := w.ob n a ob e1 e2
  obtain ⟨v, hv⟩ := q.there
  exact q.mono (cT hp) (aC (bB hv hp))⟩
theorem iZ {a : Addr} {o u : HO} (e : H a = some u) (hu : (∀ xs, u ≠ .tup xs) /\ (∀ x y, u ≠ .frz x y) /\ ∀ φ, u ≠ .ext φ) : Le ρ H ρ (upd H a o) := by
 refine ⟨fun _ _ e => e, fun b xs q => ?_, fun b x y q => ?_, fun b φ q => ?_⟩ <;> rw [aC] <;> (try exact q) <;> (intro z; subst z; rw [e] at q; have := Option.some.inj q; first | exact hu.1 _ this | exact hu.2.1 _ _ this | exact hu.2.2 _ this)
theorem Wd.write {n : Nat} {a : Addr} {o u : HO} {ob : Ob} (w : Wd K mg ρ h H) (ea : ρ[n]? = some a) (e : H a = some u) (hu : (∀ xs, u ≠ .tup xs) /\ (∀ x y, u ≠ .frz x y) /\ ∀ φ, u ≠ .ext φ)
  (hn : ObR K mg ρ (upd H a o) a ob) : Wd K mg ρ (h.set n ob) (upd H a o) := by
 refine ⟨by rw [List.length_set]; exact w.len, w.nd, fun m b ob' e1 e2 => ?_⟩
 rw [List.getElem?_set] at e2
 by_cases hm : n = m
 ·subst hm
  rw [ea] at e1; cases e1
  rw [if_pos rfl] at e2
  split at e2
  ·cases e2; exact hn
  ·cases e2
 ·rw [if_neg hm] at e2
  have q := w.ob m b ob' e1 e2
  refine q.mono (iZ e hu) (aC fun z => hm ?_)
  subst z
  have h1 := (List.getElem?_eq_some_iff.mp e1)
  have h2 := (List.getElem?_eq_some_iff.mp ea)
  exact (List.getElem_inj (h₀ := h2.1) (h₁ := h1.1) w.nd).mp (h2.2.trans h1.2.symm)
theorem iG {vs : List V} : (∀ xs, HO.lst vs ≠ .tup xs) /\ (∀ x y, HO.lst vs ≠ .frz x y) /\ ∀ φ, HO.lst vs ≠ .ext φ := ⟨fun _ z => (nomatch z), fun _ _ z => (nomatch z), fun _ z => (nomatch z)⟩
theorem pw {ws : List (Key × V)} : (∀ xs, HO.dK ws ≠ .tup xs) /\ (∀ x y, HO.dK ws ≠ .frz x y) /\ ∀ φ, HO.dK ws ≠ .ext φ := ⟨fun _ z => (nomatch z), fun _ _ z => (nomatch z), fun _ z => (nomatch z)⟩
theorem PostG.mono {α : Type} {E : XK} {k : α -> AH -> List Addr -> Hp -> Prop} {r : R α} (l : Le ρ H ρ' H') (p : PostG K mg ρ H E k r) : PostG K mg ρ' H' E k r := by
 cases r with
 | ok d h => exact fun ρ2 H2 l2 => p ρ2 H2 (l.trans l2)
 | exc c h => exact fun ρ2 H2 C l2 => p ρ2 H2 C (l.trans l2)
 | stuck => exact p
theorem PostG.imp {α : Type} {E : XK} {k k' : α -> AH -> List Addr -> Hp -> Prop} {r : R α} (p : PostG K mg ρ H E k r) (i : ∀ a h1 ρ' H', Le ρ H ρ' H' -> Wd K mg ρ' h1 H' -> k a h1 ρ' H' -> k' a h1 ρ' H') : PostG K mg ρ H E k' r := by
 cases r with
 | ok d h => exact fun ρ2 H2 l2 w2 => i _ _ _ _ l2 w2 (p ρ2 H2 l2 w2)
 | exc c h => exact p
 | stuck => exact p
theorem PostG.bind {α β : Type} {E : XK} {k : β -> AH -> List Addr -> Hp -> Prop} {r : R α} {f : α -> AH -> R β} (p : PostG K mg ρ H E k (r.bind f)) : PostG K mg ρ H E (fun a h1 ρ' H' => PostG K mg ρ' H' E k (f a h1)) r := by
 cases r with
 | ok d h => exact fun ρ2 H2 l2 w2 => PostG.mono l2 p
 | exc c h => exact p
 | stuck => exact p
theorem PostS.mono {De : Ends} {ES : St -> XK} {r : SR} (l : Le ρ H ρ' H') (p : PostS K mg ρ H De ES r) : PostS K mg ρ' H' De ES r := by
 cases r with
 | nx ae h => exact fun ρ2 H2 σ l2 => p ρ2 H2 σ (l.trans l2)
 | bk ae h => exact fun ρ2 H2 σ l2 => p ρ2 H2 σ (l.trans l2)
 | ct ae h => exact fun ρ2 H2 σ l2 => p ρ2 H2 σ (l.trans l2)
 | rt d h => exact fun ρ2 H2 v l2 => p ρ2 H2 v (l.trans l2)
 | exc c ae h => exact fun ρ2 H2 σ C l2 => p ρ2 H2 σ C (l.trans l2)
 | stuck => exact p
end
end L2
set_option Elab.async false
set_option linter.all false
set_option maxRecDepth 100000
namespace L2
open PySem PySem.Spec PyProof.Rows
section
variable {X : Cx} {e : Expr} {es : List Expr} {st : Stmt} {sts : List Stmt}
theorem PE.imp {t t' : TE} (h : PE X e t) (k : ∀ σ H Q, t' σ H Q -> t σ H Q) : PE X e t' := fun pins s σ H Q I w => h pins s σ H Q I (k σ H Q w)
theorem PT.imp {t t' : TT} (h : PT X e t) (k : ∀ σ H Q, t' σ H Q -> t σ H Q) : PT X e t' := fun pins s σ H Q I w => h pins s σ H Q I (k σ H Q w)
theorem PW.imp {t t' : TT} (h : PW X e t) (k : ∀ σ H Q, t' σ H Q -> t σ H Q) : PW X e t' := fun wh pins s σ H Q I w => h wh pins s σ H Q I (k σ H Q w)
theorem PA.imp {t t' : TA} (h : PA X es t) (k : ∀ σ H Q, t' σ H Q -> t σ H Q) : PA X es t' := fun pos pins s σ H Q I w => h pos pins s σ H Q I (k σ H Q w)
theorem PS.imp {t t' : TS} (h : PS X st t) (k : ∀ D σ H, t' D σ H -> t D σ H) : PS X st t' := fun pins s σ H D I w => h pins s σ H D I (k D σ H w)
theorem PSs.imp {t t' : TS} (h : PSs X sts t) (k : ∀ D σ H, t' D σ H -> t D σ H) : PSs X sts t' := fun pins s σ H D I w => h pins s σ H D I (k D σ H w)
theorem PG.imp {t t' : TG} (h : PG X e t) (k : ∀ v σ H Q, t' v σ H Q -> t v σ H Q) : PG X e t' := fun pins s σ H v u Q I r w => h pins s σ H v u Q I r (k v σ H Q w)
theorem PGs.imp {t t' : TGs} (h : PGs X es t) (k : ∀ v σ H Q, t' v σ H Q -> t v σ H Q) : PGs X es t' := fun pins s σ H v u Q I r w => h pins s σ H v u Q I r (k v σ H Q w)
theorem PO.imp {o : Option Expr} {t t' : TO} (h : PO X o t) (k : ∀ σ H Q, t' σ H Q -> t σ H Q) : PO X o t' := fun pins s σ H Q I w => h pins s σ H Q I (k σ H Q w)
end
section
variable (K : PySem.W.Frag) (mg : Str -> Option Value) (X : Cx) (ES : St -> XK)
noncomputable def DE (e : Expr) (F : ME) : Prop := PE X e (rdE K mg ES F)
noncomputable def DT (e : Expr) (F : MT) : Prop := PT X e (rdT K mg ES F)
noncomputable def DW (e : Expr) (F : MT) : Prop := PW X e (rdT K mg ES F)
noncomputable def DA (es : List Expr) (F : MA) : Prop := PA X es (rdA K mg ES F)
noncomputable def DS (st : Stmt) (F : MS) : Prop := PS X st (rdS K mg ES F)
noncomputable def DSs (st : List Stmt) (F : MS) : Prop := PSs X st (rdS K mg ES F)
end
noncomputable def OpD (K : PySem.W.Frag) (mg : Str -> Option Value) (r : R2) (g : D -> D -> AH -> R D) : Prop := ∀ ρ h H dx dy x y Q E, Wd K mg ρ h H -> RelD K mg ρ H dx x -> RelD K mg ρ H dy y -> cZ K mg ρ H Q E (g dx dy h) -> r x y H Q
noncomputable def UnD (K : PySem.W.Frag) (mg : Str -> Option Value) (r : V -> Hp -> VK -> Prop) (g : D -> AH -> R D) : Prop := ∀ ρ h H dx x Q E, Wd K mg ρ h H -> RelD K mg ρ H dx x -> cZ K mg ρ H Q E (g dx h) -> r x H Q
noncomputable def cw (K : PySem.W.Frag) (mg : Str -> Option Value) (r : List V -> Hp -> VK -> Prop) (g : Fn) : Prop := ∀ ρ h H ds vs Q E, Wd K mg ρ h H -> RelDs K mg ρ H ds vs -> cZ K mg ρ H Q E (g ds h) -> r vs H Q
noncomputable def cS (i : Nat) : ME := fun ae h => match ae[i]? with
 | some (some d) => .ok d h
 | _ => .stuck
noncomputable def eC (d : D) : ME := fun _ h => .ok d h
noncomputable def eOp (g : D -> D -> AH -> R D) (F G : ME) : ME := fun ae h => (F ae h).bind fun x h1 => (G ae h1).bind fun y h2 => g x y h2
noncomputable def eUn (g : D -> AH -> R D) (F : ME) : ME := fun ae h => (F ae h).bind g
noncomputable def p8 : MA := fun _ h => .ok [] h
noncomputable def lV (F : ME) (G : MA) : MA := fun ae h => (F ae h).bind fun x h1 => (G ae h1).bind fun xs h2 => .ok (x :: xs) h2
noncomputable def eFn (g : Fn) (A : MA) : ME := fun ae h => (A ae h).bind g
noncomputable def j6 (ds : List D) (h : AH) : R D := if ds.length <= 16777216 then .ok (.tup ds) h else .stuck
noncomputable def cQ (ds : List D) (h : AH) : R D := if ds.length <= 16777216 then .ok (.ref h.length) (h ++ [.lst ds]) else .stuck
noncomputable def asB (d : D) (h : AH) : R Bool := match d with
 | .bl b => .ok b h
 | _ => .stuck
noncomputable def sV (F G : ME) : ME := fun ae h => (F ae h).bind fun x h1 => (asB x h1).bind fun b h2 => if b = true then G ae h2 else .ok (.bl false) h2
noncomputable def eOr (F G : ME) : ME := fun ae h => (F ae h).bind fun x h1 => (asB x h1).bind fun b h2 => if b = true then .ok (.bl true) h2 else G ae h2
noncomputable def vc (F : ME) : ME := fun ae h => (F ae h).bind fun x h1 => (asB x h1).bind fun b h2 => .ok (.bl (!b)) h2
noncomputable def tOf (F : ME) : MT := fun ae h => (F ae h).bind asB
noncomputable def tAn (c d : MT) : MT := fun ae h => (c ae h).bind fun b h1 => if b = true then d ae h1 else .ok false h1
noncomputable def tO (c d : MT) : MT := fun ae h => (c ae h).bind fun b h1 => if b = true then .ok true h1 else d ae h1
noncomputable def tNo (c : MT) : MT := fun ae h => (c ae h).bind fun b h1 => .ok (!b) h1
section
variable {K : PySem.W.Frag} {mg : Str -> Option Value} {ρ : List Addr} {H : Hp} {h : AH}
theorem dN {Q : VK} {E : XK} {ds : List D} {vs : List V} {p : Addr} (w : Wd K mg ρ h H) (rs : RelDs K mg ρ H ds vs) (hp : H p = none) (q : cZ K mg ρ H Q E (.ok (.ref h.length) (h ++ [.lst ds]))) : Q (.ref p) (upd H p (.lst vs)) := by
 have l : Le ρ H (ρ ++ [p]) (upd H p (.lst vs)) := (cT hp).trans kx
 refine q (ρ ++ [p]) _ l (w.alloc hp ⟨vs, bz, rs.mono l⟩) _ (.ref ?_)
 rw [<- w.len, List.getElem?_append_right (Nat.le_refl _), Nat.sub_self]
 rfl
theorem jo {Q : VK} {E : XK} {ds : List D} {vs : List V} {p : Addr} (w : Wd K mg ρ h H) (rs : RelDs K mg ρ H ds vs) (hp : H p = none) (q : cZ K mg ρ H Q E (.ok (.tup ds) h)) : Q (.ref p) (upd H p (.tup vs)) :=
 q ρ _ (cT hp) (w.tuple hp) _ (.tup (SqT.of bz) (rs.mono (cT hp)))
theorem aR {Q : VK} {E : XK} {d : D} {v : V} (w : Wd K mg ρ h H) (r : RelD K mg ρ H d v) (q : cZ K mg ρ H Q E (.ok d h)) : Q v H := q ρ H Le.refl w v r
end
section
variable {K : PySem.W.Frag} {mg : Str -> Option Value} {X : Cx} {ES : St -> XK} {e a b c : Expr} {es : List Expr} {F G : ME} {A : MA} {cf cg : MT} {pos : Pos}
theorem yh (i : Nat) {x : Str} (hN : X.N[i]? = some x := by rfl) (hv : Vis X.env.scope x := by first | exact Or.inl rfl | exact Or.inr (Or.inl rfl) | exact Or.inr (Or.inr rfl)) (hd : (x == ("__debug__" : Str)) = false := by decide)
  (hcd : (x == ("__classdict__" : Str)) = false := by decide) : DE K mg X ES (.Name x pos) (cS i) := PE.imp (Ar hN hv hd hcd) fun σ H Q q_ => q_.el fun ρ h ae w re p => by
 unfold cS at p
 split at p
 ·rename_i d ed
  obtain ⟨v, e1, r⟩ := re.at_ i d ed
  exact ⟨v, e1, aR w r p⟩
 ·exact p.elim
theorem qr {v : V} {d : D} (hp : PE X e (tC v)) (r : ∀ ρ H, RelD K mg ρ H d v) : DE K mg X ES e (eC d) := PE.imp hp fun σ H Q q_ => q_.el fun ρ h ae w re p => aR w (r ρ H) p
theorem Bg {i : Int} {j : Nat} : DE K mg X ES (.Constant (.int i) j pos) (eC (.int i)) := qr Al fun _ _ => .int i
theorem C2 {i : Bool} {j : Nat} : DE K mg X ES (.Constant (.bool i) j pos) (eC (.bl i)) := qr Dv fun _ _ => .bl i
theorem yN {x : Str} {j : Nat} : DE K mg X ES (.Constant (.str x) j pos) (eC (.str x)) := qr sf fun _ _ => .str x
structure GC (K : PySem.W.Frag) (mg : Str -> Option Value) (x : Str) (d : D) : Prop where
 ex : ∃ u v, mg x = some u /\ RelV v u /\ ∀ ρ H, RelD K mg ρ H d v
theorem DB {x : Str} {n : String} (hg : Gl X x) (hm : mg x = none) (hv : bootBuiltins x = some (.type n)) (he : X.mg = mg := by rfl) (hn : x ≠ "__name__" := by decide) (hd : (x == ("__debug__" : Str)) = false := by decide) : DE K mg X ES (.Name x pos) (eC (.ty n)) := by
 subst he
 exact qr (wG hg hm hv (v := .ty n) rfl hn hd) fun _ _ => .ty n
theorem l9 {r : R2} {g : D -> D -> AH -> R D} (hd : OpD K mg r g) (σ : St) (H : Hp) (Q : VK) (q : rdE K mg ES (eOp g F G) σ H Q) : tOp r (rdE K mg ES F) (rdE K mg ES G) σ H Q := by
 obtain ⟨ρ, h, ae, w, re, p⟩ := q
 exact ⟨ρ, h, ae, w, re, p.bind.imp fun dx h1 ρ1 H1 l1 w1 p1 x rx => ⟨ρ1, h1, ae, w1, re.mono l1, p1.bind.imp fun dy h2 ρ2 H2 l2 w2 p2 y ry => hd ρ2 h2 H2 dx dy x y Q _ w2 (rx.mono l2) ry p2⟩⟩
theorem CT {op : Operator} {r : R2} {g : D -> D -> AH -> R D} (ho : OpR X (binaryOp op) r) (hd : OpD K mg r g) (ha : DE K mg X ES a F) (hb : DE K mg X ES b G) : DE K mg X ES (.BinOp a op b pos) (eOp g F G) := PE.imp (D2 ho ha hb) (l9 hd)
theorem C1 {r : R2} {g : D -> D -> AH -> R D} (hr : IxR X r) (hd : OpD K mg r g) (ha : DE K mg X ES a F) (hb : DE K mg X ES b G) (hs : kO b) : DE K mg X ES (.Subscript a b pos) (eOp g F G) := PE.imp (Cd hr ha hb hs) (l9 hd)
theorem Br {op : CmpOp} {r : R2} {g : D -> D -> AH -> R D} (ho : OpR X (compareOp op) r) (hd : OpD K mg r g) (ha : DE K mg X ES a F) (hb : DE K mg X ES b G) (hm : behindInMarks op b = false) : DE K mg X ES (.Compare a [op] [b] pos) (eOp g F G) := PE.imp (xG ho ha hb hm) (l9 hd)
theorem oa (σ : St) (H : Hp) (Q : Bool -> Hp -> Prop) (q : rdT K mg ES (tOf F) σ H Q) : rdE K mg ES F σ H fun x H' => ∃ k, x = .bl k /\ Q k H' := by
 obtain ⟨ρ, h, ae, w, re, p⟩ := q
 refine ⟨ρ, h, ae, w, re, p.bind.imp fun d h1 ρ1 H1 l1 w1 p1 x rx => ?_⟩
 unfold asB at p1
 split at p1
 ·cases rx; exact ⟨_, rfl, p1 ρ1 H1 Le.refl w1⟩
 ·exact p1.elim
theorem An {op : CmpOp} {r : R2} {g : D -> D -> AH -> R D} (ho : OpR X (compareOp op) r) (hd : OpD K mg r g) (ha : DE K mg X ES a F) (hb : DE K mg X ES b G) (hm : behindInMarks op b = false) : DT K mg X ES (.Compare a [op] [b] pos) (tOf (eOp g F G)) :=
 PT.imp (wA ho ha hb hm) fun σ H Q q => l9 hd σ H _ (oa σ H Q q)
theorem zU (ha : DE K mg X ES a F) (he : ∀ whole, isTrue a X.env whole = (do let v <- whole; standAt a.pos; holding [v] (truthy v)) := by intro _; rfl) : DT K mg X ES a (tOf F) :=
 PT.imp (BI ha he) fun σ H Q q => oa σ H Q q
theorem yi (ha : DT K mg X ES a cf) : DT K mg X ES (.UnaryOp .Not a pos) (tNo cf) := PT.imp (Aw ha) fun σ H Q q_ => q_.el fun ρ h ae w re p =>
 ⟨ρ, h, ae, w, re, p.bind.imp fun b h1 ρ1 H1 l1 w1 p1 => p1 ρ1 H1 Le.refl w1⟩
theorem wg (ha : DT K mg X ES a cf) : DW K mg X ES (.BoolOp .And [a] pos) cf := we ha
theorem yZ (ha : DT K mg X ES a cf) : DW K mg X ES (.BoolOp .Or [a] pos) cf := A9 ha
theorem A7 (ha : DT K mg X ES a cf) (hb : DW K mg X ES (.BoolOp .And (b :: es) pos) cg) : DW K mg X ES (.BoolOp .And (a :: b :: es) pos) (tAn cf cg) := PW.imp (zu ha hb) fun σ H Q q_ => q_.el fun ρ h ae w re p =>
 ⟨ρ, h, ae, w, re, p.bind.imp fun b h1 ρ1 H1 l1 w1 p1 => by
  cases b with
  | true => exact ⟨ρ1, h1, ae, w1, re.mono l1, p1⟩
  | false => exact p1 ρ1 H1 Le.refl w1⟩
theorem CI (ha : DT K mg X ES a cf) (hb : DW K mg X ES (.BoolOp .Or (b :: es) pos) cg) : DW K mg X ES (.BoolOp .Or (a :: b :: es) pos) (tO cf cg) := PW.imp (B4 ha hb) fun σ H Q q_ => q_.el fun ρ h ae w re p =>
 ⟨ρ, h, ae, w, re, p.bind.imp fun b h1 ρ1 H1 l1 w1 p1 => by
  cases b with
  | true => exact p1 ρ1 H1 Le.refl w1
  | false => exact ⟨ρ1, h1, ae, w1, re.mono l1, p1⟩⟩
theorem DW.dt (h : DW K mg X ES a cf) : DT K mg X ES a cf := PW.pt h
theorem zd {op} (h : DE K mg X ES a F) : DE K mg X ES (.BoolOp op [a] pos) F := zW h
theorem BA (ha : DE K mg X ES a F) (hb : DE K mg X ES (.BoolOp .And (b :: es) pos) G) : DE K mg X ES (.BoolOp .And (a :: b :: es) pos) (sV F G) := PE.imp (zc ha hb) fun σ H Q q_ => q_.el fun ρ h ae w re p => by
 refine ⟨ρ, h, ae, w, re, p.bind.imp fun d h1 ρ1 H1 l1 w1 p1 x rx => ?_⟩
 unfold asB at p1
 split at p1
 ·rename_i b'
  cases rx
  refine ⟨b', rfl, ?_⟩
  cases b' with
  | true => exact ⟨ρ1, h1, ae, w1, re.mono l1, p1⟩
  | false => exact p1 ρ1 H1 Le.refl w1 _ (.bl false)
 ·exact p1.elim
theorem BY (ha : DE K mg X ES a F) (hb : DE K mg X ES (.BoolOp .Or (b :: es) pos) G) : DE K mg X ES (.BoolOp .Or (a :: b :: es) pos) (eOr F G) := PE.imp (Dr ha hb) fun σ H Q q_ => q_.el fun ρ h ae w re p => by
 refine ⟨ρ, h, ae, w, re, p.bind.imp fun d h1 ρ1 H1 l1 w1 p1 x rx => ?_⟩
 unfold asB at p1
 split at p1
 ·rename_i b'
  cases rx
  refine ⟨b', rfl, ?_⟩
  cases b' with
  | true => exact p1 ρ1 H1 Le.refl w1 _ (.bl true)
  | false => exact ⟨ρ1, h1, ae, w1, re.mono l1, p1⟩
 ·exact p1.elim
theorem y0 (ha : DE K mg X ES a F) : DE K mg X ES (.UnaryOp .Not a pos) (vc F) := PE.imp (yz ha) fun σ H Q q_ => q_.el fun ρ h ae w re p => by
 refine ⟨ρ, h, ae, w, re, p.bind.imp fun d h1 ρ1 H1 l1 w1 p1 x rx => ?_⟩
 unfold asB at p1
 split at p1
 ·cases rx
  exact ⟨_, rfl, p1 ρ1 H1 Le.refl w1 _ (.bl _)⟩
 ·exact p1.elim
theorem B7 {op : UnaryOp} {r : V -> Hp -> VK -> Prop} {g : D -> AH -> R D} (ho : UnR X (unaryOp op) r) (hd : UnD K mg r g) (ha : DE K mg X ES a F) : DE K mg X ES (.UnaryOp op a pos) (eUn g F) := PE.imp (DC ho ha) fun σ H Q q_ => q_.el fun ρ h ae w re p =>
 ⟨ρ, h, ae, w, re, p.bind.imp fun d h1 ρ1 H1 l1 w1 p1 x rx => hd ρ1 h1 H1 d x Q _ w1 rx p1⟩
theorem zO : DA K mg X ES [] p8 := PA.imp yr fun σ H Q q_ => q_.el fun ρ h ae w re p => p ρ H Le.refl w _ .nil
theorem xf (ha : DE K mg X ES e F) (hr : DA K mg X ES es A) (hs : starEach (e :: es) X.env = (false, eval e X.env) :: starEach es X.env := by rfl) : DA K mg X ES (e :: es) (lV F A) := PA.imp (wJ ha hr hs) fun σ H Q q_ => q_.el fun ρ h ae w re p =>
 ⟨ρ, h, ae, w, re, p.bind.imp fun d h1 ρ1 H1 l1 w1 p1 x rx => ⟨ρ1, h1, ae, w1, re.mono l1, p1.bind.imp fun ds h2 ρ2 H2 l2 w2 p2 vs rs => p2 ρ2 H2 Le.refl w2 _ (.cons (rx.mono l2) rs)⟩⟩
theorem yO {x1} (h : DA K mg X ES es A) : DE K mg X ES (.Tuple es x1 pos) (eFn j6 A) := PE.imp (AB h) fun σ H Q q_ => q_.el fun ρ h ae w re p =>
 ⟨ρ,
   h, ae, w, re, p.bind.imp fun ds h1 ρ1 H1 l1 w1 p1 vs rs => by
  unfold j6 at p1
  split at p1
  ·rename_i hl
   exact ⟨by rw [<- rs.len]; exact hl, fun q hq => jo w1 rs hq p1⟩
  ·exact p1.elim⟩
theorem zS (h : DA K mg X ES es A) : DE K mg X ES (.List es pos) (eFn cQ A) := PE.imp (AD h) fun σ H Q q_ => q_.el fun ρ h ae w re p =>
 ⟨ρ,
   h, ae, w, re, p.bind.imp fun ds h1 ρ1 H1 l1 w1 p1 vs rs => by
  unfold cQ at p1
  split at p1
  ·rename_i hl
   exact ⟨by rw [<- rs.len]; exact hl, fun q hq => dN w1 rs hq p1⟩
  ·exact p1.elim⟩
theorem vx {r : List V -> Hp -> VK -> Prop} {g : Fn} (hd : cw K mg r g) (σ : St) (H : Hp) (Q : VK) (q : rdE K mg ES (eFn g A) σ H Q) : tCB r (rdA K mg ES A) σ H Q := by
 obtain ⟨ρ, h, ae, w, re, p⟩ := q
 exact ⟨ρ, h, ae, w, re, p.bind.imp fun ds h1 ρ1 H1 l1 w1 p1 vs rs => hd ρ1 h1 H1 ds vs Q _ w1 rs p1⟩
theorem tT {id : String} {r : List V -> Hp -> VK -> Prop} {g : Fn} {x : Str} {p : Pos} (hc : CallR X (.builtin id) r) (hd : cw K mg r g) (hg : Gl X x) (hm : mg x = none) (hv : bootBuiltins x = some (.builtin id)) (ha : DA K mg X ES (e :: es) A) (hk : X.mg = mg := by rfl) (hn : x ≠ "__name__" := by decide) (hdb : (x == ("__debug__" : Str)) = false := by decide)
  (he : starEach (e :: es) X.env = (false, eval e X.env) :: starEach es X.env := by rfl) (hpl : (backTo pos (starEach es X.env)).any (·.1) = false := by rfl) : DE K mg X ES (.Call (.Name x p) (e :: es) [] pos) (eFn g A) := by
 subst hk
 exact PE.imp (ug hc hg hm hv ha hn hdb he hpl) (vx hd)
theorem so {T : String} {r : List V -> Hp -> VK -> Prop} {g : Fn} {x : Str} {p : Pos} (hc : CallR X (.type T) r) (hd : cw K mg r g) (hg : Gl X x) (hm : mg x = none) (hv : bootBuiltins x = some (.type T)) (ha : DA K mg X ES (e :: es) A) (hk : X.mg = mg := by rfl) (hn : x ≠ "__name__" := by decide) (hdb : (x == ("__debug__" : Str)) = false := by decide)
  (he : starEach (e :: es) X.env = (false, eval e X.env) :: starEach es X.env := by rfl) (hpl : (backTo pos (starEach es X.env)).any (·.1) = false := by rfl) : DE K mg X ES (.Call (.Name x p) (e :: es) [] pos) (eFn g A) := by
 subst hk
 exact PE.imp (rW hc hg hm hv ha hn hdb he hpl) (vx hd)
end
end L2
set_option Elab.async false
set_option linter.all false
set_option maxRecDepth 100000
namespace L2
open PySem PySem.Spec PyProof.Rows
noncomputable def SR.then (r : SR) (f : AE -> AH -> SR) : SR := match r with
 | .nx ae h => f ae h
 | .rt d h => .rt d h
 | .bk ae h => .bk ae h
 | .ct ae h => .ct ae h
 | .exc c ae h => .exc c ae h
 | .stuck => .stuck
noncomputable def R.toS {α : Type} (r : R α) (ae : AE) (f : α -> AH -> SR) : SR := match r with
 | .ok a h => f a h
 | .exc c h => .exc c ae h
 | .stuck => .stuck
noncomputable def sNx : MS := fun ae h => .nx ae h
noncomputable def uf (F G : MS) : MS := fun ae h => (F ae h).then G
noncomputable def uq (F : ME) : MS := fun ae h => (F ae h).toS ae fun d h1 => .rt d h1
noncomputable def qA (F : ME) : MS := fun ae h => (F ae h).toS ae fun _ h1 => .nx ae h1
noncomputable def sIf (c : MT) (F G : MS) : MS := fun ae h => (c ae h).toS ae fun b h1 => if b = true then F ae h1 else G ae h1
abbrev MG := D -> AE -> AH -> R AE
abbrev MGs := List D -> AE -> AH -> R AE
noncomputable def fu (F : ME) (g : MG) : MS := fun ae h => (F ae h).toS ae fun d h1 => (g d ae h1).toS ae fun ae' h2 => .nx ae' h2
noncomputable def gN (i : Nat) : MG := fun d ae h => .ok (ae.set i (some d)) h
noncomputable def gsN : MGs := fun ds ae h => match ds with
 | [] => .ok ae h
 | _ => .stuck
noncomputable def gsC (g : MG) (u : MGs) : MGs := fun ds ae h => match ds with
 | d :: r => (g d ae h).bind fun ae' h' => u r ae' h'
 | [] => .stuck
noncomputable def gT (u : MGs) : MG := fun d ae h => match d with
 | .tup ds => u ds ae h
 | _ => .stuck
noncomputable def gS (F G : ME) (w : D -> D -> D -> AH -> R Unit) : MG := fun v ae h => (F ae h).bind fun o h1 => (G ae h1).bind fun i h2 => (w o i v h2).bind fun _ h3 => .ok ae h3
noncomputable def sN (i j : Nat) (A : MA) : MS := fun ae h => (A ae h).toS ae fun ds h1 => match ds with
 | [d, e] => .nx ((ae.set i (some d)).set j (some e)) h1
 | _ => .stuck
noncomputable def mw (c : Str) (A : MA) : MS := fun ae h => (A ae h).toS ae fun ds h1 => if ds.length <= 16777216 then .exc c ae h1 else .stuck
section
variable (K : PySem.W.Frag) (mg : Str -> Option Value)
noncomputable def rdG (ES : St -> XK) (g : MG) : TG := fun v σ H Q => ∃ ρ h ae d, Wd K mg ρ h H /\ RelE K mg ρ H ae σ /\ RelD K mg ρ H d v /\ PostG K mg ρ H (ES σ) (fun ae' _ ρ' H' => ∀ σ', RelE K mg ρ' H' ae' σ' -> Q σ' H') (g d ae h)
noncomputable def rdGs (ES : St -> XK) (g : MGs) : TGs := fun vs σ H Q => ∃ ρ h ae ds, Wd K mg ρ h H /\ RelE K mg ρ H ae σ /\ RelDs K mg ρ H ds vs /\ PostG K mg ρ H (ES σ) (fun ae' _ ρ' H' => ∀ σ', RelE K mg ρ' H' ae' σ' -> Q σ' H') (g ds ae h)
noncomputable def DG (X : Cx) (ES : St -> XK) (e : Expr) (g : MG) : Prop := PG X e (rdG K mg ES g)
noncomputable def DGs (X : Cx) (ES : St -> XK) (es : List Expr) (g : MGs) : Prop := PGs X es (rdGs K mg ES g)
noncomputable def j9 (X : Cx) (ES : St -> XK) : Prop := ∀ (pins : List (Addr × Obj)) (σ : St) (H : Hp) (s : Shared) (e : Value) (s' : Shared), Inv X pins σ H s -> CX1 X.prog X.w X.stack H s (ES σ) e s' -> X.xe e s'
end
theorem rdG.el {K : PySem.W.Frag} {mg : Str -> Option Value} {ES : St -> XK} {g : MG} {v : V} {σ : St} {H : Hp} {Q : St -> Hp -> Prop} {C : Prop} (q : rdG K mg ES g v σ H Q) (k : ∀ ρ h ae d, Wd K mg ρ h H -> RelE K mg ρ H ae σ -> RelD K mg ρ H d v -> PostG K mg ρ H (ES σ) (fun ae' _ ρ' H' => ∀ σ', RelE K mg ρ' H' ae' σ' -> Q σ' H') (g d ae h) -> C) : C := by
 obtain ⟨ρ, h, ae, d, w, re, rd, p⟩ := q
 exact k ρ h ae d w re rd p
theorem rdGs.el {K : PySem.W.Frag} {mg : Str -> Option Value} {ES : St -> XK} {g : MGs} {v : List V} {σ : St} {H : Hp} {Q : St -> Hp -> Prop} {C : Prop} (q : rdGs K mg ES g v σ H Q) (k : ∀ ρ h ae d, Wd K mg ρ h H -> RelE K mg ρ H ae σ -> RelDs K mg ρ H d v -> PostG K mg ρ H (ES σ) (fun ae' _ ρ' H' => ∀ σ', RelE K mg ρ' H' ae' σ' -> Q σ' H') (g d ae h) -> C) : C := by
 obtain ⟨ρ, h, ae, d, w, re, rd, p⟩ := q
 exact k ρ h ae d w re rd p
section
variable {K : PySem.W.Frag} {mg : Str -> Option Value} {X : Cx} {ES : St -> XK} {ρ : List Addr} {H : Hp} {h : AH} {ae : AE} {σ : St} {De : Ends}
theorem cc {α : Type} {r : R α} {f : α -> AH -> SR} {k : α -> AH -> List Addr -> Hp -> Prop} (p : PostS K mg ρ H De ES (r.toS ae f)) (re : RelE K mg ρ H ae σ)
  (i : ∀ a h1 ρ1 H1, Le ρ H ρ1 H1 -> Wd K mg ρ1 h1 H1 -> RelE K mg ρ1 H1 ae σ -> PostS K mg ρ1 H1 De ES (f a h1) -> k a h1 ρ1 H1) : PostG K mg ρ H (ES σ) k r := by
 cases r with
 | ok a h1 => exact fun ρ1 H1 l1 w1 => i a h1 ρ1 H1 l1 w1 (re.mono l1) (PostS.mono l1 p)
 | exc c h1 => exact fun ρ1 H1 C l1 w1 m => p ρ1 H1 σ C l1 w1 (re.mono l1) m
 | stuck => exact p
theorem ft {ae' : AE} (p : PostS K mg ρ H De ES (.nx ae' h)) (w : Wd K mg ρ h H) (re : RelE K mg ρ H ae' σ) : De.nx σ H := p ρ H σ Le.refl w re
theorem tq {r : SR} {f : AE -> AH -> SR} {N : St -> Hp -> Prop} (p : PostS K mg ρ H De ES (r.then f)) (i : ∀ ae1 h1 ρ1 H1 σ1, Le ρ H ρ1 H1 -> Wd K mg ρ1 h1 H1 -> RelE K mg ρ1 H1 ae1 σ1 -> PostS K mg ρ1 H1 De ES (f ae1 h1) -> N σ1 H1) : PostS K mg ρ H { De with nx := N } ES r := by
 cases r with
 | nx ae1 h1 => exact fun ρ1 H1 σ1 l1 w1 re1 => i ae1 h1 ρ1 H1 σ1 l1 w1 re1 (PostS.mono l1 p)
 | rt d h1 => exact p
 | bk ae1 h1 => exact p
 | ct ae1 h1 => exact p
 | exc c ae1 h1 => exact p
 | stuck => exact p
end
section
variable {K : PySem.W.Frag} {mg : Str -> Option Value} {X : Cx} {ES : St -> XK} {e a b c o i : Expr} {es : List Expr} {st : Stmt} {sts sts' : List Stmt} {F G : ME} {A : MA} {cf : MT} {U V' : MS} {g : MG} {gs : MGs} {pos : Pos}
theorem wW : DSs K mg X ES [] sNx := PSs.imp wR fun D σ H q_ => q_.el fun ρ h ae w re p => ft p w re
theorem vY (h1 : DS K mg X ES st U) : DSs K mg X ES [st] U := wV h1
theorem tj (h1 : DS K mg X ES st U) (h2 : DSs K mg X ES sts V') : DSs K mg X ES (st :: sts) (uf U V') := PSs.imp (uX h1 h2) fun D σ H q_ => q_.el fun ρ h ae w re p =>
 ⟨ρ, h, ae, w, re, tq p fun ae1 h1 ρ1 H1 σ1 l1 w1 re1 p1 => ⟨ρ1, h1, ae1, w1, re1, p1⟩⟩
theorem zj (he : DE K mg X ES e F) : DS K mg X ES (.Return (some e) pos) (uq F) := PS.imp (zB he) fun D σ H q_ => q_.el fun ρ h ae w re p =>
 ⟨ρ, h, ae, w, re, cc p re fun d h1 ρ1 H1 l1 w1 re1 p1 v rv => p1 ρ1 H1 v Le.refl w1 rv⟩
theorem xb (he : DE K mg X ES e F) (hs : swapsWith e none pos.line X.env = pure false := by rfl) : DS K mg X ES (.Expr e pos) (qA F) := PS.imp (wj he hs) fun D σ H q_ => q_.el fun ρ h ae w re p =>
 ⟨ρ, h, ae, w, re, cc p re fun d h1 ρ1 H1 l1 w1 re1 p1 v rv => ft p1 w1 re1⟩
theorem DP (hc : DT K mg X ES c cf) (ha : DSs K mg X ES sts U) (hb : DSs K mg X ES sts' V') : DS K mg X ES (.If c sts sts' pos) (sIf cf U V') := PS.imp (Cn hc ha hb) fun D σ H q_ => q_.el fun ρ h ae w re p =>
 ⟨ρ, h, ae, w, re, cc p re fun b h1 ρ1 H1 l1 w1 re1 p1 => by
  cases b with
  | true => exact ⟨ρ1, h1, ae, w1, re1, p1⟩
  | false => exact ⟨ρ1, h1, ae, w1, re1, p1⟩⟩
theorem wt {i : Nat} {x : Str} (hN : X.N.Nodup) (hi : X.N[i]? = some x) (hx : Loc X.env.scope x) (hf : X.fn x = true \/ X.env.scope.names.lookup x = some .local := by first | exact .inl rfl | exact .inr rfl | assumption) : DG K mg X ES (.Name x pos) (gN i) :=
 PG.imp (wB hN hi hx hf) fun v σ H Q q_ => q_.el fun ρ h ae d w re rd p => p ρ H Le.refl w _ (re.set i rd)
theorem v9 : DGs K mg X ES [] gsN := PGs.imp xQ fun vs σ H Q q_ => q_.el fun ρ h ae ds w re rd p => by
 cases rd with
 | nil => exact ⟨rfl, p ρ H Le.refl w _ re⟩
 | cons r rr => exact p.elim
theorem sR (h1 : DG K mg X (fun _ => E0) e g) (h2 : DGs K mg X (fun _ => E0) es gs)
  (hs : (assignEach (e :: es) X.env).map (·.2) = assign e X.env :: (assignEach es X.env).map (·.2) := by rfl) : DGs K mg X (fun _ => E0) (e :: es) (gsC g gs) := PGs.imp (tN h1 h2 hs) fun vs σ H Q q_ => q_.el fun ρ h ae ds w re rd p => by
 cases rd with
 | nil => exact p.elim
 | cons r rr => exact ⟨_, _, rfl, ρ, h, ae, _, w, re, r, p.bind.imp fun ae1 h1 ρ1 H1 l1 w1 p1 σ1 re1 => ⟨ρ1, h1, ae1, _, w1, re1, rr.mono l1, p1⟩⟩
theorem yF {k n : Nat} (hK : X.K = K) (hc : X.calm = true) (h : DGs K mg X (fun _ => E0) es gs)
  (hn : (assignEach es X.env).length = n := by rfl) (hst : (assignEach es X.env).findIdx? (·.1) = none := by rfl) : DG K mg X (fun _ => E0) (.Tuple es k pos) (gT fun ds ae h => if ds.length = n then gs ds ae h else .stuck) := by
 subst hK
 refine PG.imp (sy hc h hn hst) fun v σ H Q q_ => q_.el fun ρ h ae d w re rd p => ?_
 unfold gT at p
 cases rd with
 |
  tup q rs =>
  dsimp only at p
  split at p
  ·rename_i hl
   exact ⟨_, _, rfl, q, by rw [<- rs.len]; exact hl, ρ, h, ae, _, w, re, rs, p⟩
  ·exact p.elim
 | _ => exact p.elim
noncomputable def noX {α : Type} (r : R α) : R α := match r with
 | .exc _ _ => .stuck
 | .ok a h => .ok a h
 | .stuck => .stuck
theorem DG.weak (hg : DG K mg X (fun _ => E0) e g) : DG K mg X ES e (fun d ae h => noX (g d ae h)) := PG.imp hg fun v σ H Q q_ => q_.el fun ρ h ae d w re rd p => by
 refine ⟨ρ, h, ae, d, w, re, rd, ?_⟩
 try dsimp only at p
 cases q : g d ae h with
 | ok a h1 => rw [q] at p; exact p
 | exc c h1 => rw [q] at p; exact p.elim
 | stuck => rw [q] at p; exact p.elim
noncomputable def nI (K : PySem.W.Frag) (mg : Str -> Option Value) (r : jB) (f : D -> D -> D -> AH -> R Unit) : Prop := ∀ ρ h H do_ di dv o i v (Q : Hp -> Prop) E, Wd K mg ρ h H -> RelD K mg ρ H do_ o -> RelD K mg ρ H di i -> RelD K mg ρ H dv v -> PostG K mg ρ H E (fun _ _ _ H' => Q H') (f do_ di dv h) -> r o i v H Q
theorem mT (he : DE K mg X ES e F) (hg : DG K mg X ES a g) (hs : swapsWithSole [a] e pos.line X.env = pure false := by rfl) (hw : swappedStores [a] e X.env = pure none := by rfl)
  (h1 : (assignEach [a] X.env).map (·.2) = [assign a X.env] := by rfl) : DS K mg X ES (.Assign [a] e pos) (fu F g) := PS.imp (A8 he hg hs hw h1) fun D σ H q_ => q_.el fun ρ h ae w re p =>
 ⟨ρ, h, ae, w, re, cc p re fun d h1 ρ1 H1 l1 w1 re1 p1 v rv => ⟨ρ1, h1, ae, d, w1, re1, rv, cc p1 re1 fun ae2 h2 ρ2 H2 l2 w2 re2 p2 σ' re' => ft p2 w2 re'⟩⟩
theorem AO {i : Nat} {x : Str} {pos' : Pos} (hN : X.N.Nodup) (hi : X.N[i]? = some x) (hx : Loc X.env.scope x) (he : DE K mg X ES e F) (hs : swapsWith e (some (.Name x pos')) pos.line X.env = pure false := by rfl) (hf : X.fn x = true \/ X.env.scope.names.lookup x = some .local := by first | exact .inl rfl | exact .inr rfl | assumption) :
  DS K mg X ES (.Assign [.Name x pos'] e pos) (fu F (gN i)) := PS.imp (yu hN hi hx he hs hf) fun D σ H q_ => q_.el fun ρ h ae w re p =>
 ⟨ρ, h, ae, w, re, cc p re fun d h1 ρ1 H1 l1 w1 re1 p1 v rv => ft p1 w1 (re1.set i rv)⟩
theorem
    zC {i j : Nat} {x y : Str} {px py pt : Pos} {kt k2 pt2} (hc : X.calm = true) (hN : X.N.Nodup) (hi : X.N[i]? = some x) (hj : X.N[j]? = some y) (hij : i ≠ j)
  (hx : X.env.scope.names.lookup x = some .local) (hy : X.env.scope.names.lookup y = some .local) (ha : DA K mg X ES [a, b] A)
  (hw : swappedStores [.Tuple [.Name x px, .Name y py] kt pt] (.Tuple [a, b] k2 pt2) X.env = pure (some [x, y]))
  (hs : swapsWithSole [.Tuple [.Name x px, .Name y py] kt pt] (.Tuple [a, b] k2 pt2) pos.line X.env = pure false := by rfl) :
  DS K mg X ES (.Assign [.Tuple [.Name x px, .Name y py] kt pt] (.Tuple [a, b] k2 pt2) pos) (sN i j A) := PS.imp (BC hc hN hi hj hij hx hy ha hw hs) fun D σ H q_ => q_.el fun ρ h ae w re p =>
 ⟨ρ, h, ae, w, re, cc p re fun ds h1 ρ1 H1 l1 w1 re1 p1 vs rs => by
  split at p1
  ·cases rs with
   |
    cons r1 rs =>
    cases rs with
    |
     cons r2 rs =>
     cases rs
     exact ⟨_, _, rfl, ft p1 w1 ((re1.set i r1).set j r2)⟩
  ·exact p1.elim⟩
theorem
    uD {x : Str} {C : Addr} {E : XK} {np cpos : Pos} (hc : X.calm = true) (hR : Rz X E) (hg : Gl X x) (hm : mg x = some (.ref C)) (hq : PySem.W.excIn X.K C gE "ValueError.__new__" = true) (ha : DA K mg X (fun _ => E) (e :: es) A) (hk : X.mg = mg := by rfl)
  (he : starEach (e :: es) X.env = (false, eval e X.env) :: starEach es X.env := by rfl) (hplain : (backTo cpos (starEach es X.env)).any (·.1) = false := by rfl) (hd : (x == ("__debug__" : Str)) = false := by decide) :
  DS K mg X (fun _ => E) (.Raise (some (.Call (.Name x np) (e :: es) [] cpos)) none pos) (mw x A) := by
 subst hk
 exact
    PS.imp (sZ hc hR hg hm hq ha he hplain hd) fun D σ H q_ => q_.el fun ρ h ae w re p =>
  ⟨ρ,
    h, ae, w, re, cc p re fun ds h1 ρ1 H1 l1 w1 re1 p1 vs rs => by
   split at p1
   ·rename_i hl
    exact ⟨by rw [<- rs.len]; exact hl, p1 ρ1 H1 σ C Le.refl w1 re1 hm⟩
   ·exact p1.elim⟩
theorem v8 {x : Str} {p : Pos} {k n : Nat} {ps : List Str} {S : Fn} (C : Callee X.prog X.w X.K X.mg X.base x k ps (spD K mg n S)) (hr : Room k X.A) (hg : Gl X x) (hx : j9 X ES) (ha : DA K mg X ES (e :: es) A)
  (hdb : (x == ("__debug__" : Str)) = false := by decide) (he : starEach (e :: es) X.env = (false, eval e X.env) :: starEach es X.env := by rfl) (hpl : (backTo pos (starEach es X.env)).any (·.1) = false := by rfl) :
  DE K mg X ES (.Call (.Name x p) (e :: es) [] pos) (eFn (fun ds h => if ds.length = n then S ds h else .stuck) A) := by
 obtain ⟨f, fd, F', m, kp, bb, _⟩ := C.ex
 intro pins s σ H Q I hh
 refine wpAny_Call_Name_kw (oz I hg m ?_ hdb)
 have rd : rdA K mg ES A σ H (fun vs H1 => spD K mg n S vs H1 Q (ES σ)) := by
  obtain ⟨ρ, h, ae, w, re, p⟩ := hh
  refine ⟨ρ, h, ae, w, re, p.bind.imp fun ds h1 ρ1 H1 l1 w1 p1 vs rs => ?_⟩
  split at p1
  ·rename_i hl
   exact ⟨ρ1, h1, ds, w1, rs, hl, p1⟩
  ·exact p1.elim
 refine PySem.W.callWith_K (h₀ := X.base) I.ok.mod.kin kp (wpAny_mono (ha pos pins s σ H _ I rd) (fun us s1 ⟨vs, H1, I1, r, q⟩ => ⟨I1.kIn, ?_⟩) fun _ _ z => z) he hpl
 have hl : (us ++ []).length = ps.length := by rw [List.append_nil, <- r.length]; exact F'.len _ _ _ _ q
 refine wpAny_call (codeAny_mono (F'.run X.A X.stack s1 H1 ⟨us, []⟩ us vs Q (ES σ) hr I1.env0 (by simpa using bb s1 us I1.kIn hl) r q) fun r s' hq => ?_)
 cases r with
 | error ex => exact hx pins σ H1 s1 ex s' I1 hq
 |
  ok fl =>
  cases fl with
  | ret u => exact I1.after hq
  | next => exact False.elim hq
  | brk => exact False.elim hq
  | cont => exact False.elim hq
noncomputable def fnD (n : Nat) (F : MS) : Fn := fun ds h => match F (ds.map some ++ List.replicate (n - ds.length) none) h with
 | .nx _ h' => .ok .non h'
 | .rt d h' => .ok d h'
 | .exc c _ h' => .exc c h'
 | _ => .stuck
theorem ar {E : XK} (hp : ny (CX1 X.prog X.w) X E) : j9 X (fun _ => E) := fun pins σ H s e s' I h => hp pins σ H s e s' I h
theorem dY : j9 X (fun _ => E0) := fun pins σ H s e s' I h => BZ pins σ H s e s' I h
end
section
variable {P : Program} {w : World} {K : PySem.W.Frag} {mg : Str -> Option Value} {base : Heap} {x : Str} {st : Stmt} {k : Nat} {ps N : List Str} {F : MS}
theorem pZ {ρ : List Addr} {H : Hp} {ds : List D} {vs : List V} (rs : RelDs K mg ρ H ds vs) : RelE K mg ρ H (ds.map some ++ List.replicate (N.length - ds.length) none) (dE N vs) := by
 unfold dE
 refine ⟨by rw [List.length_append, List.length_append, List.length_map, List.length_map, List.length_replicate, List.length_replicate, rs.len], fun i d e => ?_⟩
 by_cases hi : i < ds.length
 ·rw [List.getElem?_append_left (by rw [List.length_map]; exact hi), List.getElem?_map] at e
  have e' : ds[i]? = some d := by
   cases q : ds[i]? with
   | none => rw [q] at e; cases e
   | some z => rw [q] at e; cases e; rfl
  obtain ⟨v, h1, h2⟩ := rs.getD e'
  refine ⟨v, ?_, h2⟩
  rw [List.getElem?_append_left (by rw [List.length_map, <- rs.len]; exact hi), List.getElem?_map, h1]; rfl
 ·rw [List.getElem?_append_right (by rw [List.length_map]; omega), List.getElem?_replicate] at e
  split at e <;> cases e
theorem Def.okD (D : Def K mg x st) (S : FnScope N ps (au st))
  (hb : ∀ (kV doc pm : Value) (an : Option Addr) (cdv ct : Value) (us : List Value), us.length = ps.length -> bindArgs (PySem.W.fnOf x x (cX st) (bR st) (au st) .none kV doc pm an cdv ct) ⟨us, []⟩ = pure (ps.zip us))
  (hbody : ∀ (f : Addr) (cdv : Value) (A : Around) (outer : List Env) (s : Shared) (H : Hp) (E : XK), Room k (A.deeper (envOfC x (au st) s.heap.objs.size f cdv)) ->
   DSs K mg (dm (CX1 P w) P w K mg base N x (au st) f cdv A outer s H E) (fun _ => E) (bR st) F) : Callee P w K mg base x (k + 1) ps (spD K mg ps.length (fnD N.length F)) := by
 refine D.okR S hb (fun vs H Q E ⟨ρ, h, ds, w, rs, hl, p⟩ => by rw [<- rs.len]; exact hl) fun f cdv A outer s H vs Q E hr ⟨ρ, h, ds, w', rs, hl, p⟩ => ?_
 refine ⟨_, hbody f cdv A outer s H E hr, ρ, h, _, w', pZ rs, ?_⟩
 unfold fnD at p
 split at p
 ·rename_i e; rw [e]; exact fun ρ1 H1 σ1 l1 w1 re1 => p ρ1 H1 l1 w1 _ .non
 ·rename_i e; rw [e]; exact fun ρ1 H1 v l1 w1 rv => p ρ1 H1 l1 w1 v rv
 ·rename_i e; rw [e]; exact fun ρ1 H1 σ1 C l1 w1 re1 m => p ρ1 H1 C l1 w1 m
 ·exact p.elim
end
end L2
set_option Elab.async false
set_option linter.all false
set_option maxRecDepth 100000
namespace L2
open PySem PySem.Spec PyProof.Rows
noncomputable def aV (h : AH) (n : Nat) : Option (List D) := match h[n]? with
 | some (.lst xs) => some xs
 | some (.fz xs) => some xs
 | _ => none
noncomputable def gk (h : AH) : D -> Option (List D)
 | .tup xs => some xs
 | .ref n => aV h n
 | .kl xs => some xs
 | _ => none
section
variable {K : PySem.W.Frag} {mg : Str -> Option Value} {ρ : List Addr} {H : Hp} {h : AH}
theorem bE (w : Wd K mg ρ h H) {n : Nat} {a : Addr} {xs : List D} (ea : ρ[n]? = some a) (e : aV h n = some xs) : ∃ vs, SqL K H a vs /\ RelDs K mg ρ H xs vs := by
 unfold aV at e
 split at e
 ·rename_i ys eo
  cases e
  obtain ⟨vs, h1, h2⟩ := w.ob n a _ ea eo
  exact ⟨vs, SqL.of h1, h2⟩
 ·rename_i ys eo
  cases e
  obtain ⟨o, vs, h1, h2⟩ := w.ob n a _ ea eo
  exact ⟨vs, .inl (.inr ⟨o, h1⟩), h2⟩
 ·cases e
theorem fA (w : Wd K mg ρ h H) {d : D} {v : V} {xs : List D} (r : RelD K mg ρ H d v) (e : gk h d = some xs) : ∃ p vs, v = .ref p /\ (SqL K H p vs \/ SqT K H p vs) /\ RelDs K mg ρ H xs vs := by
 cases r with
 |
  tup q rs =>
  have e' : some _ = some xs := e
  cases e'
  exact ⟨_, _, rfl, .inr q, rs⟩
 |
  ref ea =>
  obtain ⟨vs, h1, h2⟩ := bE w ea e
  exact ⟨_, vs, rfl, .inl h1, h2⟩
 |
  kl q rs =>
  have e' : some _ = some xs := e
  cases e'
  exact ⟨_, _, rfl, .inl (.inr q), rs⟩
 | _ => cases e
end
noncomputable def g2 (f : Int -> Int -> R D) (x y : D) : R D := match x, y with
 | .int i, .int j => f i j
 | _, _ => .stuck
noncomputable def gI (f : Int -> Int -> D) : D -> D -> AH -> R D := fun x y h => match x, y with
 | .int i, .int j => .ok (f i j) h
 | _, _ => .stuck
open Classical in
noncomputable def gIc (C : Int -> Int -> Prop) (f : Int -> Int -> D) : D -> D -> AH -> R D := fun x y h => match x, y with
 | .int i, .int j => if C i j then .ok (f i j) h else .stuck
 | _, _ => .stuck
section
variable {K : PySem.W.Frag} {mg : Str -> Option Value} {X : Cx}
theorem iw {f : Int -> Int -> V} {g : Int -> Int -> D} (hr : ∀ i j ρ H, RelD K mg ρ H (g i j) (f i j)) : OpD K mg (rI0 f) (gI g) := fun ρ h H dx dy x y Q E w rx ry p => by
 unfold gI at p
 split at p
 ·cases rx; cases ry; exact ⟨_, _, rfl, rfl, aR w (hr _ _ ρ H) p⟩
 ·exact p.elim
theorem lU {C : Int -> Int -> Prop} {f : Int -> Int -> V} {g : Int -> Int -> D} (hr : ∀ i j ρ H, RelD K mg ρ H (g i j) (f i j)) : OpD K mg (rI C f) (gIc C g) := fun ρ h H dx dy x y Q E w rx ry p => by
 unfold gIc at p
 split at p
 ·cases rx; cases ry
  split at p
  ·rename_i hc; exact ⟨_, _, rfl, rfl, hc, aR w (hr _ _ ρ H) p⟩
  ·exact p.elim
 ·exact p.elim
noncomputable def gOr (g g' : D -> D -> AH -> R D) : D -> D -> AH -> R D := fun x y h => match g x y h with
 | .stuck => g' x y h
 | r => r
theorem OpD.or {r r' : R2} {g g' : D -> D -> AH -> R D} (a : OpD K mg r g) (b : OpD K mg r' g') : OpD K mg (fun x y H Q => r x y H Q \/ r' x y H Q) (gOr g g') := fun ρ h H dx dy x y Q E w rx ry p => by
 unfold gOr at p
 split at p
 ·exact .inr (b ρ h H dx dy x y Q E w rx ry p)
 ·exact .inl (a ρ h H dx dy x y Q E w rx ry p)
end
noncomputable def js : D -> D -> AH -> R D := fun x y h => match x, y with
 | .ref n, .ref m => match h[n]?, h[m]? with
  | some (.lst xs), some (.lst ys) => if xs.length + ys.length <= 16777216 then .ok (.ref h.length) (h ++ [.lst (xs ++ ys)]) else .stuck
  | _, _ => .stuck
 | .tup xs, .tup ys => if xs.length + ys.length <= 16777216 then .ok (.tup (xs ++ ys)) h else .stuck
 | _, _ => .stuck
noncomputable def gIx : D -> D -> AH -> R D := fun x y h => match gk h x, y with
 | some xs, .int i => match atI xs i with
  | some d => .ok d h
  | none => .stuck
 | _, _ => .stuck
section
variable {K : PySem.W.Frag} {mg : Str -> Option Value} {X : Cx}
noncomputable def iL (K : PySem.W.Frag) : R2 := fun x y H Q => ∃ a b ys, x = .ref a /\ y = .ref b /\ SqT K H a [] /\ SqT K H b ys /\ Q (.ref b) H
theorem xC : OpR X (binaryOp .Add) (iL X.K) := by
 intro pins s σ H x y v u Q I rx ry h
 obtain ⟨a, b, ys, rfl, rfl, ha, hb, q⟩ := h
 cases rx
 cases ry
 obtain ⟨its, r1, p1, _⟩ := I.tuple ha
 obtain ⟨its2, r2, p2, _⟩ := I.tuple hb
 have e : its = [] := r1.nil_iff.mpr rfl
 subst e
 obtain ⟨⟨cls, dd, data, sl⟩, ho, hc, n, hd⟩ := id p1
 obtain ⟨⟨cls2, dd2, data2, sl2⟩, ho2, hc2, n2, hd2⟩ := id p2
 simp only at hc hd hc2 hd2
 subst hc hd hc2 hd2
 exact concat_meets ⟨_, ho, rfl⟩ ⟨_, ho2, rfl⟩ noFill_tuple_add seq_tuple_add PySem.F.slot_tuple_add PySem.F.entry_tuple_add (PySem.F.args_tuple_add_2 _ _)
  (tuple_addW0 _ _ _ _ n n2 dd dd2 sl sl2 rfl) ⟨ho, ho2, ⟨.ref b, H, I, rfl, q⟩⟩
theorem
    xy : OpD K mg (fun x y H Q => kS x y H Q \/ (iX K x y H Q \/ iL K x y H Q)) js := fun ρ h H dx dy x y Q E w rx ry p => by
 unfold js at p
 split at p
 ·cases
     rx with
  |
   ref ea =>
   cases ry with
   |
    ref eb =>
    split at p
    ·rename_i xs ys e1 e2
     split at p
     ·rename_i hl
      obtain ⟨vs, q1, r1⟩ := w.ob _ _ _ ea e1
      obtain ⟨ws, q2, r2⟩ := w.ob _ _ _ eb e2
      exact .inl ⟨_, _, vs, ws, rfl, rfl, q1, q2, by rw [<- r1.len, <- r2.len]; exact hl, fun p' hp => dN w (r1.append r2) hp p⟩
     ·exact p.elim
    ·exact p.elim
 ·cases
     rx with
  |
   tup q1 r1 =>
   cases ry with
   |
    tup q2 r2 =>
    split at p
    ·rename_i hl
     cases r1 with
     | nil => exact .inr (.inr ⟨_, _, _, rfl, rfl, q1, q2, aR w (.tup q2 r2) p⟩)
     |
      cons r0 r1 =>
      refine .inr (.inl ⟨_, _, _, _, rfl, rfl, q1, q2, (fun z => nomatch z), by rw [<- (RelDs.cons r0 r1).len, <- r2.len]; exact hl, fun z => ?_, fun _ p' hp => jo w ((RelDs.cons r0 r1).append r2) hp p⟩)
      subst z
      cases r2
      rw [List.append_nil] at p
      exact aR w (.tup q1 (.cons r0 r1)) p
    ·exact p.elim
 ·exact p.elim
theorem vX {ρ : List Addr} {H : Hp} {xs : List D} {vs : List V} (r : RelDs K mg ρ H xs vs) {i : Int} {d : D} (e : atI xs i = some d) : ∃ v, atI vs i = some v /\ RelD K mg ρ H d v := by
 unfold atI at e ⊢
 rw [<- r.len]
 cases q : ixN xs.length i with
 | none => rw [q] at e; cases e
 | some j => rw [q] at e; exact r.getD e
theorem Ag : OpD K mg (fun x y H Q => pH K x y H Q \/ pz K x y H Q) gIx := fun ρ h H dx dy x y Q E w rx ry p => by
 unfold gIx at p
 split at p
 ·rename_i xs i e1
  split at p
  ·rename_i d e2
   cases ry
   obtain ⟨pa, vs, rfl, hq, rs⟩ := fA w rx e1
   obtain ⟨v, e3, rv⟩ := vX rs e2
   rcases hq with hq | hq
   ·exact .inl ⟨_, _, _, _, rfl, rfl, hq, e3, aR w rv p⟩
   ·exact .inr ⟨_, _, _, _, rfl, rfl, hq, e3, aR w rv p⟩
  ·exact p.elim
 ·exact p.elim
theorem ixK (h : X.K = K) : IxR X (fun x y H Q => pH K x y H Q \/ pz K x y H Q) := by subst h; exact vW.or Bh
theorem catK (h : X.K = K) : OpR X (binaryOp .Add) (fun x y H Q => kS x y H Q \/ (iX K x y H Q \/ iL K x y H Q)) := by subst h; exact yn.or (xx.or xC)
end
noncomputable def c9 : Nat -> AH -> D -> Option PyData
 | 0, _, _ => none
 | _ + 1, _, .non => some .none
 | _ + 1, _, .bl b => some (.bool b)
 | _ + 1, _, .int i => some (.int i)
 | _ + 1, _, .str x => some (.str x)
 | k + 1, h, .tup xs => (xs.mapM (c9 k h)).map .tuple
 | k + 1, h, .ref n => match aV h n with
  | some xs => (xs.mapM (c9 k h)).map .list
  | none => none
 | _ + 1, _, _ => none
theorem
    lH {K : PySem.W.Frag} {mg : Str -> Option Value} {ρ : List Addr} {H : Hp} {f : D -> Option PyData} (hf : ∀ d v pd, RelD K mg ρ H d v -> f d = some pd -> Rep K H v pd) : ∀ {xs : List D} {vs : List V} {ps : List PyData}, RelDs K mg ρ H xs vs -> xs.mapM f = some ps -> Reps K H vs ps := by
 intro xs
 induction xs with
 |
  nil =>
  intro vs ps r e
  cases r
  have e' : some [] = some _ := e
  cases e'; exact .nil
 |
  cons x xs ih =>
  intro vs ps r e
  cases r with
  |
   cons r rr =>
   rw [List.mapM_cons] at e
   cases q : f x with
   | none => rw [q] at e; cases e
   |
    some pd =>
    rw [q] at e
    cases q2 : xs.mapM f with
    | none => rw [q2] at e; cases e
    |
     some pds =>
     rw [q2] at e
     have e' : some (pd :: pds) = some ps := e
     cases e'
     exact .cons (hf _ _ _ r q) (ih rr q2)
theorem
    gG {K : PySem.W.Frag} {mg : Str -> Option Value} {ρ : List Addr} {H : Hp} {h : AH} (w : Wd K mg ρ h H) : ∀ (k : Nat) {d : D} {v : V} {pd : PyData}, RelD K mg ρ H d v -> c9 k h d = some pd -> Rep K H v pd
 | 0, _, _, _, _, e => by cases e
 |
  k + 1, d, v, pd, r, e => by
  cases r with
  | non => have e' : some _ = some pd := e; cases e'; exact .non
  | bl b => have e' : some _ = some pd := e; cases e'; exact .bl b
  | int b => have e' : some _ = some pd := e; cases e'; exact .int b
  | str b => have e' : some _ = some pd := e; cases e'; exact .str b
  |
   tup q rs =>
   rename_i ds
   have e' : (ds.mapM (c9 k h)).map PyData.tuple = some pd := e
   cases q2 : ds.mapM (c9 k h) with
   | none => rw [q2] at e'; cases e'
   |
    some ps =>
    rw [q2] at e'
    cases e'
    exact .tup q (lH (fun d v pd r e => gG w k r e) rs q2)
  |
   ref ea =>
   rename_i n a
   unfold c9 at e
   split at e
   ·rename_i xs e1
    obtain ⟨vs, h1, h2⟩ := bE w ea e1
    cases q2 : xs.mapM (c9 k h) with
    | none => rw [q2] at e; cases e
    |
     some ps =>
     rw [q2] at e
     cases e
     exact .lst h1 (lH (fun d v pd r e => gG w k r e) h2 q2)
   ·cases e
  | _ => cases e
noncomputable def nh (h : AH) (x y : D) : Option Bool := match c9 64 h x, c9 64 h y with
 | some a, some b => if SeqAt.shaped a = true /\ SeqAt.shaped b = true then some (PyData.eqv a b) else none
 | _, _ => none
noncomputable def gEq (neg : Bool) : D -> D -> AH -> R D := fun x y h => match nh h x y with
 | some b => .ok (.bl (if neg then !b else b)) h
 | none => .stuck
section
variable {K : PySem.W.Frag} {mg : Str -> Option Value} {X : Cx}
theorem ou {ρ : List Addr} {H : Hp} {h : AH} {dx dy : D} {x y : V} {b : Bool} (w : Wd K mg ρ h H) (rx : RelD K mg ρ H dx x) (ry : RelD K mg ρ H dy y) (e : nh h dx dy = some b) :
  ∃ a c, Rep K H x a /\ Rep K H y c /\ SeqAt.shaped a = true /\ SeqAt.shaped c = true /\ PyData.eqv a c = b := by
 unfold nh at e
 split at e
 ·rename_i a c e1 e2
  split at e
  ·rename_i hs
   cases e
   exact ⟨a, c, gG w 64 rx e1, gG w 64 ry e2, hs.1, hs.2, rfl⟩
  ·cases e
 ·cases e
theorem zK : OpD K mg (pj K) (gEq false) := fun ρ h H dx dy x y Q E w rx ry p => by
 unfold gEq at p
 split at p
 ·rename_i b e
  obtain ⟨a, c, h1, h2, h3, h4, rfl⟩ := ou w rx ry e
  exact ⟨a, c, h1, h2, h3, h4, aR w (.bl _) p⟩
 ·exact p.elim
theorem Av : OpD K mg (pJ K) (gEq true) := fun ρ h H dx dy x y Q E w rx ry p => by
 unfold gEq at p
 split at p
 ·rename_i b e
  obtain ⟨a, c, h1, h2, h3, h4, rfl⟩ := ou w rx ry e
  exact ⟨a, c, h1, h2, h3, h4, aR w (.bl _) p⟩
 ·exact p.elim
end
section
variable {K : PySem.W.Frag} {mg : Str -> Option Value} {X : Cx} {ρ : List Addr} {H : Hp}
noncomputable def tX (neg : Bool) : D -> D -> AH -> R D := fun x y h => match x, y with
 | .non, .non => .ok (.bl (!neg)) h
 | _, .non => .ok (.bl neg) h
 | _, _ => .stuck
end
end L2
set_option Elab.async false
set_option linter.all false
set_option maxRecDepth 100000
namespace L2
open PySem PySem.Spec PyProof.Rows
inductive AIt where
 | lst (n : Nat) (xs : List D) | tup (xs : List D) | rng (lo : Int) (k : Nat) | enm (s : AIt) | zip (s t : AIt)
noncomputable def fL : Nat -> List D -> List D
 | _, [] => []
 | i, d :: ds => .tup [.int (i : Nat), d] :: fL (i + 1) ds
noncomputable def AIt.items : AIt -> List D
 | .lst _ xs => xs
 | .tup xs => xs
 | .rng lo k => (List.range k).map fun i => D.int (lo + (i : Nat))
 | .enm s => fL 0 s.items
 | .zip s t => List.zipWith (fun x y => .tup [x, y]) s.items t.items
noncomputable def AIt.guard : AIt -> AH -> Prop
 | .lst n xs, h => aV h n = some xs
 | .enm s, h => s.guard h
 | .zip s t, h => s.guard h /\ t.guard h
 | _, _ => True
noncomputable def SrcR (K : PySem.W.Frag) (mg : Str -> Option Value) (ρ : List Addr) (H : Hp) : AIt -> Bool -> Addr -> Prop
 | .lst n _, true, a => ρ[n]? = some a
 | .tup xs, false, p => ∃ vs, SqT K H p vs /\ RelDs K mg ρ H xs vs
 | _, _, _ => False
noncomputable def ItR (K : PySem.W.Frag) (mg : Str -> Option Value) (ρ : List Addr) (H : Hp) : AIt -> It -> Prop
 | .lst n _, J => ∃ a, ρ[n]? = some a /\ J = Itl K a
 | .tup xs, J => ∃ p vs, SqT K H p vs /\ RelDs K mg ρ H xs vs /\ J = Itt K p
 | .rng lo k, J => J = Itr lo k
 | .enm s, J => ∃ b a, SrcR K mg ρ H s b a /\ J = IteE K b a
 | .zip s t, J => ∃ b c a d, SrcR K mg ρ H s b a /\ SrcR K mg ρ H t c d /\ J = ItZ K b c a d
theorem mn : ∀ {ds : List D} {k i : Nat} {e : D}, (fL k ds)[i]? = some e -> ∃ d, ds[i]? = some d /\ e = .tup [.int ((k + i : Nat) : Int), d]
 | [], _, _, _, q => by simp [fL] at q
 | d :: ds, k, 0, e, q => ⟨d, rfl, by simpa [fL] using q.symm⟩
 |
  d :: ds, k, i + 1, e, q => by
  obtain ⟨d', q1, q2⟩ := mn (ds := ds) (k := k + 1) (i := i) (e := e) (by simpa [fL] using q)
  refine ⟨d', by simpa using q1, ?_⟩
  rw [q2]
  congr 4
  omega
theorem mW : ∀ (ds : List D) (k : Nat), (fL k ds).length = ds.length
 | [], _ => rfl
 | _ :: ds, k => by show (fL (k + 1) ds).length + 1 = ds.length + 1; rw [mW ds]
section
variable {K : PySem.W.Frag} {mg : Str -> Option Value} {ρ ρ1 : List Addr} {H H1 : Hp} {h h1 : AH}
theorem SrcR.at_ {s : AIt} {b : Bool} {a : Addr} (r : SrcR K mg ρ H s b a) (l : Le ρ H ρ1 H1) (w : Wd K mg ρ1 h1 H1) (g : s.guard h1) : ∃ vs, SqB K b H1 a vs /\ RelDs K mg ρ1 H1 s.items vs := by
 cases s with
 |
  lst n xs =>
  cases b with
  | true => exact bE w (l.pre _ _ r) g
  | false => exact r.elim
 |
  tup xs =>
  cases b with
  | true => exact r.elim
  | false => obtain ⟨vs, q, rs⟩ := r; exact ⟨vs, l.sqT q, rs.mono l⟩
 | rng _ _ => cases b <;> exact r.elim
 | enm _ => cases b <;> exact r.elim
 | zip _ _ => cases b <;> exact r.elim
theorem
    ItR.step {it : AIt} {J : It} (hJ : ItR K mg ρ H it J) (l : Le ρ H ρ1 H1) (w : Wd K mg ρ1 h1 H1) (g : it.guard h1) :
  (∀ (i : Nat) (d : D), it.items[i]? = some d -> J.go i H1 /\ ∀ x H', J.yld i H1 x H' -> Le ρ1 H1 ρ1 H' /\ Wd K mg ρ1 h1 H' /\ RelD K mg ρ1 H' d x) /\ J.stop it.items.length H1 := by
 cases it with
 |
  lst n xs =>
  obtain ⟨a, ea, rfl⟩ := hJ
  obtain ⟨vs, q, rs⟩ := bE w (l.pre _ _ ea) g
  refine ⟨fun i d e => ?_, vs, q, by rw [<- rs.len]; exact Nat.le_refl _⟩
  obtain ⟨v, ev, rv⟩ := rs.getD e
  refine ⟨⟨vs, v, q, ev⟩, fun x H' ⟨e1, y⟩ => ?_⟩
  subst e1
  have := (y vs q).symm.trans ev
  cases this
  exact ⟨Le.refl, w, rv⟩
 |
  tup xs =>
  obtain ⟨p, vs, q, rs, rfl⟩ := hJ
  have q1 := l.sqT q
  have rs1 := rs.mono l
  refine ⟨fun i d e => ?_, vs, q1, by rw [<- rs1.len]; exact Nat.le_refl _⟩
  obtain ⟨v, ev, rv⟩ := rs1.getD e
  refine ⟨⟨vs, v, q1, ev⟩, fun x H' ⟨e1, y⟩ => ?_⟩
  subst e1
  have := (y vs q1).symm.trans ev
  cases this
  exact ⟨Le.refl, w, rv⟩
 |
  rng lo k =>
  cases hJ
  refine ⟨fun i d e => ?_, ?_⟩
  ·have e' : ((List.range k).map fun i => D.int (lo + (i : Nat)))[i]? = some d := e
   rw [List.getElem?_map] at e'
   cases q : (List.range k)[i]? with
   | none => rw [q] at e'; cases e'
   |
    some j =>
    rw [q] at e'
    have hj := List.getElem?_eq_some_iff.mp q
    have e2 := hj.2
    rw [List.getElem_range] at e2
    subst e2
    cases e'
    refine ⟨show i < k by simpa using hj.1, fun x H' ⟨e1, e2⟩ => ?_⟩
    subst e1 e2
    exact ⟨Le.refl, w, .int _⟩
  ·show k <= ((List.range k).map fun i => D.int (lo + (i : Nat))).length
   simp
 |
  enm s =>
  obtain ⟨b, a, r, rfl⟩ := hJ
  obtain ⟨vs, q, rs⟩ := r.at_ l w g
  refine ⟨fun i d e => ?_, vs, q, by show vs.length = (fL 0 s.items).length; rw [mW, rs.len]⟩
  obtain ⟨d', q1, rfl⟩ := mn (show (fL 0 s.items)[i]? = some d from e)
  obtain ⟨v, ev, rv⟩ := rs.getD q1
  refine ⟨⟨vs, v, q, ev⟩, fun x H' ⟨p, u, e1, hp, e2, hu⟩ => ?_⟩
  subst e1 e2
  have := (hu vs q).symm.trans ev
  cases this
  rw [Nat.zero_add]
  exact ⟨cT hp, w.tuple hp, .tup (SqT.of bz) (.cons (.int _) (.cons (rv.mono (cT hp)) .nil))⟩
 |
  zip s t =>
  obtain ⟨b, c, a, d, r1, r2, rfl⟩ := hJ
  obtain ⟨vs, q, rs⟩ := r1.at_ l w g.1
  obtain ⟨us, q', rs'⟩ := r2.at_ l w g.2
  refine ⟨fun i e ei => ?_, vs, us, q, q', ?_⟩
  ·have ei' : (List.zipWith (fun x y => D.tup [x, y]) s.items t.items)[i]? = some e := ei
   rw [List.getElem?_zipWith] at ei'
   cases k1 : s.items[i]? with
   | none => rw [k1] at ei'; cases ei'
   |
    some d1 =>
    cases k2 : t.items[i]? with
    | none => rw [k1, k2] at ei'; cases ei'
    |
     some d2 =>
     rw [k1, k2] at ei'
     cases ei'
     obtain ⟨v, ev, rv⟩ := rs.getD k1
     obtain ⟨v', ev', rv'⟩ := rs'.getD k2
     refine ⟨⟨vs, us, v, v', q, q', ev, ev'⟩, fun x H' ⟨p, u, u', e1, hp, e2, hu, hu'⟩ => ?_⟩
     subst e1 e2
     have := (hu vs q).symm.trans ev
     cases this
     have := (hu' us q').symm.trans ev'
     cases this
     exact ⟨cT hp, w.tuple hp, .tup (SqT.of bz) (.cons (rv.mono (cT hp)) (.cons (rv'.mono (cT hp)) .nil))⟩
  ·have hl : (AIt.zip s t).items.length = min s.items.length t.items.length := List.length_zipWith ..
   rw [hl, rs.len, rs'.len]
   rcases Nat.le_total vs.length us.length with z | z
   ·left; rw [Nat.min_eq_left z]; exact List.getElem?_eq_none (Nat.le_refl _)
   ·right; rw [Nat.min_eq_right z]; exact List.getElem?_eq_none (Nat.le_refl _)
end
noncomputable def SR.loop (r : SR) (f : AE -> AH -> SR) : SR := match r with
 | .nx ae h => f ae h
 | .ct ae h => f ae h
 | .bk ae h => .nx ae h
 | .rt d h => .rt d h
 | .exc c ae h => .exc c ae h
 | .stuck => .stuck
open Classical in
noncomputable def hE (G : AH -> Prop) (g : MG) (B : MS) : List D -> MS
 | [], ae, h => if G h then .nx ae h else .stuck
 | d :: ds, ae, h => if G h then (g d ae h).toS ae fun ae1 h1 => (B ae1 h1).loop (hE G g B ds) else .stuck
abbrev MI := AE -> AH -> R AIt
noncomputable def sF (I : MI) (g : MG) (B : MS) : MS := fun ae h => (I ae h).toS ae fun it h1 => hE it.guard g B it.items ae h1
open Classical in
noncomputable def lcL (G : AH -> Prop) (g : MG) (c : MT) (F : ME) : List D -> List D -> AE -> AH -> R (List D)
 | [], acc, _, h => if G h then .ok acc h else .stuck
 | d :: ds, acc, ae, h => if G h /\ acc.length < 16777216 then (g d ae h).bind fun ae1 h1 => (c ae1 h1).bind fun b h2 => if b = true then (F ae1 h2).bind fun y h3 => lcL G g c F ds (acc ++ [y]) ae1 h3 else lcL G g c F ds acc ae1 h2 else .stuck
noncomputable def gH (sub : List (Option Nat)) (ae : AE) : AE := sub.map fun o => o.bind fun i => (ae[i]?).bind id
noncomputable def eLC (I : MI) (sub : List (Option Nat)) (g : MG) (c : MT) (F : ME) : ME := fun ae h => (I ae h).bind fun it h1 => (noX (lcL it.guard g c F it.items [] (gH sub ae) h1)).bind cQ
noncomputable def tY : MT := fun _ h => .ok true h
section
variable (K : PySem.W.Frag) (mg : Str -> Option Value)
noncomputable def rdI (ES : St -> XK) (F : MI) : TI := fun σ H R' => ∃ ρ h ae, Wd K mg ρ h H /\ RelE K mg ρ H ae σ /\ PostG K mg ρ H (ES σ) (fun it _ ρ' H' => ∀ J, ItR K mg ρ' H' it J -> R' J H') (F ae h)
noncomputable def DI (X : Cx) (ES : St -> XK) (tg iter : Expr) (F : MI) : Prop := PI X tg iter (rdI K mg ES F)
end
noncomputable def tL (F : ME) : MI := fun ae h => (F ae h).bind fun d h1 => match d with
 | .tup xs => .ok (.tup xs) h1
 | .ref n => match aV h1 n with
  | some xs => .ok (.lst n xs) h1
  | none => .stuck
 | _ => .stuck
noncomputable def sP (A : MA) : MI := fun ae h => (A ae h).bind fun ds h1 => match ds with
 | [.int j] => if -(2 ^ 62) <= j /\ j < 2 ^ 62 then .ok (.rng 0 j.toNat) h1 else .stuck
 | _ => .stuck
noncomputable def eL (d : D) (h : AH) : Option AIt := match d with
 | .tup xs => some (.tup xs)
 | .ref n => (aV h n).map (.lst n)
 | _ => none
noncomputable def uE (A : MA) : MI := fun ae h => (A ae h).bind fun ds h1 => match ds with
 | [d, e] => (match eL d h1, eL e h1 with
  | some s, some t => .ok (.zip s t) h1
  | _, _ => .stuck)
 | _ => .stuck
section
variable {K : PySem.W.Frag} {mg : Str -> Option Value} {X : Cx} {ES : St -> XK} {tg iter e a b c elt : Expr} {F : ME} {A : MA} {I : MI} {g : MG} {cf : MT} {U : MS} {sts : List Stmt} {pos : Pos}
theorem PI.imp {t t' : TI} (h : PI X tg iter t) (k : ∀ σ H Q, t' σ H Q -> t σ H Q) : PI X tg iter t' := fun pins s σ H Q I w => h pins s σ H Q I (k σ H Q w)
theorem AF {l : Expr} {tl : TE} (hl : PE X l tl) : PI X tg l (fun σ H R => tl σ H fun x H1 => (∃ a, x = .ref a /\ (∃ xs, SqL X.K H1 a xs) /\ R (Itl X.K a) H1) \/ (∃ a, x = .ref a /\ (∃ xs, SqT X.K H1 a xs) /\ R (Itt X.K a) H1)) := by
 intro pins s σ H R I h
 refine thn (hl pins s σ H _ I h) fun v s1 ⟨x, H1, I1, r1, q1⟩ => ?_
 rcases q1 with ⟨a, e, ⟨xs, hq⟩, q⟩ | ⟨a, e, ⟨xs, hq⟩, q⟩
 ·subst e
  cases r1
  obtain ⟨its, rv, p, hz⟩ := I1.list hq
  refine wpAny_pyIter_list p.isList ?_
  refine ⟨s1.heap.objs.size, [s1.heap.objs.size], _, _, H1, rfl, I1.kept (t' := s1.toks) fun b o e => Heap.get?_push_of_some _ e, rZ a _, ⟨_, Heap.get?_push_size _ rfl, rfl, rfl⟩, fun b hb => ?_, q⟩
  have e : b = s1.heap.objs.size := by simpa using hb
  subst e
  exact I1.fpOk (Nat.le_refl _) (I1.hok.fresh (Nat.le_refl _))
 ·subst e
  cases r1
  obtain ⟨its, rv, p, hz⟩ := I1.tuple hq
  refine wpAny_pyIter_tuple (show s1.heap.IsTuple a its.toArray from p) ?_
  refine ⟨s1.heap.objs.size, [s1.heap.objs.size], _, _, H1, rfl, I1.kept (t' := s1.toks) fun b o e => Heap.get?_push_of_some _ e, pI a _, ⟨_, Heap.get?_push_size _ rfl, rfl, rfl⟩, fun b hb => ?_, q⟩
  have e : b = s1.heap.objs.size := by simpa using hb
  subst e
  exact I1.fpOk (Nat.le_refl _) (I1.hok.fresh (Nat.le_refl _))
theorem zR (hK : X.K = K) (he : DE K mg X ES e F) : DI K mg X ES tg e (tL F) := by
 subst hK
 refine PI.imp (AF he) fun σ H R ⟨ρ, h, ae, w, re, p⟩ => ⟨ρ, h, ae, w, re, p.bind.imp fun d h1 ρ1 H1 l1 w1 p1 v rv => ?_⟩
 cases rv with
 | tup q rs => exact .inr ⟨_, rfl, ⟨_, q⟩, p1 ρ1 H1 Le.refl w1 _ ⟨_, _, q, rs, rfl⟩⟩
 |
  ref ea =>
  dsimp only at p1
  split at p1
  ·rename_i xs e1
   obtain ⟨vs, q, rs⟩ := bE w1 ea e1
   exact .inl ⟨_, rfl, ⟨_, q⟩, p1 ρ1 H1 Le.refl w1 _ ⟨_, ea, rfl⟩⟩
  ·exact p1.elim
 | _ => exact p1.elim
theorem
    rm {p : Pos} (hg : Gl X "range") (hm : mg "range" = none) (ha : DA K mg X ES [a] A) (hk : X.mg = mg := by rfl) (hs : starEach [a] X.env = [(false, eval a X.env)] := by rfl) : DI K mg X ES tg (.Call (.Name "range" p) [a] [] pos) (sP A) := by
 subst hk
 refine PI.imp (rq hg hm ha hs) fun σ H R ⟨ρ, h, ae, w, re, p⟩ => ⟨ρ, h, ae, w, re, p.bind.imp fun ds h1 ρ1 H1 l1 w1 p1 vs rs => ?_⟩
 split at p1
 ·cases rs with
  |
   cons r rs =>
   cases r; cases rs
   split at p1
   ·rename_i hb
    exact ⟨_, rfl, hb.1, hb.2, p1 ρ1 H1 Le.refl w1 _ rfl⟩
   ·exact p1.elim
 ·exact p1.elim
theorem lF {ρ : List Addr} {H : Hp} {h : AH} {d : D} {v : V} {s : AIt} (w : Wd K mg ρ h H) (r : RelD K mg ρ H d v) (q : eL d h = some s) : ∃ b p, v = .ref p /\ SrcR K mg ρ H s b p /\ ∃ vs, SqB K b H p vs := by
 cases r with
 | tup hq rs => cases q; exact ⟨false, _, rfl, ⟨_, hq, rs⟩, _, hq⟩
 |
  ref ea =>
  obtain ⟨xs, q1, rfl⟩ := Option.map_eq_some_iff.mp q
  obtain ⟨vs, h1, h2⟩ := bE w ea q1
  exact ⟨true, _, rfl, ea, vs, h1⟩
 | _ => cases q
theorem
    zq {elts : List Expr} {x1 : Nat} {tp p : Pos} (hK : X.K = K) (hg : Gl X "zip") (hm : mg "zip" = none) (ha : DA K mg X ES [a, b] A) (hk : X.mg = mg := by rfl) (hs : starEach [a, b] X.env = [(false, eval a X.env), (false, eval b X.env)] := by rfl) (hs2 : starEach [b] X.env = [(false, eval b X.env)] := by rfl) : DI K mg X ES (.Tuple elts x1 tp) (.Call (.Name "zip" p) [a, b] [] pos) (uE A) := by
 subst hk hK
 refine PI.imp (AL hg hm ha hs hs2) fun σ H R ⟨ρ, h, ae, w, re, p⟩ => ⟨ρ, h, ae, w, re, p.bind.imp fun ds h1 ρ1 H1 l1 w1 p1 vs rs => ?_⟩
 split at p1
 ·cases
     rs with
  |
   cons r rs =>
   cases rs with
   |
    cons r' rs =>
    cases rs
    split at p1
    ·rename_i s t q q'
     obtain ⟨b, pa, rfl, sr, xs, hx⟩ := lF w1 r q
     obtain ⟨c, pd, rfl, sr', ys, hy⟩ := lF w1 r' q'
     exact ⟨b, c, pa, pd, xs, ys, rfl, hx, hy, p1 ρ1 H1 Le.refl w1 _ ⟨b, c, pa, pd, sr, sr', rfl⟩⟩
    ·exact p1.elim
 ·exact p1.elim
theorem m8 {ρ : List Addr} {H : Hp} {De : Ends} {r : SR} {f : AE -> AH -> SR} {N : St -> Hp -> Prop} (p : PostS K mg ρ H De ES (r.loop f)) (i : ∀ ae1 h1 ρ1 H1 σ1, Le ρ H ρ1 H1 -> Wd K mg ρ1 h1 H1 -> RelE K mg ρ1 H1 ae1 σ1 -> PostS K mg ρ1 H1 De ES (f ae1 h1) -> N σ1 H1) :
  PostS K mg ρ H { De with nx := N, ct := N, bk := De.nx } ES r := by
 cases r with
 | nx ae1 h1 => exact fun ρ1 H1 σ1 l1 w1 re1 => i ae1 h1 ρ1 H1 σ1 l1 w1 re1 (PostS.mono l1 p)
 | rt d h1 => exact p
 | bk ae1 h1 => exact p
 | ct ae1 h1 => exact fun ρ1 H1 σ1 l1 w1 re1 => i ae1 h1 ρ1 H1 σ1 l1 w1 re1 (PostS.mono l1 p)
 | exc c ae1 h1 => exact p
 | stuck => exact p
theorem
    A1 (hp : PassesOwn (model X.prog X.w) X.A X.env X.xe) (hc : X.calm = true) (hi : DI K mg X ES tg iter I) (hg : DG K mg X ES tg g) (hb : DSs K mg X ES sts U)
  (hs : ∀ x, foldedSetIterable iter X.env x = pure x := by intro _; rfl) : DS K mg X ES (.For tg iter sts [] pos) (sF I g U) := by
 refine PS.imp (yI hp hc hi hg hb hs) fun De σ H q_ => q_.el fun ρ h ae w re p => ⟨ρ, h, ae, w, re, cc p re fun it h1 ρ1 H1 l1 w1 re1 p1 J hJ => ?_⟩
 refine ⟨fun i m σ2 H2 => m = it.items.length - i /\ i <= it.items.length /\ ∃ ρ2 h2 ae2, Le ρ1 H1 ρ2 H2 /\ Wd K mg ρ2 h2 H2 /\ RelE K mg ρ2 H2 ae2 σ2 /\ PostS K mg ρ2 H2 De ES (hE it.guard g U (it.items.drop i) ae2 h2), ⟨_, rfl, Nat.zero_le _, ρ1, h1, ae, Le.refl, w1, re1, p1⟩, ?_⟩
 rintro i m σ2 H2 ⟨rfl, hi', ρ2, h2, ae2, l2, w2, re2, p2⟩
 by_cases hlt : i < it.items.length
 ·have hd : it.items.drop i = it.items[i] :: it.items.drop (i + 1) := List.drop_eq_getElem_cons hlt
  rw [hd] at p2
  unfold hE at p2
  split at p2
  ·rename_i hG
   obtain ⟨st, _⟩ := hJ.step l2 w2 hG
   obtain ⟨go, yl⟩ := st i it.items[i] (List.getElem?_eq_getElem hlt)
   refine .inr ⟨go, fun σ' H' => ∃ ρ3 h3 ae3, Le ρ1 H1 ρ3 H' /\ Wd K mg ρ3 h3 H' /\ RelE K mg ρ3 H' ae3 σ' /\ PostS K mg ρ3 H' De ES (hE it.guard g U (it.items.drop (i + 1)) ae3 h3),
    fun σ' H' ⟨ρ3, h3, ae3, q⟩ => ⟨_, by omega, rfl, hlt, ρ3, h3, ae3, q⟩, fun x H' hy => ?_⟩
   obtain ⟨ly, wy, rx⟩ := yl x H' hy
   refine ⟨ρ2, h2, ae2, _, wy, re2.mono ly, rx, cc (PostS.mono ly p2) (re2.mono ly) fun ae3 h3 ρ3 H3 l3 w3 re3 p3 σ' re' => ⟨ρ3, h3, ae3, w3, re', m8 p3 fun ae4 h4 ρ4 H4 σ4 l4 w4 re4 p4 => ⟨ρ4, h4, ae4, ((l2.trans ly).trans l3).trans l4, w4, re4, p4⟩⟩⟩
  ·exact p2.elim
 ·have hi2 : i = it.items.length := by omega
  subst hi2
  rw [List.drop_length] at p2
  unfold hE at p2
  split at p2
  ·rename_i hG
   exact .inl ⟨(hJ.step l2 w2 hG).2, ft p2 w2 re2⟩
  ·exact p2.elim
theorem
    uv {ρ : List Addr} {H : Hp} {ae : AE} {σ : St} (re : RelE K mg ρ H ae σ) (sub : List (Option Nat)) : RelE K mg ρ H (gH sub ae) (cq sub σ) := by
 unfold gH cq
 refine ⟨by rw [List.length_map, List.length_map], fun j d e => ?_⟩
 rw [List.getElem?_map] at e ⊢
 cases q : sub[j]? with
 | none => rw [q] at e; cases e
 |
  some o =>
  rw [q] at e
  cases o with
  | none => cases e
  |
   some i =>
   have e' : (ae[i]?).bind id = some d := Option.some.inj e
   cases q2 : ae[i]? with
   | none => rw [q2] at e'; cases e'
   |
    some z =>
    rw [q2] at e'
    have e3 : z = some d := e'
    subst e3
    obtain ⟨v, h1, h2⟩ := re.at_ i d q2
    refine ⟨v, ?_, h2⟩
    show some ((σ[i]?).bind id) = some (some v)
    rw [h1]; rfl
theorem jg {α : Type} {ρ : List Addr} {H : Hp} {E : XK} {r : R α} {f : α -> AH -> R (List D)} {m : List D -> AH -> R D} {k : D -> AH -> List Addr -> Hp -> Prop} (p : PostG K mg ρ H E k ((noX (r.bind f)).bind m)) :
  PostG K mg ρ H E0 (fun a h1 ρ' H' => PostG K mg ρ' H' E k ((noX (f a h1)).bind m)) r := by
 cases r with
 | ok a h1 => exact fun ρ1 H1 l1 w1 => PostG.mono l1 p
 | exc c h1 => exact p.elim
 | stuck => exact p.elim
theorem
    vw {sub : List (Option Nat)} (σ : St) (H : Hp) (Q : VK) (q : rdE K mg ES (eLC I sub g cf F) σ H Q) : iP (rdI K mg ES I) sub (rdG K mg (fun _ => E0) g) (rdT K mg (fun _ => E0) cf) (rdE K mg (fun _ => E0) F) σ H Q := by
 obtain ⟨ρ, h, ae, w, re, p⟩ := q
 refine ⟨ρ, h, ae, w, re, p.bind.imp fun it h1 ρ1 H1 l1 w1 p1 J hJ => ?_⟩
 have re1 := uv (re.mono l1) sub
 refine ⟨fun i m ys σ2 H2 => m = it.items.length - i /\ i <= it.items.length /\ ∃ ρ2 h2 ae2 acc, Le ρ1 H1 ρ2 H2 /\ Wd K mg ρ2 h2 H2 /\ RelE K mg ρ2 H2 ae2 σ2 /\ RelDs K mg ρ2 H2 acc ys /\
   PostG K mg ρ2 H2 (ES σ) (fun d _ ρ' H' => ∀ v, RelD K mg ρ' H' d v -> Q v H') ((noX (lcL it.guard g cf F (it.items.drop i) acc ae2 h2)).bind cQ),
  ⟨_, rfl, Nat.zero_le _, ρ1, h1, gH sub ae, [], Le.refl, w1, re1, .nil, p1⟩, ?_⟩
 rintro i m ys σ2 H2 ⟨rfl, hi', ρ2, h2, ae2, acc, l2, w2, re2, rs, p2⟩
 by_cases hlt : i < it.items.length
 ·have hd : it.items.drop i = it.items[i] :: it.items.drop (i + 1) := List.drop_eq_getElem_cons hlt
  rw [hd] at p2
  unfold lcL at p2
  split at p2
  ·rename_i hG
   obtain ⟨st, _⟩ := hJ.step l2 w2 hG.1
   obtain ⟨go, yl⟩ := st i it.items[i] (List.getElem?_eq_getElem hlt)
   refine .inr ⟨go, by rw [<- rs.len]; exact hG.2, fun ys' σ' H' => ∃ ρ3 h3 ae3 acc3, Le ρ1 H1 ρ3 H' /\ Wd K mg ρ3 h3 H' /\ RelE K mg ρ3 H' ae3 σ' /\ RelDs K mg ρ3 H' acc3 ys' /\
     PostG K mg ρ3 H' (ES σ) (fun d _ ρ' H' => ∀ v, RelD K mg ρ' H' d v -> Q v H') ((noX (lcL it.guard g cf F (it.items.drop (i + 1)) acc3 ae3 h3)).bind cQ),
    fun ys' σ' H' ⟨ρ3, h3, ae3, acc3, q⟩ => ⟨_, by omega, rfl, hlt, ρ3, h3, ae3, acc3, q⟩, fun x H' hy => ?_⟩
   obtain ⟨ly, wy, rx⟩ := yl x H' hy
   refine ⟨ρ2, h2, ae2, _, wy, re2.mono ly, rx, (jg (PostG.mono ly p2)).imp fun ae3 h3 ρ3 H3 l3 w3 p3 σ3 re3 => ⟨ρ3, h3, ae3, w3, re3, (jg p3).imp fun b h4 ρ4 H4 l4 w4 p4 => ?_⟩⟩
   cases b with
   | true => exact ⟨ρ4, h4, ae3, w4, re3.mono l4, (jg p4).imp fun y h5 ρ5 H5 l5 w5 p5 v rv => ⟨ρ5, h5, ae3, acc ++ [y], (((l2.trans ly).trans l3).trans l4).trans l5, w5, (re3.mono l4).mono l5, ((((rs.mono ly).mono l3).mono l4).mono l5).append (.cons rv .nil), p5⟩⟩
   | false => exact ⟨ρ4, h4, ae3, acc, ((l2.trans ly).trans l3).trans l4, w4, re3.mono l4, ((rs.mono ly).mono l3).mono l4, p4⟩
  ·exact p2.elim
 ·have hi2 : i = it.items.length := by omega
  subst hi2
  rw [List.drop_length] at p2
  unfold lcL at p2
  split at p2
  ·rename_i hG
   refine .inl ⟨(hJ.step l2 w2 hG).2, ?_⟩
   have p3 : PostG K mg ρ2 H2 (ES σ) (fun d _ ρ' H' => ∀ v, RelD K mg ρ' H' d v -> Q v H') (cQ acc h2) := p2
   unfold cQ at p3
   split at p3
   ·rename_i hl
    exact ⟨by rw [<- rs.len]; exact hl, fun q hq => dN w2 rs hq p3⟩
   ·exact p3.elim
  ·exact p2.elim
theorem CU {scope : Scope} (M : List Str) (kn : List (Str × NameKind)) (N : List Str) (sub : List (Option Nat))
  (hc : X.calm = true) (hi : DI K mg X ES tg iter I)
  (hg : ∀ cl C s₂ H fp, DG K mg (aZ X N scope cl C s₂ H fp) (fun _ => E0) tg g) (he : ∀ cl C s₂ H fp, DE K mg (aZ X N scope cl C s₂ H fp) (fun _ => E0) elt F)
  (hM : X.N = M := by rfl) (hkn : X.env.scope.names = kn := by rfl) (hsub : fo M scope.names sub N = true := by decide +kernel)
  (hk : scope.kind = .function := by rfl) (hnc : ∀ x ∈ scope.names, x.2 ≠ .cell := by decide +kernel) (hnames : ∀ x ∈ scope.names, x.2 = .local -> scope.names.lookup x.1 = some .local := by decide +kernel)
  (hfr : il kn scope.names = true := by decide +kernel)
  (hsl : sub.length = N.length := by rfl) (hs : ∀ x, foldedSetIterable iter X.env x = pure x := by intro _; rfl) :
  DE K mg X ES (.ListComp elt [⟨tg, iter, [], 0⟩] scope pos) (eLC I sub g tY F) :=
 PE.imp (C3 M kn N sub hc hi hg he hM hkn hsub hk hnc hnames hfr hsl hs) fun σ H Q q => by
  have := vw (cf := tY) σ H Q q
  obtain ⟨ρ, h, ae, w, re, p⟩ := this
  refine ⟨ρ, h, ae, w, re, p.imp fun it h1 ρ1 H1 l1 w1 k J hJ => ?_⟩
  obtain ⟨W, w0, tn⟩ := k J hJ
  refine ⟨W, w0, fun i m ys σ2 H2 hW => ?_⟩
  rcases tn i m ys σ2 H2 hW with z | ⟨go, hl, Nx, hN, st⟩
  ·exact .inl z
  ·refine .inr ⟨go, hl, Nx, hN, fun x H' hy => ?_⟩
   obtain ⟨ρ3, h3, ae3, d3, w3, re3, rd3, p3⟩ := st x H' hy
   refine ⟨ρ3, h3, ae3, d3, w3, re3, rd3, p3.imp fun ae4 h4 ρ4 H4 l4 w4 k4 σ4 re4 => ?_⟩
   obtain ⟨ρ5, h5, ae5, w5, re5, p5⟩ := k4 σ4 re4
   exact p5 ρ5 _ Le.refl w5
theorem zZ {sub : List (Option Nat)} (σ : St) (H : Hp) (Q : VK) (q : rdE K mg ES (eLC I sub g tY F) σ H Q) : iP (rdI K mg ES I) sub (rdG K mg (fun _ => E0) g) sY (rdE K mg (fun _ => E0) F) σ H Q := by
 have := vw (cf := tY) σ H Q q
 obtain ⟨ρ, h, ae, w, re, p⟩ := this
 refine ⟨ρ, h, ae, w, re, p.imp fun it h1 ρ1 H1 l1 w1 k J hJ => ?_⟩
 obtain ⟨W, w0, tn⟩ := k J hJ
 refine ⟨W, w0, fun i m ys σ2 H2 hW => ?_⟩
 rcases tn i m ys σ2 H2 hW with z | ⟨go, hl, Nx, hN, st⟩
 ·exact .inl z
 ·refine .inr ⟨go, hl, Nx, hN, fun x H' hy => ?_⟩
  obtain ⟨ρ3, h3, ae3, d3, w3, re3, rd3, p3⟩ := st x H' hy
  refine ⟨ρ3, h3, ae3, d3, w3, re3, rd3, p3.imp fun ae4 h4 ρ4 H4 l4 w4 k4 σ4 re4 => ?_⟩
  obtain ⟨ρ5, h5, ae5, w5, re5, p5⟩ := k4 σ4 re4
  exact p5 ρ5 _ Le.refl w5
theorem xW {t : TE} {i : Nat} (ht : ∀ σ H Q, rdE K mg ES F σ H Q -> t σ H Q) (De : Ends) (σ : St) (H : Hp) (q : rdS K mg ES (fu F (gN i)) De σ H) : mP t (jZ i) De σ H := by
 obtain ⟨ρ, h, ae, w, re, p⟩ := q
 exact ht σ H _ ⟨ρ, h, ae, w, re, cc p re fun d h1 ρ1 H1 l1 w1 re1 p1 v rv => ft p1 w1 (re1.set i rv)⟩
theorem DY {scope : Scope} {px spos : Pos} {iT : Nat} {xT : Str} (M : List Str) (kn : List (Str × NameKind)) (N : List Str) (sub : List (Option Nat))
  (hc : X.calm = true) (hN : X.N.Nodup) (hix : X.N[iT]? = some xT) (hxl : Loc X.env.scope xT) (hi : DI K mg X ES tg iter I)
  (hg : ∀ cl C s₂ H fp, DG K mg (aZ X N scope cl C s₂ H fp) (fun _ => E0) tg g) (he : ∀ cl C s₂ H fp, DE K mg (aZ X N scope cl C s₂ H fp) (fun _ => E0) elt F)
  (hsw : swapsWith (.ListComp elt [⟨tg, iter, [], 0⟩] scope pos) (some (.Name xT px)) spos.line X.env = pure true := by rfl)
  (hM : X.N = M := by rfl) (hkn : X.env.scope.names = kn := by rfl) (hsub : fo M scope.names sub N = true := by decide +kernel)
  (hk : scope.kind = .function := by rfl) (hnc : ∀ x ∈ scope.names, x.2 ≠ .cell := by decide +kernel) (hnames : ∀ x ∈ scope.names, x.2 = .local -> scope.names.lookup x.1 = some .local := by decide +kernel)
  (hfr : il kn scope.names = true := by decide +kernel)
  (hsl : sub.length = N.length := by rfl) (hs : ∀ x, foldedSetIterable iter X.env x = pure x := by intro _; rfl) (hf : X.fn xT = true \/ X.env.scope.names.lookup xT = some .local := by first | exact .inl rfl | exact .inr rfl | assumption) :
  DS K mg X ES (.Assign [.Name xT px] (.ListComp elt [⟨tg, iter, [], 0⟩] scope pos) spos) (fu (eLC I sub g tY F) (gN iT)) :=
 PS.imp (CF M kn N sub hc hN hix hxl hi hg he hsw hM hkn hsub hk hnc hnames hfr hsl hs hf) (xW zZ)
end
noncomputable def whN (c : MT) (B : MS) : Nat -> MS
 | 0, _, _ => .stuck
 | k + 1, ae, h => (c ae h).toS ae fun b h1 => if b = true then (B ae h1).loop (whN c B k) else .nx ae h1
open Classical in
noncomputable def sWh (c : MT) (B : MS) : MS := fun ae h => if q : ∃ k, whN c B k ae h ≠ .stuck then whN c B q.choose ae h else .stuck
theorem
    jx {c : MT} {B : MS} : ∀ {k : Nat} {ae : AE} {h : AH}, whN c B k ae h ≠ .stuck -> whN c B (k + 1) ae h = whN c B k ae h
 | 0, _, _, q => absurd rfl q
 |
  k + 1, ae, h, q => by
  have e1 : whN c B (k + 2) ae h = (c ae h).toS ae fun b h1 => if b = true then (B ae h1).loop (whN c B (k + 1)) else .nx ae h1 := rfl
  have e2 : whN c B (k + 1) ae h = (c ae h).toS ae fun b h1 => if b = true then (B ae h1).loop (whN c B k) else .nx ae h1 := rfl
  rw [e2] at q
  rw [e1, e2]
  cases r : c ae h with
  | exc _ _ => rfl
  | stuck => rfl
  |
   ok b h1 =>
   rw [r] at q
   cases b with
   | false => rfl
   |
    true =>
    have q' : (B ae h1).loop (whN c B k) ≠ .stuck := q
    show (B ae h1).loop (whN c B (k + 1)) = (B ae h1).loop (whN c B k)
    cases s : B ae h1 with
    | nx a2 h2 => rw [s] at q'; exact jx q'
    | ct a2 h2 => rw [s] at q'; exact jx q'
    | _ => rfl
theorem qQ {c : MT} {B : MS} {k j : Nat} {ae : AE} {h : AH} (q : whN c B k ae h ≠ .stuck) (hj : k <= j) : whN c B j ae h = whN c B k ae h := by
 induction hj with
 | refl => rfl
 | step _ ih => rw [jx (by rw [ih]; exact q), ih]
theorem rh {c : MT} {B : MS} {k : Nat} {ae : AE} {h : AH} (q : whN c B k ae h ≠ .stuck) : sWh c B ae h = whN c B k ae h := by
 have hq : ∃ k, whN c B k ae h ≠ .stuck := ⟨k, q⟩
 unfold sWh
 rw [dif_pos hq]
 rcases Nat.le_total hq.choose k with z | z
 ·exact (qQ hq.choose_spec z).symm
 ·exact qQ q z
section
variable {K : PySem.W.Frag} {mg : Str -> Option Value} {X : Cx} {ES : St -> XK} {c : Expr} {cf : MT} {U : MS} {sts : List Stmt} {pos : Pos}
theorem sU (hp : PassesOwn (model X.prog X.w) X.A X.env X.xe) (hc : DT K mg X ES c cf) (hb : DSs K mg X ES sts U) : DS K mg X ES (.While c sts [] pos) (sWh cf U) := by
 refine PS.imp (ud hp hc hb) fun De σ H q_ => q_.el fun ρ h ae w re p => ?_
 have hx : ∃ k, whN cf U k ae h ≠ .stuck := Classical.byContradiction fun z => by
  unfold sWh at p
  rw [dif_neg z] at p
  exact p.elim
 obtain ⟨k, hk⟩ := hx
 rw [rh hk] at p
 refine ⟨fun m σ2 H2 => ∃ ρ2 h2 ae2, Wd K mg ρ2 h2 H2 /\ RelE K mg ρ2 H2 ae2 σ2 /\ PostS K mg ρ2 H2 De ES (whN cf U m ae2 h2), ⟨k, ρ, h, ae, w, re, p⟩, ?_⟩
 rintro m σ2 H2 ⟨ρ2, h2, ae2, w2, re2, p2⟩
 cases m with
 | zero => exact p2.elim
 |
  succ m =>
  refine ⟨ρ2, h2, ae2, w2, re2, cc p2 re2 fun b h3 ρ3 H3 l3 w3 re3 p3 => ?_⟩
  cases b with
  | true => exact ⟨fun σ' H' => ∃ ρ4 h4 ae4, Wd K mg ρ4 h4 H' /\ RelE K mg ρ4 H' ae4 σ' /\ PostS K mg ρ4 H' De ES (whN cf U m ae4 h4), fun σ' H' q => ⟨m, Nat.lt_succ_self _, q⟩, ρ3, h3, ae2, w3, re3, m8 p3 fun ae4 h4 ρ4 H4 σ4 l4 w4 re4 p4 => ⟨ρ4, h4, ae4, w4, re4, p4⟩⟩
  | false => exact ft p3 w3 re3
end
end L2
set_option Elab.async false
set_option linter.all false
set_option maxRecDepth 100000
namespace L2
open PySem PySem.Spec PyProof.Rows
noncomputable def m5 : Fn := fun ds h => match ds with
 | [d] => match gk h d with
  | some xs => .ok (.int xs.length) h
  | none => match d with
   | .str z => if z.length <= 16777216 then .ok (.int z.length) h else .stuck
   | _ => .stuck
 | _ => .stuck
noncomputable def pY : Fn := fun ds h => match ds with
 | [.int i] => .ok (.int (if i < 0 then -i else i)) h
 | _ => .stuck
noncomputable def eg : List D -> Option (List Bool)
 | [] => some []
 | .bl b :: r => (eg r).map (b :: ·)
 | _ => none
theorem jD : ∀ {ds : List D} {bs : List Bool}, eg ds = some bs -> ds = bs.map D.bl
 | [], bs, e => by cases e; rfl
 |
  .bl b :: r, bs, e => by
  have e' : (eg r).map (b :: ·) = some bs := e
  cases q : eg r with
  | none => rw [q] at e'; cases e'
  | some z => rw [q] at e'; cases e'; rw [jD q]; rfl
noncomputable def ml : Fn := fun ds h => match ds with
 | [.ref n] => match (aV h n).bind eg with
  | some bs => .ok (.bl (bs.all id)) h
  | none => .stuck
 | _ => .stuck
noncomputable def ka : Fn := fun ds h => match ds with
 | [d] => match gk h d with
  | some xs => .ok (.ref h.length) (h ++ [.lst xs])
  | none => .stuck
 | _ => .stuck
section
variable {K : PySem.W.Frag} {mg : Str -> Option Value} {X : Cx}
theorem
    AW : cw K mg (fun xs H Q => (∃ p ys, xs = [.ref p] /\ (SqL K H p ys \/ SqT K H p ys) /\ Q (.int ys.length) H) \/ (∃ z, xs = [.str z] /\ z.length <= sizeLine /\ Q (.int z.length) H)) m5 := fun ρ h H ds vs Q E w rs p => by
 unfold m5 at p
 split at p
 ·cases
     rs with
  |
   cons r rs =>
   cases rs
   split at p
   ·rename_i xs e
    obtain ⟨pa, vs, rfl, hq, rs⟩ := fA w r e
    exact .inl ⟨_, _, rfl, hq, by rw [<- rs.len]; exact aR w (.int _) p⟩
   ·split at p
    ·cases r
     split at p
     ·rename_i hl; exact .inr ⟨_, rfl, hl, aR w (.int _) p⟩
     ·exact p.elim
    ·exact p.elim
 ·exact p.elim
theorem gZ (h : X.K = K) : CallR X (.builtin "len") (fun xs H Q => (∃ p ys, xs = [.ref p] /\ (SqL K H p ys \/ SqT K H p ys) /\ Q (.int ys.length) H) \/ (∃ z, xs = [.str z] /\ z.length <= sizeLine /\ Q (.int z.length) H)) := by subst h; exact nj.or mM
theorem z8 : cw K mg (fun xs H Q => ∃ i, xs = [.int i] /\ Q (.int (if i < 0 then -i else i)) H) pY := fun ρ h H ds vs Q E w rs p => by
 unfold pY at p
 split at p
 ·cases rs with
  | cons r rs => cases r; cases rs; exact ⟨_, rfl, aR w (.int _) p⟩
 ·exact p.elim
theorem
    Ax : cw K mg (fun xs H Q => ∃ (a : Addr) (bs : List Bool), xs = [.ref a] /\ SqL K H a (bs.map V.bl) /\ Q (.bl (bs.all id)) H) ml := fun ρ h H ds vs Q E w rs p => by
 unfold ml at p
 split at p
 ·cases
     rs with
  |
   cons r rs =>
   cases r with
   |
    ref ea =>
    cases rs
    split at p
    ·rename_i bs e
     obtain ⟨xs, q, e2⟩ := Option.bind_eq_some_iff.mp e
     ·obtain ⟨vs, h1, h2⟩ := bE w ea q
      rw [jD e2] at h2
      rw [h2.bls] at h1
      exact ⟨_, bs, rfl, h1, aR w (.bl _) p⟩
    ·exact p.elim
 ·exact p.elim
theorem
    xt : cw K mg (fun xs H Q => ∃ p ys, xs = [.ref p] /\ (SqL K H p ys \/ SqT K H p ys) /\ ∀ l, H l = none -> Q (.ref l) (upd H l (.lst ys))) ka := fun ρ h H ds vs Q E w rs p => by
 unfold ka at p
 split at p
 ·cases rs with
  |
   cons r rs =>
   cases rs
   split at p
   ·rename_i xs e
    obtain ⟨pa, vs, rfl, hq, rs⟩ := fA w r e
    exact ⟨_, _, rfl, hq, fun l hl => dN w rs hl p⟩
   ·exact p.elim
 ·exact p.elim
theorem j8 (h : X.K = K) : CallR X (.type "list") (fun xs H Q => ∃ p ys, xs = [.ref p] /\ (SqL K H p ys \/ SqT K H p ys) /\ ∀ l, H l = none -> Q (.ref l) (upd H l (.lst ys))) := by subst h; exact mJ
end
inductive Cl where
 | b (n : String) | o (x : Str)
 deriving DecidableEq
noncomputable def tyD (h : AH) : D -> Option Cl
 | .non => some (.b "NoneType")
 | .bl _ => some (.b "bool")
 | .int _ => some (.b "int")
 | .str _ => some (.b "str")
 | .tup _ => some (.b "tuple")
 | .exc x => some (.o x)
 | .ref n => match h[n]? with
  | some (.lst _) => some (.b "list")
  | some (.fz _) => some (.b "list")
  | some (.dct _) => some (.b "dict")
  | _ => none
 | _ => none
noncomputable def clD : D -> Option Cl
 | .ty n => some (.b n)
 | .glb x => some (.o x)
 | _ => none
noncomputable def ClV (mg : Str -> Option Value) : Cl -> Value -> Prop
 | .b n, v => v = .type n
 | .o x, v => ∃ a, v = .ref a /\ mg x = some (.ref a)
abbrev dF := List (Cl × Cl × Bool)
structure KitsOk (K : PySem.W.Frag) (mg : Str -> Option Value) (kt : dF) : Prop where
 one : ∀ p ∈ kt, ∀ t v, ClV mg p.1 t -> ClV mg p.2.1 v -> PySem.W.kitOne K t v = some p.2.2
 xc : ∀ p ∈ kt, ∀ x C, p.1 = .o x -> mg x = some (.ref C) -> XCls K C
noncomputable def kit (kt : dF) (t c : Cl) : Option Bool := (kt.find? fun p => decide (p.1 = t) && decide (p.2.1 = c)).map (·.2.2)
noncomputable def dX (kt : dF) (t : Cl) : List Cl -> Option Bool
 | [] => some false
 | c :: r => match kit kt t c with
  | some true => some true
  | some false => dX kt t r
  | none => none
noncomputable def nt (kt : dF) : Fn := fun ds h => match ds with
 | [d, c] => match tyD h d with
  | some t => match c with
   | .tup cs => match cs.mapM clD with
    | some (c0 :: cr) => match dX kt t (c0 :: cr), kit kt t c0 with
     | some b, some _ => .ok (.bl b) h
     | _, _ => .stuck
    | _ => .stuck
   | c => match clD c with
    | some cl => match kit kt t cl with
     | some b => .ok (.bl b) h
     | none => .stuck
    | none => .stuck
  | none => .stuck
 | _ => .stuck
theorem ke {kt : dF} {t c : Cl} {b : Bool} (e : kit kt t c = some b) : (t, c, b) ∈ kt := by
 unfold kit at e
 cases q : kt.find? (fun p => decide (p.1 = t) && decide (p.2.1 = c)) with
 | none => rw [q] at e; cases e
 |
  some p =>
  rw [q] at e
  have h1 := List.find?_some q
  have h2 := List.mem_of_find?_eq_some q
  simp only [Bool.and_eq_true, decide_eq_true_eq] at h1
  obtain ⟨p1, p2, p3⟩ := p
  have e3 : p3 = b := Option.some.inj e
  obtain ⟨rfl, rfl⟩ := h1
  subst e3
  exact h2
section
variable {K : PySem.W.Frag} {mg : Str -> Option Value} {X : Cx} {ρ : List Addr} {H : Hp} {h : AH}
theorem oA {kt : dF} (ok : KitsOk K mg kt) (w : Wd K mg ρ h H) {d : D} {v : V} {t c : Cl} {b : Bool} (r : RelD K mg ρ H d v) (e : tyD h d = some t) (k : kit kt t c = some b) : ∃ tv, TyX K H v tv /\ ClV mg t tv := by
 cases r with
 | non => cases e; exact ⟨_, .of .non, rfl⟩
 | bl => cases e; exact ⟨_, .of (.bl _), rfl⟩
 | int => cases e; exact ⟨_, .of (.int _), rfl⟩
 | str => cases e; exact ⟨_, .of (.str _), rfl⟩
 | tup q rs => cases e; exact ⟨_, .sqT q, rfl⟩
 |
  exc m ex =>
  cases e
  exact ⟨_, .exc ex (ok.xc _ (ke k) _ _ rfl m), _, rfl, m⟩
 |
  ref ea =>
  unfold tyD at e
  dsimp only at e
  split at e
  ·rename_i e1; cases e; obtain ⟨vs, h1, h2⟩ := w.ob _ _ _ ea e1; exact ⟨_, .of (.lst h1), rfl⟩
  ·rename_i e1; cases e; obtain ⟨o, vs, h1, h2⟩ := w.ob _ _ _ ea e1; exact ⟨_, .of (.frz h1), rfl⟩
  ·rename_i e1; cases e; obtain ⟨ws, h1, _⟩ := w.ob _ _ _ ea e1; exact ⟨_, .of (.dK h1), rfl⟩
  ·cases e
 | _ => cases e
theorem oo {d : D} {v : V} {c : Cl} (r : RelD K mg ρ H d v) (e : clD d = some c) : ∃ cv, dB v = some cv /\ ClV mg c cv := by
 cases r with
 | ty n => cases e; exact ⟨_, rfl, rfl⟩
 | glb m => cases e; exact ⟨_, rfl, _, rfl, m⟩
 | _ => cases e
theorem
    uh : ∀ {ds : List D} {vs : List V} {cs : List Cl}, RelDs K mg ρ H ds vs -> ds.mapM clD = some cs -> ∃ cvs, vs.mapM dB = some cvs /\ Paired (ClV mg) cs cvs := by
 intro ds
 induction ds with
 |
  nil =>
  intro vs cs r e
  cases r
  have e' : some ([] : List Cl) = some cs := e
  cases e'; exact ⟨[], rfl, .nil⟩
 |
  cons d ds ih =>
  intro vs cs r e
  cases r with
  |
   cons r rr =>
   rw [List.mapM_cons] at e
   cases q : clD d with
   | none => rw [q] at e; cases e
   |
    some c =>
    rw [q] at e
    cases q2 : ds.mapM clD with
    | none => rw [q2] at e; cases e
    |
     some cs' =>
     rw [q2] at e
     have e' : some (c :: cs') = some cs := e
     cases e'
     obtain ⟨cv, h1, h2⟩ := oo r q
     obtain ⟨cvs, h3, h4⟩ := ih rr q2
     refine ⟨cv :: cvs, ?_, .cons h2 h4⟩
     rw [List.mapM_cons, h1, h3]; rfl
theorem
    qI {kt : dF} (ok : KitsOk K mg kt) {t : Cl} {tv : Value} (ht : ClV mg t tv) : ∀ {cs : List Cl} {cvs : List Value} {b : Bool}, Paired (ClV mg) cs cvs -> dX kt t cs = some b -> PySem.W.kitAny K tv cvs = some b := by
 intro cs
 induction cs with
 |
  nil =>
  intro cvs b r e
  cases r
  cases e; rfl
 |
  cons c cs ih =>
  intro cvs b r e
  cases r with
  |
   cons r rr =>
   unfold dX at e
   unfold PySem.W.kitAny
   cases q : kit kt t c with
   | none => rw [q] at e; cases e
   |
    some z =>
    rw [q] at e
    rw [ok.one _ (ke q) _ _ ht r]
    cases z with
    | true => exact e
    | false => exact ih rr e
theorem sk : CallR X (.builtin "isinstance") (fun xs H Q => ∃ x tp cs t vs b, xs = [x, .ref tp] /\ SqT X.K H tp cs /\ TyX X.K H x t /\ cs.mapM dB = some vs /\ PySem.W.kitAny X.K t vs = some b /\ Q (.bl b) H) := by
 intro pins s σ H xs us Q I r h
 obtain ⟨x, tp, cs, t, vs, b, rfl, ht, ty, hc, hk, q⟩ := h
 obtain ⟨u, w', rfl, rx, rc⟩ := vP r
 cases rc
 obtain ⟨its, rv, ⟨o, e, c, n, d⟩, _⟩ := I.tuple ht
 obtain rfl := lC hc rv
 obtain ⟨Hh, Z, p, hne⟩ := oJ I rx ty
 obtain ⟨oc, od, odt, osl⟩ := o
 have c' : oc = .type "tuple" := c
 have d' : odt = .seq its.toArray n := d
 subst c' d'
 exact PySem.W.kia_tup Z I.kIn p e hk hne fun tk => ⟨.bl b, H, I.tok _, rfl, q⟩
theorem gW (hK : X.K = K) : CallR X (.builtin "isinstance") (fun xs H Q => (∃ x c t v b, xs = [x, c] /\ TyX K H x t /\ dB c = some v /\ PySem.W.kitOne K t v = some b /\ Q (.bl b) H) \/
  (∃ x tp cs t vs b, xs = [x, .ref tp] /\ SqT K H tp cs /\ TyX K H x t /\ cs.mapM dB = some vs /\ PySem.W.kitAny K t vs = some b /\ Q (.bl b) H)) := by subst hK; exact sX.or sk
theorem
    AI {kt : dF} (ok : KitsOk K mg kt) : cw K mg (fun xs H Q => (∃ x c t v b, xs = [x, c] /\ TyX K H x t /\ dB c = some v /\ PySem.W.kitOne K t v = some b /\ Q (.bl b) H) \/
  (∃ x tp cs t vs b, xs = [x, .ref tp] /\ SqT K H tp cs /\ TyX K H x t /\ cs.mapM dB = some vs /\ PySem.W.kitAny K t vs = some b /\ Q (.bl b) H)) (nt kt) := fun ρ h H ds vs Q E w rs p => by
 unfold nt at p
 split at p
 ·cases
     rs with
  |
   cons r rs =>
   cases rs with
   |
    cons r2 rs =>
    cases rs
    split at p
    ·rename_i t e1
     split at p
     ·split
         at p
      ·rename_i cs c0 cr e2
       split at p
       ·rename_i b b' e3 e4
        cases r2 with
        |
         tup q rs2 =>
         obtain ⟨tv, h1, h2⟩ := oA ok w r e1 e4
         obtain ⟨cvs, h3, h4⟩ := uh rs2 e2
         exact .inr ⟨_, _, _, tv, cvs, b, rfl, q, h1, h3, qI ok h2 h4 e3, aR w (.bl _) p⟩
       ·exact p.elim
      ·exact p.elim
     ·split at p
      ·rename_i cl e2
       split at p
       ·rename_i b e3
        obtain ⟨tv, h1, h2⟩ := oA ok w r e1 e3
        obtain ⟨cv, h3, h4⟩ := oo r2 e2
        exact .inl ⟨_, _, tv, cv, b, rfl, h1, h3, ok.one _ (ke e3) _ _ h2 h4, aR w (.bl _) p⟩
       ·exact p.elim
      ·exact p.elim
    ·exact p.elim
 ·exact p.elim
end
end L2
set_option Elab.async false
set_option linter.all false
set_option maxRecDepth 100000
namespace L2
open PySem PySem.Spec PyProof.Rows
noncomputable def MtD (K : PySem.W.Frag) (mg : Str -> Option Value) (r : V -> List V -> Hp -> VK -> Prop) (g : D -> List D -> AH -> R D) : Prop := ∀ ρ h H dx ds x vs Q E, Wd K mg ρ h H -> RelD K mg ρ H dx x -> RelDs K mg ρ H ds vs -> cZ K mg ρ H Q E (g dx ds h) -> r x vs H Q
noncomputable def jT (h : AH) : D -> Bool
 | .ref n => (aV h n).isSome
 | _ => false
noncomputable def eM (g : D -> List D -> AH -> R D) (F : ME) (A : MA) : ME := fun ae h => (F ae h).bind fun x h1 => if jT h1 x = true then (A ae h1).bind fun ds h2 => g x ds h2 else .stuck
section
variable {K : PySem.W.Frag} {mg : Str -> Option Value} {X : Cx} {ES : St -> XK} {o e : Expr} {es : List Expr} {F G : ME} {A : MA} {pos : Pos}
theorem qF {ρ : List Addr} {H : Hp} {h : AH} {d : D} {v : V} (w : Wd K mg ρ h H) (r : RelD K mg ρ H d v) (q : jT h d = true) : tyV K "list" v H := by
 cases r with
 |
  ref ea =>
  obtain ⟨xs, e⟩ := Option.isSome_iff_exists.mp q
  obtain ⟨vs, h1, _⟩ := bE w ea e
  exact .inl ⟨rfl, vs, h1⟩
 | _ => cases q
theorem de_m {name : Str} {id : String} {apos cpos : Pos} {r : V -> List V -> Hp -> VK -> Prop} {g : D -> List D -> AH -> R D} (hK : X.K = K) (slot : Slot "list" name id) (hty : typeOf (.builtin id) = pure (.type "method_descriptor")) (hm : MtM X id r) (hd : MtD K mg r g) (ho : DE K mg X ES o F) (ha : DA K mg X ES (e :: es) A)
  (hbase : attributeBase o name X.env (eval o X.env) = eval o X.env := by rfl)
  (hfew : ((backTo cpos (starEach (e :: es) X.env)).all (fun x => !x.1) && (backToKw cpos (keywordEach [] X.env)).all (fun x => x.1.isSome)
   && decide ((e :: es).length + ([] : List Keyword).length + (if ([] : List Keyword).isEmpty then 0 else 1) < 30)) = true := by rfl)
  (hline : (apos.endLine == cpos.line) = true := by rfl) (hs : starEach (e :: es) X.env = (false, eval e X.env) :: starEach es X.env := by rfl) (hplain : (backTo cpos (starEach es X.env)).any (·.1) = false := by rfl) :
  DE K mg X ES (.Call (.Attribute o name apos) (e :: es) [] cpos) (eM g F A) := by
 subst hK
 refine PE.imp (Cs PySem.F.plainAttrs_list slot hty hm ho ha hbase hfew hline hs hplain) fun σ H Q q_ => q_.el fun ρ h ae w re p => ⟨ρ, h, ae, w, re, p.bind.imp fun dx h1 ρ1 H1 l1 w1 p1 x rx => ?_⟩
 split at p1
 ·rename_i hl
  exact ⟨qF w1 rx hl, ρ1, h1, ae, w1, re.mono l1, p1.bind.imp fun ds h2 ρ2 H2 l2 w2 p2 vs rs => hd ρ2 h2 H2 dx ds x vs Q _ w2 (rx.mono l2) rs p2⟩
 ·exact p1.elim
end
noncomputable def jH (h : AH) (d : D) (f : Nat -> List D -> R D) : R D := match d with
 | .ref n => match h[n]? with
  | some (.lst xs) => f n xs
  | _ => .stuck
 | _ => .stuck
noncomputable def ja : D -> List D -> AH -> R D := fun x ds h => jH h x fun n xs => match ds with
 | [d] => if xs.length < 16777216 then .ok .non (h.set n (.lst (xs ++ [d]))) else .stuck
 | _ => .stuck
section
variable {K : PySem.W.Frag} {mg : Str -> Option Value} {X : Cx} {ρ : List Addr} {H : Hp} {h : AH}
theorem
    qL {Q : VK} {E : XK} {d : D} {v : V} {f : Nat -> List D -> R D} (w : Wd K mg ρ h H) (r : RelD K mg ρ H d v) (p : cZ K mg ρ H Q E (jH h d f)) :
  ∃ n xs a vs, d = .ref n /\ h[n]? = some (.lst xs) /\ ρ[n]? = some a /\ v = .ref a /\ H a = some (.lst vs) /\ RelDs K mg ρ H xs vs /\ cZ K mg ρ H Q E (f n xs) := by
 unfold jH at p
 split at p
 ·cases r with
  |
   ref ea =>
   split at p
   ·rename_i n xs e
    obtain ⟨vs, h1, h2⟩ := w.ob _ _ _ ea e
    exact ⟨_, _, _, vs, rfl, e, ea, rfl, h1, h2, p⟩
   ·exact p.elim
 ·exact p.elim
theorem tM {Q : VK} {E : XK} {n : Nat} {a : Addr} {vs ws : List V} {ys : List D} {d : D} {v : V} (w : Wd K mg ρ h H) (ea : ρ[n]? = some a) (e : H a = some (.lst vs)) (rs : RelDs K mg ρ H ys ws) (rd : RelD K mg ρ H d v) (p : cZ K mg ρ H Q E (.ok d (h.set n (.lst ys)))) : Q v (upd H a (.lst ws)) := by
 have l : Le ρ H ρ (upd H a (.lst ws)) := iZ e iG
 exact p ρ _ l (w.write ea e iG ⟨ws, bz, rs.mono l⟩) v (rd.mono l)
theorem
    rn : MtD K mg kT ja := fun ρ h H dx ds x vs Q E w rx rs p => by
 obtain ⟨n, xs, a, us, rfl, e, ea, rfl, h1, h2, p⟩ := qL w rx p
 split at p
 ·cases rs with
  |
   cons r rs =>
   cases rs
   split at p
   ·rename_i hl
    exact ⟨a, us, _, rfl, rfl, h1, by rw [<- h2.len]; exact hl, tM w ea h1 (h2.append (.cons r .nil)) .non p⟩
   ·exact p.elim
 ·exact p.elim
inductive EqsR (K : PySem.W.Frag) (H : Hp) (y : V) (pd : PyData) : List V -> List Bool -> Prop where
 | nil : EqsR K H y pd [] []
 | cons {x : V} {px : PyData} {xs : List V} {bs : List Bool} (rx : Rep K H x px) (hx : SeqAt.shaped px = true) (r : EqsR K H y pd xs bs) : EqsR K H y pd (x :: xs) (PyData.eqv px pd :: bs)
end
noncomputable def wL (o i v : D) (h : AH) : R Unit := match o, i with
 | .ref n, .int k => match h[n]? with
  | some (.lst xs) => match ixN xs.length k with
   | some j => .ok () (h.set n (.lst (xs.set j v)))
   | none => .stuck
  | _ => .stuck
 | _, _ => .stuck
section
variable {K : PySem.W.Frag} {mg : Str -> Option Value} {X : Cx} {ES : St -> XK} {o i : Expr} {F G : ME} {pos : Pos}
theorem
    wZ : nI K mg pR wL := fun ρ h H do_ di dv o i v Q E w ro ri rv p => by
 unfold wL at p
 split at p
 ·cases
     ro with
  |
   ref ea =>
   cases ri
   split at p
   ·rename_i n k xs e
    split at p
    ·rename_i j ej
     obtain ⟨vs, h1, h2⟩ := w.ob _ _ _ ea e
     have l : Le ρ H ρ (upd H _ (.lst (vs.set j v))) := iZ h1 iG
     exact ⟨_, vs, _, j, rfl, rfl, h1, by rw [<- h2.len]; exact ej, p ρ _ l (w.write ea h1 iG ⟨_, bz, (h2.set rv j).mono l⟩)⟩
    ·exact p.elim
   ·exact p.elim
 ·exact p.elim
theorem ze {t : jB} {f : D -> D -> D -> AH -> R Unit} (ho : DE K mg X ES o F) (hi : DE K mg X ES i G) (hs : nL X t) (hd : nI K mg t f)
  (ha : ∀ v, assign (.Subscript o i pos) X.env v = (do
   let ov <- holding [v] (eval o X.env)
   let iv <- holding [v, ov] (eval i X.env)
   standAt pos
   holding [v, ov, iv] (setItem ov iv v)
   release [v, ov, iv] []) := by intro _; rfl) : DG K mg X ES (.Subscript o i pos) (gS F G f) :=
 PG.imp (zv ho hi hs ha) fun v σ H Q q_ => q_.el fun ρ h ae d w re rd p =>
  ⟨ρ, h, ae, w, re, p.bind.imp fun do_ h1 ρ1 H1 l1 w1 p1 o' ro => ⟨ρ1, h1, ae, w1, re.mono l1, p1.bind.imp fun di h2 ρ2 H2 l2 w2 p2 i' ri =>
   hd ρ2 h2 H2 do_ di d o' i' v _ _ w2 (ro.mono l2) ri ((rd.mono l1).mono l2) (p2.bind.imp fun _ h3 ρ3 H3 l3 w3 p3 => p3 ρ3 H3 Le.refl w3 σ (((re.mono l1).mono l2).mono l3))⟩⟩
end
noncomputable def cutD (xs : List D) (lo hi : Option Int) : List D := (xs.drop (HT.sIx xs.length 0 lo)).take (HT.sIx xs.length xs.length hi - HT.sIx xs.length 0 lo)
abbrev MO := AE -> AH -> R (Option Int)
noncomputable def qh : MO := fun _ h => .ok none h
noncomputable def pV (F : ME) : MO := fun ae h => (F ae h).bind fun d h1 => match d with
 | .int i => .ok (some i) h1
 | _ => .stuck
noncomputable def gSl (x : D) (lo hi : Option Int) (h : AH) : R D := match x with
 | .tup xs => if HT.sIx xs.length 0 lo = 0 /\ HT.sIx xs.length xs.length hi = xs.length then .stuck else .ok (.tup (cutD xs lo hi)) h
 | .ref n => match aV h n with
  | some xs => .ok (.ref h.length) (h ++ [.lst (cutD xs lo hi)])
  | none => .stuck
 | .kl xs => .ok (.ref h.length) (h ++ [.lst (cutD xs lo hi)])
 | _ => .stuck
noncomputable def eSl (F : ME) (L U : MO) : ME := fun ae h => (F ae h).bind fun x h1 => (L ae h1).bind fun lo h2 => (U ae h2).bind fun hi h3 => gSl x lo hi h3
section
variable {K : PySem.W.Frag} {mg : Str -> Option Value} {X : Cx} {ES : St -> XK} {e : Expr} {F : ME} {L U : MO} {lo hi : Option Expr} {pos p2 : Pos}
noncomputable def rdO (K : PySem.W.Frag) (mg : Str -> Option Value) (ES : St -> XK) (F : MO) : TO := fun σ H Q => ∃ ρ h ae, Wd K mg ρ h H /\ RelE K mg ρ H ae σ /\ PostG K mg ρ H (ES σ) (fun o _ ρ' H' => Q o H') (F ae h)
noncomputable def DO (K : PySem.W.Frag) (mg : Str -> Option Value) (X : Cx) (ES : St -> XK) (e : Option Expr) (F : MO) : Prop := PO X e (rdO K mg ES F)
theorem xB : DO K mg X ES none qh := PO.imp wu fun σ H Q ⟨ρ, h, ae, w, re, p⟩ => p ρ H Le.refl w
theorem wC (he : DE K mg X ES e F) : DO K mg X ES (some e) (pV F) := PO.imp (v7 he) fun σ H Q ⟨ρ, h, ae, w, re, p⟩ => ⟨ρ, h, ae, w, re, p.bind.imp fun d h1 ρ1 H1 l1 w1 p1 v rv => by
 split at p1
 ·cases rv; exact ⟨_, rfl, p1 ρ1 H1 Le.refl w1⟩
 ·exact p1.elim⟩
theorem kr {ρ : List Addr} {H : Hp} {xs : List D} {vs : List V} (r : RelDs K mg ρ H xs vs) (lo hi : Option Int) : RelDs K mg ρ H (cutD xs lo hi) (iE vs lo hi) := by
 unfold cutD iE
 rw [<- r.len]
 exact (r.drop _).take _
theorem slK (h : X.K = K) : SlR X (fun x lo hi H Q => rSlL K x lo hi H Q \/ rSlT K x lo hi H Q) := by subst h; exact wK.or AN
theorem
    uY (hK : X.K = K) (he : DE K mg X ES e F) (hl : DO K mg X ES lo L) (hu : DO K mg X ES hi U) : DE K mg X ES (.Subscript e (.Slice lo hi none p2) pos) (eSl F L U) :=
 PE.imp (
     uO (slK hK) he hl hu) fun σ H Q q_ => q_.el fun ρ h ae w re p => ⟨ρ, h, ae, w, re, p.bind.imp fun d h1 ρ1 H1 l1 w1 p1 x rx => ⟨ρ1, h1, ae, w1, re.mono l1, p1.bind.imp fun lo h2 ρ2 H2 l2 w2 p2 => ⟨ρ2, h2, ae, w2, (re.mono l1).mono l2, p2.bind.imp fun hi h3 ρ3 H3 l3 w3 p3 => by
  have rx3 := (rx.mono l2).mono l3
  unfold gSl at p3
  split at p3
  ·split at p3
   ·exact p3.elim
   ·rename_i hn
    cases rx3 with
    | tup q rs => exact .inr ⟨_, _, rfl, q, by rw [<- rs.len]; exact hn, fun l hl => jo w3 (kr rs lo hi) hl p3⟩
  ·split at p3
   ·rename_i xs e1
    cases rx3 with
    |
     ref ea =>
     obtain ⟨vs, q, rs⟩ := bE w3 ea e1
     exact .inl ⟨_, _, rfl, q, fun l hl => dN w3 (kr rs lo hi) hl p3⟩
   ·exact p3.elim
  ·cases rx3 with
   | kl q rs => exact .inl ⟨_, _, rfl, .inr q, fun l hl => dN w3 (kr rs lo hi) hl p3⟩
  ·exact p3.elim⟩⟩⟩
end
section
variable {K : PySem.W.Frag} {mg : Str -> Option Value} {X : Cx} {ES : St -> XK} {a : Expr} {F : ME}
end
end L2
set_option Elab.async false
set_option linter.all false
set_option maxRecDepth 100000
namespace L2
open PySem PySem.Spec PyProof.Rows
section
variable {X : Cx} {pins pins2 pn : List (Addr × Obj)} {σ : St} {H : Hp} {s : Shared} {xe : Value -> Shared -> Prop}
end
section
variable {K : PySem.W.Frag} {mg : Str -> Option Value} {X : Cx} {ES : St -> XK} {x n : Str} {C : Addr} {i : Nat} {body suite : List Stmt} {b₀ : Stmt} {B U : MS} {np hpos pos : Pos} {mro : List Str}
end
structure Script (h : AH) (d : D) (ns : List Int) : Prop where
 form : (∃ n, d = .ref n /\ h[n]? = some (.fz (ns.map D.int))) \/ d = .kl (ns.map D.int)
theorem h9 {K : PySem.W.Frag} {mg : Str -> Option Value} {ρ : List Addr} {H : Hp} : ∀ (ns : List Int), RelDs K mg ρ H (ns.map D.int) (ns.map V.int)
 | [] => .nil
 | _ :: r => .cons (.int _) (h9 r)
theorem sE {P : Program} {w : World} {K : PySem.W.Frag} {mg : Str -> Option Value} {base : Heap} {x y : Str} {k : Nat} {S : Fn} (C : Callee P w K mg base x k [y] (spD K mg 1 S))
  (hS : ∀ (d : D) (h : AH) (ns : List Int), ns.length <= 63 -> Script h d ns -> ∃ h', S [d] h = .ok (.bl true) h') : Callee P w K mg base x k [y] (fun vs H Q _ => ∃ (a : Addr) (ns : List Int), vs = [.ref a] /\ ki H /\ SqL K H a (ns.map V.int) /\ ns.length <= 63 /\ ∀ H', Q (.bl true) H') := by
 refine C.imp fun vs H Q E ⟨a, ns, e, hO, hq, hl, q⟩ => ?_
 subst e
 rcases hq with (hq | ⟨o, hq⟩) | hq
 ·rcases hO a with z | ⟨o, xs, z⟩ <;> rw [hq] at z <;> cases z
 ·obtain ⟨h', e⟩ := hS (.ref 0) [.fz (ns.map D.int)] ns hl ⟨.inl ⟨0, rfl, rfl⟩⟩
  refine ⟨[a], [.fz (ns.map D.int)], [.ref 0], ⟨rfl, by simp, fun n b ob e1 e2 => ?_⟩, .cons (.ref rfl) .nil, rfl, ?_⟩
  ·cases n with
   | zero => cases e1; cases e2; exact ⟨o, _, hq, h9 ns⟩
   | succ n => simp at e1
  ·rw [e]
   exact fun ρ' H' l' w' v rv => by cases rv; exact q H'
 ·obtain ⟨h', e⟩ := hS (.kl (ns.map D.int)) [] ns hl ⟨.inr rfl⟩
  refine ⟨[], [], [.kl (ns.map D.int)], ⟨rfl, by simp, fun n b ob e1 e2 => by simp at e1⟩, .cons (.kl hq (h9 ns)) .nil, rfl, ?_⟩
  rw [e]
  exact fun ρ' H' l' w' v rv => by cases rv; exact q H'
theorem walk_lawD {l : PySem.W.OpenLaw} {q : Program} {loose : List Str} {XP : (Str -> Option Value) -> Heap -> Prop} {YP : World -> Heap -> Prop} {d : DefRec} {K : Params -> PySem.W.Frag} {x : Str} {k : Nat} (hn : l.most = some 63) (hdf : d.params.defaults = []) (hr : Room k callerA)
  (hY : ∀ (w : World) (h : Heap), YP w h -> (K w.params).In h)
  (F : ∀ (w : World) (mg : Str -> Option Value) (h : Heap), (K w.params).In h -> h.Ns mainGlobals mg -> ∀ base : Heap, (K w.params).In base -> base.Ns mainGlobals mg -> Callee l.prog w (K w.params) mg base d.name k [x] (fun vs H Q _ => ∃ (a : Addr) (ns : List Int), vs = [.ref a] /\ ki H /\ SqL (K w.params) H a (ns.map V.int) /\ ns.length <= 63 /\ ∀ H', Q (.bl true) H'))
  (D : ∀ (w : World) (mg : Str -> Option Value) (h : Heap), (K w.params).In h -> h.Ns mainGlobals mg -> ∃ st, Def (K w.params) mg d.name st /\ ∀ (kV doc pm : Value) (an : Option Addr) (cdv ct : Value) (us : List Value), us.length = 1 -> bindArgs (PySem.W.fnOf d.name d.name (cX st) (bR st) (au st) .none kV doc pm an cdv ct) ⟨us, []⟩ = pure ([x].zip us)) :
  PySem.W.WalkO q loose XP YP l.row.toRowW d [] (fun f vs => PySem.call f vs) := by
 refine L2.walk_of (n := 63) (k := k) (x := x) (CX := fun w => CX1 l.prog w) (sp := fun w => fun vs H Q _ => ∃ (a : Addr) (ns : List Int), vs = [.ref a] /\ ki H /\ SqL (K w.params) H a (ns.map V.int) /\ ns.length <= 63 /\ ∀ H', Q (.bl true) H') hn (by decide) hdf hr hY (fun w mg fa h KX G hmg => ?_) (fun _ _ a ns hl hO hS => ⟨a, ns, rfl, hO, hS, hl, fun _ => rfl⟩) fun _ _ _ _ _ ⟨_, _, _, _, _, _, _, _, _, z⟩ => z
 obtain ⟨st, Dd, hbind⟩ := D w mg h KX G
 obtain ⟨f, fd, Ff, m⟩ := Dd.ex
 have e := hmg.symm.trans m
 cases e
 obtain ⟨oc, od, kV, doc, pm, an, cdv, ct, osl, rfl, lk, hcd⟩ := Ff.ex
 refine ⟨_, fun s u => .of_eq (hbind kV doc pm an cdv ct [u] rfl), fun base kb nb => ?_⟩
 obtain ⟨f', fd', F', m', kp', b', oc', od', osl', lk'⟩ := (F w mg h KX G base kb nb).ex
 rw [m] at m'
 cases m'
 rw [lk] at lk'
 cases lk'
 exact F'
end L2
set_option Elab.async false
set_option linter.all false
set_option maxRecDepth 100000
namespace L2
open PySem PySem.Spec PyProof.Rows
mutual
inductive Bel (N : Nat) : D -> Prop where
 | non : Bel N .non
 | bl (b : Bool) : Bel N (.bl b)
 | int (i : Int) : Bel N (.int i)
 | str (x : Str) : Bel N (.str x)
 | ty (n : String) : Bel N (.ty n)
 | glb (x : Str) : Bel N (.glb x)
 | exc (x : Str) : Bel N (.exc x)
 | tup {ds : List D} (r : Bels N ds) : Bel N (.tup ds)
 | ref {n : Nat} (h : n < N) : Bel N (.ref n)
 | kl {ds : List D} (r : Bels N ds) : Bel N (.kl ds)
inductive Bels (N : Nat) : List D -> Prop where
 | nil : Bels N []
 | cons {d : D} {ds : List D} (r : Bel N d) (rr : Bels N ds) : Bels N (d :: ds)
end
noncomputable def uU (N : Nat) : Ob -> Prop
 | .lst xs => Bels N xs
 | .fz xs => Bels N xs
 | .dct kvs => Bels N (kvs.map (·.2))
 | _ => True
section
variable {K : PySem.W.Frag} {mg : Str -> Option Value} {ρ ρ1 ρ2 : List Addr} {H H1 : Hp} {h : AH}
end
inductive Rf (h : AH) : R D -> R D -> Prop where
 | stuck (r : R D) : Rf h r .stuck
 | eq (r : R D) : Rf h r r
 | val {d : D} {h2 g : AH} (hl : h2.length = h.length) (ho : ∀ (n : Nat) (o : Ob), h2[n]? = some o -> h[n]? = some o \/ uU h.length o) (hd : Bel h.length d) : Rf h (.ok d (h2 ++ g)) (.ok d h2)
 | exc {c : Str} {h2 g : AH} (hl : h2.length = h.length) (ho : ∀ (n : Nat) (o : Ob), h2[n]? = some o -> h[n]? = some o \/ uU h.length o) : Rf h (.exc c (h2 ++ g)) (.exc c h2)
 | lst {m : Nat} {h1 h2 : AH} {ys : List D} (hl : h2.length = h.length) (ho : ∀ (n : Nat) (o : Ob), h2[n]? = some o -> h[n]? = some o \/ uU h.length o) (hs : ∀ (n : Nat) (o : Ob), h2[n]? = some o -> h1[n]? = some o) (em : h1[m]? = some (.lst ys)) (hm : h.length <= m) (hy : Bels h.length ys) : Rf h (.ok (.ref m) h1) (.ok (.ref h.length) (h2 ++ [.lst ys]))
section
variable {K : PySem.W.Frag} {mg : Str -> Option Value} {ρ : List Addr} {H : Hp} {h : AH}
end
end L2
set_option Elab.async false
set_option linter.all false
set_option maxRecDepth 100000
namespace L2
open PySem PySem.Spec PyProof.Rows
noncomputable def pA : D -> D -> AH -> R D := gOr (gI fun i j => .int (i + j)) js
noncomputable def tV : D -> D -> AH -> R D := gI fun i j => .int (i - j)
noncomputable def CMulA (i j : Int) : Prop := vS i j \/ CMul i j
noncomputable def tf : D -> D -> AH -> R D := gIc CMulA fun i j => .int (i * j)
noncomputable def uQ : D -> D -> AH -> R D := gIc CDivB fun i j => .int (i.fdiv j)
noncomputable def uG : D -> D -> AH -> R D := gIc (fun _ j => j ≠ 0) fun i j => .int (i.fmod j)
noncomputable def ve : D -> D -> AH -> R D := gIc kI fun i j => .int (i ^ j.toNat)
noncomputable def gLt : D -> D -> AH -> R D := gI fun i j => .bl (decide (i < j))
noncomputable def gGt : D -> D -> AH -> R D := gI fun i j => .bl (decide (j < i))
noncomputable def gGe : D -> D -> AH -> R D := gI fun i j => .bl (decide (j <= i))
noncomputable def pf : D -> AH -> R D := fun x h => match x with
 | .int i => .ok (.int (-i)) h
 | _ => .stuck
noncomputable def pQ (n : Nat) (S : Fn) (A : MA) : ME := eFn (fun ds h => if ds.length = n then S ds h else .stuck) A
section
variable {K : PySem.W.Frag} {mg : Str -> Option Value} {X : Cx}
theorem bL (h : X.K = K) : OpR X (binaryOp .Add) (fun x y H Q => rI0 (fun i j => .int (i + j)) x y H Q \/ (kS x y H Q \/ (iX K x y H Q \/ iL K x y H Q))) := yH.or (catK h)
theorem yx : OpD K mg (fun x y H Q => rI0 (fun i j => .int (i + j)) x y H Q \/ (kS x y H Q \/ (iX K x y H Q \/ iL K x y H Q))) pA := (iw fun _ _ _ _ => .int _).or xy
theorem ye : OpD K mg (rI0 fun i j => .int (i - j)) tV := iw fun _ _ _ _ => .int _
theorem bt : OpR X (binaryOp .Mult) (rI CMulA fun i j => .int (i * j)) := by
 intro pins s σ H x y v u Q I rx ry h
 obtain ⟨i, j, e1, e2, hc, q⟩ := h
 rcases hc with hc | hc
 ·exact xn pins s σ H x y v u Q I rx ry ⟨i, j, e1, e2, hc, q⟩
 ·exact zD pins s σ H x y v u Q I rx ry ⟨i, j, e1, e2, hc, q⟩
theorem AY : OpD K mg (rI CMulA fun i j => .int (i * j)) tf := lU fun _ _ _ _ => .int _
theorem AZ : OpD K mg (rI CDivB fun i j => .int (i.fdiv j)) uQ := lU fun _ _ _ _ => .int _
theorem yo : OpD K mg (rI (fun _ j => j ≠ 0) fun i j => .int (i.fmod j)) uG := lU fun _ _ _ _ => .int _
theorem Aj : OpD K mg (rI kI fun i j => .int (i ^ j.toNat)) ve := lU fun _ _ _ _ => .int _
theorem BW : OpD K mg (rI0 fun i j => .bl (decide (i < j))) gLt := iw fun _ _ _ _ => .bl _
theorem DR : OpD K mg (rI0 fun i j => .bl (decide (j < i))) gGt := iw fun _ _ _ _ => .bl _
theorem C4 : OpD K mg (rI0 fun i j => .bl (decide (j <= i))) gGe := iw fun _ _ _ _ => .bl _
theorem yt : UnD K mg (rU fun i => .int (-i)) pf := fun ρ h H dx x Q E w rx p => by
 unfold pf at p
 split at p
 ·cases rx; exact ⟨_, rfl, aR w (.int _) p⟩
 ·exact p.elim
variable {ES : St -> XK} {e : Expr} {es : List Expr} {A : MA} {pos : Pos}
theorem tH {x : Str} {p : Pos} {k n : Nat} {ps : List Str} {S : Fn} (C : Callee X.prog X.w X.K X.mg X.base x k ps (spD K mg n S)) (hr : Room k X.A) (hg : Gl X x) (hx : j9 X ES) (ha : DA K mg X ES (e :: es) A)
  (hdb : (x == ("__debug__" : Str)) = false := by decide) (he : starEach (e :: es) X.env = (false, eval e X.env) :: starEach es X.env := by rfl) (hpl : (backTo pos (starEach es X.env)).any (·.1) = false := by rfl) :
  DE K mg X ES (.Call (.Name x p) (e :: es) [] pos) (pQ n S A) := v8 C hr hg hx ha hdb he hpl
end
section
variable {ae : AE} {h : AH}
@[simp] theorem eO {α β : Type} (a : α) (h : AH) (f : α -> AH -> R β) : (R.ok a h).bind f = f a h := rfl
end
end L2
set_option Elab.async false
set_option linter.all false
set_option maxRecDepth 100000
namespace L2
open PySem PySem.Spec PyProof.Rows
theorem lg {pd : PyData} (h1 : pd.canLay0 = true) (h2 : pd.depth <= 64) : SeqAt.shaped pd = true := by
 unfold SeqAt.shaped
 rw [h1, decide_eq_true h2]; rfl
noncomputable def Sm (n : Nat) (x : Int) : Prop := x.natAbs < 2 ^ n
theorem Sm.mono {n m : Nat} {x : Int} (h : Sm n x) (l : n <= m) : Sm m x := Nat.lt_of_lt_of_le h (Nat.pow_le_pow_right (by omega) l)
theorem Sm.mul {n m : Nat} {x y : Int} (h : Sm n x) (k : Sm m y) : Sm (n + m) (x * y) := by
 unfold Sm at *
 rw [Int.natAbs_mul, Nat.pow_add]
 exact Nat.mul_lt_mul'' h k
theorem Sm.bits {n : Nat} {x : Int} (h : Sm n x) : Builtin.Int.intBits x <= n := intBits_le_iff.mpr h
theorem Sm.of_le {n : Nat} {x y : Int} (h : Sm n y) (l : x.natAbs <= y.natAbs) : Sm n x := Nat.lt_of_le_of_lt l h
theorem CMulA.of {n m : Nat} {x y : Int} (h : Sm n x) (k : Sm m y) (hn : n <= 100000) (hm : m <= 100000) : CMulA x y := .inl ⟨Nat.le_trans h.bits hn, Nat.le_trans k.bits hm⟩
theorem CMulA.left {x y : Int} (h : -(2 ^ 64) < x) (k : x < 2 ^ 64) : CMulA x y := .inr (.inl ⟨h, k⟩)
theorem CMulA.right {x y : Int} (h : -(2 ^ 64) < y) (k : y < 2 ^ 64) : CMulA x y := .inr (.inr ⟨h, k⟩)
theorem CDivB.of {x y : Int} (h0 : y ≠ 0) (h : Sm 8000 y) : CDivB x y := ⟨h0, h.bits⟩
structure Sz (n : Nat) (q : Rat) : Prop where
 top : Sm n q.num
 bot : Sm n (q.den : Int)
theorem rp {a b : Int} (hb : b ≠ 0) : ((a : Rat) / (b : Rat)).num * b = a * ((a : Rat) / (b : Rat)).den := by
 have h2 := Rat.num_divInt_den ((a : Rat) / (b : Rat))
 have h3 : Rat.divInt ((a : Rat) / (b : Rat)).num (((a : Rat) / (b : Rat)).den : Int) = Rat.divInt a b := by rw [h2, Rat.divInt_eq_div]
 exact (Rat.divInt_eq_divInt_iff (by have := ((a : Rat) / (b : Rat)).den_nz; omega) hb).mp h3
theorem oI (q : Rat) : Int.gcd q.num q.den = 1 := by
 have := q.reduced
 exact this
theorem jR {a b : Int} (hb : b ≠ 0) : Fr.T a b = ((a : Rat) / (b : Rat)).num /\ Fr.B a b = (((a : Rat) / (b : Rat)).den : Int) := by
 refine Fr.uniq (Fr.B_pos hb) (by have := ((a : Rat) / (b : Rat)).den_pos; omega) (Fr.low hb) (oI _) ?_
 have h1 := Fr.cross (a := a) hb
 have h2 := rp (a := a) hb
 generalize ((a : Rat) / (b : Rat)).num = n at *
 generalize (((a : Rat) / (b : Rat)).den : Int) = d at *
 generalize Fr.T a b = x at *
 generalize Fr.B a b = y at *
 have h3 : (x * d) * b = (n * y) * b := by
  calc x * d * b = (x * b) * d := by rw [Int.mul_right_comm]
   _ = a * y * d := by rw [h1]
   _ = (a * d) * y := by rw [Int.mul_right_comm]
   _ = n * b * y := by rw [h2]
   _ = n * y * b := by rw [Int.mul_right_comm]
 exact Int.eq_of_mul_eq_mul_right hb h3
theorem qg {a b : Int} (hb : b ≠ 0) : ((a : Rat) / (b : Rat)).num.natAbs <= a.natAbs := by
 have h := (jR (a := a) hb).1
 rw [<- h]
 have h1 := Fr.T_mul (a := a) hb
 have h2 := Fr.dv_ne (a := a) hb
 have h3 : (Fr.T a b).natAbs * (Fr.dv a b).natAbs = a.natAbs := by rw [<- Int.natAbs_mul, h1]
 have h4 : 1 <= (Fr.dv a b).natAbs := by omega
 calc (Fr.T a b).natAbs = (Fr.T a b).natAbs * 1 := by omega
  _ <= (Fr.T a b).natAbs * (Fr.dv a b).natAbs := Nat.mul_le_mul_left _ h4
  _ = a.natAbs := h3
theorem pC {a b : Int} (hb : b ≠ 0) : ((((a : Rat) / (b : Rat)).den : Int)).natAbs <= b.natAbs := by
 have h := (jR (a := a) hb).2
 rw [<- h]
 have h1 := Fr.B_mul (a := a) hb
 have h2 := Fr.dv_ne (a := a) hb
 have h3 : (Fr.B a b).natAbs * (Fr.dv a b).natAbs = b.natAbs := by rw [<- Int.natAbs_mul, h1]
 have h4 : 1 <= (Fr.dv a b).natAbs := by omega
 calc (Fr.B a b).natAbs = (Fr.B a b).natAbs * 1 := by omega
  _ <= (Fr.B a b).natAbs * (Fr.dv a b).natAbs := Nat.mul_le_mul_left _ h4
  _ = b.natAbs := h3
theorem Sz.div {n m : Nat} {a b : Int} (hb : b ≠ 0) (ha : Sm n a) (hb' : Sm m b) (k : Nat) (h1 : n <= k) (h2 : m <= k) : Sz k ((a : Rat) / (b : Rat)) :=
 ⟨(ha.of_le (qg hb)).mono h1, (hb'.of_le (pC hb)).mono h2⟩
theorem gh (q : Rat) : (q.den : Int) ≠ 0 := by have := q.den_nz; omega
theorem og (q : Rat) : q = (q.num : Rat) / ((q.den : Int) : Rat) := by
 have := Rat.num_divInt_den q
 rw [Rat.divInt_eq_div] at this
 exact this.symm
theorem qE {b : Int} (h : b ≠ 0) : (b : Rat) ≠ 0 := by
 intro z
 exact h (by exact_mod_cast z)
theorem kB (p q : Rat) : p * q = ((p.num * q.num : Int) : Rat) / ((p.den * q.den : Int) : Rat) := by
 have h1 := qE (gh p)
 have h2 := qE (gh q)
 conv => lhs; rw [og p, og q]
 simp only [Rat.intCast_mul]
 grind
theorem Sz.mul {n m : Nat} {p q : Rat} (hp : Sz n p) (hq : Sz m q) : Sz (n + m) (p * q) := by
 rw [kB]
 exact Sz.div (by have := gh p; have := gh q; exact Int.mul_ne_zero ‹_› ‹_›) (hp.top.mul hq.top) (hp.bot.mul hq.bot) _ (by omega) (by omega)
theorem oq {q : Rat} : 0 < q.num ↔ 0 < q := by
 have h1 := Rat.num_nonneg (q := q)
 have h2 := Rat.num_eq_zero (q := q)
 constructor
 ·intro h
  refine Rat.lt_of_le_of_ne (h1.mp (by omega)) fun z => ?_
  have := h2.mpr z.symm
  omega
 ·intro h
  have h3 := h1.mpr (Rat.le_of_lt h)
  have h4 : q.num ≠ 0 := fun z => (Rat.ne_of_lt h) (h2.mp z).symm
  omega
section
variable {α β : Type} (ae : AE) (h : AH)
end
noncomputable def Vl (mg : Str -> Option Value) (c : Cl) (u : Value) : Prop := match c with
 | .b n => u = .type n
 | .o x => mg x = some u
theorem CD {K : PySem.W.Frag} {mg : Str -> Option Value} {c d : Cl} {tu cu t v : Value} {b : Bool} (e : PySem.W.kitOne K tu cu = some b) (hc : Vl mg c tu) (hd : Vl mg d cu) (h1 : ClV mg c t) (h2 : ClV mg d v) : PySem.W.kitOne K t v = some b := by
 have f : ∀ {c : Cl} {u t : Value}, Vl mg c u -> ClV mg c t -> u = t := by
  intro c u t h1 h2
  cases c with
  | b n => exact (show u = _ from h1).trans (show t = _ from h2).symm
  |
   o x =>
   obtain ⟨a, rfl, m⟩ := h2
   have h1' : mg x = some u := h1
   rw [m] at h1'
   exact (Option.some.inj h1').symm
 rw [<- f hc h1, <- f hd h2]
 exact e
theorem tU {K : PySem.W.Frag} {mg : Str -> Option Value} : KitsOk K mg [] := ⟨fun p hp => (nomatch hp), fun p hp => (nomatch hp)⟩
theorem aA {K : PySem.W.Frag} {mg : Str -> Option Value} {c d : Cl} {tu cu : Value} {b : Bool} {kt : dF} (e : PySem.W.kitOne K tu cu = some b) (hc : Vl mg c tu) (hd : Vl mg d cu) (hx : ∀ x C, c = .o x -> mg x = some (.ref C) -> XCls K C) (r : KitsOk K mg kt) : KitsOk K mg ((c, d, b) :: kt) :=
 ⟨fun p hp t v h1 h2 => by
  rcases List.mem_cons.mp hp with rfl | hp
  ·exact CD e hc hd h1 h2
  ·exact r.one p hp t v h1 h2, fun p hp x C e' m => by
  rcases List.mem_cons.mp hp with rfl | hp
  ·exact hx x C e' m
  ·exact r.xc p hp x C e' m⟩
theorem aW {K : PySem.W.Frag} {mg : Str -> Option Value} {n : String} : ∀ x C, Cl.b n = .o x -> mg x = some (.ref C) -> XCls K C := fun _ _ e => nomatch e
end L2
set_option Elab.async false
set_option linter.all false
set_option maxRecDepth 100000
namespace L2
open PySem PySem.Spec PyProof.Rows
theorem sH {P : Program} {w : World} {H : Hp} (h : Heap) (hb : sysModules < h.objs.size) : ObjOk P w H (h.push { cls := .type "dict", data := .dict #[] }) h.objs.size (.dK []) :=
 ⟨Nat.zero_le _, beq_eq_false_iff_ne.mpr (Ne.symm (Nat.ne_of_lt hb)), [], .nil, Heap.DictOf.new h⟩
theorem Inv.big {X : Cx} {pins : List (Addr × Obj)} {σ : St} {H : Hp} {s : Shared} (I : Inv X pins σ H s) : sysModules < s.heap.objs.size := by
 have h : mainGlobals < s.heap.objs.size := (I.mod.glob.keeps I.bk).lt
 exact Nat.lt_trans (by decide) h
section
variable {K : PySem.W.Frag} {mg : Str -> Option Value} {X : Cx} {ES : St -> XK} {pos : Pos}
end
end L2
set_option Elab.async false
set_option linter.all false
set_option maxRecDepth 100000
set_option maxHeartbeats 1000000
namespace L2
open PySem PySem.Spec PyProof.Rows
variable {K : PySem.W.Frag} {mg : Str -> Option Value}
end L2
set_option Elab.async false
set_option linter.all false
set_option maxRecDepth 100000
namespace L2
open PySem PySem.Spec PyProof.Rows
section
variable {K : PySem.W.Frag} {mg : Str -> Option Value} {X : Cx} {ES : St -> XK} {e : Expr} {es : List Expr} {A : MA} {pos : Pos}
end
end L2
set_option Elab.async false
set_option linter.all false
set_option maxRecDepth 100000
namespace L2
open PySem PySem.Spec PyProof.Rows
section
variable {K : PySem.W.Frag} {mg : Str -> Option Value} {X : Cx} {ES : St -> XK} {e a b c o lo hi : Expr} {F G L U : ME} {pos p2 : Pos} {ρ : List Addr} {H : Hp} {h : AH} {ae : AE}
end
end L2
set_option Elab.async false
set_option linter.all false
set_option maxRecDepth 100000
namespace L2
open PySem PySem.Spec PyProof.Rows
section
variable {κ : Type} [DecidableEq κ]
noncomputable def da (kvs : List (κ × V)) (k : κ) : Option V := (kvs.find? fun kv => decide (kv.1 = k)).map (·.2)
noncomputable def b9 (kvs : List (κ × V)) (k : κ) (v : V) : List (κ × V) :=
 if (kvs.any fun kv => decide (kv.1 = k)) = true then kvs.map (fun kv => if kv.1 = k then (kv.1, v) else kv) else kvs ++ [(k, v)]
theorem jv {p : κ × V} {r : List (κ × V)} {k : κ} (e : p.1 = k) : da (p :: r) k = some p.2 := by simp [da, List.find?_cons, e]
theorem jA {p : κ × V} {r : List (κ × V)} {k : κ} (e : ¬ p.1 = k) : da (p :: r) k = da r k := by simp [da, List.find?_cons, e]
theorem jr (k : κ) : ∀ kvs : List (κ × V), (kvs.any fun kv => decide (kv.1 = k)) = (da kvs k).isSome
 | [] => rfl
 |
  p :: r => by
  rw [List.any_cons]
  by_cases e : p.1 = k
  ·simp only [jv e, decide_eq_true e, Bool.true_or, Option.isSome_some]
  ·rw [jA e, decide_eq_false e, Bool.false_or]; exact jr k r
theorem fM (kvs : List (κ × V)) (k : κ) (v : V) : (b9 kvs k v).length <= kvs.length + 1 := by
 unfold b9
 split
 ·rw [List.length_map]; omega
 ·rw [List.length_append, List.length_cons, List.length_nil]; omega
theorem tW {kvs : List (κ × V)} {k : κ} (v : V) (h : da kvs k = none) : b9 kvs k v = kvs ++ [(k, v)] := by
 unfold b9
 rw [jr, h]
 exact if_neg (by decide)
theorem RelO.isSome_eq {o : Option V} {u : Option Value} (r : RelO o u) : o.isSome = u.isSome := by
 cases o with
 | none => cases u with
  | none => rfl
  | some _ => exact (show False from r).elim
 | some _ => cases u with
  | none => exact (show False from r).elim
  | some _ => rfl
theorem KV.val {kvs : List (κ × V)} {vs : List (κ × Value)} (r : KV kvs vs) (k : κ) : RelO (da kvs k) (valueAt vs k) := by
 unfold KV at r
 induction r with
 | nil => exact True.intro
 |
  @cons p q ps qs h t ih =>
  obtain ⟨h1, h2⟩ := h
  by_cases e : p.1 = k
  ·have e' : q.1 = k := h1.symm.trans e
   have b : valueAt (q :: qs) k = some q.2 := by simp [valueAt, List.find?_cons, e']
   rw [jv e, b]; exact h2
  ·have e' : ¬ q.1 = k := fun z => e (h1.trans z)
   have b : valueAt (q :: qs) k = valueAt qs k := by simp [valueAt, List.find?_cons, e']
   rw [jA e, b]; exact ih
theorem KV.any {kvs : List (κ × V)} {vs : List (κ × Value)} (r : KV kvs vs) (k : κ) : (kvs.any fun kv => decide (kv.1 = k)) = vs.any fun kv => decide (kv.1 = k) := by
 unfold KV at r
 induction r with
 | nil => rfl
 | cons h t ih => rw [List.any_cons, List.any_cons, ih, h.1]
theorem KV.repl {kvs : List (κ × V)} {vs : List (κ × Value)} (r : KV kvs vs) (k : κ) {y : V} {u : Value} (ry : RelV y u) :
  KV (kvs.map fun kv => if kv.1 = k then (kv.1, y) else kv) (vs.map fun kv => if kv.1 = k then (kv.1, u) else kv) := by
 unfold KV at r ⊢
 induction r with
 | nil => exact .nil
 |
  @cons p q ps qs h t ih =>
  rw [List.map_cons, List.map_cons]
  refine .cons ?_ ih
  obtain ⟨h1, h2⟩ := h
  by_cases e : p.1 = k
  ·rw [if_pos e, if_pos (h1.symm.trans e)]; exact ⟨h1, ry⟩
  ·rw [if_neg e, if_neg (fun z => e (h1.trans z))]; exact ⟨h1, h2⟩
theorem KV.put {kvs : List (κ × V)} {vs : List (κ × Value)} (r : KV kvs vs) (k : κ) {y : V} {u : Value} (ry : RelV y u) : KV (b9 kvs k y) (stored vs k u) := by
 unfold b9 stored
 rw [r.any k]
 by_cases e : (vs.any fun kv => decide (kv.1 = k)) = true
 ·rw [if_pos e, if_pos e]; exact r.repl k ry
 ·rw [if_neg e, if_neg e]; exact Paired.snoc r ⟨rfl, ry⟩
theorem KV.length {kvs : List (κ × V)} {vs : List (κ × Value)} (r : KV kvs vs) : kvs.length = vs.length := Paired.length r
end
theorem l8 {P : Program} {w : World} {k : Key} {u : Value} (r : RelV (kV k) u) : (bA P w).is k u = true := by
 cases k with
 | inl i => obtain ⟨t, e⟩ := (show ∃ t, u = Value.int i t from r); subst e; exact n9 P w i t
 | inr x => obtain ⟨t, e⟩ := (show ∃ t, u = Value.str x t from r); subst e; exact nY P w x t
theorem lI {P : Program} {w : World} : ∀ {ks : List Key} {us : List Value}, Vals (ks.map kV) us -> ItemsAre (bA P w) ks us
 | [], _, r => by rw [List.map_nil] at r; cases r; exact .nil
 |
  k :: ks, _, r => by
  rw [List.map_cons] at r
  cases r with
  | cons h t => exact .cons (l8 h) (lI t)
abbrev KT (H : Hp) : List (List Key × V) -> List (List Key × Addr × Value) -> Prop := Paired fun p q => p.1 = q.1 /\ H q.2.1 = some (.tup (p.1.map kV)) /\ RelV p.2 q.2.2
theorem KT.val {H : Hp} {kvs : List (List Key × V)} {xs : List (List Key × Addr × Value)} (r : KT H kvs xs) (k : List Key) : RelO (da kvs k) ((atKey xs k).map (·.2)) := by
 induction r with
 | nil => exact True.intro
 |
  @cons p q ps qs h t ih =>
  obtain ⟨h1, _, h2⟩ := h
  by_cases e : p.1 = k
  ·have e' : q.1 = k := h1.symm.trans e
   have b : atKey (q :: qs) k = some q.2 := by simp [atKey, List.find?_cons, e']
   rw [jv e, b]; exact h2
  ·have e' : ¬ q.1 = k := fun z => e (h1.trans z)
   have b : atKey (q :: qs) k = atKey qs k := by simp [atKey, List.find?_cons, e']
   rw [jA e, b]; exact ih
theorem KT.repl {H : Hp} {kvs : List (List Key × V)} {xs : List (List Key × Addr × Value)} (r : KT H kvs xs) (k : List Key) {y : V} {u : Value} (ry : RelV y u) :
  KT H (kvs.map fun kv => if kv.1 = k then (kv.1, y) else kv) (xs.map (putAt k u)) := by
 induction r with
 | nil => exact .nil
 |
  @cons p q ps qs h t ih =>
  rw [List.map_cons, List.map_cons]
  refine .cons ?_ ih
  obtain ⟨h1, h2, h3⟩ := h
  unfold putAt
  by_cases e : p.1 = k
  ·rw [if_pos e, if_pos (h1.symm.trans e)]; exact ⟨h1, h2, ry⟩
  ·rw [if_neg e, if_neg (fun z => e (h1.trans z))]; exact ⟨h1, h2, h3⟩
theorem KT.put {H : Hp} {kvs : List (List Key × V)} {xs : List (List Key × Addr × Value)} (r : KT H kvs xs) (k : List Key) {b : Addr} {y : V} {u : Value} (hb : H b = some (.tup (k.map kV))) (ry : RelV y u) :
  KT H (b9 kvs k y) (storedH xs k b u) := by
 have e : (kvs.any fun kv => decide (kv.1 = k)) = (atKey xs k).isSome := by
  rw [jr, (r.val k).isSome_eq, Option.isSome_map]
 unfold b9 storedH
 rw [e]
 by_cases q : (atKey xs k).isSome = true
 ·rw [if_pos q, if_pos q]; exact r.repl k ry
 ·rw [if_neg q, if_neg q]; exact Paired.snoc r ⟨rfl, hb, ry⟩
theorem KT.keeps {H H' : Hp} {kvs : List (List Key × V)} {xs : List (List Key × Addr × Value)} (r : KT H kvs xs) (ht : ∀ b ys, H b = some (.tup ys) -> H' b = some (.tup ys)) : KT H' kvs xs :=
 Paired.mapP r fun _ _ z => ⟨z.1, ht _ _ z.2.1, z.2.2⟩
section
variable {P : Program} {w : World} {H : Hp} {h : Heap} {a : Addr}
theorem vE {u : HO} (ok : HOk P w H h) (e : Rd H a u) : ObjOk P w H h a u := e.ok ok
theorem pS {kvs : List (Key × V)} (ok : HOk P w H h) (e : Rd H a (.dK kvs)) : kvs.length <= sizeLine /\ (a == sysModules) = false /\ ∃ vs, KV kvs vs /\ h.DictOf (bA P w) a vs :=
 show ObjOk P w H h a (.dK kvs) from vE ok e
theorem vy {kvs : List (Key × V)} (ok : HOk P w H h) (e : H a = some (.dK kvs)) : kvs.length <= sizeLine /\ (a == sysModules) = false /\ ∃ vs, KV kvs vs /\ h.DictOf (bA P w) a vs := pS ok (.inl e)
theorem mH {ks : List Key} (ok : HOk P w H h) (e : H a = some (.tup (ks.map kV))) : (tupleKind (bA P w)).is h ks a := by
 obtain ⟨_, its, r, o, h1, h2, n, h3⟩ := (show ObjOk P w H h a (.tup (ks.map kV)) from ok a _ e)
 exact ⟨o, its.toArray, n, h1, h2, h3, by simpa using lI r⟩
theorem
    pe {kvs : List (List Key × V)} (ok : HOk P w H h) (e : Rd H a (.dT kvs)) : kvs.length <= sizeLine /\ (a == sysModules) = false /\
  ∃ xs, KT H kvs xs /\ h.DictOfH (tupleKind (bA P w)) a xs := by
 obtain ⟨z, y, xs, r, o, es, ep, h1, h2, h3, h4, h5⟩ := (show ObjOk P w H h a (.dT kvs) from vE ok e)
 refine ⟨z, y, xs, r, o, es, ep, h1, h2, h3, h4, fun x hx => ?_, h5⟩
 have all : ∀ {l : List (List Key × V)} {m : List (List Key × Addr × Value)}, KT H l m -> ∀ x ∈ m, (tupleKind (bA P w)).is h x.1 x.2.1 := by
  intro l m q
  induction q with
  | nil => intro x hx; exact nomatch hx
  |
   @cons p q ps qs hq t ih =>
   intro x hx
   rcases List.mem_cons.mp hx with e | hx
   ·subst e
    exact mH ok (by rw [<- hq.1]; exact hq.2.1)
   ·exact ih x hx
 exact all r x hx
theorem BP {kvs : List (List Key × V)} (ok : HOk P w H h) (e : H a = some (.dT kvs)) : kvs.length <= sizeLine /\ (a == sysModules) = false /\
  ∃ xs, KT H kvs xs /\ h.DictOfH (tupleKind (bA P w)) a xs := pe ok (.inl e)
end
noncomputable def DGet (H : Hp) (a : Addr) (y : V) (r : Option V) : Prop :=
 (∃ kvs k, Rd H a (.dK kvs) /\ y = kV k /\ r = da kvs k) \/ ∃ kvs k b, Rd H a (.dT kvs) /\ y = .ref b /\ H b = some (.tup (k.map kV)) /\ r = da kvs k
noncomputable def DPut (H : Hp) (a : Addr) (y v : V) (H' : Hp) : Prop :=
 (∃ kvs k, H a = some (.dK kvs) /\ y = kV k /\ kvs.length < sizeLine /\ H' = upd H a (.dK (b9 kvs k v))) \/
 ∃ kvs k b, H a = some (.dT kvs) /\ y = .ref b /\ H b = some (.tup (k.map kV)) /\ kvs.length < sizeLine /\ H' = upd H a (.dT (b9 kvs k v))
theorem DGet.k {H : Hp} {a : Addr} {kvs : List (Key × V)} {k : Key} (e : H a = some (.dK kvs)) : DGet H a (kV k) (da kvs k) := .inl ⟨kvs, k, .inl e, rfl, rfl⟩
theorem DPut.k {H : Hp} {a : Addr} {kvs : List (Key × V)} {k : Key} {v : V} (e : H a = some (.dK kvs)) (hl : kvs.length < sizeLine) : DPut H a (kV k) v (upd H a (.dK (b9 kvs k v))) := .inl ⟨kvs, k, e, rfl, hl, rfl⟩
section
variable {X : Cx} {pins : List (Addr × Obj)} {σ : St} {H : Hp} {s : Shared} {a : Addr} {y v : V} {u r : Value} {o : Option V} {A : Around} {E : Value -> Shared -> Prop}
theorem sg {Q : Value -> Shared -> Prop} (hu : A.units + 1 < cLine) (I : Inv X pins σ H s) (g : DGet H a y (some v)) (ry : RelV y u) (h : ∀ w' s', Inv X pins σ H s' -> RelV v w' -> Q w' s') :
  wpAny (model X.prog X.w) A (getItem (.ref a) u) Q E s := by
 rcases g with ⟨kvs, k, e, ey, l⟩ | ⟨kvs, k, b, e, ey, eb, l⟩
 ·subst ey
  obtain ⟨z, hd, vs, rel, dd⟩ := pS I.hok e
  obtain ⟨w', hw, rw'⟩ := RelO.some_of (v := v) (o := valueAt vs k) (by rw [l]; exact rel.val k)
  exact wpAny_getItem_of (l8 ry) dd.mapOf hw (h w' _ (I.tok _) rw')
 ·subst ey
  cases (show u = Value.ref b from ry)
  obtain ⟨z, hd, xs, rel, dd⟩ := pe I.hok e
  obtain ⟨w', hw, rw'⟩ := RelO.some_of (v := v) (o := (atKey xs k).map (·.2)) (by rw [l]; exact rel.val k)
  obtain ⟨p, hp, hp2⟩ := Option.map_eq_some_iff.mp hw
  refine wpAny_getItem_heap (tupleKind_room_in1 hu) (mH I.hok eb) dd hp ?_
  rw [hp2]
  exact h w' _ (I.tok _) rw'
theorem kP {h' : Heap} {t' : Nat} {ob : HO} (I : Inv X pins σ H s) (mu : Mut (H a)) (hs : Heap.SameBut a s.heap h') (he : ∃ q, h'.get? a = some q) (new : ObjOk X.prog X.w (upd H a ob) h' a ob) :
  Inv X pins σ (upd H a ob) { s with heap := h', toks := t' } :=
 I.write (x := a) (e := a) mu (.inl rfl) (fun b q hb z => (hs.2 b hb).trans z) he new
theorem sC {P : Program} {w : World} {H' : Hp} {h' : Heap} {kvs : List (Key × V)} {vs : List (Key × Value)} (z : kvs.length <= sizeLine) (hd : (a == sysModules) = false) (rel : KV kvs vs) (dd : h'.DictOf (bA P w) a vs) :
  ObjOk P w H' h' a (.dK kvs) := ⟨z, hd, vs, rel, dd⟩
theorem rE {H' : Hp} {Q : Unit -> Shared -> Prop} (hu : A.units + 1 < cLine) (I : Inv X pins σ H s) (g : DPut H a y v H') (ry : RelV y u) (rv : RelV v r) (h : ∀ s', Inv X pins σ H' s' -> Q () s') :
  wpAny (model X.prog X.w) A (setItem (.ref a) u r) Q E s := by
 rcases g with ⟨kvs, k, e, ey, l, eH⟩ | ⟨kvs, k, b, e, ey, eb, l, eH⟩
 ·subst ey eH
  obtain ⟨z, hd, vs, rel, dd⟩ := vy I.hok e
  have hz : vs.length <= sizeLine := by rw [<- rel.length]; exact z
  have hl : (b9 kvs k v).length <= sizeLine := by have := fM kvs k v; omega
  refine wpAny_setItem_pairs (hsz := hz) (l8 ry) dd fun h' dd' hs => h _ ?_
  have he : ∃ q, h'.get? a = some q := let ⟨q, _, _, hq, _⟩ := dd'; ⟨q, hq⟩
  exact kP I (by rw [e]; exact True.intro) hs he (sC hl hd (rel.put k rv) dd')
 ·subst ey eH
  cases (show u = Value.ref b from ry)
  obtain ⟨z, hd, xs, rel, dd⟩ := BP I.hok e
  have hz : xs.length <= sizeLine := by rw [<- Paired.length rel]; exact z
  have hl : (b9 kvs k v).length <= sizeLine := by have := fM kvs k v; omega
  refine wpAny_setItem_heap (hsz := hz) (tupleKind_room_in1 hu) (mH I.hok eb) dd fun h' dd' hs => h _ ?_
  obtain ⟨q, es, ep, hq, h2, h3, h4, _, h5⟩ := dd'
  refine kP I (by rw [e]; exact True.intro) hs ⟨q, hq⟩ ⟨hl, hd, _, (rel.put k eb rv).keeps fun c ys ec => ?_, q, es, ep, hq, h2, h3, h4, h5⟩
  rw [aC (Ck ec e (fun z => nomatch z))]
  exact ec
end
section
variable {X : Cx} {pins : List (Addr × Obj)} {σ : St} {H : Hp} {s : Shared} {a : Addr} {kvs : List (Key × V)} {k : Key} {u : Value} {A : Around} {E : Value -> Shared -> Prop}
end
noncomputable def pE (i : Expr) : Prop := ∀ ov iv, subscripted i false ov iv = operate [ov, iv] (getItem ov iv)
theorem xO {prog : Program} {w : World} {A : Around} {E : Value -> Shared -> Prop} {s : Shared} {env : Env} {value slice : Expr} {pos : Pos} {T id : String} {Q : Value -> Shared -> Prop}
  (hl : typeLookup (.type T) "__getitem__" = pure (some (.builtin id))) (hs : pE slice)
  (h : wpAny (model prog w) A (eval value env) (fun o s₁ => wpAny (model prog w) A (eval slice env) (fun i s₂ => s₂.TypeIs o T /\ wpAny (model prog w) A (getItem o i) Q E s₂) E s₁) E s) :
  wpAny (model prog w) A (eval (.Subscript value slice pos) env) Q E s := by
 refine Subscript_ (wpAny_mono h (fun o s₁ h₁ => wpAny_mono h₁ (fun i s₂ h₂ => ?_) fun _ _ x => x) fun _ _ x => x)
 obtain ⟨hT, h₂⟩ := h₂
 unfold subscriptTail
 refine wpAny_bind ?_
 rw [getitemInPython_of_ne hT.not_modules]
 refine wpAny_bind (wpAny_specialOf hT hl ?_)
 have fin : wpAny (model prog w) A (subscripted slice false o i) (fun r s₃ => wpAny (model prog w) A (letTemporaryGo value o r >>= fun _ => pure r) Q E s₃) E s₂ := by
  rw [hs o i]
  exact wpAny_operating (wpAny_mono h₂ (fun r s₃ h₃ => wpAny_bind (wpAny_letTemporaryGo (wpAny_pure h₃))) fun _ _ x => x)
 first
  | exact wpAny_pure (wpAny_bind fin)
  | exact wpAny_bind (wpAny_pure (wpAny_bind fin))
  | exact wpAny_bind fin
theorem n6 {X : Cx} {pins : List (Addr × Obj)} {σ : St} {H : Hp} {s : Shared} {a : Addr} {y : V} {o : Option V} (I : Inv X pins σ H s) (g : DGet H a y o) : s.TypeIs (.ref a) "dict" := by
 rcases g with ⟨kvs, k, e, _, _⟩ | ⟨kvs, k, b, e, _, _, _⟩
 ·obtain ⟨_, _, vs, _, dd⟩ := pS I.hok e
  exact dd.typeIs
 ·obtain ⟨_, _, xs, _, dd⟩ := pe I.hok e
  exact dd.typeIs
noncomputable def CH (td ty : TE) : TE := fun σ H Q => td σ H fun x H1 => ty σ H1 fun y H2 => ∃ a v, x = .ref a /\ DGet H2 a y (some v) /\ Q v H2
section
variable {X : Cx} {o i e value : Expr} {pos pos' tpos : Pos} {td ty tv : TE}
theorem wa (hu : X.A.units + 1 < cLine) (ho : PE X o td) (hi : PE X i ty) (hs : pE i) : PE X (.Subscript o i pos) (CH td ty) := by
 intro pins s σ H Q I h
 refine xO PySem.F.slot_dict_getitem.lookup hs (thn (ho pins s σ H _ I h) fun u s1 ⟨x, H1, I1, rx, q1⟩ => thn (hi pins s1 σ H1 _ I1 q1) fun iv s2 ⟨y, H2, I2, ry, a, v, ex, g, q2⟩ => ?_)
 subst ex
 obtain rfl : u = Value.ref a := rx
 exact ⟨n6 I2 g, sg hu I2 g ry fun w' s3 I3 rw' => ⟨v, H2, I3, rw', q2⟩⟩
end
section
variable {X : Cx} {pos : Pos}
end
noncomputable def jX : List (TE × TE) -> St -> Hp -> (List (V × V) -> Hp -> Prop) -> Prop
 | [], _, H, Q => Q [] H
 | (tk, tv) :: r, σ, H, Q => tk σ H fun x H1 => tv σ H1 fun y H2 => jX r σ H2 fun ps H3 => Q ((x, y) :: ps) H3
abbrev VV : List (V × V) -> List (Value × Value) -> Prop := Paired fun p q => RelV p.1 q.1 /\ RelV p.2 q.2
noncomputable def PPs (X : Cx) (pos : Pos) (keys : List (Option Expr)) (values : List Expr) (trs : List (TE × TE)) : Prop :=
 ∀
  (pins : List (Addr × Obj)) (s : Shared) (σ : St) (H : Hp) (Q : List (V × V) -> Hp -> Prop), Inv X pins σ H s -> jX trs σ H Q ->
  wpAny (model X.prog X.w) X.A (evalPairs (pairTrees keys values X.env pos)) (fun vs s' => ∃ ps H', Inv X pins σ H' s' /\ VV ps vs /\ Q ps H') X.xe s
theorem xp {X : Cx} {pos : Pos} : PPs X pos [] [] [] := fun pins s σ H Q I h => pairTrees_nil_walk ⟨[], H, I, .nil, h⟩
theorem uo {X : Cx} {pos : Pos} {k v : Expr} {ks : List (Option Expr)} {vs : List Expr} {tk tv : TE} {trs : List (TE × TE)} (hk : PE X k tk) (hv : PE X v tv) (hr : PPs X pos ks vs trs) :
  PPs X pos (some k :: ks) (v :: vs) ((tk, tv) :: trs) := fun pins s σ H Q I h =>
 pairTrees_cons_walk (thn (hk pins s σ H _ I h) fun u s1 ⟨x, H1, I1, rx, q1⟩ => thn (hv pins s1 σ H1 _ I1 q1) fun w2 s2 ⟨y, H2, I2, ry, q2⟩ =>
  thn (hr pins s2 σ H2 _ I2 q2) fun ws s3 ⟨ps, H3, I3, rel, q3⟩ => ⟨(x, y) :: ps, H3, I3, .cons ⟨rx, ry⟩ rel, q3⟩)
noncomputable def eR (kvs more : List (Key × V)) : List (Key × V) := more.foldl (fun acc kv => b9 acc kv.1 kv.2) kvs
theorem KV.merge : ∀ {more : List (Key × V)} {rs : List (Key × Value)} {kvs : List (Key × V)} {vs : List (Key × Value)}, KV more rs -> KV kvs vs -> KV (eR kvs more) (merged vs rs) := by
 intro more rs kvs vs r
 unfold KV at r
 induction r generalizing kvs vs with
 | nil => intro q; exact q
 |
  @cons p q ps qs h t ih =>
  intro r0
  have e : KV (b9 kvs p.1 p.2) (stored vs q.1 q.2) := by
   have := r0.put p.1 h.2
   rw [<- h.1]; exact this
  exact ih e
theorem ie : ∀ (more kvs : List (Key × V)), (eR kvs more).length <= kvs.length + more.length
 | [], kvs => by show kvs.length <= kvs.length + 0; omega
 |
  p :: r, kvs => by
  have h1 := ie r (b9 kvs p.1 p.2)
  have h2 := fM kvs p.1 p.2
  show (eR (b9 kvs p.1 p.2) r).length <= _
  rw [List.length_cons]; omega
theorem jO {P : Program} {w : World} : ∀ {kvs : List (Key × V)} {ws : List (Value × Value)}, VV (kvs.map fun kv => (kV kv.1, kv.2)) ws -> ∃ rs, Carries (bA P w) ws rs /\ KV kvs rs
 | [], _, r => by rw [List.map_nil] at r; cases r; exact ⟨[], True.intro, .nil⟩
 |
  p :: kvs, _, r => by
  rw [List.map_cons] at r
  cases r with
  |
   @cons a b as bs h t =>
   obtain ⟨rs, c, q⟩ := jO (P := P) (w := w) t
   obtain ⟨b1, b2⟩ := b
   exact ⟨(p.1, b2) :: rs, ⟨l8 h.1, rfl, c⟩, .cons ⟨rfl, h.2⟩ q⟩
noncomputable def Cr (trs : List (TE × TE)) : TE := fun σ H Q => ∀ p, H p = none -> jX trs σ (upd H p (.dK [])) fun ps H2 => H2 p = some (.dK []) /\ ∃ kvs : List (Key × V), ps = kvs.map (fun kv => (kV kv.1, kv.2)) /\ kvs.length <= 15 /\ Q (.ref p) (upd H2 p (.dK (eR [] kvs)))
theorem vU {X : Cx} {pos : Pos} {keys : List (Option Expr)} {values : List Expr} {trs : List (TE × TE)} (h : PPs X pos keys values trs) (hall : keys.all (·.isSome) = true) (hl : keys.length = values.length) (h0 : keys ≠ [])
  (h15 : keys.length <= 15) : PE X (.Dict keys values pos) (Cr trs) := by
 intro pins s σ H Q I q
 have hn := I.hok.fresh (Nat.le_refl s.heap.objs.size)
 have I1 := I.laid (a := s.heap.objs.size) (o := .dK []) (h' := s.heap.push { cls := .type "dict", data := .dict #[] }) (t' := s.toks) (fun _ _ q => Heap.get?_push_of_some _ q) (Nat.le_refl _) (sH s.heap I.big)
 refine wpAny_Dict_walk (knd := bA X.prog X.w) hall hl h0 h15 (thn (h pins _ σ _ _ I1 (q _ hn)) fun ws s2 ⟨ps, H2, I2, rel, e, kvs, ep, lk, q2⟩ => ?_)
 subst ep
 obtain ⟨rs, c, rk⟩ := jO (P := X.prog) (w := X.w) rel
 obtain ⟨z, hd, vs0, r0, dd⟩ := vy I2.hok e
 cases r0
 refine ⟨rs, c, dd, fun h' dd' hs => ⟨.ref s.heap.objs.size, _, ?_, rfl, q2⟩⟩
 have hz : (eR [] kvs).length <= sizeLine := by
  have h1 := ie kvs []
  rw [List.length_nil] at h1
  rw [sizeLine_eq]; omega
 have he : ∃ q, h'.get? s.heap.objs.size = some q := let ⟨q, _, _, hq, _⟩ := dd'; ⟨q, hq⟩
 exact kP I2 (by rw [e]; exact True.intro) hs he (sC hz hd (rk.merge .nil) dd')
structure M1 (X : Cx) (o : Expr) (m : Str) (apos : Pos) (e : Expr) (cpos : Pos) : Prop where
 base : attributeBase o m X.env (eval o X.env) = eval o X.env
 few : ((backTo cpos (starEach [e] X.env)).all (fun x => !x.1) && (backToKw cpos (keywordEach [] X.env)).all (fun x => x.1.isSome)
  && decide (([e] : List Expr).length + ([] : List Keyword).length + (if ([] : List Keyword).isEmpty then 0 else 1) < 30)) = true
 line : (apos.endLine == cpos.line) = true
 trees : backTo cpos (starEach [e] X.env) = [(false, eval e X.env)]
structure M2 (X : Cx) (o : Expr) (m : Str) (apos : Pos) (e f : Expr) (cpos : Pos) : Prop where
 base : attributeBase o m X.env (eval o X.env) = eval o X.env
 few : ((backTo cpos (starEach [e, f] X.env)).all (fun x => !x.1) && (backToKw cpos (keywordEach [] X.env)).all (fun x => x.1.isSome)
  && decide (([e, f] : List Expr).length + ([] : List Keyword).length + (if ([] : List Keyword).isEmpty then 0 else 1) < 30)) = true
 line : (apos.endLine == cpos.line) = true
 trees : backTo cpos (starEach [e, f] X.env) = [(false, eval e X.env), (false, eval f X.env)]
section
variable {X : Cx} {pins : List (Addr × Obj)} {σ : St} {H : Hp} {s : Shared} {a : Addr} {y d : V} {u r : Value} {o : Option V} {A : Around} {E : Value -> Shared -> Prop}
end
section
variable {X : Cx} {o e f : Expr} {apos cpos : Pos} {td ty tx : TE}
end
section
variable {X : Cx} {pins : List (Addr × Obj)} {σ : St} {H : Hp} {s : Shared} {a : Addr} {kvs : List (Key × V)} {A : Around} {E : Value -> Shared -> Prop}
end
section
variable {X : Cx} {pins : List (Addr × Obj)} {σ : St} {H : Hp} {s : Shared} {a : Addr} {y : V} {u : Value} {A : Around} {E : Value -> Shared -> Prop}
end
end L2
namespace L2
open PySem PySem.Spec PyProof.Rows
section
variable {prog : Program} {w : World} {A : Around} {E : Value -> Shared -> Prop} {s : Shared}
set_option maxRecDepth 100000 in
theorem kK {l b sl : Addr} {items new : Array Value} {n n2 : Nat} {vl vu : Value} {a c : Nat} {lo hi : Option Int} {Q : Unit -> Shared -> Prop}
  (e : s.heap.get? l = some { cls := .type "list", data := .seq items n }) (e2 : s.heap.get? b = some { cls := .type "list", data := .seq new n2 }) (hne : l ≠ b)
  (hs : s.heap.IsSliceOf sl vl vu .none) (pl : IsPart vl lo) (pu : IsPart vu hi) (hbd : sliceBounds lo hi none items.size = ((a : Int), (c : Int), 1)) (hac : a <= c) (hc : c <= items.size)
  (hsz : items.size + new.size <= sizeLine) (h : Q () { s with heap := s.heap.update l (Obj.mapSeq fun xs => xs.extract 0 a ++ new ++ xs.extract c xs.size) }) :
  wpAny (model prog w) A (setItem (.ref l) (.ref sl) (.ref b)) Q E s := by
 have hl : s.heap.IsList l items := PySem.IsL.isList e
 have hb : s.heap.IsList b new := PySem.IsL.isList e2
 obtain ⟨os, hos, hcs, hds⟩ := id hs
 have hTs : s.TypeIs (.ref sl) "slice" := ⟨os, hos, hcs⟩
 have hstep : ¬ ((rawPart none == rawInt 0) = true) := Bool.false_ne_true
 have hsame : Builtin.List.listSameRef (.ref l) (.ref b) = false := by
  unfold Builtin.List.listSameRef
  exact beq_eq_false_iff_ne.mpr hne
 have hmax : (max (a : Int) (c : Int)).toNat = c := by omega
 have hz' : ((fun xs : Array Value => xs.extract 0 a ++ new ++ xs.extract c xs.size) items).size <= sizeLine + 1 := by
  simp only [Array.size_append, Array.size_extract]
  omega
 unfold setItem
 try with_reducible refine wpAny_holding ?_
 first | refine wpAny_bind (wpAny_pure ?_) | skip
 refine wpAny_bind (wpAny_sequenceKey hl.typeIs (by decide) ?_)
 refine wpAny_bind (wpAny_callSpecial?_slot (name := Str.ofString "__setitem__") hl.typeIs slot_list_setitem
  (wpAny_call_entry slot_list_setitem hl.typeIs entry_list_setitem ?_ (args_list_setitem _ _ _)))
 show wpAny _ _ (Builtin.List.listSubscript? (.ref sl) >>= _) _ _ s
 refine wpAny_bind ?_
 unfold Builtin.List.listSubscript?
 refine wpAny_bind (wpAny_specialOf hTs slice_no_index ?_)
 simp only [Option.isNone_none, if_true]
 refine wpAny_pure ?_
 show wpAny _ _ (typeOf (.ref sl) >>= _) _ _ s
 refine wpAny_bind (wpAny_typeOf hTs ?_)
 first
  | rw [if_neg (by decide)]
  | refine PySem.W.KFB.if_not (by decide) ?_
 rw [listSliceParts_eq]
 refine wpAny_bind (wpAny_bind (wpAny_field hos hds (x := .none) rfl (wpAny_bind (wpAny_listPart .none ?_))))
 rw [if_neg hstep]
 refine wpAny_bind (wpAny_field hos hds (x := vl) rfl (wpAny_bind (wpAny_listPart pl ?_)))
 refine wpAny_bind (wpAny_field hos hds (x := vu) rfl (wpAny_bind (wpAny_listPart pu (wpAny_pure ?_))))
 first
  | simp only [hsame, Bool.false_eq_true, if_false]
  | refine PySem.W.KFB.if_not hsame ?_
  | (
    dsimp only
    rw [if_neg (by rw [hsame]; exact Bool.false_ne_true)])
 refine wpAny_bind (m := Builtin.List.listAllItems (.ref b) "must assign iterable to extended slice") ?_
 unfold Builtin.List.listAllItems
 refine wpAny_bind (wpAny_typeOf hb.typeIs ?_)
 first
  | refine PySem.W.KFB.if_so (by decide) ?_
  | rw [if_pos (by decide)]
  | simp only [beq_self_eq_true, Bool.true_or, if_true]
 unfold Builtin.List.listItems
 refine wpAny_bind (wpAny_seqItems e2 rfl (wpAny_pure ?_))
 refine wpAny_bind (wpAny_bind (wpAny_seqItems e rfl (wpAny_pure ?_)))
 refine wpAny_bind (wpAny_of_eq ((sliceIndices_raw lo hi none items.size (by simp)).trans (congrArg (pure : Int × Int × Int -> Sem (Int × Int × Int)) hbd)) ?_)
 show wpAny _ _ (if ((1 : Int) == 1) = true then _ else _) _ _ s
 rw [if_pos (by decide)]
 refine wpAny_bind (wpAny_rule ?_)
 first
  | simp only [ng hsz, Bool.false_eq_true, if_false]
  | refine PySem.W.KFB.if_not (ng hsz) ?_
 first | refine wpAny_bind (wpAny_pure ?_) | skip
 show wpAny _ _ (updateSeq l (fun xs => xs.extract 0 ((a : Int)).toNat ++ new ++ xs.extract (max (a : Int) (c : Int)).toNat xs.size) >>= _) _ _ s
 rw [hmax, Int.toNat_natCast]
 refine wpAny_bind (wpAny_updateSeq (hz := Nat.le_trans (Nat.le_add_right _ _) hsz) (_hz' := hz') e rfl ?_)
 refine wpAny_bind (wpAny_letGo ?_)
 first
  | exact wpAny_bind (wpAny_pure (wpAny_pure ⟨.none, rfl, wpAny_pure h⟩))
  | exact wpAny_pure ⟨.none, rfl, wpAny_pure h⟩
end
end L2
set_option Elab.async false
set_option linter.all false
set_option maxRecDepth 100000
namespace L2
open PySem PySem.Spec PyProof.Rows
section
variable {κ α : Type} [DecidableEq κ]
noncomputable def lkD (kvs : List (κ × α)) (k : κ) : Option α := (kvs.find? fun kv => decide (kv.1 = k)).map (·.2)
noncomputable def gX (kvs : List (κ × α)) (k : κ) (v : α) : List (κ × α) := if (kvs.any fun kv => decide (kv.1 = k)) = true then kvs.map fun kv => if kv.1 = k then (kv.1, v) else kv else kvs ++ [(k, v)]
end
section
variable {K : PySem.W.Frag} {mg : Str -> Option Value} {ρ : List Addr} {H : Hp}
theorem
    xM {k : Key} {d : D} : ∀ {kvs : List (Key × D)} {ws : List (Key × V)}, ws.map (·.1) = kvs.map (·.1) -> RelDs K mg ρ H (kvs.map (·.2)) (ws.map (·.2)) -> lkD kvs k = some d -> ∃ v, da ws k = some v /\ RelD K mg ρ H d v := by
 intro kvs
 induction kvs with
 | nil => intro ws e r q; cases q
 |
  cons p kvs ih =>
  intro ws e r q
  cases ws with
  | nil => cases e
  |
   cons w ws =>
   obtain ⟨k1, d1⟩ := p
   obtain ⟨k2, v2⟩ := w
   rw [List.map_cons, List.map_cons] at e
   injection e with e1 e2
   dsimp only at e1
   subst e1
   cases r with
   |
    cons r rr =>
    unfold lkD at q
    unfold da
    rw [List.find?_cons] at q ⊢
    dsimp only at q ⊢
    by_cases hk : k2 = k
    ·rw [decide_eq_true hk] at q ⊢
     cases q
     exact ⟨v2, rfl, r⟩
    ·rw [decide_eq_false hk] at q ⊢
     exact ih e2 rr q
theorem mE {α β κ : Type} [DecidableEq κ] {k : κ} : ∀ {kvs : List (κ × α)} {ws : List (κ × β)}, ws.map (·.1) = kvs.map (·.1) -> (ws.any fun kv => decide (kv.1 = k)) = kvs.any fun kv => decide (kv.1 = k) := by
 intro kvs
 induction kvs with
 |
  nil =>
  intro ws e
  cases ws with
  | nil => rfl
  | cons _ _ => cases e
 |
  cons p kvs ih =>
  intro ws e
  cases ws with
  | nil => cases e
  |
   cons w ws =>
   rw [List.map_cons, List.map_cons] at e
   injection e with e1 e2
   rw [List.any_cons, List.any_cons, ih e2, e1]
theorem
    tQ {k : Key} {d : D} {v : V} (rd : RelD K mg ρ H d v) {kvs : List (Key × D)} {ws : List (Key × V)} (e : ws.map (·.1) = kvs.map (·.1)) (r : RelDs K mg ρ H (kvs.map (·.2)) (ws.map (·.2))) : (b9 ws k v).map (·.1) = (gX kvs k d).map (·.1) /\ RelDs K mg ρ H ((gX kvs k d).map (·.2)) ((b9 ws k v).map (·.2)) := by
 unfold b9 gX
 rw [mE e]
 by_cases hc : (kvs.any fun kv => decide (kv.1 = k)) = true
 ·rw [if_pos hc, if_pos hc]
  clear hc
  induction kvs generalizing ws with
  |
   nil =>
   cases ws with
   | nil => exact ⟨rfl, .nil⟩
   | cons _ _ => cases e
  |
   cons p kvs ih =>
   cases ws with
   | nil => cases e
   |
    cons w ws =>
    obtain ⟨k1, d1⟩ := p
    obtain ⟨k2, v2⟩ := w
    rw [List.map_cons, List.map_cons] at e
    injection e with e1 e2
    dsimp only at e1
    subst e1
    cases r with
    |
     cons r rr =>
     obtain ⟨h1, h2⟩ := ih e2 rr
     simp only [List.map_cons]
     by_cases hk : k2 = k
     ·rw [if_pos hk, if_pos hk]
      exact ⟨by rw [h1], .cons rd h2⟩
     ·rw [if_neg hk, if_neg hk]
      exact ⟨by rw [h1], .cons r h2⟩
 ·rw [if_neg hc, if_neg hc, List.map_append, List.map_append, List.map_append, List.map_append, e]
  exact ⟨rfl, r.append (.cons rd .nil)⟩
noncomputable def mQ : D -> D -> AH -> R D := fun x y h => match x with
 | .ref n => (match y with
  | .str k => (match h[n]? with
   | some (.dct kvs) => (match lkD kvs (.inr k) with
    | some d => .ok d h
    | none => .stuck)
   | _ => .stuck)
  | _ => .stuck)
 | _ => .stuck
noncomputable def wD (o i v : D) (h : AH) : R Unit := match o with
 | .ref n => (match i with
  | .str k => (match h[n]? with
   | some (.dct kvs) => if kvs.length < 16777216 then .ok () (h.set n (.dct (gX kvs (.inr k) v))) else .stuck
   | _ => .stuck)
  | _ => .stuck)
 | _ => .stuck
noncomputable def vQ : jB := fun o i v H Q => ∃ a H4, o = .ref a /\ DPut H a i v H4 /\ Q H4
variable {X : Cx} {ES : St -> XK} {a b : Expr} {F G : ME} {pos : Pos}
theorem jt (hu : X.A.units + 1 < cLine) : nL X vQ := fun pins s σ H o i v ov iv u Q I ro ri rv ⟨a, H4, eo, g, q⟩ => by
 subst eo
 obtain rfl : ov = Value.ref a := ro
 exact rE hu I g ri rv fun s4 I4 => ⟨H4, I4, q⟩
theorem
    kE : nI K mg vQ wD := fun ρ h H do_ di dv o i v Q E w ro ri rv p => by
 unfold wD at p
 split at p
 ·split
     at p
  ·split
      at p
   ·rename_i n k _ kvs e
    split at p
    ·rename_i hl
     cases ro with
     |
      ref ea =>
      cases ri
      obtain ⟨ws, h1, h2, h3⟩ := w.ob _ _ _ ea e
      have hlen : ws.length = kvs.length := by have := congrArg List.length h2; simpa using this
      have l : Le ρ H ρ (upd H _ (.dK (b9 ws (.inr k) v))) := iZ h1 pw
      obtain ⟨k1, k2⟩ := tQ (k := .inr k) rv h2 h3
      exact ⟨_, _, rfl, DPut.k (k := .inr k) h1 (by rw [hlen]; exact hl), p ρ _ l (w.write ea h1 pw ⟨_, bz, k1, k2.mono l⟩)⟩
    ·exact p.elim
   ·exact p.elim
  ·exact p.elim
 ·exact p.elim
theorem
    xH (hu : X.A.units + 1 < cLine) (ha : DE K mg X ES a F) (hb : DE K mg X ES b G) (hs : pE b) : DE K mg X ES (.Subscript a b pos) (eOp mQ F G) := PE.imp (wa hu ha hb hs) fun σ H Q q_ => q_.el fun ρ h ae w re p => ⟨ρ, h, ae, w, re, p.bind.imp fun dx h1 ρ1 H1 l1 w1 p1 x rx => ⟨ρ1, h1, ae, w1, re.mono l1, p1.bind.imp fun dy h2 ρ2 H2 l2 w2 p2 y ry => by
 have rx2 := rx.mono l2
 unfold mQ at p2
 split at p2
 ·split
     at p2
  ·split
      at p2
   ·rename_i n k _ kvs e
    split at p2
    ·rename_i d q
     cases rx2 with
     |
      ref ea =>
      cases ry
      obtain ⟨ws, k1, k2, k3⟩ := w2.ob _ _ _ ea e
      obtain ⟨v, q1, rv⟩ := xM k2 k3 q
      refine ⟨_, v, rfl, ?_, aR w2 rv p2⟩
      rw [<- q1]
      exact DGet.k (k := .inr k) k1
    ·exact p2.elim
   ·exact p2.elim
  ·exact p2.elim
 ·exact p2.elim⟩⟩
noncomputable def jS (ks : List Str) (A : MA) : ME := fun ae h => (A ae (h ++ [.dct []])).bind fun ds h2 => match h2[h.length]? with
 | some (.dct []) => if ks.length = ds.length then .ok (.ref h.length) (h2.set h.length (.dct ((ks.map Sum.inr).zip ds))) else .stuck
 | _ => .stuck
noncomputable def aL : List (Str × ME) -> MA
 | [] => p8
 | p :: r => lV p.2 (aL r)
noncomputable def tps (K : PySem.W.Frag) (mg : Str -> Option Value) (ES : St -> XK) (prs : List (Str × ME)) : List (TE × TE) := prs.map fun p => (tC (.str p.1), rdE K mg ES p.2)
theorem mV {σ : St} : ∀ (prs : List (Str × ME)) {ρ : List Addr} {h : AH} {ae : AE} {H : Hp} {Q : List (V × V) -> Hp -> Prop}, Wd K mg ρ h H -> RelE K mg ρ H ae σ -> PostG K mg ρ H (ES σ) (fun ds _ ρ' H' => ∀ vs, RelDs K mg ρ' H' ds vs -> Q ((prs.map fun p => V.str p.1).zip vs) H') (aL prs ae h) -> jX (tps K mg ES prs) σ H Q
 | [], ρ, h, ae, H, Q, w, re, p => p ρ H Le.refl w [] .nil
 | pr :: r, ρ, h, ae, H, Q, w, re, p => ⟨ρ, h, ae, w, re, (PostG.bind p).imp fun d h1 ρ1 H1 l1 w1 p1 y ry => mV r w1 (re.mono l1) ((PostG.bind p1).imp fun ds h2 ρ2 H2 l2 w2 p2 vs rs => p2 ρ2 H2 Le.refl w2 (y :: vs) (.cons (ry.mono l2) rs))⟩
theorem nv : ∀ (more acc : List (Key × V)), ((acc ++ more).map (·.1)).Nodup -> eR acc more = acc ++ more
 | [], acc, _ => (List.append_nil _).symm
 |
  (k, v) :: more, acc, h => by
  show eR (b9 acc k v) more = _
  have hk : da acc k = none := by
   unfold da
   rw [Option.map_eq_none_iff, List.find?_eq_none]
   intro p hp z
   have z := of_decide_eq_true z
   rw [List.map_append, List.nodup_append] at h
   exact h.2.2 p.1 (List.mem_map_of_mem hp) k (List.mem_cons_self ..) z
  rw [tW v hk, nv more (acc ++ [(k, v)]) (by rw [List.append_assoc]; exact h), List.append_assoc]
  rfl
theorem wF : PPs X pos [] [] (tps K mg ES []) := xp
theorem jy {k : Str} {j : Nat} {kp : Pos} {v : Expr} {ks : List (Option Expr)} {vs : List Expr} {prs : List (Str × ME)} (hv : DE K mg X ES v F) (hr : PPs X pos ks vs (tps K mg ES prs)) : PPs X pos (some (.Constant (.str k) j kp) :: ks) (v :: vs) (tps K mg ES ((k, F) :: prs)) := uo sf hv hr
theorem nu : ∀ (ks : List Str) (vs : List V), (ks.map V.str).zip vs = ((ks.map Sum.inr).zip vs).map fun kv : Key × V => (kV kv.1, kv.2)
 | [], _ => rfl
 | _ :: _, [] => rfl
 |
  k :: ks, v :: vs => by
  show (V.str k, v) :: (ks.map V.str).zip vs = _
  rw [nu ks vs]
  rfl
theorem
    xR {keys : List (Option Expr)} {values : List Expr} {prs : List (Str × ME)} (hp : PPs X pos keys values (tps K mg ES prs)) (hall : keys.all (·.isSome) = true) (hl : keys.length = values.length) (h0 : keys ≠ []) (h15 : keys.length <= 15) (hn : (prs.map (·.1)).Nodup) (hp15 : prs.length <= 15) : DE K mg X ES (.Dict keys values pos) (jS (prs.map (·.1)) (aL prs)) := PE.imp (vU hp hall hl h0 h15) fun σ H Q q_ => q_.el fun ρ h ae w re p => fun pp hpp => by
 have l : Le ρ H (ρ ++ [pp]) (upd H pp (.dK [])) := (cT hpp).trans kx
 have w1 := w.alloc hpp (o := .dct []) (u := .dK []) ⟨[], bz, rfl, .nil⟩
 refine mV prs w1 (re.mono l) ((PostG.mono l (PostG.bind p)).imp fun ds h2 ρ2 H2 l2 w2 p2 vs rs => ?_)
 split at p2
 ·rename_i e
  split at p2
  ·rename_i hlen
   have ea : ρ2[h.length]? = some pp := l2.pre _ _ (by rw [<- w.len, List.getElem?_append_right (Nat.le_refl _), Nat.sub_self]; rfl)
   obtain ⟨ws, k1, k2, _⟩ := w2.ob _ _ _ ea e
   have : ws = [] := by cases ws with | nil => rfl | cons _ _ => cases k2
   subst this
   have hlv : vs.length = prs.length := by rw [<- rs.len, <- hlen, List.length_map]
   refine ⟨k1, ((prs.map (·.1)).map Sum.inr).zip vs, ?_, ?_, ?_⟩
   ·rw [<- nu, List.map_map]
    rfl
   ·rw [List.length_zip, List.length_map, List.length_map]
    omega
   ·have hz : (((prs.map (·.1)).map Sum.inr).zip vs : List (Key × V)).map (·.1) = (prs.map (·.1)).map Sum.inr := List.map_fst_zip (by rw [List.length_map, List.length_map]; omega)
    rw [nv _ [] (by
     rw [List.nil_append, hz]
     exact List.Pairwise.map _ (fun a b hab z => hab (Sum.inr.inj z)) hn), List.nil_append]
    have l3 : Le ρ2 H2 ρ2 (upd H2 pp (.dK (((prs.map (·.1)).map Sum.inr).zip vs))) := iZ k1 pw
    refine p2 ρ2 _ l3 (w2.write ea k1 pw ⟨_, bz, ?_, ?_⟩) _ (.ref ea)
    ·rw [hz, List.map_fst_zip (by rw [List.length_map]; omega)]
    ·rw [List.map_snd_zip (by rw [List.length_map]; omega), List.map_snd_zip (by rw [List.length_map, List.length_map]; omega)]
     exact rs.mono l3
  ·exact p2.elim
 ·exact p2.elim
end
theorem rT (bs : List Bool) : ((List.range bs.length).any fun i => bs.getD i false) = bs.any id := by
 rw [Bool.eq_iff_iff, List.any_eq_true, List.any_eq_true]
 constructor
 ·rintro ⟨i, hi, h⟩
  have hi' := List.mem_range.mp hi
  exact ⟨bs[i], List.getElem_mem hi', by simpa [List.getD_eq_getElem?_getD, hi'] using h⟩
 ·rintro ⟨x, hx, h⟩
  obtain ⟨i, hi, rfl⟩ := List.mem_iff_getElem.mp hx
  exact ⟨i, List.mem_range.mpr hi, by simpa [List.getD_eq_getElem?_getD, hi] using h⟩
section
variable {X : Cx}
theorem va (hc : X.calm = true) : CallR X (.builtin "any") (fun xs H Q => ∃ (a : Addr) (bs : List Bool), xs = [.ref a] /\ SqL X.K H a (bs.map V.bl) /\ Q (.bl (bs.any id)) H) := by
 intro pins s σ H xs us Q I r h
 obtain ⟨a, bs, rfl, hq, q⟩ := h
 obtain ⟨u, rfl, ru⟩ := iY r
 cases ru
 obtain ⟨its, rv, p, hz⟩ := I.list hq
 have hl := rv.length
 rw [List.length_map] at hl
 have hlt : a < s.heap.objs.size := by obtain ⟨o, n, e, _⟩ := p; exact Heap.lt_size e
 refine call_any_walk (wpAny_pyIter_list p.isList ?_)
 refine ⟨s.heap.objs.size, _, _, _, _, _, fun i => bs.getD i false, rfl, Walks.list (A := X.A.in1) (I.ok.hd hc) s.heap.objs.size a (Nat.ne_of_lt hlt) its.toArray, ⟨⟨_, Heap.get?_push_size _ rfl, rfl, rfl⟩, (p.keeps fun b o e => Heap.get?_push_of_some _ e).isList⟩, fun i v s' Q' E' hP hQ => ?_, fun h' tk hk => ?_⟩
 ·have hP' : its[i]? = some v := by simpa using hP
  have hi : i < bs.length := by rw [hl]; exact (List.getElem?_eq_some_iff.mp hP').1
  have hb : (bs.map V.bl)[i]? = some (V.bl bs[i]) := by simp [hi]
  obtain ⟨u, hu, ru⟩ := rv.get hb
  rw [hP'] at hu
  cases hu
  cases ru
  refine wpAny_truthy_bool ?_
  have e : bs.getD i false = bs[i] := by simp [List.getD_eq_getElem?_getD, hi]
  show Q' bs[i] s'
  rw [<- e]
  exact hQ
 ·have e1 : its.toArray.size = bs.length := by rw [List.size_toArray, hl]
  rw [e1, rT]
  have hn : H s.heap.objs.size = none := I.fresh
  have I1 : Inv X pins σ H { s with heap := s.heap.push { cls := .type "list_iterator", dict := none, data := .fields #[.ref a, rawInt 0] } } := I.kept (t' := s.toks) fun b o e => Heap.get?_push_of_some _ e
  refine ⟨.bl _, H, ?_, rfl, q⟩
  refine I.kept (t' := tk) fun b o e => ?_
  have hne : b ≠ s.heap.objs.size := Nat.ne_of_lt (Heap.lt_size e)
  exact hk b o (by simpa using hne) (Heap.get?_push_of_some _ e)
theorem anyK {K : PySem.W.Frag} (h : X.K = K) (hc : X.calm = true) : CallR X (.builtin "any") (fun xs H Q => ∃ (a : Addr) (bs : List Bool), xs = [.ref a] /\ SqL K H a (bs.map V.bl) /\ Q (.bl (bs.any id)) H) := by subst h; exact va hc
end
noncomputable def nz : Fn := fun ds h => match ds with
 | [.ref n] => match (aV h n).bind eg with
  | some bs => .ok (.bl (bs.any id)) h
  | none => .stuck
 | _ => .stuck
section
variable {K : PySem.W.Frag} {mg : Str -> Option Value}
theorem
    AX : cw K mg (fun xs H Q => ∃ (a : Addr) (bs : List Bool), xs = [.ref a] /\ SqL K H a (bs.map V.bl) /\ Q (.bl (bs.any id)) H) nz := fun ρ h H ds vs Q E w rs p => by
 unfold nz at p
 split at p
 ·cases
     rs with
  |
   cons r rs =>
   cases r with
   |
    ref ea =>
    cases rs
    split at p
    ·rename_i bs e
     obtain ⟨xs, q, e2⟩ := Option.bind_eq_some_iff.mp e
     ·obtain ⟨vs, h1, h2⟩ := bE w ea q
      rw [jD e2] at h2
      rw [h2.bls] at h1
      exact ⟨_, bs, rfl, h1, aR w (.bl _) p⟩
    ·exact p.elim
 ·exact p.elim
end
section
variable {K : PySem.W.Frag} {mg : Str -> Option Value} {X : Cx} {ES : St -> XK} {o : Expr} {F : ME} {pos p2 : Pos}
noncomputable def tStA (to : TE) : TG := fun v σ H Q => to σ H fun o H1 => ∃ (l b : Addr) (xs ys : List V), o = .ref l /\ v = .ref b /\ H1 l = some (.lst xs) /\ H1 b = some (.lst ys) /\ l ≠ b /\ xs.length + ys.length <= sizeLine /\ Q σ (upd H1 l (.lst ys))
theorem Bc {to : TE} (ho : PE X o to)
  (ha : ∀ v, assign (.Subscript o (.Slice none none none p2) pos) X.env v = (do
   let ov <- holding [v] (eval o X.env)
   let iv <- holding [v, ov] (eval (.Slice none none none p2) X.env)
   standAt pos
   holding [v, ov, iv] (setItem ov iv v)
   release [iv, v, ov] []) := by intro _; rfl) : PG X (.Subscript o (.Slice none none none p2) pos) (tStA to) := by
 intro pins s σ H v u Q I r h
 rw [ha]
 refine wpAny_bind (wpAny_holding (thn (ho pins s σ H _ I h) fun ov s1 ⟨x, H1, I1, r1, q1⟩ => ?_))
 refine wpAny_bind (wpAny_holding ?_)
 refine wpAny_Slice ?_
 rw [evalPart_none]
 refine wpAny_pure (wpAny_pure (wpAny_pure ?_))
 have I4 : Inv X pins σ H1 { s1 with heap := s1.heap.push { cls := .type "slice", data := .fields #[.none, .none, .none] } } := I1.kept (t' := s1.toks) fun b ob q => Heap.get?_push_of_some _ q
 obtain ⟨l, b, xs, ys, e1, e2, hx, hy, hne, hz, q⟩ := q1
 subst e1 e2
 cases r
 cases r1
 obtain ⟨z, its, n, rr, hl, e⟩ := I4.lstM hx
 obtain ⟨z2, its2, n2, r2, hl2, e2⟩ := I4.lstM hy
 refine wpAny_bind (wpAny_standAt (wpAny_bind (wpAny_holding (kK (a := 0) (c := its.toArray.size) (lo := none) (hi := none) e e2 hne (Heap.IsSliceOf.new ..) .none .none rfl (Nat.zero_le _) (Nat.le_refl _) (by rw [List.size_toArray, List.size_toArray]; omega) ?_))))
 refine wpAny_release ⟨σ, _, I4.lset (its' := its.take 0 ++ its2 ++ its.drop its.toArray.size) (t' := s1.toks) hx e ?_ (ys := ys) ?_ ?_, q⟩
 ·exact rX its its2 0 its.toArray.size
 ·rw [List.size_toArray, List.drop_length, List.take_zero, List.nil_append, List.append_nil]
  exact r2
 ·omega
noncomputable def kG (o i v : D) (h : AH) : R Unit := match o with
 | .ref n => (match v with
  | .ref m => (match h[n]? with
   | some (.lst xs) => (match h[m]? with
    | some (.lst ys) => if n ≠ m /\ xs.length + ys.length <= 16777216 then .ok () (h.set n (.lst ys)) else .stuck
    | _ => .stuck)
   | _ => .stuck)
  | _ => .stuck)
 | _ => .stuck
theorem
    By (ho : DE K mg X ES o F)
  (ha : ∀ v, assign (.Subscript o (.Slice none none none p2) pos) X.env v = (do
   let ov <- holding [v] (eval o X.env)
   let iv <- holding [v, ov] (eval (.Slice none none none p2) X.env)
   standAt pos
   holding [v, ov, iv] (setItem ov iv v)
   release [iv, v, ov] []) := by intro _; rfl) : DG K mg X ES (.Subscript o (.Slice none none none p2) pos) (gS F (eC .non) kG) :=
 PG.imp (
     Bc ho ha) fun v σ H Q q_ => q_.el fun ρ h ae d w re rd p => ⟨ρ, h, ae, w, re, p.bind.imp fun do_ h1 ρ1 H1 l1 w1 p1 o' ro => by
  have p4 : PostG K mg ρ1 H1 (ES σ) (fun ae' _ ρ' H' => ∀ σ', RelE K mg ρ' H' ae' σ' -> Q σ' H') ((kG do_ .non d h1).bind fun _ h4 => .ok ae h4) := p1
  have rd1 := rd.mono l1
  unfold kG at p4
  split at p4
  ·rename_i n
   split at p4
   ·rename_i m
    split at p4
    ·rename_i xs e1
     split at p4
     ·rename_i ys e2
      split at p4
      ·rename_i hc
       cases ro with
       |
        ref ea =>
        cases rd1 with
        |
         ref eb =>
         obtain ⟨vs, k1, r1⟩ := w1.ob _ _ _ ea e1
         obtain ⟨us, k2, r2⟩ := w1.ob _ _ _ eb e2
         have l' := iZ (ρ := ρ1) (o := .lst us) k1 iG
         refine ⟨_, _, vs, us, rfl, rfl, k1, k2, fun z => hc.1 ?_, by rw [<- r1.len, <- r2.len]; exact hc.2, p4 ρ1 _ l' (w1.write ea k1 iG ⟨_, bz, r2.mono l'⟩) σ ((re.mono l1).mono l')⟩
         subst z
         have hn := (List.getElem?_eq_some_iff.mp ea).1
         exact (List.getElem?_inj hn w1.nd).mp (by rw [ea, eb])
      ·exact p4.elim
     ·exact p4.elim
    ·exact p4.elim
   ·exact p4.elim
  ·exact p4.elim⟩
end
end L2
set_option linter.all false
namespace L2
open PySem PySem.Spec PySem.Calls PyProof.Rows
section
variable {X : Cx} {K : PySem.W.Frag} {mg : Str -> Option Value} {ES : St -> XK} {es : List Expr} {gs : MGs} {pos : Pos}
noncomputable def gUnp (K : PySem.W.Frag) (n : Nat) (t : TGs) : TG := fun v σ H Q => ∃ a xs, v = .ref a /\ (SqT K H a xs \/ SqL K H a xs) /\ xs.length = n /\ t xs σ H Q
theorem Ae {k : Nat} {t : TGs} {n : Nat} (hc : X.calm = true) (h : PGs X es t)
  (hn : (assignEach es X.env).length = n := by rfl) (hst : (assignEach es X.env).findIdx? (·.1) = none := by rfl) : PG X (.Tuple es k pos) (gUnp X.K n t) := by
 intro pins s σ H v u Q I r hw
 obtain ⟨a, xs, e1, hq, hl, hw⟩ := hw
 rcases hq with hq | hq
 ·exact sy hc h hn hst pins s σ H v u Q I r ⟨a, xs, e1, hq, hl, hw⟩
 ·subst e1
  cases r
  obtain ⟨its, rv, ⟨o, m, ho, oc, od, os⟩, hz⟩ := I.list hq
  have ht : s.heap.IsList a its.toArray := ⟨o, ho, oc, m, os⟩
  rw [assign_Tuple]
  refine wpAny_bind (wpAny_standAt ?_)
  unfold unpack
  rw [hst, hn, show n = its.toArray.size by simp [<- hl, rv.length]]
  refine wpAny_bind (wpAny_holding (PySem.W.kun_itemsOf (I.ok.hd hc) ht fun h' hx => ?_))
  have I1 : Inv X pins σ H { s with heap := h' } := I.kept (t' := s.toks) fun b o e => hx b o (Nat.ne_of_lt (Heap.lt_size e)) e
  exact h pins _ σ H xs _ Q I1 (by simpa using rv) hw
noncomputable def gU (u : MGs) : MG := fun d ae h => match d with
 | .tup ds => u ds ae h
 | .ref p => match aV h p with
  | some ds => u ds ae h
  | none => .stuck
 | _ => .stuck
theorem
    yR {k n : Nat} (hK : X.K = K) (hc : X.calm = true) (h : DGs K mg X (fun _ => E0) es gs)
  (hn : (assignEach es X.env).length = n := by rfl) (hst : (assignEach es X.env).findIdx? (·.1) = none := by rfl) : DG K mg X (fun _ => E0) (.Tuple es k pos) (gU fun ds ae h => if ds.length = n then gs ds ae h else .stuck) := by
 subst hK
 refine PG.imp (Ae hc h hn hst) fun v σ H Q q_ => q_.el fun ρ h ae d w re rd p => ?_
 unfold gU at p
 cases rd with
 |
  tup q rs =>
  dsimp only at p
  split at p
  ·rename_i hl
   exact ⟨_, _, rfl, .inl q, by rw [<- rs.len]; exact hl, ρ, h, ae, _, w, re, rs, p⟩
  ·exact p.elim
 |
  ref ea =>
  dsimp only at p
  split at p
  ·rename_i ds q
   obtain ⟨vs, h1, h2⟩ := bE w ea q
   split at p
   ·rename_i hl
    exact ⟨_, _, rfl, .inr h1, by rw [<- h2.len]; exact hl, ρ, h, ae, _, w, re, h2, p⟩
   ·exact p.elim
  ·exact p.elim
 | _ => exact p.elim
end
end L2
set_option Elab.async false
set_option linter.all false
set_option maxRecDepth 100000
namespace L3
open PySem PySem.Spec PyProof.Rows L2
set_option genInjectivity true in
inductive Val where
 | non | bl (b : Bool) | int (i : Int) | str (x : Str) | ty (n : String) | glb (x : Str) | exc (x : Str)
 | tup (xs : List Val) | lst (xs : List Val) | kl (xs : List Val) | dct (kvs : List (Key × Val)) | set (xs : List Int)
 deriving Inhabited
mutual
inductive Rd (P : Nat -> Prop) (h : AH) : D -> Val -> Prop where
 | non : Rd P h .non .non
 | bl (b : Bool) : Rd P h (.bl b) (.bl b)
 | int (i : Int) : Rd P h (.int i) (.int i)
 | str (x : Str) : Rd P h (.str x) (.str x)
 | ty (n : String) : Rd P h (.ty n) (.ty n)
 | glb (x : Str) : Rd P h (.glb x) (.glb x)
 | exc (x : Str) : Rd P h (.exc x) (.exc x)
 | tup {ds : List D} {vs : List Val} (r : Rds P h ds vs) : Rd P h (.tup ds) (.tup vs)
 | kl {ds : List D} {vs : List Val} (r : Rds P h ds vs) : Rd P h (.kl ds) (.kl vs)
 | cell {n : Nat} {o : Ob} {v : Val} (p : P n) (e : h[n]? = some o) (r : Rc P h o v) : Rd P h (.ref n) v
inductive Rc (P : Nat -> Prop) (h : AH) : Ob -> Val -> Prop where
 | lst {ds : List D} {vs : List Val} (r : Rds P h ds vs) : Rc P h (.lst ds) (.lst vs)
 | fz {ds : List D} {vs : List Val} (r : Rds P h ds vs) : Rc P h (.fz ds) (.kl vs)
 | dct {ws : List (Key × D)} {us : List (Key × Val)} (r : Rk P h ws us) : Rc P h (.dct ws) (.dct us)
 | set (xs : List Int) : Rc P h (.set xs) (.set xs)
inductive Rds (P : Nat -> Prop) (h : AH) : List D -> List Val -> Prop where
 | nil : Rds P h [] []
 | cons {d : D} {v : Val} {ds : List D} {vs : List Val} (r : Rd P h d v) (rr : Rds P h ds vs) : Rds P h (d :: ds) (v :: vs)
inductive Rk (P : Nat -> Prop) (h : AH) : List (Key × D) -> List (Key × Val) -> Prop where
 | nil : Rk P h [] []
 | cons {k : Key} {d : D} {v : Val} {ds : List (Key × D)} {vs : List (Key × Val)} (r : Rd P h d v) (rr : Rk P h ds vs) : Rk P h ((k, d) :: ds) ((k, v) :: vs)
end
section
variable {P P' : Nat -> Prop} {h h' : AH}
abbrev Mov (P P' : Nat -> Prop) (h h' : AH) : Prop := ∀ n o, P n -> h[n]? = some o -> P' n /\ h'[n]? = some o
theorem Rd.mono (m : Mov P P' h h') {d : D} {v : Val} (r : Rd P h d v) : Rd P' h' d v := @Rd.rec P h (fun d v _ => Rd P' h' d v) (fun o v _ => Rc P' h' o v) (fun ds vs _ => Rds P' h' ds vs) (fun ws us _ => Rk P' h' ws us) .non (fun b => .bl b) (fun i => .int i) (fun x => .str x) (fun n => .ty n) (fun x => .glb x) (fun x => .exc x) (fun _ ih => .tup ih) (fun _ ih => .kl ih) (fun p e _ ih => .cell (m _ _ p e).1 (m _ _ p e).2 ih) (fun _ ih => .lst ih) (fun _ ih => .fz ih) (fun _ ih => .dct ih) (fun xs => .set xs) .nil (fun _ _ a b => .cons a b) .nil (fun _ _ a b => .cons a b) d v r
theorem Rds.ind {M : List D -> List Val -> Prop} (h0 : M [] []) (h1 : ∀ {d v ds vs}, Rd P h d v -> Rds P h ds vs -> M ds vs -> M (d :: ds) (v :: vs)) {ds : List D} {vs : List Val} (r : Rds P h ds vs) : M ds vs := by
 induction ds generalizing vs with
 | nil => cases r; exact h0
 |
  cons d ds ih =>
  cases r with
  | cons r rr => exact h1 r rr (ih rr)
theorem Rk.ind {M : List (Key × D) -> List (Key × Val) -> Prop} (h0 : M [] []) (h1 : ∀ {k d v ds vs}, Rd P h d v -> Rk P h ds vs -> M ds vs -> M ((k, d) :: ds) ((k, v) :: vs)) {ds : List (Key × D)} {vs : List (Key × Val)} (r : Rk P h ds vs) : M ds vs := by
 induction ds generalizing vs with
 | nil => cases r; exact h0
 |
  cons d ds ih =>
  cases r with
  | cons r rr => exact h1 r rr (ih rr)
theorem Rds.mono (m : Mov P P' h h') {d : List D} {v : List Val} (r : Rds P h d v) : Rds P' h' d v := r.ind .nil fun r _ ih => .cons (r.mono m) ih
theorem Rk.mono (m : Mov P P' h h') {d : List (Key × D)} {v : List (Key × Val)} (r : Rk P h d v) : Rk P' h' d v := r.ind .nil fun r _ ih => .cons (r.mono m) ih
theorem Rc.mono (m : Mov P P' h h') {d : Ob} {v : Val} (r : Rc P h d v) : Rc P' h' d v := by
 cases r with
 | lst r => exact .lst (r.mono m)
 | fz r => exact .fz (r.mono m)
 | dct r => exact .dct (r.mono m)
 | set xs => exact .set xs
theorem Rds.len {ds : List D} {vs : List Val} (r : Rds P h ds vs) : ds.length = vs.length := r.ind (M := fun ds vs => ds.length = vs.length) rfl fun _ _ ih => congrArg (· + 1) ih
theorem Rds.get {ds : List D} {vs : List Val} {i : Nat} {v : Val} (r : Rds P h ds vs) (e : vs[i]? = some v) : ∃ d, ds[i]? = some d /\ Rd P h d v :=
 r.ind (M := fun ds vs => ∀ i, vs[i]? = some v -> ∃ d, ds[i]? = some d /\ Rd P h d v) (fun _ e => by rw [List.getElem?_nil] at e; cases e) (fun r _ ih i e => match i, e with
  | 0, e => by cases e; exact ⟨_, rfl, r⟩
  | i + 1, e => ih i e) i e
theorem Rds.append {ds es : List D} {vs ws : List Val} (r : Rds P h ds vs) (q : Rds P h es ws) : Rds P h (ds ++ es) (vs ++ ws) := r.ind (M := fun ds vs => Rds P h (ds ++ es) (vs ++ ws)) q fun r _ ih => .cons r ih
theorem Rds.take {ds : List D} {vs : List Val} (n : Nat) (r : Rds P h ds vs) : Rds P h (ds.take n) (vs.take n) :=
 r.ind (M := fun ds vs => ∀ n : Nat, Rds P h (ds.take n) (vs.take n)) (fun n => by rw [List.take_nil, List.take_nil]; exact .nil) (fun r _ ih n => by cases n with | zero => exact .nil | succ n => exact .cons r (ih n)) n
theorem Rds.drop {ds : List D} {vs : List Val} (n : Nat) (r : Rds P h ds vs) : Rds P h (ds.drop n) (vs.drop n) :=
 r.ind (M := fun ds vs => ∀ n : Nat, Rds P h (ds.drop n) (vs.drop n)) (fun n => by rw [List.drop_nil, List.drop_nil]; exact .nil) (fun r rr ih n => by cases n with | zero => exact .cons r rr | succ n => exact ih n) n
theorem Rds.set {d : D} {v : Val} (r : Rd P h d v) {ds : List D} {vs : List Val} (i : Nat) (q : Rds P h ds vs) : Rds P h (ds.set i d) (vs.set i v) :=
 q.ind (M := fun ds vs => ∀ i : Nat, Rds P h (ds.set i d) (vs.set i v)) (fun _ => .nil) (fun q qq ih i => by cases i with | zero => exact .cons r qq | succ i => exact .cons q (ih i)) i
noncomputable def ShR (P : Nat -> Prop) (h : AH) (d : D) (v : Val) : Prop := Rd P h d v \/ ∃ n o, d = .ref n /\ h[n]? = some o /\ Rc P h o v
inductive ShRs (P : Nat -> Prop) (h : AH) : List D -> List Val -> Prop where
 | nil : ShRs P h [] []
 | cons {d : D} {v : Val} {ds : List D} {vs : List Val} (r : ShR P h d v) (rr : ShRs P h ds vs) : ShRs P h (d :: ds) (v :: vs)
noncomputable def Val.items : Val -> Option (List Val)
 | .tup xs => some xs
 | .lst xs => some xs
 | .kl xs => some xs
 | _ => none
theorem ShR.int {d : D} {i : Int} (r : ShR P h d (.int i)) : d = .int i := by
 rcases r with r | ⟨n, o, rfl, e, r⟩
 ·cases r with
  | int => rfl
  | cell p e r => cases r
 ·cases r
theorem ShR.str {d : D} {i : Str} (r : ShR P h d (.str i)) : d = .str i := by
 rcases r with r | ⟨n, o, rfl, e, r⟩
 ·cases r with
  | str => rfl
  | cell p e r => cases r
 ·cases r
theorem ShR.bl {d : D} {i : Bool} (r : ShR P h d (.bl i)) : d = .bl i := by
 rcases r with r | ⟨n, o, rfl, e, r⟩
 ·cases r with
  | bl => rfl
  | cell p e r => cases r
 ·cases r
theorem ShR.non {d : D} (r : ShR P h d .non) : d = .non := by
 rcases r with r | ⟨n, o, rfl, e, r⟩
 ·cases r with
  | non => rfl
  | cell p e r => cases r
 ·cases r
theorem ShR.exc {d : D} {x : Str} (r : ShR P h d (.exc x)) : d = .exc x := by
 rcases r with r | ⟨n, o, rfl, e, r⟩
 ·cases r with
  | exc => rfl
  | cell p e r => cases r
 ·cases r
theorem ShR.ty {d : D} {x : String} (r : ShR P h d (.ty x)) : d = .ty x := by
 rcases r with r | ⟨n, o, rfl, e, r⟩
 ·cases r with
  | ty => rfl
  | cell p e r => cases r
 ·cases r
theorem ShR.glb {d : D} {x : Str} (r : ShR P h d (.glb x)) : d = .glb x := by
 rcases r with r | ⟨n, o, rfl, e, r⟩
 ·cases r with
  | glb => rfl
  | cell p e r => cases r
 ·cases r
theorem ShR.tup {d : D} {vs : List Val} (r : ShR P h d (.tup vs)) : ∃ ds, d = .tup ds /\ Rds P h ds vs := by
 rcases r with r | ⟨n, o, rfl, e, r⟩
 ·cases r with
  | tup r => exact ⟨_, rfl, r⟩
  | cell p e r => cases r
 ·cases r
theorem Rc.seq {n : Nat} {o : Ob} {vs : List Val} (e : h[n]? = some o) (r : Rc P h o (.lst vs)) : ∃ ds, h[n]? = some (.lst ds) /\ aV h n = some ds /\ Rds P h ds vs := by
 cases r with
 | lst r => exact ⟨_, e, by unfold aV; rw [e], r⟩
theorem ShR.lst {d : D} {vs : List Val} (r : ShR P h d (.lst vs)) : ∃ n ds, d = .ref n /\ h[n]? = some (.lst ds) /\ aV h n = some ds /\ Rds P h ds vs := by
 rcases r with r | ⟨n, o, rfl, e, r⟩
 ·cases r with
  |
   cell p e r =>
   obtain ⟨ds, q, r⟩ := Rc.seq e r
   exact ⟨_, ds, rfl, q, r⟩
 ·obtain ⟨ds, q, r⟩ := Rc.seq e r
  exact ⟨_, ds, rfl, q, r⟩
theorem ShR.kl {d : D} {vs : List Val} (r : ShR P h d (.kl vs)) : ∃ ds, Rds P h ds vs /\ (d = .kl ds \/ ∃ n, d = .ref n /\ aV h n = some ds) := by
 rcases r with r | ⟨n, o, rfl, e, r⟩
 ·cases r with
  | kl r => exact ⟨_, r, .inl rfl⟩
  | cell p e r => cases r with | fz r => exact ⟨_, r, .inr ⟨_, rfl, by unfold aV; rw [e]⟩⟩
 ·cases r with | fz r => exact ⟨_, r, .inr ⟨_, rfl, by unfold aV; rw [e]⟩⟩
theorem ShR.dct {d : D} {us : List (Key × Val)} (r : ShR P h d (.dct us)) : ∃ n ws, d = .ref n /\ h[n]? = some (.dct ws) /\ Rk P h ws us := by
 rcases r with r | ⟨n, o, rfl, e, r⟩
 ·cases r with
  | cell p e r => cases r with | dct r => exact ⟨_, _, rfl, e, r⟩
 ·cases r with | dct r => exact ⟨_, _, rfl, e, r⟩
theorem ShR.items {d : D} {v : Val} {vs : List Val} (r : ShR P h d v) (e : v.items = some vs) : ∃ ds, gk h d = some ds /\ Rds P h ds vs := by
 cases v with
 | tup xs => cases e; obtain ⟨ds, rfl, q⟩ := r.tup; exact ⟨ds, rfl, q⟩
 | lst xs => cases e; obtain ⟨n, ds, rfl, _, e, q⟩ := r.lst; exact ⟨ds, e, q⟩
 |
  kl xs =>
  cases e
  obtain ⟨ds, q, rfl | ⟨n, rfl, e⟩⟩ := r.kl
  ·exact ⟨ds, rfl, q⟩
  ·exact ⟨ds, e, q⟩
 | _ => cases e
end
inductive Sl where
 | no | sh (v : Val) | ow (v : Val) | mu (v : Val) | lo (v : Val) | lm (v : Val)
 deriving Inhabited
abbrev E3 := List Sl
noncomputable def Sl.val : Sl -> Option Val
 | .no => none
 | .sh v => some v
 | .ow v => some v
 | .mu v => some v
 | .lo v => some v
 | .lm v => some v
noncomputable def Sl.mt : Sl -> Bool
 | .ow _ => true
 | .mu _ => true
 | _ => false
noncomputable def Sl.lk : Sl -> Bool
 | .lo _ => true
 | .lm _ => true
 | _ => false
abbrev Ns := List (Option Nat)
noncomputable def Oc (X : Nat -> Prop) (ns : Ns) (n : Nat) : Prop := ¬ X n /\ some n ∉ ns
noncomputable def bG : Ob -> Prop
 | .fz _ => False
 | .any => False
 | _ => True
noncomputable def SlR (P : Nat -> Prop) (h0 : Nat) (n : Option (Option Nat)) (d : Option (Option D)) (h : AH) : Sl -> Prop
 | .no => n = some none
 | .sh v => n = some none /\ ∃ x, d = some (some x) /\ Rd P h x v
 | .ow v => ∃ m o, n = some (some m) /\ d = some (some (.ref m)) /\ h0 <= m /\ h[m]? = some o /\ bG o /\ Rc P h o v
 | .lo v => ∃ m o, n = some (some m) /\ d = some (some (.ref m)) /\ h0 <= m /\ h[m]? = some o /\ bG o /\ Rc P h o v
 | .mu v => ∃ m o, n = some (some m) /\ d = some (some (.ref m)) /\ h[m]? = some o /\ bG o /\ Rc P h o v
 | .lm v => ∃ m o, n = some (some m) /\ d = some (some (.ref m)) /\ h[m]? = some o /\ bG o /\ Rc P h o v
structure Sat (X : Nat -> Prop) (h0 : Nat) (ns : Ns) (e : E3) (ae : AE) (h : AH) : Prop where
 l1 : ae.length = e.length
 l2 : ns.length = e.length
 lh : h0 <= h.length
 xl : ∀ (n : Nat), X n -> n < h.length
 inj : ∀ (i j n : Nat), ns[i]? = some (some n) -> ns[j]? = some (some n) -> i = j
 nx : ∀ (i n : Nat), ns[i]? = some (some n) -> ¬ X n
 sl : ∀ (i : Nat) (s : Sl), e[i]? = some s -> SlR (Oc X ns) h0 (ns[i]?) (ae[i]?) h s
noncomputable def Mt (ns : Ns) (e : E3) (n : Nat) : Prop := ∃ (i : Nat) (s : Sl), ns[i]? = some (some n) /\ e[i]? = some s /\ s.mt = true
structure Stp (ns : Ns) (e : E3) (h : AH) (ns' : Ns) (e' : E3) (h' : AH) : Prop where
 len : h.length <= h'.length
 keep : ∀ (m : Nat) (o : Ob), h[m]? = some o -> ¬ Mt ns e m -> h'[m]? = some o
 nw : ∀ (i n : Nat), ns'[i]? = some (some n) -> ns[i]? = some (some n) \/ h.length <= n
 lk : ∀ (i : Nat) (s : Sl), e[i]? = some s -> s.lk = true -> e'[i]? = some s /\ ns'[i]? = ns[i]?
 lk' : ∀ (i : Nat) (s : Sl), e'[i]? = some s -> s.lk = true -> e[i]? = some s /\ ns'[i]? = ns[i]?
 mu : ∀ (i : Nat) (v : Val), e'[i]? = some (.mu v) -> ∃ u, e[i]? = some (.mu u) /\ ns'[i]? = ns[i]?
 mu' : ∀ (i : Nat) (u : Val), e[i]? = some (.mu u) -> ∃ v, e'[i]? = some (.mu v) /\ ns'[i]? = ns[i]?
section
variable {X : Nat -> Prop} {h0 : Nat} {ns ns' ns1 ns2 : Ns} {e e' e1 e2 : E3} {ae : AE} {h h' h1 h2 : AH}
theorem aX {n : Nat} : some n ∈ ns ↔ ∃ i : Nat, ns[i]? = some (some n) := by
 constructor
 ·intro m; exact List.getElem?_of_mem m
 ·rintro ⟨i, e⟩; exact List.mem_of_getElem? e
theorem Sat.own (S : Sat X h0 ns e ae h) {i n : Nat} (q : ns[i]? = some (some n)) : ∃ s v o, e[i]? = some s /\ (s.mt = true \/ s.lk = true) /\ s.val = some v /\ ae[i]? = some (some (.ref n)) /\ h[n]? = some o /\ bG o /\ Rc (Oc X ns) h o v := by
 have hi : i < e.length := by rw [<- S.l2]; exact (List.getElem?_eq_some_iff.mp q).1
 have hs := S.sl i e[i] (List.getElem?_eq_getElem hi)
 refine ⟨e[i], ?_⟩
 have he := List.getElem?_eq_getElem hi
 generalize e[i] = s at *
 rw [q] at hs
 cases s with
 | no => cases hs
 | sh v => cases hs.1
 | ow v => obtain ⟨m, o, e1, e2, _, e3, e4, e5⟩ := hs; cases e1; exact ⟨v, o, he, .inl rfl, rfl, e2, e3, e4, e5⟩
 | lo v => obtain ⟨m, o, e1, e2, _, e3, e4, e5⟩ := hs; cases e1; exact ⟨v, o, he, .inr rfl, rfl, e2, e3, e4, e5⟩
 | mu v => obtain ⟨m, o, e1, e2, e3, e4, e5⟩ := hs; cases e1; exact ⟨v, o, he, .inl rfl, rfl, e2, e3, e4, e5⟩
 | lm v => obtain ⟨m, o, e1, e2, e3, e4, e5⟩ := hs; cases e1; exact ⟨v, o, he, .inr rfl, rfl, e2, e3, e4, e5⟩
theorem Stp.refl : Stp ns e h ns e h := ⟨Nat.le_refl _, fun _ _ q _ => q, fun _ _ q => .inl q, fun _ _ q _ => ⟨q, rfl⟩, fun _ _ q _ => ⟨q, rfl⟩, fun _ _ q => ⟨_, q, rfl⟩, fun _ _ q => ⟨_, q, rfl⟩⟩
theorem
    Stp.trans (S : Sat X h0 ns e ae h) (a : Stp ns e h ns1 e1 h1) (b : Stp ns1 e1 h1 ns2 e2 h2) : Stp ns e h ns2 e2 h2 := by
 refine ⟨Nat.le_trans a.len b.len, fun m o q hm => ?_, fun i n q => ?_, fun i s q hl => ?_, fun i s q hl => ?_, fun i v q => ?_, fun i v q => ?_⟩
 ·refine b.keep m o (a.keep m o q hm) fun ⟨i, s, z1, z2, z3⟩ => hm ?_
  have hlt := (List.getElem?_eq_some_iff.mp q).1
  rcases a.nw i m z1 with z | z
  ·obtain ⟨s0, v, o', q1, q2, _⟩ := S.own z
   rcases q2 with q2 | q2
   ·exact ⟨i, s0, z, q1, q2⟩
   ·have := (a.lk i s0 q1 q2).1
    rw [z2] at this
    cases this
    exfalso
    cases s <;> first | cases z3; done | cases q2; done
  ·omega
 ·rcases b.nw i n q with z | z
  ·exact a.nw i n z
  ·exact .inr (Nat.le_trans a.len z)
 ·obtain ⟨q1, q2⟩ := a.lk i s q hl
  obtain ⟨q3, q4⟩ := b.lk i s q1 hl
  exact ⟨q3, q4.trans q2⟩
 ·obtain ⟨q1, q2⟩ := b.lk' i s q hl
  obtain ⟨q3, q4⟩ := a.lk' i s q1 hl
  exact ⟨q3, q2.trans q4⟩
 ·obtain ⟨u, q1, q2⟩ := b.mu i v q
  obtain ⟨u', q3, q4⟩ := a.mu i u q1
  exact ⟨u', q3, q2.trans q4⟩
 ·obtain ⟨u, q1, q2⟩ := a.mu' i v q
  obtain ⟨u', q3, q4⟩ := b.mu' i u q1
  exact ⟨u', q3, q4.trans q2⟩
theorem Stp.mov (S : Sat X h0 ns e ae h) (a : Stp ns e h ns1 e1 h1) : Mov (Oc X ns) (Oc X ns1) h h1 := fun n o p q => by
 have hlt := (List.getElem?_eq_some_iff.mp q).1
 have hm : ¬ Mt ns e n := fun ⟨i, s, z, _⟩ => p.2 (aX.mpr ⟨i, z⟩)
 refine ⟨⟨p.1, fun z => ?_⟩, a.keep n o q hm⟩
 obtain ⟨i, z⟩ := aX.mp z
 rcases a.nw i n z with z | z
 ·exact p.2 (aX.mpr ⟨i, z⟩)
 ·omega
theorem bU {n : Nat} {o : Ob} (q : h[n]? = some o) : n < h.length := (List.getElem?_eq_some_iff.mp q).1
theorem iS {n : Nat} {o : Ob} {g : AH} (q : h[n]? = some o) : (h ++ g)[n]? = some o := by rw [List.getElem?_append_left (bU q)]; exact q
theorem oG {o : Ob} : (h ++ [o])[h.length]? = some o := by rw [List.getElem?_append_right (Nat.le_refl _), Nat.sub_self]; rfl
theorem SlR.mono {P P' : Nat -> Prop} {n : Option (Option Nat)} {d : Option (Option D)} {s : Sl} (m : Mov P P' h h') (k : ∀ j o, n = some (some j) -> h[j]? = some o -> h'[j]? = some o) (r : SlR P h0 n d h s) : SlR P' h0 n d h' s := by
 cases s with
 | no => exact r
 | sh v => obtain ⟨q, x, q1, q2⟩ := r; exact ⟨q, x, q1, q2.mono m⟩
 | ow v => obtain ⟨j, o, q1, q2, q3, q4, q5, q6⟩ := r; exact ⟨j, o, q1, q2, q3, k j o q1 q4, q5, q6.mono m⟩
 | lo v => obtain ⟨j, o, q1, q2, q3, q4, q5, q6⟩ := r; exact ⟨j, o, q1, q2, q3, k j o q1 q4, q5, q6.mono m⟩
 | mu v => obtain ⟨j, o, q1, q2, q4, q5, q6⟩ := r; exact ⟨j, o, q1, q2, k j o q1 q4, q5, q6.mono m⟩
 | lm v => obtain ⟨j, o, q1, q2, q4, q5, q6⟩ := r; exact ⟨j, o, q1, q2, k j o q1 q4, q5, q6.mono m⟩
noncomputable def Xn (X : Nat -> Prop) (n : Nat) : Nat -> Prop := fun m => X m \/ m = n
theorem Sat.grow (S : Sat X h0 ns e ae h) (o : Ob) : Sat (Xn X h.length) h0 ns e ae (h ++ [o]) := by
 have mv : Mov (Oc X ns) (Oc (Xn X h.length) ns) h (h ++ [o]) := fun n o' p q => ⟨⟨fun z => by
  rcases z with z | z
  ·exact p.1 z
  ·have := bU q; omega, p.2⟩, iS q⟩
 refine ⟨S.l1, S.l2, by rw [List.length_append]; have := S.lh; omega, fun n z => ?_, S.inj, fun i n q z => ?_, fun i s q => (S.sl i s q).mono mv fun j o' _ q' => iS q'⟩
 ·rw [List.length_append]
  rcases z with z | z
  ·have := S.xl n z; omega
  ·subst z; show h.length < h.length + 1; omega
 ·rcases z with z | z
  ·exact S.nx i n q z
  ·obtain ⟨_, _, _, _, _, _, _, q', _⟩ := S.own q
   have := bU q'; omega
theorem Sat.weak {Y : Nat -> Prop} (S : Sat Y h0 ns e ae h) (hx : ∀ n, X n -> Y n) : Sat X h0 ns e ae h :=
 ⟨S.l1, S.l2, S.lh, fun n z => S.xl n (hx n z), S.inj, fun i n q z => S.nx i n q (hx n z), fun i s q => (S.sl i s q).mono (fun n o p q => ⟨⟨fun z => p.1 (hx n z), p.2⟩, q⟩) fun _ _ _ q => q⟩
theorem Stp.grow (o : Ob) : Stp ns e h ns e (h ++ [o]) := ⟨by rw [List.length_append]; omega, fun _ _ q _ => iS q, fun _ _ q => .inl q, fun _ _ q _ => ⟨q, rfl⟩, fun _ _ q _ => ⟨q, rfl⟩, fun _ _ q => ⟨_, q, rfl⟩, fun _ _ q => ⟨_, q, rfl⟩⟩
end
end L3
set_option Elab.async false
set_option linter.all false
set_option maxRecDepth 100000
namespace L3
open PySem PySem.Spec PyProof.Rows L2
section
variable {X : Nat -> Prop} {h0 : Nat} {ns ns' : Ns} {e e' : E3} {ae : AE} {h h' hs : AH}
theorem bj {α : Type} {l : List α} {i j : Nat} {a b : α} (hi : i < l.length) (q : (l.set i a)[j]? = some b) : (j = i /\ b = a) \/ (j ≠ i /\ l[j]? = some b) := by
 rw [List.getElem?_set] at q
 by_cases z : i = j
 ·subst z
  rw [if_pos rfl, if_pos hi] at q
  exact .inl ⟨rfl, (Option.some.inj q).symm⟩
 ·rw [if_neg z] at q
  exact .inr ⟨fun y => z y.symm, q⟩
theorem bx {α : Type} {l : List α} {i : Nat} {a : α} (hi : i < l.length) : (l.set i a)[i]? = some a := by rw [List.getElem?_set, if_pos rfl, if_pos hi]
theorem bg {α : Type} {l : List α} {i j : Nat} {a : α} (hi : j ≠ i) : (l.set i a)[j]? = l[j]? := by rw [List.getElem?_set_ne (fun y => hi y.symm)]
theorem dU {i n : Nat} (p : Oc X ns n) : Oc X (ns.set i none) n := ⟨p.1, fun z => by
 rcases List.mem_or_eq_of_mem_set z with z | z
 ·exact p.2 z
 ·cases z⟩
theorem Sat.putN (S : Sat X h0 ns e ae h) {i : Nat} (hi : i < e.length) {s : Sl} {d : Option D} (q : SlR (Oc X (ns.set i none)) h0 (some none) (some d) h s) : Sat X h0 (ns.set i none) (e.set i s) (ae.set i d) h := by
 have hn : i < ns.length := by rw [S.l2]; exact hi
 have ha : i < ae.length := by rw [S.l1]; exact hi
 refine ⟨by rw [List.length_set, List.length_set]; exact S.l1, by rw [List.length_set, List.length_set]; exact S.l2, S.lh, S.xl, fun j k n q1 q2 => ?_, fun j n q1 => ?_, fun j s' q1 => ?_⟩
 ·rcases bj hn q1 with ⟨_, z⟩ | ⟨_, z⟩
  ·cases z
  rcases bj hn q2 with ⟨_, y⟩ | ⟨_, y⟩
  ·cases y
  exact S.inj j k n z y
 ·rcases bj hn q1 with ⟨_, z⟩ | ⟨_, z⟩
  ·cases z
  exact S.nx j n z
 ·rcases bj hi q1 with ⟨rfl, rfl⟩ | ⟨z, q2⟩
  ·rw [bx hn, bx ha]; exact q
  ·rw [bg z, bg z]
   exact (S.sl j s' q2).mono (fun n o p q => ⟨dU p, q⟩) fun _ _ _ q => q
theorem Sat.putN' (S : Sat X h0 ns e ae h) {i : Nat} (hi : i < e.length) {s : Sl} (q : SlR (Oc X (ns.set i none)) h0 (some none) (ae[i]?) h s) : Sat X h0 (ns.set i none) (e.set i s) ae h := by
 have ha : i < ae.length := by rw [S.l1]; exact hi
 have := S.putN hi (s := s) (d := ae[i]) (by rw [List.getElem?_eq_getElem ha] at q; exact q)
 rw [List.set_getElem_self] at this
 exact this
theorem Sat.putO {n : Nat} {o : Ob} {v : Val} (S : Sat (Xn X n) h0 ns e ae h) (hx : ¬ X n) {i : Nat} (hi : i < e.length) (hn0 : h0 <= n) (eo : h[n]? = some o) (hf : bG o) (r : Rc (Oc (Xn X n) ns) h o v) : Sat X h0 (ns.set i (some n)) (e.set i (.ow v)) (ae.set i (some (.ref n))) h := by
 have hn : i < ns.length := by rw [S.l2]; exact hi
 have ha : i < ae.length := by rw [S.l1]; exact hi
 have nn : ∀ j : Nat, ns[j]? ≠ some (some n) := fun j q => S.nx j n q (.inr rfl)
 have mv : Mov (Oc (Xn X n) ns) (Oc X (ns.set i (some n))) h h := fun m o' p q => ⟨⟨fun z => p.1 (.inl z), fun z => by
  rcases List.mem_or_eq_of_mem_set z with z | z
  ·exact p.2 z
  ·cases z; exact p.1 (.inr rfl)⟩, q⟩
 refine ⟨by rw [List.length_set, List.length_set]; exact S.l1, by rw [List.length_set, List.length_set]; exact S.l2, S.lh, fun m z => S.xl m (.inl z), fun j k m q1 q2 => ?_, fun j m q1 z => ?_, fun j s' q1 => ?_⟩
 ·rcases bj hn q1 with ⟨z1, z⟩ | ⟨z1, z⟩ <;> rcases bj hn q2 with ⟨y1, y⟩ | ⟨y1, y⟩
  ·rw [z1, y1]
  ·cases z; exact absurd y (nn k)
  ·cases y; exact absurd z (nn j)
  ·exact S.inj j k m z y
 ·rcases bj hn q1 with ⟨_, y⟩ | ⟨_, y⟩
  ·cases y; exact hx z
  ·exact S.nx j m y (.inl z)
 ·rcases bj hi q1 with ⟨rfl, rfl⟩ | ⟨z, q2⟩
  ·rw [bx hn, bx ha]; exact ⟨n, o, rfl, rfl, hn0, eo, hf, r.mono mv⟩
  ·rw [bg z, bg z]
   exact (S.sl j s' q2).mono mv fun _ _ _ q => q
noncomputable def Sl.pl : Sl -> Bool
 | .no => true
 | .sh _ => true
 | .ow _ => true
 | _ => false
theorem Stp.put {ns0 : Ns} {e0 : E3} (A : Stp ns0 e0 hs ns e h) {i : Nat} (hi : i < e.length) {x : Option Nat} (hx : ∀ n, x = some n -> hs.length <= n) {s s0 : Sl} (q0 : e[i]? = some s0) (p0 : s0.pl = true) (p : s.pl = true) (l2 : ns.length = e.length) : Stp ns0 e0 hs (ns.set i x) (e.set i s) h := by
 have hn : i < ns.length := by rw [l2]; exact hi
 refine ⟨A.len, A.keep, fun j n q => ?_, fun j s' q hl => ?_, fun j s' q hl => ?_, fun j v q => ?_, fun j v q => ?_⟩
 ·rcases bj hn q with ⟨_, z⟩ | ⟨_, z⟩
  ·exact .inr (hx n z.symm)
  ·exact A.nw j n z
 ·obtain ⟨q1, q2⟩ := A.lk j s' q hl
  have z : j ≠ i := fun z => by
   subst z
   rw [q0] at q1; cases q1
   cases s0 <;> first | cases p0; done | cases hl; done
  rw [bg z, bg z]; exact ⟨q1, q2⟩
 ·rcases bj hi q with ⟨_, z⟩ | ⟨z, q1⟩
  ·subst z; cases s' <;> first | cases p; done | cases hl; done
  ·rw [bg z]; exact A.lk' j s' q1 hl
 ·rcases bj hi q with ⟨_, z⟩ | ⟨z, q1⟩
  ·subst z; cases p
  ·rw [bg z]; exact A.mu j v q1
 ·obtain ⟨u, q1, q2⟩ := A.mu' j v q
  have z : j ≠ i := fun z => by
   subst z
   rw [q0] at q1; cases q1; cases p0
  exact ⟨u, by rw [bg z]; exact q1, by rw [bg z]; exact q2⟩
end
inductive Tm where
 | val (v : Val) | new (v : Val) | bor (i : Nat)
inductive R3 (α : Type) where
 | ok (a : α) (e : E3) | exc (c : Str) (e : E3) | stuck
noncomputable def R3.bind {α β : Type} (r : R3 α) (f : α -> E3 -> R3 β) : R3 β := match r with
 | .ok a e => f a e
 | .exc c e => .exc c e
 | .stuck => .stuck
abbrev ME3 := E3 -> R3 Tm
abbrev MT3 := E3 -> R3 Bool
abbrev MA3 := E3 -> R3 (List Tm)
noncomputable def Po {δ α : Type} (X : Nat -> Prop) (h0 : Nat) (ns : Ns) (e : E3) (ae : AE) (h : AH) (rel : Ns -> E3 -> AH -> δ -> α -> Prop) (r2 : R δ) : R3 α -> Prop
 | .stuck => True
 | .ok t e' => ∃ d h' ns', r2 = .ok d h' /\ Stp ns e h ns' e' h' /\ Sat X h0 ns' e' ae h' /\ rel ns' e' h' d t
 | .exc c e' => ∃ h' ns', r2 = .exc c h' /\ Stp ns e h ns' e' h' /\ Sat X h0 ns' e' ae h'
noncomputable def relE (X : Nat -> Prop) (h0 L : Nat) (ae : AE) (ns : Ns) (e : E3) (h : AH) (d : D) : Tm -> Prop
 | .val v => Rd (Oc X ns) h d v
 | .new v => ∃ n o, d = .ref n /\ L <= n /\ ¬ X n /\ h[n]? = some o /\ bG o /\ Sat (Xn X n) h0 ns e ae h /\ Rc (Oc (Xn X n) ns) h o v
 | .bor i => ae[i]? = some (some d)
noncomputable def relT (_ : Ns) (_ : E3) (_ : AH) (b c : Bool) : Prop := b = c
inductive TsR (X : Nat -> Prop) (ns : Ns) (ae : AE) (h : AH) : List D -> List Tm -> Prop where
 | nil : TsR X ns ae h [] []
 | val {d : D} {v : Val} {ds : List D} {ts : List Tm} (r : Rd (Oc X ns) h d v) (rr : TsR X ns ae h ds ts) : TsR X ns ae h (d :: ds) (.val v :: ts)
 | bor {d : D} {i : Nat} {ds : List D} {ts : List Tm} (q : ae[i]? = some (some d)) (rr : TsR X ns ae h ds ts) : TsR X ns ae h (d :: ds) (.bor i :: ts)
noncomputable def relA (X : Nat -> Prop) (ae : AE) (ns : Ns) (_ : E3) (h : AH) (ds : List D) (ts : List Tm) : Prop := TsR X ns ae h ds ts
noncomputable def RE (F : ME) (G : ME3) : Prop := ∀ X h0 L ns e ae h, Sat X h0 ns e ae h -> L <= h.length -> Po X h0 ns e ae h (relE X h0 L ae) (F ae h) (G e)
noncomputable def RT (F : MT) (G : MT3) : Prop := ∀ X h0 ns e ae h, Sat X h0 ns e ae h -> Po X h0 ns e ae h relT (F ae h) (G e)
noncomputable def RA (F : MA) (G : MA3) : Prop := ∀ X h0 ns e ae h, Sat X h0 ns e ae h -> Po X h0 ns e ae h (relA X ae) (F ae h) (G e)
section
variable {X : Nat -> Prop} {h0 L : Nat} {ns ns' : Ns} {e e' : E3} {ae : AE} {h h' : AH}
theorem Po.bind {δ δ' α α' : Type} {rel : Ns -> E3 -> AH -> δ -> α -> Prop} {rel' : Ns -> E3 -> AH -> δ' -> α' -> Prop} {r2 : R δ} {r3 : R3 α} {f2 : δ -> AH -> R δ'} {f3 : α -> E3 -> R3 α'} (S : Sat X h0 ns e ae h) (p : Po X h0 ns e ae h rel r2 r3)
  (k : ∀ d t h' ns' e', Stp ns e h ns' e' h' -> Sat X h0 ns' e' ae h' -> rel ns' e' h' d t -> Po X h0 ns' e' ae h' rel' (f2 d h') (f3 t e')) : Po X h0 ns e ae h rel' (r2.bind f2) (r3.bind f3) := by
 cases r3 with
 | stuck => trivial
 | exc c e' => obtain ⟨h', ns', q, q1, q2⟩ := p; subst q; exact ⟨h', ns', rfl, q1, q2⟩
 |
  ok t e' =>
  obtain ⟨d, h', ns', q, q1, q2, q3⟩ := p
  subst q
  have := k d t h' ns' e' q1 q2 q3
  show Po X h0 ns e ae h rel' (f2 d h') (f3 t e')
  generalize f3 t e' = r at *
  cases r with
  | stuck => trivial
  | exc c e2 => obtain ⟨h2, ns2, y, y1, y2⟩ := this; exact ⟨h2, ns2, y, q1.trans S y1, y2⟩
  | ok t2 e2 => obtain ⟨d2, h2, ns2, y, y1, y2, y3⟩ := this; exact ⟨d2, h2, ns2, y, q1.trans S y1, y2, y3⟩
theorem Po.ret {δ α : Type} {rel : Ns -> E3 -> AH -> δ -> α -> Prop} {d : δ} {t : α} (S : Sat X h0 ns e ae h) (q : rel ns e h d t) : Po X h0 ns e ae h rel (.ok d h) (.ok t e) := ⟨d, h, ns, rfl, .refl, S, q⟩
theorem TsR.stp {ds : List D} {ts : List Tm} (S : Sat X h0 ns e ae h) (a : Stp ns e h ns' e' h') (r : TsR X ns ae h ds ts) : TsR X ns' ae h' ds ts := by
 induction r with
 | nil => exact .nil
 | val r _ ih => exact .val (r.mono (a.mov S)) ih
 | bor q _ ih => exact .bor q ih
noncomputable def rs (e : E3) : Tm -> Option Val
 | .val v => some v
 | .new v => some v
 | .bor i => (e[i]?).bind Sl.val
theorem Sat.bor (S : Sat X h0 ns e ae h) {i : Nat} {d : D} {v : Val} (q : ae[i]? = some (some d)) (r : (e[i]?).bind Sl.val = some v) : ShR (Oc X ns) h d v := by
 cases z : e[i]? with
 | none => rw [z] at r; cases r
 |
  some s =>
  rw [z] at r
  have y := S.sl i s z
  rw [q] at y
  have r' : s.val = some v := r
  cases s with
  | no => cases r'
  | sh u => cases r'; obtain ⟨_, x, e1, e2⟩ := y; cases e1; exact .inl e2
  | ow u => cases r'; obtain ⟨m, o, _, e2, _, e3, _, e4⟩ := y; cases e2; exact .inr ⟨m, o, rfl, e3, e4⟩
  | lo u => cases r'; obtain ⟨m, o, _, e2, _, e3, _, e4⟩ := y; cases e2; exact .inr ⟨m, o, rfl, e3, e4⟩
  | mu u => cases r'; obtain ⟨m, o, _, e2, e3, _, e4⟩ := y; cases e2; exact .inr ⟨m, o, rfl, e3, e4⟩
  | lm u => cases r'; obtain ⟨m, o, _, e2, e3, _, e4⟩ := y; cases e2; exact .inr ⟨m, o, rfl, e3, e4⟩
theorem relE.new {d : D} {v : Val} (r : relE X h0 L ae ns e h d (.new v)) : Rd (Oc X ns) h d v := by
 obtain ⟨n, o, rfl, _, hx, eo, _, S, rc⟩ := r
 exact .cell ⟨hx, fun z => by obtain ⟨i, z⟩ := aX.mp z; exact S.nx i n z (.inr rfl)⟩ eo (rc.mono fun m o p q => ⟨⟨fun z => p.1 (.inl z), p.2⟩, q⟩)
theorem relE.sh {d : D} {t : Tm} {v : Val} (S : Sat X h0 ns e ae h) (r : relE X h0 L ae ns e h d t) (q : rs e t = some v) : ShR (Oc X ns) h d v := by
 cases t with
 | val u => cases q; exact .inl r
 | new u => cases q; exact .inl r.new
 | bor i => exact S.bor r q
theorem relE.stp {d : D} {t : Tm} (S : Sat X h0 ns e ae h) (a : Stp ns e h ns' e' h') (r : relE X h0 L ae ns e h d t) (hn : ∀ v, t ≠ .new v) : relE X h0 L ae ns' e' h' d t := by
 cases t with
 | val u => exact Rd.mono (a.mov S) r
 | new u => exact absurd rfl (hn u)
 | bor i => exact r
noncomputable def Tm.drop : Tm -> Tm
 | .new v => .val v
 | t => t
theorem relE.drop {d : D} {t : Tm} (r : relE X h0 L ae ns e h d t) : relE X h0 L ae ns e h d t.drop /\ ∀ v, t.drop ≠ .new v := by
 cases t with
 | val u => exact ⟨r, fun _ z => nomatch z⟩
 | new u => exact ⟨r.new, fun _ z => nomatch z⟩
 | bor i => exact ⟨r, fun _ z => nomatch z⟩
noncomputable def rss (e : E3) : List Tm -> Option (List Val)
 | [] => some []
 | t :: ts => match rs e t, rss e ts with
  | some v, some vs => some (v :: vs)
  | _, _ => none
theorem TsR.sh {ds : List D} {ts : List Tm} {vs : List Val} (S : Sat X h0 ns e ae h) (r : TsR X ns ae h ds ts) (q : rss e ts = some vs) : ShRs (Oc X ns) h ds vs := by
 induction r generalizing vs with
 | nil => cases q; exact .nil
 |
  val r _ ih =>
  unfold rss at q
  split at q
  ·rename_i e1 e2; cases q; cases e1; exact .cons (.inl r) (ih e2)
  ·cases q
 |
  bor q' _ ih =>
  unfold rss at q
  split at q
  ·rename_i e1 e2; cases q; exact .cons (S.bor q' e1) (ih e2)
  ·cases q
end
inductive Bv where
 | val (v : Val) | new (v : Val) | stuck
noncomputable def BvR (P : Nat -> Prop) (h : AH) (r : R D) : Bv -> Prop
 | .val v => ∃ d, r = .ok d h /\ Rd P h d v
 | .new v => ∃ o, r = .ok (.ref h.length) (h ++ [o]) /\ bG o /\ Rc P h o v
 | .stuck => True
noncomputable def Bv.at (b : Bv) (e : E3) : R3 Tm := match b with
 | .val v => .ok (.val v) e
 | .new v => .ok (.new v) e
 | .stuck => .stuck
theorem BvR.po {X : Nat -> Prop} {h0 L : Nat} {ns : Ns} {e : E3} {ae : AE} {h : AH} {r : R D} {b : Bv} (S : Sat X h0 ns e ae h) (hl : L <= h.length) (q : BvR (Oc X ns) h r b) : Po X h0 ns e ae h (relE X h0 L ae) r (b.at e) := by
 cases b with
 | stuck => trivial
 | val v => obtain ⟨d, rfl, r⟩ := q; exact Po.ret S r
 |
  new v =>
  obtain ⟨o, rfl, hf, r⟩ := q
  have S' := S.grow o
  refine ⟨_, _, ns, rfl, .grow o, S'.weak fun n z => .inl z, h.length, o, rfl, hl, fun z => ?_, oG, hf, S', r.mono fun n o' p q => ⟨⟨fun z => ?_, p.2⟩, iS q⟩⟩
  ·have := S.xl _ z; omega
  ·rcases z with z | z
   ·exact p.1 z
   ·have := bU q; omega
noncomputable def RU (g2 : D -> AH -> R D) (g3 : Val -> Bv) : Prop := ∀ P h d v, ShR P h d v -> BvR P h (g2 d h) (g3 v)
noncomputable def RO (g2 : D -> D -> AH -> R D) (g3 : Val -> Val -> Bv) : Prop := ∀ P h d1 d2 v1 v2, ShR P h d1 v1 -> ShR P h d2 v2 -> BvR P h (g2 d1 d2 h) (g3 v1 v2)
noncomputable def RFn (g2 : Fn) (g3 : List Val -> Bv) : Prop := ∀ P h ds vs, ShRs P h ds vs -> BvR P h (g2 ds h) (g3 vs)
noncomputable def ua (i : Nat) : ME3 := fun e => match e[i]? with
 | some (.sh v) => .ok (.val v) e
 | some .no => .stuck
 | some _ => .ok (.bor i) e
 | none => .stuck
noncomputable def vC (v : Val) : ME3 := fun e => .ok (.val v) e
noncomputable def vUn (g : Val -> Bv) (F : ME3) : ME3 := fun e => (F e).bind fun t e1 => match rs e1 t with
 | some v => (g v).at e1
 | none => .stuck
noncomputable def vOp (g : Val -> Val -> Bv) (F G : ME3) : ME3 := fun e => (F e).bind fun t1 e1 => (G e1).bind fun t2 e2 => match rs e2 t1.drop, rs e2 t2 with
 | some v1, some v2 => (g v1 v2).at e2
 | _, _ => .stuck
noncomputable def vNil : MA3 := fun e => .ok [] e
noncomputable def vG (F : ME3) (A : MA3) : MA3 := fun e => (F e).bind fun t e1 => (A e1).bind fun ts e2 => .ok (t.drop :: ts) e2
noncomputable def vFn (g : List Val -> Bv) (A : MA3) : ME3 := fun e => (A e).bind fun ts e1 => match rss e1 ts with
 | some vs => (g vs).at e1
 | none => .stuck
noncomputable def bZ (e : E3) : Tm -> Option (E3 × Val)
 | .val v => some (e, v)
 | .new v => some (e, v)
 | .bor i => match e[i]? with
  | some (.sh v) => some (e, v)
  | some (.ow v) => some (e.set i (.sh v), v)
  | _ => none
noncomputable def dem (e : E3) : List Tm -> Option (E3 × List Val)
 | [] => some (e, [])
 | t :: ts => match bZ e t with
  | some (e1, v) => match dem e1 ts with
   | some (e2, vs) => some (e2, v :: vs)
   | none => none
  | none => none
noncomputable def vTup (A : MA3) : ME3 := fun e => (A e).bind fun ts e1 => match dem e1 ts with
 | some (e2, vs) => if vs.length <= 16777216 then .ok (.val (.tup vs)) e2 else .stuck
 | none => .stuck
noncomputable def vLst (A : MA3) : ME3 := fun e => (A e).bind fun ts e1 => match dem e1 ts with
 | some (e2, vs) => if vs.length <= 16777216 then .ok (.new (.lst vs)) e2 else .stuck
 | none => .stuck
noncomputable def bOf : Option Val -> Option Bool
 | some (.bl b) => some b
 | _ => none
noncomputable def vAnd (F G : ME3) : ME3 := fun e => (F e).bind fun t e1 => match bOf (rs e1 t) with
 | some true => G e1
 | some false => .ok (.val (.bl false)) e1
 | none => .stuck
noncomputable def vOr (F G : ME3) : ME3 := fun e => (F e).bind fun t e1 => match bOf (rs e1 t) with
 | some true => .ok (.val (.bl true)) e1
 | some false => G e1
 | none => .stuck
noncomputable def vNot (F : ME3) : ME3 := fun e => (F e).bind fun t e1 => match bOf (rs e1 t) with
 | some b => .ok (.val (.bl (!b))) e1
 | none => .stuck
noncomputable def cOf (F : ME3) : MT3 := fun e => (F e).bind fun t e1 => match bOf (rs e1 t) with
 | some b => .ok b e1
 | none => .stuck
noncomputable def cAn (c d : MT3) : MT3 := fun e => (c e).bind fun b e1 => if b = true then d e1 else .ok false e1
noncomputable def cO (c d : MT3) : MT3 := fun e => (c e).bind fun b e1 => if b = true then .ok true e1 else d e1
noncomputable def cNo (c : MT3) : MT3 := fun e => (c e).bind fun b e1 => .ok (!b) e1
noncomputable def cY : MT3 := fun e => .ok true e
section
variable {F G : ME} {F3 G3 : ME3} {A : MA} {A3 : MA3} {c d : MT} {c3 d3 : MT3}
theorem AQ (i : Nat) : RE (cS i) (ua i) := fun X h0 L ns e ae h S hl => by
 unfold ua
 cases q : e[i]? with
 | none => trivial
 |
  some s =>
  have y := S.sl i s q
  cases s with
  | no => trivial
  | sh v => obtain ⟨_, x, e1, e2⟩ := y; unfold cS; rw [e1]; exact Po.ret S e2
  | ow v => obtain ⟨m, o, _, e2, _⟩ := y; unfold cS; rw [e2]; exact Po.ret S e2
  | lo v => obtain ⟨m, o, _, e2, _⟩ := y; unfold cS; rw [e2]; exact Po.ret S e2
  | mu v => obtain ⟨m, o, _, e2, _⟩ := y; unfold cS; rw [e2]; exact Po.ret S e2
  | lm v => obtain ⟨m, o, _, e2, _⟩ := y; unfold cS; rw [e2]; exact Po.ret S e2
theorem mf {d : D} {v : Val} (r : ∀ P h, Rd P h d v) : RE (eC d) (vC v) := fun X h0 L ns e ae h S hl => Po.ret S (r _ _)
theorem Cb {g : D -> AH -> R D} {g3 : Val -> Bv} (hg : RU g g3) (hF : RE F F3) : RE (eUn g F) (vUn g3 F3) := fun X h0 L ns e ae h S hl =>
 Po.bind S (hF X h0 L ns e ae h S hl) fun d t h1 ns1 e1 a1 S1 r1 => by
  try dsimp only
  split
  ·rename_i v q
   exact BvR.po S1 (Nat.le_trans hl a1.len) (hg _ _ _ _ (r1.sh S1 q))
  ·trivial
theorem B9 {g : D -> D -> AH -> R D} {g3 : Val -> Val -> Bv} (hg : RO g g3) (hF : RE F F3) (hG : RE G G3) : RE (eOp g F G) (vOp g3 F3 G3) := fun X h0 L ns e ae h S hl =>
 Po.bind S (hF X h0 L ns e ae h S hl) fun d1 t1 h1 ns1 e1 a1 S1 r1 => Po.bind S1 (hG X h0 L ns1 e1 ae h1 S1 (Nat.le_trans hl a1.len)) fun d2 t2 h2 ns2 e2 a2 S2 r2 => by
  try dsimp only
  split
  ·rename_i v1 v2 q1 q2
   obtain ⟨r1', hn⟩ := r1.drop
   exact BvR.po S2 (Nat.le_trans hl (Nat.le_trans a1.len a2.len)) (hg _ _ _ _ _ _ ((r1'.stp S1 a2 hn).sh S2 q1) (r2.sh S2 q2))
  ·trivial
theorem BE : RA p8 vNil := fun X h0 ns e ae h S => Po.ret S .nil
theorem wM (hF : RE F F3) (hA : RA A A3) : RA (lV F A) (vG F3 A3) := fun X h0 ns e ae h S =>
 Po.bind S (hF X h0 0 ns e ae h S (Nat.zero_le _)) fun d1 t1 h1 ns1 e1 a1 S1 r1 => Po.bind S1 (hA X h0 ns1 e1 ae h1 S1) fun ds ts h2 ns2 e2 a2 S2 r2 => by
  obtain ⟨r1', hn⟩ := r1.drop
  have r3 := r1'.stp S1 a2 hn
  refine Po.ret S2 ?_
  show TsR X ns2 ae h2 (d1 :: ds) (t1.drop :: ts)
  generalize t1.drop = t at *
  cases t with
  | val v => exact .val r3 r2
  | new v => exact absurd rfl (hn v)
  | bor i => exact .bor r3 r2
theorem BR {g : Fn} {g3 : List Val -> Bv} (hg : RFn g g3) (hA : RA A A3) : RE (eFn g A) (vFn g3 A3) := fun X h0 L ns e ae h S hl =>
 Po.bind S (hA X h0 ns e ae h S) fun ds ts h1 ns1 e1 a1 S1 r1 => by
  try dsimp only
  split
  ·rename_i vs q
   exact BvR.po S1 (Nat.le_trans hl a1.len) (hg _ _ _ _ (TsR.sh S1 r1 q))
  ·trivial
theorem zH {X : Nat -> Prop} {h0 : Nat} {ns : Ns} {e : E3} {ae : AE} {h : AH} {i : Nat} {v : Val} (S : Sat X h0 ns e ae h) (q : e[i]? = some (.ow v)) : ∃ n, ae[i]? = some (some (.ref n)) /\ Sat X h0 (ns.set i none) (e.set i (.sh v)) ae h /\ Stp ns e h (ns.set i none) (e.set i (.sh v)) h /\ Rd (Oc X (ns.set i none)) h (.ref n) v := by
 obtain ⟨n, o, q1, q2, _, q3, _, q4⟩ := S.sl i _ q
 have hi := (List.getElem?_eq_some_iff.mp q).1
 have hn : i < ns.length := by rw [S.l2]; exact hi
 have r : Rd (Oc X (ns.set i none)) h (.ref n) v := .cell ⟨S.nx i n q1, fun z => by
  obtain ⟨j, z⟩ := aX.mp z
  rcases bj hn z with ⟨_, y⟩ | ⟨y, z⟩
  ·cases y
  ·exact y (S.inj j i n z q1)⟩ q3 (q4.mono fun m o p q => ⟨dU p, q⟩)
 exact ⟨n, q2, S.putN' hi ⟨rfl, _, q2, r⟩, Stp.refl.put (x := none) hi (fun _ z => by cases z) q rfl rfl S.l2, r⟩
theorem dM {X : Nat -> Prop} {h0 L : Nat} {ns : Ns} {e e' : E3} {ae : AE} {h : AH} {d : D} {t : Tm} {v : Val} (S : Sat X h0 ns e ae h) (r : relE X h0 L ae ns e h d t) (q : bZ e t = some (e', v)) : ∃ ns', Sat X h0 ns' e' ae h /\ Stp ns e h ns' e' h /\ Rd (Oc X ns') h d v := by
 cases t with
 | val u => cases q; exact ⟨ns, S, .refl, r⟩
 | new u => cases q; exact ⟨ns, S, .refl, r.new⟩
 |
  bor i =>
  unfold bZ at q
  dsimp only at q
  have r' : ae[i]? = some (some d) := r
  split at q
  ·rename_i u q1; cases q
   obtain ⟨_, x, e1, e2⟩ := S.sl i _ q1
   rw [r'] at e1; cases e1
   exact ⟨ns, S, .refl, e2⟩
  ·rename_i u q1; cases q
   obtain ⟨n, e1, S', a', e2⟩ := zH S q1
   rw [r'] at e1; cases e1
   exact ⟨_, S', a', e2⟩
  ·cases q
theorem
    gj {X : Nat -> Prop} {h0 : Nat} {ae : AE} {h : AH} {ts : List Tm} : ∀ {ds : List D} {vs : List Val} {ns : Ns} {e e' : E3}, Sat X h0 ns e ae h -> TsR X ns ae h ds ts -> dem e ts = some (e', vs) -> ∃ ns', Sat X h0 ns' e' ae h /\ Stp ns e h ns' e' h /\ Rds (Oc X ns') h ds vs := by
 induction ts with
 | nil => intro ds vs ns e e' S r q; cases r; cases q; exact ⟨ns, S, .refl, .nil⟩
 |
  cons t ts ih =>
  intro ds vs ns e e' S r q
  unfold dem at q
  split at q
  ·rename_i e1 v q1
   split at q
   ·rename_i e2 vs' q2
    cases q
    have hr : ∃ d ds', ds = d :: ds' /\ relE X h0 0 ae ns e h d t /\ TsR X ns ae h ds' ts := by
     cases r with
     | val r rr => exact ⟨_, _, rfl, r, rr⟩
     | bor r rr => exact ⟨_, _, rfl, r, rr⟩
    obtain ⟨d, ds', rfl, hr⟩ := hr
    obtain ⟨ns1, S1, a1, r1⟩ := dM S hr.1 q1
    obtain ⟨ns2, S2, a2, r2⟩ := ih S1 (hr.2.stp S a1) q2
    exact ⟨ns2, S2, a1.trans S a2, .cons (r1.mono (a2.mov S1)) r2⟩
   ·cases q
  ·cases q
theorem
    yQ (hA : RA A A3) : RE (eFn j6 A) (vTup A3) := fun X h0 L ns e ae h S hl =>
 Po.bind S (hA X h0 ns e ae h S) fun ds ts h1 ns1 e1 a1 S1 r1 => by
  try dsimp only
  split
  ·rename_i e2 vs q
   split
   ·rename_i hv
    obtain ⟨ns2, S2, a2, r2⟩ := gj S1 r1 q
    exact ⟨.tup ds, h1, ns2, by unfold j6; rw [if_pos (by rw [r2.len]; exact hv)], a2, S2, .tup r2⟩
   ·trivial
  ·trivial
theorem
    yq (hA : RA A A3) : RE (eFn cQ A) (vLst A3) := fun X h0 L ns e ae h S hl =>
 Po.bind S (hA X h0 ns e ae h S) fun ds ts h1 ns1 e1 a1 S1 r1 => by
  try dsimp only
  split
  ·rename_i e2 vs q
   split
   ·rename_i hv
    obtain ⟨ns2, S2, a2, r2⟩ := gj S1 r1 q
    have p := BvR.po (r := cQ ds h1) (b := .new (.lst vs)) S2 (Nat.le_trans hl a1.len) ⟨.lst ds, by unfold cQ; rw [if_pos (by rw [r2.len]; exact hv)], trivial, .lst r2⟩
    obtain ⟨d, h', ns', y, y1, y2, y3⟩ := p
    exact ⟨d, h', ns', y, a2.trans S1 y1, y2, y3⟩
   ·trivial
  ·trivial
theorem fP {X : Nat -> Prop} {h0 L : Nat} {ae : AE} {ns1 : Ns} {e1 : E3} {h1 : AH} {d1 : D} {t1 : Tm} {b : Bool} (S1 : Sat X h0 ns1 e1 ae h1) (r1 : relE X h0 L ae ns1 e1 h1 d1 t1) (q : bOf (rs e1 t1) = some b) : d1 = .bl b := by
 unfold bOf at q
 split at q
 ·rename_i b' q'; cases q; exact (r1.sh S1 q').bl
 ·cases q
theorem Am (hF : RE F F3) (hG : RE G G3) : RE (sV F G) (vAnd F3 G3) := fun X h0 L ns e ae h S hl =>
 Po.bind S (hF X h0 L ns e ae h S hl) fun d1 t1 h1 ns1 e1 a1 S1 r1 => by
  try dsimp only
  split
  ·rename_i q; rw [fP S1 r1 q]; exact hG X h0 L ns1 e1 ae h1 S1 (Nat.le_trans hl a1.len)
  ·rename_i q; rw [fP S1 r1 q]; exact Po.ret S1 (.bl false)
  ·trivial
theorem Cw (hF : RE F F3) (hG : RE G G3) : RE (eOr F G) (vOr F3 G3) := fun X h0 L ns e ae h S hl =>
 Po.bind S (hF X h0 L ns e ae h S hl) fun d1 t1 h1 ns1 e1 a1 S1 r1 => by
  try dsimp only
  split
  ·rename_i q; rw [fP S1 r1 q]; exact Po.ret S1 (.bl true)
  ·rename_i q; rw [fP S1 r1 q]; exact hG X h0 L ns1 e1 ae h1 S1 (Nat.le_trans hl a1.len)
  ·trivial
theorem Bw (hF : RE F F3) : RE (vc F) (vNot F3) := fun X h0 L ns e ae h S hl =>
 Po.bind S (hF X h0 L ns e ae h S hl) fun d1 t1 h1 ns1 e1 a1 S1 r1 => by
  try dsimp only
  split
  ·rename_i q; rw [fP S1 r1 q]; exact Po.ret S1 (.bl _)
  ·trivial
theorem Cq (hF : RE F F3) : RT (tOf F) (cOf F3) := fun X h0 ns e ae h S =>
 Po.bind S (hF X h0 0 ns e ae h S (Nat.zero_le _)) fun d1 t1 h1 ns1 e1 a1 S1 r1 => by
  try dsimp only
  split
  ·rename_i q; rw [fP S1 r1 q]; exact Po.ret S1 rfl
  ·trivial
theorem B6 (hc : RT c c3) (hd : RT d d3) : RT (tAn c d) (cAn c3 d3) := fun X h0 ns e ae h S =>
 Po.bind S (hc X h0 ns e ae h S) fun b b' h1 ns1 e1 a1 S1 r1 => by
  cases r1
  try dsimp only
  split
  ·exact hd X h0 ns1 e1 ae h1 S1
  ·exact Po.ret S1 rfl
theorem rt_o (hc : RT c c3) (hd : RT d d3) : RT (tO c d) (cO c3 d3) := fun X h0 ns e ae h S =>
 Po.bind S (hc X h0 ns e ae h S) fun b b' h1 ns1 e1 a1 S1 r1 => by
  cases r1
  try dsimp only
  split
  ·exact Po.ret S1 rfl
  ·exact hd X h0 ns1 e1 ae h1 S1
theorem DZ (hc : RT c c3) : RT (tNo c) (cNo c3) := fun X h0 ns e ae h S =>
 Po.bind S (hc X h0 ns e ae h S) fun b b' h1 ns1 e1 a1 S1 r1 => by
  cases r1
  exact Po.ret S1 rfl
theorem rt_y : RT tY cY := fun X h0 ns e ae h S => Po.ret S rfl
end
end L3
set_option Elab.async false
set_option linter.all false
set_option maxRecDepth 100000
namespace L3
open PySem PySem.Spec PyProof.Rows L2
inductive Rt where
 | val (v : Val) | new (v : Val)
inductive SR3 where
 | nx (e : E3) | rt (r : Rt) (e : E3) | bk (e : E3) | ct (e : E3) | exc (c : Str) (e : E3) | stuck
abbrev MS3 := E3 -> SR3
noncomputable def RtR (X : Nat -> Prop) (h0 : Nat) (ns : Ns) (e : E3) (ae : AE) (h : AH) (d : D) : Rt -> Prop
 | .val v => Sat X h0 ns e ae h /\ Rd (Oc X ns) h d v
 | .new v => ∃ n o, d = .ref n /\ h0 <= n /\ ¬ X n /\ h[n]? = some o /\ bG o /\ Sat (Xn X n) h0 ns e ae h /\ Rc (Oc (Xn X n) ns) h o v
noncomputable def PoS (X : Nat -> Prop) (h0 : Nat) (ns : Ns) (e : E3) (h : AH) (r2 : SR) : SR3 -> Prop
 | .stuck => True
 | .nx e' => ∃ ae' h' ns', r2 = .nx ae' h' /\ Stp ns e h ns' e' h' /\ Sat X h0 ns' e' ae' h'
 | .bk e' => ∃ ae' h' ns', r2 = .bk ae' h' /\ Stp ns e h ns' e' h' /\ Sat X h0 ns' e' ae' h'
 | .ct e' => ∃ ae' h' ns', r2 = .ct ae' h' /\ Stp ns e h ns' e' h' /\ Sat X h0 ns' e' ae' h'
 | .exc c e' => ∃ ae' h' ns', r2 = .exc c ae' h' /\ Stp ns e h ns' e' h' /\ Sat X h0 ns' e' ae' h'
 | .rt r e' => ∃ d ae' h' ns', r2 = .rt d h' /\ Stp ns e h ns' e' h' /\ RtR X h0 ns' e' ae' h' d r
noncomputable def RS (F : MS) (G : MS3) : Prop := ∀ X h0 ns e ae h, Sat X h0 ns e ae h -> PoS X h0 ns e h (F ae h) (G e)
noncomputable def R3.toS {α : Type} (r : R3 α) (f : α -> E3 -> SR3) : SR3 := match r with
 | .ok a e => f a e
 | .exc c e => .exc c e
 | .stuck => .stuck
noncomputable def SR3.then (r : SR3) (f : E3 -> SR3) : SR3 := match r with
 | .nx e => f e
 | r => r
section
variable {X : Nat -> Prop} {h0 L : Nat} {ns ns1 ns' : Ns} {e e1 e' : E3} {ae : AE} {h h1 h' : AH}
theorem PoS.after {r2 : SR} {r3 : SR3} (S : Sat X h0 ns e ae h) (a : Stp ns e h ns1 e1 h1) (p : PoS X h0 ns1 e1 h1 r2 r3) : PoS X h0 ns e h r2 r3 := by
 cases r3 with
 | stuck => trivial
 | nx e' => obtain ⟨ae', h', ns', q, q1, q2⟩ := p; exact ⟨ae', h', ns', q, a.trans S q1, q2⟩
 | bk e' => obtain ⟨ae', h', ns', q, q1, q2⟩ := p; exact ⟨ae', h', ns', q, a.trans S q1, q2⟩
 | ct e' => obtain ⟨ae', h', ns', q, q1, q2⟩ := p; exact ⟨ae', h', ns', q, a.trans S q1, q2⟩
 | exc c e' => obtain ⟨ae', h', ns', q, q1, q2⟩ := p; exact ⟨ae', h', ns', q, a.trans S q1, q2⟩
 | rt r e' => obtain ⟨d, ae', h', ns', q, q1, q2⟩ := p; exact ⟨d, ae', h', ns', q, a.trans S q1, q2⟩
theorem PoS.toS {δ α : Type} {rel : Ns -> E3 -> AH -> δ -> α -> Prop} {r2 : R δ} {r3 : R3 α} {f2 : δ -> AH -> SR} {f3 : α -> E3 -> SR3} (p : Po X h0 ns e ae h rel r2 r3)
  (k : ∀ d t h' ns' e', Stp ns e h ns' e' h' -> Sat X h0 ns' e' ae h' -> rel ns' e' h' d t -> PoS X h0 ns e h (f2 d h') (f3 t e')) : PoS X h0 ns e h (r2.toS ae f2) (r3.toS f3) := by
 cases r3 with
 | stuck => trivial
 | exc c e' => obtain ⟨h', ns', rfl, q1, q2⟩ := p; exact ⟨ae, h', ns', rfl, q1, q2⟩
 | ok t e' => obtain ⟨d, h', ns', rfl, q1, q2, q3⟩ := p; exact k d t h' ns' e' q1 q2 q3
theorem PoS.nx {ae' : AE} (a : Stp ns e h ns' e' h') (S : Sat X h0 ns' e' ae' h') : PoS X h0 ns e h (.nx ae' h') (.nx e') := ⟨ae', h', ns', rfl, a, S⟩
end
noncomputable def wNx : MS3 := fun e => .nx e
noncomputable def wSeq (F G : MS3) : MS3 := fun e => (F e).then G
noncomputable def vh (F : ME3) : MS3 := fun e => (F e).toS fun _ e1 => .nx e1
noncomputable def wIf (c : MT3) (F G : MS3) : MS3 := fun e => (c e).toS fun b e1 => if b = true then F e1 else G e1
noncomputable def m7 (t : Tm) (e : E3) : SR3 := match t with
 | .val v => .rt (.val v) e
 | .new v => .rt (.new v) e
 | .bor i => match e[i]? with
  | some (.sh v) => .rt (.val v) e
  | some (.ow v) => .rt (.new v) (e.set i .no)
  | _ => .stuck
noncomputable def wRet (F : ME3) : MS3 := fun e => (F e).toS m7
noncomputable def fF (o : Bool) (i : Nat) (t : Tm) (e : E3) : SR3 := match e[i]? with
 | some s0 => if s0.pl = true then (match t with
  | .val v => .nx (e.set i (.sh v))
  | .new v => .nx (e.set i (if o = true then .ow v else .sh v))
  | .bor j => match bZ e (.bor j) with
   | some (e2, v) => .nx (e2.set i (.sh v))
   | none => .stuck) else .stuck
 | none => .stuck
noncomputable def wAsg (o : Bool) (i : Nat) (F : ME3) : MS3 := fun e => (F e).toS (fF o i)
abbrev MG3 := Val -> E3 -> Option E3
abbrev gv := List Val -> E3 -> Option E3
noncomputable def pN (i : Nat) : MG3 := fun v e => match e[i]? with
 | some s => if s.pl = true then some (e.set i (.sh v)) else none
 | none => none
noncomputable def psN : gv := fun vs e => match vs with
 | [] => some e
 | _ => none
noncomputable def psC (g : MG3) (u : gv) : gv := fun vs e => match vs with
 | v :: r => (g v e).bind fun e1 => u r e1
 | [] => none
noncomputable def pT (n : Nat) (u : gv) : MG3 := fun v e => match v with
 | .tup vs => if vs.length = n then u vs e else none
 | _ => none
noncomputable def vv (F : ME3) (g : MG3) : MS3 := fun e => (F e).toS fun t e1 => match bZ e1 t with
 | some (e2, v) => match g v e2 with
  | some e3 => .nx e3
  | none => .stuck
 | none => .stuck
noncomputable def wPar (i j : Nat) (A : MA3) : MS3 := fun e => (A e).toS fun ts e1 => match dem e1 ts with
 | some (e2, [v, u]) => match (pN i v e2).bind (pN j u) with
  | some e3 => .nx e3
  | none => .stuck
 | _ => .stuck
noncomputable def rL (c : Str) (A : MA3) : MS3 := fun e => (A e).toS fun ts e1 => if ts.length <= 16777216 then .exc c e1 else .stuck
noncomputable def RG (g2 : MG) (g3 : MG3) : Prop := ∀ X h0 ns e ae h d v e', Sat X h0 ns e ae h -> Rd (Oc X ns) h d v -> g3 v e = some e' -> ∃ ae' ns', g2 d ae h = .ok ae' h /\ Sat X h0 ns' e' ae' h /\ Stp ns e h ns' e' h
noncomputable def RGs (g2 : MGs) (g3 : gv) : Prop := ∀ X h0 ns e ae h ds vs e', Sat X h0 ns e ae h -> Rds (Oc X ns) h ds vs -> g3 vs e = some e' -> ∃ ae' ns', g2 ds ae h = .ok ae' h /\ Sat X h0 ns' e' ae' h /\ Stp ns e h ns' e' h
section
variable {F G : ME} {F3 G3 : ME3} {A : MA} {A3 : MA3} {c d : MT} {c3 d3 : MT3} {U V : MS} {U3 V3 : MS3} {g : MG} {g3 : MG3} {gs : MGs} {gs3 : gv}
theorem C7 : RS sNx wNx := fun X h0 ns e ae h S => .nx .refl S
theorem Bz (hU : RS U U3) (hV : RS V V3) : RS (uf U V) (wSeq U3 V3) := fun X h0 ns e ae h S => by
 have p := hU X h0 ns e ae h S
 show PoS X h0 ns e h ((U ae h).then V) ((U3 e).then V3)
 generalize U3 e = r at *
 cases r with
 | stuck => trivial
 | nx e' => obtain ⟨ae', h', ns', q, q1, q2⟩ := p; rw [q]; exact PoS.after S q1 (hV X h0 ns' e' ae' h' q2)
 | bk e' => obtain ⟨ae', h', ns', q, q1, q2⟩ := p; rw [q]; exact ⟨ae', h', ns', rfl, q1, q2⟩
 | ct e' => obtain ⟨ae', h', ns', q, q1, q2⟩ := p; rw [q]; exact ⟨ae', h', ns', rfl, q1, q2⟩
 | exc c e' => obtain ⟨ae', h', ns', q, q1, q2⟩ := p; rw [q]; exact ⟨ae', h', ns', rfl, q1, q2⟩
 | rt r e' => obtain ⟨d, ae', h', ns', q, q1, q2⟩ := p; rw [q]; exact ⟨d, ae', h', ns', rfl, q1, q2⟩
theorem xP (hF : RE F F3) : RS (qA F) (vh F3) := fun X h0 ns e ae h S => PoS.toS (hF X h0 0 ns e ae h S (Nat.zero_le _)) fun d t h1 ns1 e1 a1 S1 r1 => .nx a1 S1
theorem Dy (hc : RT c c3) (hU : RS U U3) (hV : RS V V3) : RS (sIf c U V) (wIf c3 U3 V3) := fun X h0 ns e ae h S => PoS.toS (hc X h0 ns e ae h S) fun b b' h1 ns1 e1 a1 S1 r1 => by
 cases r1
 try dsimp only
 split
 ·exact PoS.after S a1 (hU X h0 ns1 e1 ae h1 S1)
 ·exact PoS.after S a1 (hV X h0 ns1 e1 ae h1 S1)
theorem
    As (hF : RE F F3) : RS (uq F) (wRet F3) := fun X h0 ns e ae h S => PoS.toS (hF X h0 h0 ns e ae h S S.lh) fun d t h1 ns1 e1 a1 S1 r1 => by
 cases t with
 | val v => exact ⟨d, ae, h1, ns1, rfl, a1, S1, r1⟩
 | new v => obtain ⟨n, o, q⟩ := r1; exact ⟨d, ae, h1, ns1, rfl, a1, n, o, q⟩
 |
  bor i =>
  unfold m7
  dsimp only
  have r' : ae[i]? = some (some d) := r1
  split
  ·rename_i v q
   obtain ⟨_, x, e1', e2⟩ := S1.sl i _ q
   rw [r'] at e1'; cases e1'
   exact ⟨d, ae, h1, ns1, rfl, a1, S1, e2⟩
  ·rename_i v q
   obtain ⟨n, o, q1, q2, q3, q4, q5, q6⟩ := S1.sl i _ q
   rw [r'] at q2; cases q2
   have hi := (List.getElem?_eq_some_iff.mp q).1
   have hn : i < ns1.length := by rw [S1.l2]; exact hi
   have mv : Mov (Oc X ns1) (Oc (Xn X n) (ns1.set i none)) h1 h1 := fun m o' p q' => ⟨⟨fun z => by
    rcases z with z | rfl
    ·exact p.1 z
    ·exact p.2 (aX.mpr ⟨i, q1⟩), (dU p).2⟩, q'⟩
   have S2 := S1.putN' hi (s := .no) rfl
   refine ⟨.ref n, ae, h1, ns1.set i none, rfl, a1.put (x := none) hi (fun _ z => by cases z) q rfl rfl S1.l2, n, o, rfl, q3, S1.nx i n q1, q4, q5, ⟨S2.l1, S2.l2, S2.lh, fun m z => ?_, S2.inj, fun j m qj z => ?_, fun j s qj => ?_⟩, q6.mono mv⟩
   ·rcases z with z | rfl
    ·exact S2.xl m z
    ·exact bU q4
   ·rcases z with z | rfl
    ·exact S2.nx j m qj z
    ·rcases bj hn qj with ⟨_, y⟩ | ⟨y, z⟩
     ·cases y
     ·exact y (S1.inj j i _ z q1)
   ·rcases bj hi qj with ⟨rfl, rfl⟩ | ⟨z, qj'⟩
    ·rw [bx hn]; rfl
    ·rw [bg z]
     exact (S1.sl j s qj').mono mv fun _ _ _ q => q
  ·trivial
theorem
    Be (o : Bool) (i : Nat) (hF : RE F F3) : RS (fu F (gN i)) (wAsg o i F3) := fun X h0 ns e ae h S => PoS.toS (hF X h0 h.length ns e ae h S (Nat.le_refl _)) fun d t h1 ns1 e1 a1 S1 r1 => by
 show PoS X h0 ns e h (.nx (ae.set i (some d)) h1) (fF o i t e1)
 unfold fF
 split
 ·rename_i s0 q0
  split
  ·rename_i p0
   have hi := (List.getElem?_eq_some_iff.mp q0).1
   cases t with
   | val v => exact .nx (a1.put (x := none) (s := .sh v) hi (fun _ z => by cases z) q0 p0 rfl S1.l2) (S1.putN hi ⟨rfl, d, rfl, Rd.mono (fun m o p q => ⟨dU p, q⟩) r1⟩)
   |
    new v =>
    try dsimp only
    split
    ·obtain ⟨n, ob, rfl, q1, q2, q3, q4, q5, q6⟩ := r1
     exact .nx (a1.put (x := some n) (s := .ow v) hi (fun m z => by cases z; exact q1) q0 p0 rfl S1.l2) (Sat.putO q5 q2 hi (Nat.le_trans S.lh q1) q3 q4 q6)
    ·exact .nx (a1.put (x := none) (s := .sh v) hi (fun _ z => by cases z) q0 p0 rfl S1.l2) (S1.putN hi ⟨rfl, d, rfl, Rd.mono (fun m o p q => ⟨dU p, q⟩) r1.new⟩)
   |
    bor j =>
    try dsimp only
    split
    ·rename_i e2 v q2
     obtain ⟨ns2, S2, a2, r2⟩ := dM S1 r1 q2
     have hq : ∃ s2, e2[i]? = some s2 /\ s2.pl = true := by
      unfold bZ at q2
      dsimp only at q2
      split at q2
      ·cases q2; exact ⟨s0, q0, p0⟩
      ·rename_i u q3
       cases q2
       by_cases z : i = j
       ·subst z; exact ⟨_, bx hi, rfl⟩
       ·exact ⟨s0, by rw [bg z]; exact q0, p0⟩
      ·cases q2
     obtain ⟨s2, hq1, hq2⟩ := hq
     have hi2 := (List.getElem?_eq_some_iff.mp hq1).1
     exact .nx ((a1.trans S a2).put (x := none) (s := .sh v) hi2 (fun _ z => by cases z) hq1 hq2 rfl S2.l2) (S2.putN hi2 ⟨rfl, d, rfl, Rd.mono (fun m o p q => ⟨dU p, q⟩) r2⟩)
    ·trivial
  ·trivial
 ·trivial
theorem uB (i : Nat) : RG (gN i) (pN i) := fun X h0 ns e ae h d v e' S r q => by
 unfold pN at q
 split at q
 ·rename_i s q0
  split at q
  ·rename_i p0
   cases q
   have hi := (List.getElem?_eq_some_iff.mp q0).1
   exact ⟨_, ns.set i none, rfl, S.putN hi ⟨rfl, d, rfl, Rd.mono (fun m o p q => ⟨dU p, q⟩) r⟩, Stp.refl.put (x := none) (s := .sh v) hi (fun _ z => by cases z) q0 p0 rfl S.l2⟩
  ·cases q
 ·cases q
theorem CJ : RGs gsN psN := fun X h0 ns e ae h ds vs e' S r q => by
 cases r with
 | nil => cases q; exact ⟨ae, ns, rfl, S, .refl⟩
 | cons _ _ => cases q
theorem CA (hg : RG g g3) (hs : RGs gs gs3) : RGs (gsC g gs) (psC g3 gs3) := fun X h0 ns e ae h ds vs e' S r q => by
 cases r with
 | nil => cases q
 |
  cons r rr =>
  obtain ⟨e1, q1, q2⟩ := Option.bind_eq_some_iff.mp q
  obtain ⟨ae1, ns1, p1, S1, a1⟩ := hg _ _ _ _ _ _ _ _ _ S r q1
  obtain ⟨ae2, ns2, p2, S2, a2⟩ := hs _ _ _ _ _ _ _ _ _ S1 (rr.mono (a1.mov S)) q2
  refine ⟨ae2, ns2, ?_, S2, a1.trans S a2⟩
  unfold gsC; dsimp only; rw [p1]; exact p2
theorem rg_t (n : Nat) (hs : RGs gs gs3) : RG (gT fun ds ae h => if ds.length = n then gs ds ae h else .stuck) (pT n gs3) := fun X h0 ns e ae h d v e' S r q => by
 unfold pT at q
 split at q
 ·split at q
  ·rename_i hn
   obtain ⟨ds, rfl, r2⟩ := ShR.tup (.inl r)
   obtain ⟨ae1, ns1, p1, S1, a1⟩ := hs _ _ _ _ _ _ _ _ _ S r2 q
   refine ⟨ae1, ns1, ?_, S1, a1⟩
   unfold gT; dsimp only; rw [if_pos (by rw [r2.len]; exact hn)]; exact p1
  ·cases q
 ·cases q
theorem Bt (hg : RG g g3) : RG (fun d ae h => noX (g d ae h)) g3 := fun X h0 ns e ae h d v e' S r q => by
 obtain ⟨ae1, ns1, p1, S1, a1⟩ := hg _ _ _ _ _ _ _ _ _ S r q
 exact ⟨ae1, ns1, by dsimp only; rw [p1]; rfl, S1, a1⟩
theorem xw (hF : RE F F3) (hg : RG g g3) : RS (fu F g) (vv F3 g3) := fun X h0 ns e ae h S => PoS.toS (hF X h0 0 ns e ae h S (Nat.zero_le _)) fun d t h1 ns1 e1 a1 S1 r1 => by
 try dsimp only
 split
 ·rename_i e2 v q
  obtain ⟨ns2, S2, a2, r2⟩ := dM S1 r1 q
  split
  ·rename_i e3 q3
   obtain ⟨ae3, ns3, p3, S3, a3⟩ := hg _ _ _ _ _ _ _ _ _ S2 r2 q3
   rw [p3]
   exact .nx ((a1.trans S a2).trans S a3) S3
  ·trivial
 ·trivial
theorem
    Az (i j : Nat) (hA : RA A A3) : RS (sN i j A) (wPar i j A3) := fun X h0 ns e ae h S => PoS.toS (hA X h0 ns e ae h S) fun ds ts h1 ns1 e1 a1 S1 r1 => by
 try dsimp only
 cases q : dem e1 ts with
 | none => trivial
 |
  some w =>
  obtain ⟨e2, vs⟩ := w
  obtain ⟨ns2, S2, a2, r2⟩ := gj S1 r1 q
  match vs, ds, r2 with
  | [], _, _ => trivial
  | [_], _, _ => trivial
  | _ :: _ :: _ :: _, _, _ => trivial
  |
   [v, u], [d, d'], r2 =>
   dsimp only
   split
   ·rename_i e3 q3
    obtain ⟨e4, q4, q5⟩ := Option.bind_eq_some_iff.mp q3
    cases r2 with
    |
     cons r rr =>
     cases rr with
     |
      cons r' rr =>
      obtain ⟨ae3, ns3, p3, S3, a3⟩ := uB i _ _ _ _ _ _ _ _ _ S2 r q4
      obtain ⟨ae4, ns4, p4, S4, a4⟩ := uB j _ _ _ _ _ _ _ _ _ S3 (r'.mono (a3.mov S2)) q5
      have z3 : ae3 = ae.set i (some d) := by have := p3; unfold gN at this; cases this; rfl
      have z4 : ae4 = ae3.set j (some d') := by have := p4; unfold gN at this; cases this; rfl
      subst z4 z3
      exact .nx (((a1.trans S a2).trans S a3).trans S a4) S4
   ·trivial
theorem TsR.len {X : Nat -> Prop} {ns : Ns} {ae : AE} {h : AH} {ds : List D} {ts : List Tm} (r : TsR X ns ae h ds ts) : ds.length = ts.length := by
 induction r with
 | nil => rfl
 | val _ _ ih => rw [List.length_cons, List.length_cons, ih]
 | bor _ _ ih => rw [List.length_cons, List.length_cons, ih]
theorem tw (x : Str) (hA : RA A A3) : RS (mw x A) (rL x A3) := fun X h0 ns e ae h S => PoS.toS (hA X h0 ns e ae h S) fun ds ts h1 ns1 e1 a1 S1 r1 => by
 try dsimp only
 by_cases hl : ts.length <= 16777216
 ·rw [if_pos hl, if_pos (by rw [TsR.len r1]; exact hl)]
  exact ⟨ae, h1, ns1, rfl, a1, S1⟩
 ·rw [if_neg hl]; trivial
end
noncomputable def Sl.re (s : Sl) (u : Val) : Sl := match s with
 | .ow _ => .ow u
 | .mu _ => .mu u
 | s => s
noncomputable def Sl.mv : Sl -> Option Val
 | .ow v => some v
 | .mu v => some v
 | _ => none
section
variable {X : Nat -> Prop} {h0 L : Nat} {ns ns1 ns' : Ns} {e e1 e' : E3} {ae : AE} {h h1 h' : AH}
theorem Sat.write (S : Sat X h0 ns e ae h) {i : Nat} {s : Sl} {u : Val} (q : e[i]? = some s) (hm : s.mv = some u) : ∃ n o, ae[i]? = some (some (.ref n)) /\ h[n]? = some o /\ bG o /\ Rc (Oc X ns) h o u /\
  ∀ o' u', bG o' -> Rc (Oc X ns) h o' u' -> Mov (Oc X ns) (Oc X ns) h (h.set n o') /\ Sat X h0 ns (e.set i (s.re u')) ae (h.set n o') /\ Stp ns e h ns (e.set i (s.re u')) (h.set n o') := by
 have hi := (List.getElem?_eq_some_iff.mp q).1
 have key : ∃ n o, ns[i]? = some (some n) /\ ae[i]? = some (some (.ref n)) /\ h[n]? = some o /\ bG o /\ Rc (Oc X ns) h o u /\ s.mt = true /\ (∀ o' u', bG o' -> Rc (Oc X ns) (h.set n o') o' u' -> SlR (Oc X ns) h0 (some (some n)) (some (some (.ref n))) (h.set n o') (s.re u')) := by
  have y := S.sl i s q
  cases s with
  | ow v => cases hm; obtain ⟨n, o, q1, q2, q3, q4, q5, q6⟩ := y; exact ⟨n, o, q1, q2, q4, q5, q6, rfl, fun o' u' hf r => ⟨n, o', rfl, rfl, q3, bx (bU q4), hf, r⟩⟩
  | mu v => cases hm; obtain ⟨n, o, q1, q2, q4, q5, q6⟩ := y; exact ⟨n, o, q1, q2, q4, q5, q6, rfl, fun o' u' hf r => ⟨n, o', rfl, rfl, bx (bU q4), hf, r⟩⟩
  | _ => cases hm
 obtain ⟨n, o, k1, k2, k3, k4, k5, k6, k7⟩ := key
 refine ⟨n, o, k2, k3, k4, k5, fun o' u' hf r => ?_⟩
 have mv : Mov (Oc X ns) (Oc X ns) h (h.set n o') := fun m ob p q' => ⟨p, by
  have : m ≠ n := fun z => p.2 (aX.mpr ⟨i, by rw [z]; exact k1⟩)
  rw [bg this]; exact q'⟩
 refine ⟨mv, ⟨by rw [List.length_set]; exact S.l1, by rw [List.length_set]; exact S.l2, by rw [List.length_set]; exact S.lh, fun m z => by rw [List.length_set]; exact S.xl m z, S.inj, S.nx, fun j s' qj => ?_⟩, ?_⟩
 ·rcases bj hi qj with ⟨rfl, rfl⟩ | ⟨z, qj'⟩
  ·rw [k1, k2]; exact k7 o' u' hf (r.mono mv)
  ·refine (S.sl j s' qj').mono mv fun m ob qm qo => ?_
   have : m ≠ n := fun y => by subst y; exact z (S.inj j i m qm k1)
   rw [bg this]; exact qo
 ·refine ⟨by rw [List.length_set]; exact Nat.le_refl _, fun m ob qm hM => ?_, fun _ _ q => .inl q, fun j s' qj hl => ?_, fun j s' qj hl => ?_, fun j v qj => ?_, fun j v qj => ?_⟩
  ·have : m ≠ n := fun y => by subst y; exact hM ⟨i, s, k1, q, k6⟩
   rw [bg this]; exact qm
  ·have z : j ≠ i := fun z => by subst z; rw [q] at qj; cases qj; cases s <;> first | cases hl; done | cases k6; done
   rw [bg z]; exact ⟨qj, rfl⟩
  ·rcases bj hi qj with ⟨_, y⟩ | ⟨z, qj'⟩
   ·subst y; cases s <;> first | cases hl; done | cases k6; done
   ·exact ⟨qj', rfl⟩
  ·rcases bj hi qj with ⟨rfl, y⟩ | ⟨z, qj'⟩
   ·cases s with
    | mu w => exact ⟨w, q, rfl⟩
    | ow w => cases y
    | _ => cases k6
   ·exact ⟨v, qj', rfl⟩
  ·by_cases z : j = i
   ·subst z; rw [q] at qj; cases qj; exact ⟨u', bx hi, rfl⟩
   ·exact ⟨v, by rw [bg z]; exact qj, rfl⟩
end
noncomputable def nK (w2 : D -> D -> D -> AH -> R Unit) (w3 : Val -> Val -> Val -> Option Val) : Prop := ∀ P h n o u di vi d v u', ¬ P n -> h[n]? = some o -> bG o -> Rc P h o u -> ShR P h di vi -> Rd P h d v -> w3 u vi v = some u' -> ∃ o', w2 (.ref n) di d h = .ok () (h.set n o') /\ bG o' /\ Rc P h o' u'
noncomputable def wSet (i : Nat) (G : ME3) (F : ME3) (w : Val -> Val -> Val -> Option Val) : MS3 := fun e => (F e).toS fun t e1 => match (e1[i]?).bind Sl.mv with
 | none => .stuck
 | some _ => (G e1).toS fun t2 e2 => match rs e2 t2 with
  | none => .stuck
  | some vi => match bZ e2 t.drop with
   | none => .stuck
   | some (e3, v) => match e3[i]? with
    | none => .stuck
    | some s => match s.mv with
     | none => .stuck
     | some u => match w u vi v with
      | some u' => .nx (e3.set i (s.re u'))
      | none => .stuck
noncomputable def RM (m2 : D -> List D -> AH -> R D) (m3 : Val -> List Val -> Option (Val × Val)) : Prop := ∀ P h n o u ds vs u' v, h[n]? = some o -> bG o -> Rc P h o u -> Rds P h ds vs -> m3 u vs = some (u', v) -> jT h (.ref n) = true /\ ∃ o' d, m2 (.ref n) ds h = .ok d (h.set n o') /\ bG o' /\ Rc P h o' u' /\ Rd P h d v
noncomputable def pX : Val -> Bool
 | .lst _ => true
 | _ => false
noncomputable def vg (i : Nat) (m : Val -> List Val -> Option (Val × Val)) (A : MA3) : ME3 := fun e => match e[i]? with
 | some s => if (s.mv.map pX) = some true then (A e).bind fun ts e1 => match dem e1 ts with
  | some (e2, vs) => match e2[i]? with
   | some s2 => match s2.mv with
    | some u => match m u vs with
     | some (u', v) => .ok (.val v) (e2.set i (s2.re u'))
     | none => .stuck
    | none => .stuck
   | none => .stuck
  | none => .stuck else .stuck
 | none => .stuck
section
variable {F G : ME} {F3 G3 : ME3} {A : MA} {A3 : MA3}
theorem xF {X : Nat -> Prop} {h0 : Nat} {ns : Ns} {e : E3} {ae : AE} {h : AH} (S : Sat X h0 ns e ae h) {i : Nat} {u : Val} (q : (e[i]?).bind Sl.mv = some u) : ∃ n o, ae[i]? = some (some (.ref n)) /\ h[n]? = some o /\ bG o /\ Rc (Oc X ns) h o u := by
 obtain ⟨s, q1, q2⟩ := Option.bind_eq_some_iff.mp q
 obtain ⟨n, o, k1, k2, k3, k4, _⟩ := S.write q1 q2
 exact ⟨n, o, k1, k2, k3, k4⟩
theorem
    za {w2 : D -> D -> D -> AH -> R Unit} {w3 : Val -> Val -> Val -> Option Val} (i : Nat) (hw : nK w2 w3) (hG : RE G G3) (hF : RE F F3) : RS (fu F (gS (cS i) G w2)) (wSet i G3 F3 w3) := fun X h0 ns e ae h S => PoS.toS (hF X h0 0 ns e ae h S (Nat.zero_le _)) fun d t h1 ns1 e1 a1 S1 r1 => by
 try dsimp only
 cases qm : (e1[i]?).bind Sl.mv with
 | none => trivial
 |
  some u0 =>
  obtain ⟨n0, o0, b1, b2, b3, b4⟩ := xF S1 qm
  have L2e : ∀ h', (gS (cS i) G w2 d ae h').toS ae (fun ae' h2 => SR.nx ae' h2) = (G ae h').toS ae fun di h2 => (w2 (.ref n0) di d h2).toS ae fun _ h3 => .nx ae h3 := fun h' => by
   unfold gS cS
   rw [b1]
   simp only [eO]
   cases G ae h' with
   |
    ok di h2 =>
    simp only [eO]
    show _ = (w2 (.ref n0) di d h2).toS ae fun _ h3 => .nx ae h3
    cases w2 (.ref n0) di d h2 <;> rfl
   | exc c h2 => rfl
   | stuck => rfl
  rw [L2e]
  refine PoS.after S a1 (PoS.toS (hG X h0 0 ns1 e1 ae h1 S1 (Nat.zero_le _)) fun di t2 h2 ns2 e2 a2 S2 r2 => ?_)
  try dsimp only
  cases qi : rs e2 t2 with
  | none => trivial
  |
   some vi =>
   try dsimp only
   cases qd : bZ e2 t.drop with
   | none => trivial
   |
    some w =>
    obtain ⟨e3, v⟩ := w
    try dsimp only
    obtain ⟨r1', hn⟩ := r1.drop
    have r3 := r1'.stp S1 a2 hn
    have si := r2.sh S2 qi
    obtain ⟨ns3, S3, a3, r4⟩ := dM S2 r3 qd
    have si3 : ShR (Oc X ns3) h2 di vi := by
     rcases si with z | ⟨n, o, z1, z2, z3⟩
     ·exact .inl (z.mono (a3.mov S2))
     ·exact .inr ⟨n, o, z1, z2, z3.mono (a3.mov S2)⟩
    cases q3 : e3[i]? with
    | none => trivial
    |
     some s =>
     try dsimp only
     cases q4 : s.mv with
     | none => trivial
     |
      some u =>
      try dsimp only
      cases q5 : w3 u vi v with
      | none => trivial
      |
       some u' =>
       obtain ⟨n, o, k1, k2, k3, k4, k5⟩ := S3.write q3 q4
       rw [b1] at k1; cases k1
       have nP : ¬ Oc X ns3 n0 := fun p => by
        have z1 := ((k5 (.lst []) (.lst []) trivial (.lst .nil)).1 _ _ p k2).2
        have z2 := ((k5 (.lst [.non]) (.lst [.non]) trivial (.lst (.cons .non .nil))).1 _ _ p k2).2
        rw [bx (bU k2)] at z1 z2
        rw [<- z2] at z1
        cases z1
       obtain ⟨o', p1, p2, p3⟩ := hw _ _ _ _ _ _ _ _ _ _ nP k2 k3 k4 si3 r4 q5
       obtain ⟨mv, S4, a4⟩ := k5 o' u' p2 p3
       rw [p1]
       exact .nx ((a2.trans S1 a3).trans S1 a4) S4
theorem
    zb {m2 : D -> List D -> AH -> R D} {m3 : Val -> List Val -> Option (Val × Val)} (i : Nat) (hm : RM m2 m3) (hA : RA A A3) : RE (eM m2 (cS i) A) (vg i m3 A3) := fun X h0 L ns e ae h S hl => by
 unfold vg
 cases q0 : e[i]? with
 | none => trivial
 |
  some s0 =>
  dsimp only
  split
  ·rename_i hz
   obtain ⟨u0, z1, z2⟩ := Option.map_eq_some_iff.mp hz
   obtain ⟨n0, o0, b1, b2, b3, b4, _⟩ := S.write q0 z1
   have hL : jT h (.ref n0) = true := by
    cases u0 with
    | lst xs => obtain ⟨ds, _, e1, _⟩ := Rc.seq b2 b4; show (aV h n0).isSome = true; rw [e1]; rfl
    | _ => cases z2
   have L2e : eM m2 (cS i) A ae h = (A ae h).bind fun ds h2 => m2 (.ref n0) ds h2 := by
    unfold eM cS
    rw [b1]
    simp only [eO, hL, if_true]
   rw [L2e]
   refine Po.bind S (hA X h0 ns e ae h S) fun ds ts h1 ns1 e1 a1 S1 r1 => ?_
   try dsimp only
   cases q1 : dem e1 ts with
   | none => trivial
   |
    some w =>
    obtain ⟨e2, vs⟩ := w
    try dsimp only
    obtain ⟨ns2, S2, a2, r2⟩ := gj S1 r1 q1
    cases q2 : e2[i]? with
    | none => trivial
    |
     some s2 =>
     try dsimp only
     cases q3 : s2.mv with
     | none => trivial
     |
      some u =>
      try dsimp only
      cases q4 : m3 u vs with
      | none => trivial
      |
       some w =>
       obtain ⟨u', v⟩ := w
       obtain ⟨n, o, k1, k2, k3, k4, k5⟩ := S2.write q2 q3
       rw [b1] at k1; cases k1
       obtain ⟨_, o', d, p1, p2, p3, p4⟩ := hm _ _ _ _ _ _ _ _ _ k2 k3 k4 r2 q4
       obtain ⟨mv, S4, a4⟩ := k5 o' u' p2 p3
       exact ⟨d, _, ns2, p1, a2.trans S1 a4, S4, p4.mono mv⟩
  ·trivial
end
end L3
set_option Elab.async false
set_option linter.all false
set_option maxRecDepth 100000
namespace L3
open PySem PySem.Spec PyProof.Rows L2
noncomputable def d9 : Sl -> Sl
 | .ow v => .lo v
 | .mu v => .lm v
 | s => s
noncomputable def dJ : Sl -> Sl
 | .lo v => .ow v
 | .lm v => .mu v
 | s => s
noncomputable def lock (e : E3) (k : Nat) : E3 := match e[k]? with
 | some s => e.set k (d9 s)
 | none => e
noncomputable def unlock (e : E3) (k : Nat) : E3 := match e[k]? with
 | some s => e.set k (dJ s)
 | none => e
noncomputable def lockO (e : E3) : Option Nat -> E3
 | some k => lock e k
 | none => e
noncomputable def cW (e : E3) : Option Nat -> E3
 | some k => unlock e k
 | none => e
section
variable {X : Nat -> Prop} {h0 L : Nat} {ns ns1 ns' : Ns} {e e1 e' : E3} {ae ae' : AE} {h h1 h' : AH}
theorem SlR.lock {P : Nat -> Prop} {n : Option (Option Nat)} {d : Option (Option D)} {s : Sl} (r : SlR P h0 n d h s) : SlR P h0 n d h (d9 s) := by cases s <;> exact r
theorem SlR.unlock {P : Nat -> Prop} {n : Option (Option Nat)} {d : Option (Option D)} {s : Sl} (r : SlR P h0 n d h s) : SlR P h0 n d h (dJ s) := by cases s <;> exact r
theorem Sat.lock (S : Sat X h0 ns e ae h) (k : Nat) : Sat X h0 ns (lock e k) ae h := by
 unfold L3.lock
 split
 ·rename_i s q
  have hi := (List.getElem?_eq_some_iff.mp q).1
  refine ⟨by rw [List.length_set]; exact S.l1, by rw [List.length_set]; exact S.l2, S.lh, S.xl, S.inj, S.nx, fun j s' qj => ?_⟩
  rcases bj hi qj with ⟨rfl, rfl⟩ | ⟨z, qj'⟩
  ·exact (S.sl j s q).lock
  ·exact S.sl j s' qj'
 ·exact S
theorem Sat.unlock (S : Sat X h0 ns e ae h) (k : Nat) : Sat X h0 ns (unlock e k) ae h := by
 unfold L3.unlock
 split
 ·rename_i s q
  have hi := (List.getElem?_eq_some_iff.mp q).1
  refine ⟨by rw [List.length_set]; exact S.l1, by rw [List.length_set]; exact S.l2, S.lh, S.xl, S.inj, S.nx, fun j s' qj => ?_⟩
  rcases bj hi qj with ⟨rfl, rfl⟩ | ⟨z, qj'⟩
  ·exact (S.sl j s q).unlock
  ·exact S.sl j s' qj'
 ·exact S
theorem f9 {k j : Nat} (z : j ≠ k) : (lock e k)[j]? = e[j]? := by
 unfold lock; split
 ·rw [bg z]
 ·rfl
theorem fg {k j : Nat} (z : j ≠ k) : (unlock e k)[j]? = e[j]? := by
 unfold unlock; split
 ·rw [bg z]
 ·rfl
theorem ku {k : Nat} {s : Sl} (q : e[k]? = some s) : (lock e k)[k]? = some (d9 s) := by
 unfold lock; rw [q]; exact bx (List.getElem?_eq_some_iff.mp q).1
theorem ip {k : Nat} {s : Sl} (q : e[k]? = some s) : (unlock e k)[k]? = some (dJ s) := by
 unfold unlock; rw [q]; exact bx (List.getElem?_eq_some_iff.mp q).1
theorem Stp.unlock {k : Nat} {s : Sl} (q : e[k]? = some s) (hs : s.mt = true) (a : Stp ns (L3.lock e k) h ns' e' h') : Stp ns e h ns' (L3.unlock e' k) h' := by
 have hl : (d9 s).lk = true := by cases s <;> first | rfl | cases hs
 have hu : dJ (d9 s) = s := by cases s <;> first | rfl | cases hs
 obtain ⟨qk, nk⟩ := a.lk k _ (ku q) hl
 refine ⟨a.len, fun m o qm hM => a.keep m o qm fun ⟨j, s', z1, z2, z3⟩ => hM ?_, a.nw, fun j s' qj hj => ?_, fun j s' qj hj => ?_, fun j v qj => ?_, fun j v qj => ?_⟩
 ·by_cases z : j = k
  ·subst z; exact ⟨j, s, z1, q, hs⟩
  ·rw [f9 z] at z2; exact ⟨j, s', z1, z2, z3⟩
 ·have z : j ≠ k := fun z => by subst z; rw [q] at qj; cases qj; cases s <;> first | cases hs; done | cases hj; done
  rw [fg z]
  exact a.lk j s' (by rw [f9 z]; exact qj) hj
 ·have z : j ≠ k := fun z => by
   subst z
   rw [ip qk, hu] at qj; cases qj; cases s <;> first | cases hs; done | cases hj; done
  rw [fg z] at qj
  obtain ⟨y1, y2⟩ := a.lk' j s' qj hj
  rw [f9 z] at y1
  exact ⟨y1, y2⟩
 ·by_cases z : j = k
  ·subst z; rw [ip qk, hu] at qj; cases qj; exact ⟨v, q, nk⟩
  ·rw [fg z] at qj
   obtain ⟨u, y1, y2⟩ := a.mu j v qj
   rw [f9 z] at y1
   exact ⟨u, y1, y2⟩
 ·by_cases z : j = k
  ·subst z; rw [q] at qj; cases qj; exact ⟨v, by rw [ip qk, hu], nk⟩
  ·obtain ⟨u, y1, y2⟩ := a.mu' j v (by rw [f9 z]; exact qj)
   exact ⟨u, by rw [fg z]; exact y1, y2⟩
end
abbrev MI3 := E3 -> R3 (List Val × Option Nat)
noncomputable def Stay (X : Nat -> Prop) (ns : Ns) (k : Option Nat) (h h' : AH) : Prop := ∀ (m : Nat) (o : Ob), h[m]? = some o -> (Oc X ns m \/ ∃ j : Nat, k = some j /\ ns[j]? = some (some m)) -> h'[m]? = some o
noncomputable def nJ (X : Nat -> Prop) (ns : Ns) (e : E3) (h : AH) (it : AIt) (p : List Val × Option Nat) : Prop :=
 Rds (Oc X ns) h it.items p.1 /\ (∀ h', Stay X ns p.2 h h' -> it.guard h') /\ ∀ k : Nat, p.2 = some k -> ∃ s, e[k]? = some s /\ s.mt = true
noncomputable def RI (I : MI) (J : MI3) : Prop := ∀ X h0 ns e ae h, Sat X h0 ns e ae h -> Po X h0 ns e ae h (nJ X) (I ae h) (J e)
noncomputable def fh : Val -> Option (List Val)
 | .tup xs => some xs
 | .lst xs => some xs
 | _ => none
noncomputable def d6 (t : Tm) (e : E3) : Option (List Val × Option Nat) := match t with
 | .val v => (fh v).map fun xs => (xs, none)
 | .new v => (fh v).map fun xs => (xs, none)
 | .bor k => match e[k]? with
  | some (.sh v) => (fh v).map fun xs => (xs, none)
  | some (.ow (.lst xs)) => some (xs, some k)
  | some (.mu (.lst xs)) => some (xs, some k)
  | _ => none
noncomputable def vA (F : ME3) : MI3 := fun e => (F e).bind fun t e1 => match d6 t e1 with
 | some p => .ok p e1
 | none => .stuck
noncomputable def vJ (A : MA3) : MI3 := fun e => (A e).bind fun ts e1 => match ts with
 | [t, u] => (match d6 t e1, d6 u e1 with
  | some (xs, k), some (ys, none) => .ok (List.zipWith (fun x y => .tup [x, y]) xs ys, k) e1
  | _, _ => .stuck)
 | _ => .stuck
noncomputable def qB (lo : Int) (k : Nat) : List Val := (List.range k).map fun i => Val.int (lo + (i : Nat))
structure RgB (j : Int) : Prop where
 lo : -(2 ^ 62) <= j
 hi : j < 2 ^ 62
noncomputable def fN : List Val -> Option (List Val)
 | [.int j] => @ite _ (RgB j) (Classical.propDecidable _) (some (qB 0 j.toNat)) none
 | _ => none
noncomputable def uJ (f : List Val -> Option (List Val)) (A : MA3) : MI3 := fun e => (A e).bind fun ts e1 => match (rss e1 ts).bind f with
 | some xs => .ok (xs, none) e1
 | none => .stuck
section
variable {F : ME} {F3 : ME3} {A : MA} {A3 : MA3}
theorem pW {X : Nat -> Prop} {h0 : Nat} {ns : Ns} {e : E3} {ae : AE} {h : AH} {d : D} {v : Val} {xs : List Val} (S : Sat X h0 ns e ae h) (r : Rd (Oc X ns) h d v) (q : fh v = some xs) : ∃ it, eL d h = some it /\ nJ X ns e h it (xs, none) := by
 cases v with
 |
  tup ys =>
  cases q
  obtain ⟨ds, rfl, r2⟩ := ShR.tup (.inl r)
  exact ⟨_, rfl, r2, fun _ _ => trivial, fun _ z => nomatch z⟩
 |
  lst ys =>
  cases q
  cases r with
  |
   cell p eo rc =>
   rename_i n o
   obtain ⟨ds, _, e1, r1⟩ := Rc.seq eo rc
   refine ⟨.lst n ds, by unfold eL; dsimp only; rw [e1]; rfl, r1, fun h' st => ?_, fun _ z => nomatch z⟩
   show aV h' n = some ds
   have := st n o eo (.inl p)
   unfold aV at e1 ⊢
   rw [eo] at e1
   rw [this]; exact e1
 | _ => cases q
theorem
    me {X : Nat -> Prop} {h0 L : Nat} {ns : Ns} {e : E3} {ae : AE} {h : AH} {d : D} {t : Tm} {p : List Val × Option Nat} (S : Sat X h0 ns e ae h) (r : relE X h0 L ae ns e h d t) (q : d6 t e = some p) : ∃ it, eL d h = some it /\ nJ X ns e h it p := by
 cases t with
 | val v => obtain ⟨xs, q1, rfl⟩ := Option.map_eq_some_iff.mp q; exact pW S r q1
 | new v => obtain ⟨xs, q1, rfl⟩ := Option.map_eq_some_iff.mp q; exact pW S r.new q1
 |
  bor k =>
  have r' : ae[k]? = some (some d) := r
  have own : ∀ {s xs}, e[k]? = some s -> s.mv = some (.lst xs) -> ∃ it, eL d h = some it /\ nJ X ns e h it (xs, some k) := fun {s xs} q qm => by
   have hns : ∃ n, ns[k]? = some (some n) /\ ae[k]? = some (some (.ref n)) := by
    have y := S.sl k s q
    cases s with
    | ow v => obtain ⟨n, o, y1, y2, _⟩ := y; exact ⟨n, y1, y2⟩
    | mu v => obtain ⟨n, o, y1, y2, _⟩ := y; exact ⟨n, y1, y2⟩
    | _ => cases qm
   obtain ⟨n, y1, y2⟩ := hns
   obtain ⟨n', o, k1, k2, k3, k4, _⟩ := S.write q qm
   rw [y2] at k1; cases k1
   rw [r'] at y2; cases y2
   obtain ⟨ds, _, e2, r2⟩ := Rc.seq k2 k4
   refine ⟨.lst n ds, by unfold eL; dsimp only; rw [e2]; rfl, r2, fun h' st => ?_, fun j z => ?_⟩
   ·show aV h' n = some ds
    have := st n o k2 (.inr ⟨k, rfl, y1⟩)
    unfold aV at e2 ⊢
    rw [k2] at e2
    rw [this]; exact e2
   ·cases z; exact ⟨s, q, by cases s <;> first | rfl | cases qm⟩
  unfold d6 at q
  dsimp only at q
  split at q
  ·rename_i v qs
   obtain ⟨_, x, e2, r2⟩ := S.sl k _ qs
   rw [r'] at e2; cases e2
   obtain ⟨xs, q1, rfl⟩ := Option.map_eq_some_iff.mp q
   exact pW S r2 q1
  ·rename_i xs qs; cases q; exact own qs rfl
  ·rename_i xs qs; cases q; exact own qs rfl
  ·cases q
noncomputable def tR (d : D) (h : AH) : R AIt := match d with
 | .tup xs => .ok (.tup xs) h
 | .ref n => match aV h n with
  | some xs => .ok (.lst n xs) h
  | none => .stuck
 | _ => .stuck
theorem ya {d : D} {h : AH} {it : AIt} (q : eL d h = some it) : tR d h = .ok it h := by
 cases d with
 | tup xs => cases q; rfl
 |
  ref n =>
  obtain ⟨xs, y1, rfl⟩ := Option.map_eq_some_iff.mp (show (aV h n).map (AIt.lst n) = some it from q)
  unfold tR; dsimp only; rw [y1]
 | _ => cases q
theorem zP (hF : RE F F3) : RI (tL F) (vA F3) := fun X h0 ns e ae h S =>
 Po.bind S (hF X h0 0 ns e ae h S (Nat.zero_le _)) fun d t h1 ns1 e1 a1 S1 r1 => by
  show Po X h0 ns1 e1 ae h1 (nJ X) (tR d h1) _
  cases q : d6 t e1 with
  | none => trivial
  |
   some p =>
   dsimp only
   obtain ⟨it, q1, q2⟩ := me S1 r1 q
   exact ⟨it, h1, ns1, ya q1, .refl, S1, q2⟩
theorem xa {P : Nat -> Prop} {h : AH} {ds es : List D} {vs us : List Val} (r : Rds P h ds vs) (q : Rds P h es us) : Rds P h (List.zipWith (fun x y => D.tup [x, y]) ds es) (List.zipWith (fun x y => Val.tup [x, y]) vs us) :=
 r.ind (M := fun ds vs => ∀ {es : List D} {us : List Val}, Rds P h es us -> Rds P h (List.zipWith (fun x y => D.tup [x, y]) ds es) (List.zipWith (fun x y => Val.tup [x, y]) vs us)) (fun _ => .nil) (fun r _ ih _ _ q => by
  cases q with
  | nil => exact .nil
  | cons q qq => exact .cons (.tup (.cons r (.cons q .nil))) (ih qq)) q
theorem tsr1 {X : Nat -> Prop} {h0 : Nat} {ns : Ns} {e : E3} {ae : AE} {h : AH} {ds : List D} {t : Tm} (r : TsR X ns ae h ds [t]) : ∃ d, ds = [d] /\ relE X h0 0 ae ns e h d t := by
 cases r with
 | val r rr => cases rr; exact ⟨_, rfl, r⟩
 | bor r rr => cases rr; exact ⟨_, rfl, r⟩
theorem tsr2 {X : Nat -> Prop} {h0 : Nat} {ns : Ns} {e : E3} {ae : AE} {h : AH} {ds : List D} {t u : Tm} (r : TsR X ns ae h ds [t, u]) : ∃ d d', ds = [d, d'] /\ relE X h0 0 ae ns e h d t /\ relE X h0 0 ae ns e h d' u := by
 cases r with
 | val r rr => obtain ⟨d', rfl, r'⟩ := tsr1 (h0 := h0) (e := e) rr; exact ⟨_, _, rfl, r, r'⟩
 | bor r rr => obtain ⟨d', rfl, r'⟩ := tsr1 (h0 := h0) (e := e) rr; exact ⟨_, _, rfl, r, r'⟩
theorem
    Bd (hA : RA A A3) : RI (uE A) (vJ A3) := fun X h0 ns e ae h S =>
 Po.bind
     S (hA X h0 ns e ae h S) fun ds ts h1 ns1 e1 a1 S1 r1 => by
  match ts, r1 with
  | [], _ => trivial
  | [_], _ => trivial
  | _ :: _ :: _ :: _, _ => trivial
  |
   [t, u], r1 =>
   obtain ⟨d, d', rfl, r2, r3⟩ := tsr2 (h0 := h0) (e := e1) r1
   dsimp only
   cases q : d6 t e1 with
   | none => trivial
   |
    some p =>
    obtain ⟨xs, k⟩ := p
    cases q' : d6 u e1 with
    | none => trivial
    |
     some p' =>
     obtain ⟨ys, k'⟩ := p'
     cases k' with
     | some _ => trivial
     |
      none =>
      obtain ⟨it, q1, q2, q3, q4⟩ := me S1 r2 q
      obtain ⟨it', q1', q2', q3', q4'⟩ := me S1 r3 q'
      rw [q1, q1']
      exact ⟨.zip it it', h1, ns1, rfl, .refl, S1, xa q2 q2', fun h' st => ⟨q3 h' st, q3' h' fun m o hm hc => st m o hm (hc.elim .inl fun ⟨_, z, _⟩ => nomatch z)⟩, q4⟩
theorem xu {P : Nat -> Prop} {h : AH} (lo : Int) (k : Nat) : Rds P h (AIt.rng lo k).items (qB lo k) := by
 show Rds P h ((List.range k).map fun i => D.int (lo + (i : Nat))) ((List.range k).map fun i => Val.int (lo + (i : Nat)))
 generalize List.range k = l
 induction l with
 | nil => exact .nil
 | cons i l ih => exact .cons (.int _) ih
theorem iR {P : Nat -> Prop} {h : AH} {ds : List D} {v : Val} (r : ShRs P h ds [v]) : ∃ d, ds = [d] /\ ShR P h d v := by
 cases r with | cons r rr => cases rr; exact ⟨_, rfl, r⟩
theorem B1 {P : Nat -> Prop} {h : AH} {ds : List D} {v u : Val} (r : ShRs P h ds [v, u]) : ∃ d d', ds = [d, d'] /\ ShR P h d v /\ ShR P h d' u := by
 cases r with | cons r rr => cases rr with | cons r' rr => cases rr; exact ⟨_, _, rfl, r, r'⟩
theorem BU {f2 : List D -> AH -> R AIt} {f3 : List Val -> Option (List Val)} (hf : ∀ P h ds vs xs, ShRs P h ds vs -> f3 vs = some xs -> ∃ lo k, f2 ds h = .ok (.rng lo k) h /\ xs = qB lo k) (hA : RA A A3) : RI (fun ae h => (A ae h).bind f2) (uJ f3 A3) := fun X h0 ns e ae h S =>
 Po.bind S (hA X h0 ns e ae h S) fun ds ts h1 ns1 e1 a1 S1 r1 => by
  try dsimp only
  split
  ·rename_i xs q
   obtain ⟨vs, q1, q2⟩ := Option.bind_eq_some_iff.mp q
   obtain ⟨lo, k, p1, rfl⟩ := hf _ _ _ _ _ (TsR.sh S1 r1 q1) q2
   rw [p1]
   exact Po.ret S1 ⟨xu _ _, fun _ _ => trivial, fun _ z => nomatch z⟩
  ·trivial
theorem
    Ab (hA : RA A A3) : RI (sP A) (uJ fN A3) := BU (f2 := fun ds h1 => match ds with
 | [.int j] => if -(2 ^ 62) <= j /\ j < 2 ^ 62 then .ok (.rng 0 j.toNat) h1 else .stuck
 |
  _ => .stuck) (fun P h ds vs xs r q => by
  unfold fN at q
  split at q
  ·split at q
   ·rename_i hb
    cases q
    obtain ⟨d, rfl, r2⟩ := iR r
    obtain rfl := r2.int
    exact ⟨_, _, by dsimp only; rw [if_pos ⟨hb.lo, hb.hi⟩], rfl⟩
   ·cases q
  ·cases q) hA
end
noncomputable def SR3.loop (r : SR3) (f : E3 -> SR3) : SR3 := match r with
 | .nx e => f e
 | .ct e => f e
 | .bk e => .nx e
 | .rt d e => .rt d e
 | .exc c e => .exc c e
 | .stuck => .stuck
noncomputable def dA (g : MG3) (B : MS3) : List Val -> MS3
 | [], e => .nx e
 | v :: vs, e => match g v e with
  | some e1 => (B e1).loop (dA g B vs)
  | none => .stuck
noncomputable def SR3.unl (k : Option Nat) (r : SR3) : SR3 := match r with
 | .nx e => .nx (cW e k)
 | .ct e => .ct (cW e k)
 | .bk e => .bk (cW e k)
 | .rt d e => .rt d (cW e k)
 | .exc c e => .exc c (cW e k)
 | .stuck => .stuck
noncomputable def wFor (I : MI3) (g : MG3) (B : MS3) : MS3 := fun e => (I e).toS fun p e1 => (dA g B p.1 (lockO e1 p.2)).unl p.2
section
variable {I : MI} {I3 : MI3} {g : MG} {g3 : MG3} {B : MS} {B3 : MS3} {c : MT} {c3 : MT3} {F : ME} {F3 : ME3}
theorem PoS.loop {X : Nat -> Prop} {h0 : Nat} {ns : Ns} {e : E3} {ae : AE} {h : AH} {r2 : SR} {r3 : SR3} {f2 : AE -> AH -> SR} {f3 : E3 -> SR3} (p : PoS X h0 ns e h r2 r3)
  (k : ∀ ae' h' ns' e', Stp ns e h ns' e' h' -> Sat X h0 ns' e' ae' h' -> PoS X h0 ns e h (f2 ae' h') (f3 e')) : PoS X h0 ns e h (r2.loop f2) (r3.loop f3) := by
 cases r3 with
 | stuck => trivial
 | nx e' => obtain ⟨ae', h', ns', q, q1, q2⟩ := p; rw [q]; exact k ae' h' ns' e' q1 q2
 | ct e' => obtain ⟨ae', h', ns', q, q1, q2⟩ := p; rw [q]; exact k ae' h' ns' e' q1 q2
 | bk e' => obtain ⟨ae', h', ns', q, q1, q2⟩ := p; rw [q]; exact ⟨ae', h', ns', rfl, q1, q2⟩
 | exc c e' => obtain ⟨ae', h', ns', q, q1, q2⟩ := p; rw [q]; exact ⟨ae', h', ns', rfl, q1, q2⟩
 | rt r e' => obtain ⟨d, ae', h', ns', q, q1, q2⟩ := p; rw [q]; exact ⟨d, ae', h', ns', rfl, q1, q2⟩
theorem w9 {X : Nat -> Prop} {h0 : Nat} {ns ns' : Ns} {e e' : E3} {ae : AE} {h h' : AH} {k : Option Nat} (S : Sat X h0 ns e ae h) (hk : ∀ j : Nat, k = some j -> ∃ s, e[j]? = some s /\ s.mt = true) (a : Stp ns (lockO e k) h ns' e' h') : Stay X ns k h h' := fun m o q hm => by
 refine a.keep m o q fun ⟨i, s, z1, z2, z3⟩ => ?_
 rcases hm with hm | ⟨j, rfl, hj⟩
 ·exact hm.2 (aX.mpr ⟨i, z1⟩)
 ·have : i = j := S.inj i j m z1 hj
  subst this
  obtain ⟨s', y1, y2⟩ := hk i rfl
  have : (lockO e (some i))[i]? = some (d9 s') := ku y1
  rw [this] at z2; cases z2
  cases s' <;> first | cases y2; done | cases z3; done
theorem PoS.unl {X : Nat -> Prop} {h0 : Nat} {ns : Ns} {e : E3} {h : AH} {k : Option Nat} {r2 : SR} {r3 : SR3} (hk : ∀ j : Nat, k = some j -> ∃ s, e[j]? = some s /\ s.mt = true) (p : PoS X h0 ns (lockO e k) h r2 r3) : PoS X h0 ns e h r2 (r3.unl k) := by
 cases k with
 | none => cases r3 <;> exact p
 |
  some j =>
  obtain ⟨s, y1, y2⟩ := hk j rfl
  cases r3 with
  | stuck => trivial
  | nx e' => obtain ⟨ae', h', ns', q, q1, q2⟩ := p; exact ⟨ae', h', ns', q, q1.unlock y1 y2, q2.unlock j⟩
  | ct e' => obtain ⟨ae', h', ns', q, q1, q2⟩ := p; exact ⟨ae', h', ns', q, q1.unlock y1 y2, q2.unlock j⟩
  | bk e' => obtain ⟨ae', h', ns', q, q1, q2⟩ := p; exact ⟨ae', h', ns', q, q1.unlock y1 y2, q2.unlock j⟩
  | exc c e' => obtain ⟨ae', h', ns', q, q1, q2⟩ := p; exact ⟨ae', h', ns', q, q1.unlock y1 y2, q2.unlock j⟩
  |
   rt r e' =>
   obtain ⟨d, ae', h', ns', q, q1, q2⟩ := p
   refine ⟨d, ae', h', ns', q, q1.unlock y1 y2, ?_⟩
   cases r with
   | val v => exact ⟨q2.1.unlock j, q2.2⟩
   | new v => obtain ⟨n, o, z1, z2, z3, z4, z5, z6, z7⟩ := q2; exact ⟨n, o, z1, z2, z3, z4, z5, z6.unlock j, z7⟩
theorem Sat.lockO {X : Nat -> Prop} {h0 : Nat} {ns : Ns} {e : E3} {ae : AE} {h : AH} (S : Sat X h0 ns e ae h) (k : Option Nat) : Sat X h0 ns (lockO e k) ae h := by
 cases k with
 | none => exact S
 | some k => exact S.lock k
theorem
    xV {X : Nat -> Prop} {h0 : Nat} {ns : Ns} {e : E3} {ae : AE} {h : AH} {G : AH -> Prop} (S : Sat X h0 ns e ae h) (hg : RG g g3) (hB : RS B B3) (hG : ∀ ns' e' h', Stp ns e h ns' e' h' -> G h') :
  ∀ {ds : List D} {vs : List Val}, Rds (Oc X ns) h ds vs -> ∀ {ns1 : Ns} {e1 : E3} {ae1 : AE} {h1 : AH}, Stp ns e h ns1 e1 h1 -> Sat X h0 ns1 e1 ae1 h1 -> PoS X h0 ns e h (hE G g B ds ae1 h1) (dA g3 B3 vs e1) := by
 intro ds
 induction ds with
 |
  nil =>
  intro vs r ns1 e1 ae1 h1 a1 S1
  cases r
  unfold hE
  rw [if_pos (hG _ _ _ a1)]
  exact .nx a1 S1
 |
  cons d0 ds ih =>
  intro vs r ns1 e1 ae1 h1 a1 S1
  cases r with
  |
   cons r rr =>
   unfold hE dA
   rw [if_pos (hG _ _ _ a1)]
   split
   ·rename_i e2 q
    obtain ⟨ae2, ns2, p2, S2, a2⟩ := hg _ _ _ _ _ _ _ _ _ S1 (r.mono (a1.mov S)) q
    rw [p2]
    have a12 := a1.trans S a2
    show PoS X h0 ns e h ((B ae2 h1).loop _) _
    refine PoS.loop (ae := ae) (PoS.after S a12 (hB X h0 ns2 e2 ae2 h1 S2)) fun ae3 h3 ns3 e3 a3 S3 => ih rr a3 S3
   ·trivial
theorem Au (hI : RI I I3) (hg : RG g g3) (hB : RS B B3) : RS (sF I g B) (wFor I3 g3 B3) := fun X h0 ns e ae h S => PoS.toS (hI X h0 ns e ae h S) fun it p h1 ns1 e1 a1 S1 r1 => by
 obtain ⟨r2, gd, hk⟩ := r1
 refine PoS.after S a1 (PoS.unl hk ?_)
 have S2 := S1.lockO p.2
 exact xV S2 hg hB (fun ns' e' h' a => gd h' (w9 S1 hk a)) r2 .refl S2
noncomputable def whV (c : MT3) (B : MS3) : Nat -> MS3
 | 0, _ => .stuck
 | k + 1, e => (c e).toS fun b e1 => if b = true then (B e1).loop (whV c B k) else .nx e1
open Classical in
noncomputable def wWh (c : MT3) (B : MS3) : MS3 := fun e => if q : ∃ k, whV c B k e ≠ .stuck then whV c B q.choose e else .stuck
theorem
    jl {c : MT3} {B : MS3} : ∀ {k : Nat} {e : E3}, whV c B k e ≠ .stuck -> whV c B (k + 1) e = whV c B k e
 | 0, _, q => absurd rfl q
 |
  k + 1, e, q => by
  have e1 : whV c B (k + 2) e = (c e).toS fun b e1 => if b = true then (B e1).loop (whV c B (k + 1)) else .nx e1 := rfl
  have e2 : whV c B (k + 1) e = (c e).toS fun b e1 => if b = true then (B e1).loop (whV c B k) else .nx e1 := rfl
  rw [e2] at q
  rw [e1, e2]
  cases r : c e with
  | exc _ _ => rfl
  | stuck => rfl
  |
   ok b h1 =>
   rw [r] at q
   cases b with
   | false => rfl
   |
    true =>
    have q' : (B h1).loop (whV c B k) ≠ .stuck := q
    show (B h1).loop (whV c B (k + 1)) = (B h1).loop (whV c B k)
    cases s : B h1 with
    | nx a2 => rw [s] at q'; exact jl q'
    | ct a2 => rw [s] at q'; exact jl q'
    | _ => rfl
theorem qU {c : MT3} {B : MS3} {k j : Nat} {e : E3} (q : whV c B k e ≠ .stuck) (hj : k <= j) : whV c B j e = whV c B k e := by
 induction hj with
 | refl => rfl
 | step _ ih => rw [jl (by rw [ih]; exact q), ih]
theorem jK {c : MT3} {B : MS3} {k : Nat} {e : E3} (q : whV c B k e ≠ .stuck) : wWh c B e = whV c B k e := by
 have hq : ∃ k, whV c B k e ≠ .stuck := ⟨k, q⟩
 unfold wWh
 rw [dif_pos hq]
 rcases Nat.le_total hq.choose k with z | z
 ·exact (qU hq.choose_spec z).symm
 ·exact qU q z
theorem
    sS (c : MT3) (B : MS3) (e : E3) : wWh c B e = (c e).toS fun b e1 => if b = true then (B e1).loop (wWh c B) else .nx e1 := by
 by_cases q : ∃ k, whV c B k e ≠ .stuck
 ·obtain ⟨k, q⟩ := q
  rw [jK q]
  cases k with
  | zero => exact absurd rfl q
  |
   succ k =>
   have e2 : whV c B (k + 1) e = (c e).toS fun b e1 => if b = true then (B e1).loop (whV c B k) else .nx e1 := rfl
   rw [e2] at q ⊢
   cases r : c e with
   | exc _ _ => rfl
   | stuck => rfl
   |
    ok b h1 =>
    rw [r] at q
    cases b with
    | false => rfl
    |
     true =>
     have q' : (B h1).loop (whV c B k) ≠ .stuck := q
     show (B h1).loop (whV c B k) = (B h1).loop (wWh c B)
     cases s : B h1 with
     | nx a2 => rw [s] at q'; exact (jK q').symm
     | ct a2 => rw [s] at q'; exact (jK q').symm
     | _ => rfl
 ·have e0 : wWh c B e = .stuck := by unfold wWh; rw [dif_neg q]
  rw [e0]
  have hs : ∀ k, whV c B (k + 1) e = .stuck := fun k => Classical.byContradiction fun z => q ⟨_, z⟩
  cases r : c e with
  | stuck => rfl
  |
   exc c' h' =>
   have := hs 0
   unfold whV at this
   rw [r] at this
   cases this
  |
   ok b h1 =>
   cases b with
   |
    false =>
    have := hs 0
    unfold whV at this
    rw [r] at this
    cases this
   |
    true =>
    have h2 : ∀ k, (B h1).loop (whV c B k) = .stuck := fun k => by
     have := hs k
     unfold whV at this
     rw [r] at this
     exact this
    show SR3.stuck = (B h1).loop (wWh c B)
    have lim : ∀ a2, (∀ k, whV c B k a2 = .stuck) -> wWh c B a2 = .stuck := fun a2 z => by
     unfold wWh
     rw [dif_neg (fun ⟨k, y⟩ => y (z k))]
    cases s : B h1 with
    | nx a2 => rw [s] at h2; exact (lim a2 h2).symm
    | ct a2 => rw [s] at h2; exact (lim a2 h2).symm
    | stuck => rfl
    | _ => have := h2 0; rw [s] at this; cases this
theorem BF {X : Nat -> Prop} {h0 : Nat} {ns : Ns} {e : E3} {h : AH} {r2 : SR} {r3 : SR3} (p : PoS X h0 ns e h r2 r3) (q : r3 ≠ .stuck) : r2 ≠ .stuck := by
 cases r3 with
 | stuck => exact absurd rfl q
 | nx e' => obtain ⟨ae', h', ns', z, _⟩ := p; rw [z]; intro y; cases y
 | ct e' => obtain ⟨ae', h', ns', z, _⟩ := p; rw [z]; intro y; cases y
 | bk e' => obtain ⟨ae', h', ns', z, _⟩ := p; rw [z]; intro y; cases y
 | exc c e' => obtain ⟨ae', h', ns', z, _⟩ := p; rw [z]; intro y; cases y
 | rt r e' => obtain ⟨d, ae', h', ns', z, _⟩ := p; rw [z]; intro y; cases y
theorem sm (hc : RT c c3) (hB : RS B B3) : ∀ (k : Nat) (X : Nat -> Prop) (h0 : Nat) (ns : Ns) (e : E3) (ae : AE) (h : AH), Sat X h0 ns e ae h -> PoS X h0 ns e h (whN c B k ae h) (whV c3 B3 k e)
 | 0, _, _, _, _, _, _, _ => trivial
 |
  k + 1, X, h0, ns, e, ae, h, S => by
  refine PoS.toS (hc X h0 ns e ae h S) fun b b' h1 ns1 e1 a1 S1 r1 => ?_
  cases r1
  try dsimp only
  split
  ·exact PoS.after S a1 (PoS.loop (ae := ae) (hB X h0 ns1 e1 ae h1 S1) fun ae2 h2 ns2 e2 a2 S2 => PoS.after S1 a2 (sm hc hB k X h0 ns2 e2 ae2 h2 S2))
  ·exact .nx a1 S1
theorem DJ (hc : RT c c3) (hB : RS B B3) : RS (sWh c B) (wWh c3 B3) := fun X h0 ns e ae h S => by
 by_cases q : ∃ k, whV c3 B3 k e ≠ .stuck
 ·obtain ⟨k, q⟩ := q
  rw [jK q]
  have p := sm hc hB k X h0 ns e ae h S
  rw [rh (BF p q)]
  exact p
 ·unfold wWh; rw [dif_neg q]; trivial
end
end L3
set_option Elab.async false
set_option linter.all false
set_option maxRecDepth 100000
namespace L3
open PySem PySem.Spec PyProof.Rows L2
noncomputable def d7 (o : Option Nat) (s : Sl) (e : E3) : E3 := match o, s with
 | some i, .mu v => (match e[i]? with
  | some t => e.set i (t.re v)
  | none => e)
 | _, _ => e
noncomputable def bf : List (Option Nat) -> E3 -> E3 -> E3
 | o :: sub, s :: inner, e => bf sub inner (d7 o s e)
 | _, _, e => e
theorem oW {o : Option Nat} {s : Sl} {e : E3} {i : Nat} (hn : ∀ v, o = some i -> s = .mu v -> False) : (d7 o s e)[i]? = e[i]? := by
 unfold d7
 split
 ·rename_i i' v
  split
  ·rename_i t q
   by_cases z : i = i'
   ·subst z; exact (hn v rfl rfl).elim
   ·rw [bg z]
  ·rfl
 ·rfl
theorem kj : ∀ {sub : List (Option Nat)} {e2 e : E3} {i : Nat}, (∀ (j : Nat) v, sub[j]? = some (some i) -> e2[j]? = some (.mu v) -> False) -> (bf sub e2 e)[i]? = e[i]?
 | [], _, _, _, _ => rfl
 | _ :: _, [], _, _, _ => rfl
 |
  o :: sub, s :: e2, e, i, hn => by
  show (bf sub e2 (d7 o s e))[i]? = _
  rw [kj (fun j v q1 q2 => hn (j + 1) v (by simpa using q1) (by simpa using q2))]
  exact oW fun v z1 z2 => hn 0 v (by rw [z1]; rfl) (by rw [z2]; rfl)
theorem o1 : ∀ {sub : List (Option Nat)} {e2 e : E3} {i j : Nat} {v : Val}, (∀ (j k : Nat) i, sub[j]? = some (some i) -> sub[k]? = some (some i) -> j = k) -> sub[j]? = some (some i) -> e2[j]? = some (.mu v) -> (bf sub e2 e)[i]? = (e[i]?).map (Sl.re · v)
 | [], _, _, _, j, _, _, q, _ => by simp at q
 | _ :: _, [], _, _, j, _, _, _, q => by simp at q
 |
  o :: sub, s :: e2, e, i, 0, v, hj, q1, q2 => by
  have z1 : o = some i := by simpa using q1
  have z2 : s = .mu v := by simpa using q2
  subst z1 z2
  show (bf sub e2 (d7 (some i) (.mu v) e))[i]? = _
  rw [kj (fun k u y1 _ => by have := hj 0 (k + 1) i rfl (by simpa using y1); omega)]
  unfold d7
  dsimp only
  split
  ·rename_i t q; rw [bx (List.getElem?_eq_some_iff.mp q).1, q]; rfl
  ·rename_i q; rw [q]; rfl
 |
  o :: sub, s :: e2, e, i, j + 1, v, hj, q1, q2 => by
  show (bf sub e2 (d7 o s e))[i]? = _
  have q1' : sub[j]? = some (some i) := by simpa using q1
  rw [o1 (fun a b c y1 y2 => by have := hj (a + 1) (b + 1) c (by simpa using y1) (by simpa using y2); omega) q1' (by simpa using q2)]
  rw [oW fun v z1 _ => by have := hj 0 (j + 1) i (by rw [z1]; rfl) q1; omega]
noncomputable def bK (sub : List (Option Nat)) (ns : Ns) : Ns := sub.map fun o => o.bind fun i => (ns[i]?).bind id
theorem bW {sub : List (Option Nat)} {ns : Ns} {j n : Nat} (q : (bK sub ns)[j]? = some (some n)) : ∃ i, sub[j]? = some (some i) /\ ns[i]? = some (some n) := by
 unfold bK at q
 rw [List.getElem?_map] at q
 cases z : sub[j]? with
 | none => rw [z] at q; cases q
 |
  some o =>
  rw [z] at q
  cases o with
  | none => cases q
  |
   some i =>
   refine ⟨i, rfl, ?_⟩
   have q' : (ns[i]?).bind id = some n := Option.some.inj q
   cases y : ns[i]? with
   | none => rw [y] at q'; cases q'
   | some w => rw [y] at q'; have : w = some n := q'; rw [this]
theorem xg {sub : List (Option Nat)} {ns : Ns} {j i : Nat} {w : Option Nat} (q : sub[j]? = some (some i)) (q2 : ns[i]? = some w) : (bK sub ns)[j]? = some w := by
 unfold bK
 rw [List.getElem?_map, q]
 show some ((ns[i]?).bind id) = some w
 rw [q2]; rfl
structure Lnk (sub : List (Option Nat)) (e ei : E3) : Prop where
 inj : ∀ (j k : Nat) (i : Nat), sub[j]? = some (some i) -> sub[k]? = some (some i) -> j = k
 mu : ∀ (j : Nat) (v : Val), ei[j]? = some (.mu v) -> ∃ (i : Nat) (s : Sl), sub[j]? = some (some i) /\ e[i]? = some s /\ s.mt = true
 mt : ∀ (j : Nat) (s : Sl), ei[j]? = some s -> s.mt = true -> ∃ v, s = .mu v
theorem
    Sat.back {X Y : Nat -> Prop} {h0 : Nat} {ns ns2 : Ns} {e ei e2 : E3} {ae : AE} {h h2 : AH} {sub : List (Option Nat)} (S : Sat X h0 ns e ae h) (K : Lnk sub e ei) (a : Stp (bK sub ns) ei h ns2 e2 h2)
  (hY : ∀ n, Y n -> n < h2.length /\ (X n \/ h.length <= n)) (hXY : ∀ n, X n -> Y n)
  (hc : ∀ (j : Nat) v n, e2[j]? = some (.mu v) -> ns2[j]? = some (some n) -> ∃ o, h2[n]? = some o /\ bG o /\ Rc (Oc Y ns) h2 o v) : Sat Y h0 ns (bf sub e2 e) ae h2 /\ Stp ns e h ns (bf sub e2 e) h2 := by
 have hM : ∀ n, Mt (bK sub ns) ei n -> Mt ns e n := fun n ⟨j, s, z1, z2, z3⟩ => by
  obtain ⟨v, rfl⟩ := K.mt j s z2 z3
  obtain ⟨i, s', y1, y2, y3⟩ := K.mu j v z2
  obtain ⟨i', y4, y5⟩ := bW z1
  rw [y1] at y4; cases y4
  exact ⟨i, s', y5, y2, y3⟩
 have mv : Mov (Oc X ns) (Oc Y ns) h h2 := fun n o p q => ⟨⟨fun z => by
  rcases (hY n z).2 with z | z
  ·exact p.1 z
  ·have := bU q; omega, p.2⟩, a.keep n o q fun z => by
   obtain ⟨j, s, z1, _⟩ := z
   obtain ⟨i, _, y⟩ := bW z1
   exact p.2 (aX.mpr ⟨i, y⟩)⟩
 have key : ∀ i : Nat, (∃ (j : Nat) (v : Val) (s : Sl), sub[j]? = some (some i) /\ e2[j]? = some (.mu v) /\ e[i]? = some s /\ s.mt = true /\ (bf sub e2 e)[i]? = some (s.re v) /\ ns2[j]? = ns[i]?) \/ ((∀ n, ns[i]? = some (some n) -> ¬ Mt (bK sub ns) ei n) /\ (bf sub e2 e)[i]? = e[i]?) := fun i => by
  by_cases hx : ∃ (j : Nat) (v : Val), sub[j]? = some (some i) /\ e2[j]? = some (.mu v)
  ·obtain ⟨j, v, q1, q2⟩ := hx
   obtain ⟨u, q3, q4⟩ := a.mu j v q2
   obtain ⟨i', s, y1, y2, y3⟩ := K.mu j u q3
   rw [q1] at y1; cases y1
   refine .inl ⟨j, v, s, q1, q2, y2, y3, by rw [o1 K.inj q1 q2, y2]; rfl, ?_⟩
   rw [q4]
   have hl : i < ns.length := by rw [S.l2]; exact (List.getElem?_eq_some_iff.mp y2).1
   rw [List.getElem?_eq_getElem hl]
   exact xg q1 (List.getElem?_eq_getElem hl)
  ·refine .inr ⟨fun n q ⟨j, s, z1, z2, z3⟩ => hx ?_, kj fun j v y1 y2 => hx ⟨j, v, y1, y2⟩⟩
   obtain ⟨v, rfl⟩ := K.mt j s z2 z3
   obtain ⟨i', y4, y5⟩ := bW z1
   have : i' = i := S.inj i' i n y5 q
   subst this
   obtain ⟨v', y6, _⟩ := a.mu' j v z2
   exact ⟨j, v', y4, y6⟩
 have lenB : (bf sub e2 e).length = e.length := by
  clear key hc a K S hY hXY hM mv
  induction sub generalizing e2 e with
  | nil => rfl
  |
   cons o sub ih =>
   cases e2 with
   | nil => rfl
   |
    cons s e2 =>
    show (bf sub e2 (d7 o s e)).length = _
    rw [ih]
    unfold d7
    split
    ·split
     ·rw [List.length_set]
     ·rfl
    ·rfl
 refine ⟨⟨by rw [lenB]; exact S.l1, by rw [lenB]; exact S.l2, Nat.le_trans S.lh a.len, fun n z => (hY n z).1, S.inj, fun i n q z => ?_, fun i s q => ?_⟩, ⟨a.len, fun m o q hm => a.keep m o q fun z => hm (hM m z), fun _ _ q => .inl q, fun i s q hl => ?_, fun i s q hl => ?_, fun i v q => ?_, fun i v q => ?_⟩⟩
 ·rcases (hY n z).2 with z | z
  ·exact S.nx i n q z
  ·obtain ⟨_, _, _, _, _, _, _, q', _⟩ := S.own q
   have := bU q'; omega
 ·rcases key i with ⟨j, v, s0, k1, k2, k3, k4, k5, k6⟩ | ⟨k1, k2⟩
  ·rw [k5] at q; cases q
   have y := S.sl i s0 k3
   cases s0 with
   |
    ow u =>
    obtain ⟨n, o, y1, y2, y3, _⟩ := y
    obtain ⟨o', z1, z2, z3⟩ := hc j v n k2 (by rw [k6]; exact y1)
    exact ⟨n, o', y1, y2, y3, z1, z2, z3⟩
   |
    mu u =>
    obtain ⟨n, o, y1, y2, _⟩ := y
    obtain ⟨o', z1, z2, z3⟩ := hc j v n k2 (by rw [k6]; exact y1)
    exact ⟨n, o', y1, y2, z1, z2, z3⟩
   | _ => cases k4
  ·rw [k2] at q
   exact (S.sl i s q).mono mv fun n o q1 q2 => a.keep n o q2 (k1 n q1)
 ·rcases key i with ⟨j, v, s0, k1, k2, k3, k4, k5, k6⟩ | ⟨k1, k2⟩
  ·rw [k3] at q; cases q; cases s <;> first | cases hl; done | cases k4; done
  ·rw [k2]; exact ⟨q, rfl⟩
 ·rcases key i with ⟨j, v, s0, k1, k2, k3, k4, k5, k6⟩ | ⟨k1, k2⟩
  ·rw [k5] at q; cases q; cases s0 <;> first | cases hl; done | cases k4; done
  ·rw [k2] at q; exact ⟨q, rfl⟩
 ·rcases key i with ⟨j, u, s0, k1, k2, k3, k4, k5, k6⟩ | ⟨k1, k2⟩
  ·rw [k5] at q
   cases s0 with
   | mu w => exact ⟨w, k3, rfl⟩
   | ow w => cases q
   | _ => cases k4
  ·rw [k2] at q; exact ⟨v, q, rfl⟩
 ·rcases key i with ⟨j, u, s0, k1, k2, k3, k4, k5, k6⟩ | ⟨k1, k2⟩
  ·rw [k3] at q; cases q; exact ⟨u, k5, rfl⟩
  ·exact ⟨v, by rw [k2]; exact q, rfl⟩
noncomputable def inS : Sl -> Sl
 | .ow v => .mu v
 | .lo v => .lm v
 | s => s
noncomputable def c5 (sub : List (Option Nat)) (e : E3) : E3 := sub.map fun o => match o with
 | none => .no
 | some i => match e[i]? with
  | some s => inS s
  | none => .no
noncomputable def lcV (g : MG3) (c : MT3) (F : ME3) : List Val -> List Val -> E3 -> R3 (List Val)
 | [], acc, e => .ok acc e
 | v :: vs, acc, e => if acc.length < 16777216 then (match g v e with
  | none => .stuck
  | some e1 => (c e1).bind fun b e2 => if b = true then (F e2).bind fun t e3 => (match bZ e3 t with
    | some (e4, y) => lcV g c F vs (acc ++ [y]) e4
    | none => .stuck) else lcV g c F vs acc e2) else .stuck
noncomputable def vLC (I : MI3) (sub : List (Option Nat)) (g : MG3) (c : MT3) (F : ME3) : ME3 := fun e => (I e).bind fun p e1 => match lcV g c F p.1 [] (c5 sub (lockO e1 p.2)) with
 | .ok ys e2 => if ys.length <= 16777216 then .ok (.new (.lst ys)) (cW (bf sub e2 (lockO e1 p.2)) p.2) else .stuck
 | _ => .stuck
noncomputable def jY (sub : List (Option Nat)) : Prop := ∀ (j k : Nat) (i : Nat), sub[j]? = some (some i) -> sub[k]? = some (some i) -> j = k
theorem se {sub : List (Option Nat)} (h : (sub.filterMap id).Nodup) : jY sub := by
 induction sub with
 | nil => intro j k i q; simp at q
 |
  cons o sub ih =>
  have hsub : (sub.filterMap id).Nodup := by
   cases o with
   | none => simpa using h
   | some i => rw [List.filterMap_cons] at h; simp at h; exact h.2
  have hno : ∀ (i k : Nat), o = some i -> sub[k]? = some (some i) -> False := fun i k z q => by
   subst z
   rw [List.filterMap_cons] at h
   simp at h
   exact h.1 (List.mem_of_getElem? q)
  intro j k i q1 q2
  cases j with
  |
   zero =>
   cases k with
   | zero => rfl
   | succ k => exact (hno i k (by simpa using q1) (by simpa using q2)).elim
  |
   succ j =>
   cases k with
   | zero => exact (hno i j (by simpa using q2) (by simpa using q1)).elim
   | succ k => exact congrArg (· + 1) (ih hsub j k i (by simpa using q1) (by simpa using q2))
noncomputable def Xin (X : Nat -> Prop) (ns : Ns) (sub : List (Option Nat)) (n : Nat) : Prop := X n \/ (some n ∈ ns /\ some n ∉ bK sub ns)
theorem jF {sub : List (Option Nat)} {ns : Ns} {n : Nat} (q : some n ∈ bK sub ns) : some n ∈ ns := by
 obtain ⟨j, q⟩ := aX.mp q
 obtain ⟨i, _, q2⟩ := bW q
 exact aX.mpr ⟨i, q2⟩
theorem gx {sub : List (Option Nat)} {e : E3} {j : Nat} {s : Sl} (q : (c5 sub e)[j]? = some s) : (sub[j]? = some none /\ s = .no) \/ (∃ i, sub[j]? = some (some i) /\ ((e[i]? = none /\ s = .no) \/ ∃ t, e[i]? = some t /\ s = inS t)) := by
 unfold c5 at q
 rw [List.getElem?_map] at q
 cases z : sub[j]? with
 | none => rw [z] at q; cases q
 |
  some o =>
  rw [z] at q
  cases o with
  | none => cases q; exact .inl ⟨rfl, rfl⟩
  |
   some i =>
   refine .inr ⟨i, rfl, ?_⟩
   have q' := Option.some.inj q
   dsimp only at q'
   cases y : e[i]? with
   | none => rw [y] at q'; exact .inl ⟨rfl, q'.symm⟩
   | some t => rw [y] at q'; exact .inr ⟨t, rfl, q'.symm⟩
theorem
    Sat.inner {X : Nat -> Prop} {h0 : Nat} {ns : Ns} {e : E3} {ae : AE} {h : AH} {sub : List (Option Nat)} (S : Sat X h0 ns e ae h) (hs : jY sub) : Sat (Xin X ns sub) h0 (bK sub ns) (c5 sub e) (gH sub ae) h := by
 refine ⟨by unfold gH c5; rw [List.length_map, List.length_map], by unfold bK c5; rw [List.length_map, List.length_map], S.lh, fun n z => ?_, fun j k n q1 q2 => ?_, fun j n q z => ?_, fun j s q => ?_⟩
 ·rcases z with z | ⟨z, _⟩
  ·exact S.xl n z
  ·obtain ⟨i, z⟩ := aX.mp z
   obtain ⟨_, _, _, _, _, _, _, q', _⟩ := S.own z
   exact bU q'
 ·obtain ⟨i, y1, y2⟩ := bW q1
  obtain ⟨i', y3, y4⟩ := bW q2
  have := S.inj i i' n y2 y4
  subst this
  exact hs j k i y1 y3
 ·rcases z with z | ⟨_, z⟩
  ·obtain ⟨i, y1, y2⟩ := bW q
   exact S.nx i n y2 z
  ·exact z (aX.mpr ⟨j, q⟩)
 ·have mv : Mov (Oc X ns) (Oc (Xin X ns sub) (bK sub ns)) h h := fun n o p q => ⟨⟨fun z => by
   rcases z with z | ⟨z, _⟩
   ·exact p.1 z
   ·exact p.2 z, fun z => p.2 (jF z)⟩, q⟩
  have hj : ∀ {o}, sub[j]? = some o -> (bK sub ns)[j]? = some (o.bind fun i => (ns[i]?).bind id) /\ (gH sub ae)[j]? = some (o.bind fun i => (ae[i]?).bind id) := fun {o} z => by
   unfold bK gH
   rw [List.getElem?_map, List.getElem?_map, z]
   exact ⟨rfl, rfl⟩
  rcases gx q with ⟨z, rfl⟩ | ⟨i, z, ⟨y, rfl⟩ | ⟨t, y, rfl⟩⟩
  ·rw [(hj z).1]; rfl
  ·rw [(hj z).1]
   show some ((ns[i]?).bind id) = some none
   have : ns[i]? = none := by
    rw [List.getElem?_eq_none_iff] at y ⊢
    rw [S.l2]; exact y
   rw [this]; rfl
  ·have k := (S.sl i t y).mono mv fun _ _ _ q => q
   rw [(hj z).1, (hj z).2]
   show SlR _ h0 (some ((ns[i]?).bind id)) (some ((ae[i]?).bind id)) h (inS t)
   have w1 : ∀ x, ns[i]? = some x -> some ((ns[i]?).bind id) = some x := fun x q => by rw [q]; rfl
   have w2 : ∀ x, ae[i]? = some x -> some ((ae[i]?).bind id) = some x := fun x q => by rw [q]; rfl
   cases t with
   | no => rw [w1 _ k]; rfl
   | sh v => obtain ⟨k1, x, k2, k3⟩ := k; rw [w1 _ k1, w2 _ k2]; exact ⟨rfl, x, rfl, k3⟩
   | ow v => obtain ⟨m, o, k1, k2, _, k3⟩ := k; rw [w1 _ k1, w2 _ k2]; exact ⟨m, o, rfl, rfl, k3⟩
   | lo v => obtain ⟨m, o, k1, k2, _, k3⟩ := k; rw [w1 _ k1, w2 _ k2]; exact ⟨m, o, rfl, rfl, k3⟩
   | mu v => obtain ⟨m, o, k1, k2, k3⟩ := k; rw [w1 _ k1, w2 _ k2]; exact ⟨m, o, rfl, rfl, k3⟩
   | lm v => obtain ⟨m, o, k1, k2, k3⟩ := k; rw [w1 _ k1, w2 _ k2]; exact ⟨m, o, rfl, rfl, k3⟩
theorem oi {sub : List (Option Nat)} {e : E3} (hs : jY sub) : Lnk sub e (c5 sub e) := by
 refine ⟨hs, fun j v q => ?_, fun j s q hm => ?_⟩
 ·rcases gx q with ⟨_, z⟩ | ⟨i, z, ⟨_, y⟩ | ⟨t, y, y2⟩⟩
  ·cases z
  ·cases y
  ·refine ⟨i, t, z, y, ?_⟩
   cases t <;> first | rfl | cases y2
 ·rcases gx q with ⟨_, z⟩ | ⟨i, z, ⟨_, y⟩ | ⟨t, y, y2⟩⟩
  ·subst z; cases hm
  ·subst y; cases hm
  ·subst y2
   cases t with
   | ow v => exact ⟨v, rfl⟩
   | mu v => exact ⟨v, rfl⟩
   | _ => cases hm
section
variable {I : MI} {I3 : MI3} {g : MG} {g3 : MG3} {c : MT} {c3 : MT3} {F : ME} {F3 : ME3}
theorem
    A6 {X : Nat -> Prop} {h0 : Nat} {ns : Ns} {e : E3} {ae : AE} {h : AH} {G : AH -> Prop} (S : Sat X h0 ns e ae h) (hg : RG g g3) (hc : RT c c3) (hF : RE F F3) (hG : ∀ ns' e' h', Stp ns e h ns' e' h' -> G h') {ys : List Val} {e2 : E3} :
  ∀
   {ds : List D} {vs : List Val}, Rds (Oc X ns) h ds vs -> ∀ {acc : List D} {accv : List Val} {ns1 : Ns} {e1 : E3} {ae1 : AE} {h1 : AH}, Stp ns e h ns1 e1 h1 -> Sat X h0 ns1 e1 ae1 h1 -> Rds (Oc X ns1) h1 acc accv -> lcV g3 c3 F3 vs accv e1 = .ok ys e2 ->
   ∃ dy h2 ns2 ae2, lcL G g c F ds acc ae1 h1 = .ok dy h2 /\ Stp ns e h ns2 e2 h2 /\ Sat X h0 ns2 e2 ae2 h2 /\ Rds (Oc X ns2) h2 dy ys := by
 intro ds
 induction ds with
 |
  nil =>
  intro vs r acc accv ns1 e1 ae1 h1 a1 S1 ra q
  cases r
  unfold lcL
  rw [if_pos (hG _ _ _ a1)]
  cases q
  exact ⟨acc, h1, ns1, ae1, rfl, a1, S1, ra⟩
 |
  cons d0 ds ih =>
  intro vs r acc accv ns1 e1 ae1 h1 a1 S1 ra q
  cases r with
  |
   cons r rr =>
   rename_i v vs
   unfold lcV at q
   unfold lcL
   by_cases hl : accv.length < 16777216
   ·rw [if_pos hl] at q
    rw [if_pos ⟨hG _ _ _ a1, by rw [ra.len]; exact hl⟩]
    cases q1 : g3 v e1 with
    | none => rw [q1] at q; cases q
    |
     some e3 =>
     rw [q1] at q
     dsimp only at q
     obtain ⟨ae3, ns3, p3, S3, a3⟩ := hg _ _ _ _ _ _ _ _ _ S1 (r.mono (a1.mov S)) q1
     rw [p3, eO]
     have a13 := a1.trans S a3
     have pc := hc X h0 ns3 e3 ae3 h1 S3
     cases q4 : c3 e3 with
     | stuck => rw [q4] at q; cases q
     | exc _ _ => rw [q4] at q; cases q
     |
      ok b e4 =>
      rw [q4] at q pc
      obtain ⟨b', h4, ns4, p4, a4, S4, rfl⟩ := pc
      rw [p4, eO]
      have a14 := a13.trans S a4
      have ra4 := (ra.mono (a3.mov S1)).mono (a4.mov S3)
      have q' : (if b' = true then (F3 e4).bind fun t e3 => (match bZ e3 t with
       | some (e4, y) => lcV g3 c3 F3 _ (accv ++ [y]) e4
       | none => .stuck) else lcV g3 c3 F3 _ accv e4) = .ok ys e2 := q
      by_cases hb : b' = true
      ·rw [if_pos hb] at q' ⊢
       have pF := hF X h0 0 ns4 e4 ae3 h4 S4 (Nat.zero_le _)
       cases q5 : F3 e4 with
       | stuck => rw [q5] at q'; cases q'
       | exc _ _ => rw [q5] at q'; cases q'
       |
        ok t e5 =>
        rw [q5] at q' pF
        obtain ⟨d5, h5, ns5, p5, a5, S5, r5⟩ := pF
        rw [p5, eO]
        have q'' : (match bZ e5 t with
         | some (e4, y) => lcV g3 c3 F3 _ (accv ++ [y]) e4
         | none => .stuck) = .ok ys e2 := q'
        cases q6 : bZ e5 t with
        | none => rw [q6] at q''; cases q''
        |
         some w =>
         obtain ⟨e6, y⟩ := w
         rw [q6] at q''
         obtain ⟨ns6, S6, a6, r6⟩ := dM S5 r5 q6
         exact ih rr ((a14.trans S a5).trans S a6) S6 (((ra4.mono (a5.mov S4)).mono (a6.mov S5)).append (.cons r6 .nil)) q''
      ·rw [if_neg hb] at q' ⊢
       exact ih rr a14 S4 ra4 q'
   ·rw [if_neg hl] at q; cases q
theorem
    Cy {sub : List (Option Nat)} (hs : (sub.filterMap id).Nodup) (hI : RI I I3) (hg : RG g g3) (hc : RT c c3) (hF : RE F F3) : RE (eLC I sub g c F) (vLC I3 sub g3 c3 F3) := fun X h0 L ns e ae h S hl =>
 Po.bind
     S (hI X h0 ns e ae h S) fun it p h1 ns1 e1 a1 S1 r1 => by
  try dsimp only
  obtain ⟨r2, gd, hk⟩ := r1
  have hs' := se hs
  have S2 := S1.lockO p.2
  have S3 := S2.inner hs'
  cases q : lcV g3 c3 F3 p.1 [] (c5 sub (lockO e1 p.2)) with
  | stuck => trivial
  | exc _ _ => trivial
  |
   ok ys e2 =>
   dsimp only
   split
   ·rename_i hy
    have gd' : ∀ ns' e' h', Stp (bK sub ns1) (c5 sub (lockO e1 p.2)) h1 ns' e' h' -> it.guard h' := fun ns' e' h' a => gd h' fun m o qm hm => a.keep m o qm fun ⟨j, s, z1, z2, z3⟩ => by
     obtain ⟨i, y1, y2⟩ := bW z1
     rcases hm with hm | ⟨k, hk1, hk2⟩
     ·exact hm.2 (aX.mpr ⟨i, y2⟩)
     ·have : i = k := S1.inj i k m y2 hk2
      subst this
      obtain ⟨s', w1, w2⟩ := hk i hk1
      rcases gx z2 with ⟨z, _⟩ | ⟨i', z, y⟩
      ·rw [y1] at z; cases z
      ·rw [y1] at z; cases z
       have hl : (lockO e1 p.2)[i]? = some (d9 s') := by rw [hk1]; exact ku w1
       rcases y with ⟨y, _⟩ | ⟨t, y, rfl⟩
       ·rw [hl] at y; cases y
       ·rw [hl] at y; cases y
        cases s' <;> first | cases w2; done | cases z3; done
    have mvi : Mov (Oc X ns1) (Oc (Xin X ns1 sub) (bK sub ns1)) h1 h1 := fun n o p q => ⟨⟨fun z => by
     rcases z with z | ⟨z, _⟩
     ·exact p.1 z
     ·exact p.2 z, fun z => p.2 (jF z)⟩, q⟩
    obtain ⟨dy, h2, ns2, ae2, p2, a2, S4, r4⟩ := A6 (G := it.guard) S3 hg hc hF gd' (r2.mono mvi) .refl S3 .nil q
    have k3 : ∀ n, Oc (Xin X ns1 sub) ns2 n -> Oc X ns1 n := fun n z => ⟨fun y => z.1 (.inl y), fun y => by
     by_cases w : some n ∈ bK sub ns1
     ·obtain ⟨j, w⟩ := aX.mp w
      obtain ⟨s, v, o, b1, b2, _⟩ := S3.own w
      rcases b2 with b2 | b2
      ·obtain ⟨v', rfl⟩ := (oi (e := lockO e1 p.2) hs').mt j s b1 b2
       obtain ⟨u, c1, c2⟩ := a2.mu' j v' b1
       exact z.2 (aX.mpr ⟨j, by rw [c2]; exact w⟩)
      ·obtain ⟨c1, c2⟩ := a2.lk j s b1 b2
       exact z.2 (aX.mpr ⟨j, by rw [c2]; exact w⟩)
     ·exact z.1 (.inr ⟨y, w⟩)⟩
    have bk := S2.back (Y := X) (oi hs') a2 (fun n z => ⟨Nat.lt_of_lt_of_le (S2.xl n z) a2.len, .inl z⟩) (fun _ z => z) fun j v n q1 q2 => by
     obtain ⟨s, u, o, b1, b2, b3, b4, b5, b6, b7⟩ := S4.own q2
     rw [q1] at b1; cases b1
     cases b3
     exact ⟨o, b5, b6, b7.mono fun m o' z y => ⟨k3 m z, y⟩⟩
    obtain ⟨S5, a5⟩ := bk
    have r5 : Rds (Oc X ns1) h2 dy ys := r4.mono fun m o' z y => ⟨k3 m z, y⟩
    have fin : ∀ (e' : E3), Sat X h0 ns1 e' ae h2 -> Stp ns1 e1 h1 ns1 e' h2 -> Po X h0 ns1 e1 ae h1 (relE X h0 L ae) ((noX (lcL it.guard g c F it.items [] (gH sub ae) h1)).bind cQ) (.ok (.new (.lst ys)) e') := fun e' S6 a6 => by
     rw [p2]
     have pp := BvR.po (L := L) (r := cQ dy h2) (b := .new (.lst ys)) S6 (Nat.le_trans hl (Nat.le_trans a1.len a6.len)) ⟨.lst dy, by unfold cQ; rw [if_pos (by rw [r5.len]; exact hy)], trivial, .lst r5⟩
     obtain ⟨d, h', ns', y, y1, y2, y3⟩ := pp
     exact ⟨d, h', ns', y, a6.trans S1 y1, y2, y3⟩
    cases hp : p.2 with
    |
     none =>
     rw [hp] at S5 a5
     exact fin _ S5 a5
    |
     some k =>
     rw [hp] at S5 a5
     obtain ⟨s, w1, w2⟩ := hk k hp
     exact fin _ (S5.unlock k) (a5.unlock w1 w2)
   ·trivial
end
end L3
set_option Elab.async false
set_option linter.all false
set_option maxRecDepth 100000
namespace L3
open PySem PySem.Spec PyProof.Rows L2
inductive R3F where
 | ok (r : Rt) (mv : List Val) | exc (c : Str) (mv : List Val) | stuck
abbrev Fn3 := List Val -> R3F
noncomputable def sl1 (b : Bool) (v : Val) : Sl := if b = true then .mu v else .sh v
noncomputable def sls (ms : List Bool) (vs : List Val) : E3 := List.zipWith sl1 ms vs
noncomputable def aH : List Bool -> List Val -> E3
 | true :: ms, v :: vs => .mu v :: aH ms vs
 | true :: ms, [] => .no :: aH ms []
 | false :: ms, vs => .no :: aH ms vs
 | [], _ => []
noncomputable def muV : List Bool -> E3 -> Option (List Val)
 | true :: ms, .mu v :: e => (muV ms e).map (v :: ·)
 | true :: _, _ => none
 | false :: ms, _ :: e => muV ms e
 | false :: _, [] => none
 | [], _ => some []
noncomputable def RFp (X : Nat -> Prop) (ps : Ns) (ms : List Bool) (vs : List Val) (ds : List D) (h : AH) (r2 : R D) : R3F -> Prop
 | .stuck => True
 | .ok r mv => ∃ d h', r2 = .ok d h' /\ Stp ps (sls ms vs) h ps (aH ms mv) h' /\ RtR X h.length ps (aH ms mv) (ds.map some) h' d r
 | .exc c mv => ∃ h', r2 = .exc c h' /\ Stp ps (sls ms vs) h ps (aH ms mv) h' /\ Sat X h.length ps (aH ms mv) (ds.map some) h'
noncomputable def RF (ms : List Bool) (G2 : Fn) (G3 : Fn3) : Prop := ∀ X ps ds vs h, vs.length = ms.length -> Sat X h.length ps (sls ms vs) (ds.map some) h -> RFp X ps ms vs ds h (G2 ds h) (G3 vs)
noncomputable def fnV (ms : List Bool) (N : Nat) (F : MS3) : Fn3 := fun vs => if vs.length = ms.length then (match F (sls ms vs ++ List.replicate (N - vs.length) .no) with
 | .nx e => (match muV ms e with | some mv => .ok (.val .non) mv | none => .stuck)
 | .rt r e => (match muV ms e with | some mv => .ok r mv | none => .stuck)
 | .exc c e => (match muV ms e with | some mv => .exc c mv | none => .stuck)
 | _ => .stuck) else .stuck
theorem dR {ms : List Bool} {vs : List Val} {i : Nat} {s : Sl} (q : (sls ms vs)[i]? = some s) : ∃ b v, ms[i]? = some b /\ vs[i]? = some v /\ s = sl1 b v := by
 unfold sls at q
 rw [List.getElem?_zipWith] at q
 cases h1 : ms[i]? with
 | none => rw [h1] at q; cases q
 |
  some b =>
  cases h2 : vs[i]? with
  | none => rw [h1, h2] at q; cases q
  | some v => rw [h1, h2] at q; cases q; exact ⟨b, v, rfl, rfl, rfl⟩
theorem eT : ∀ {ms : List Bool} {e : E3} {mv : List Val} {i : Nat} {s : Sl}, muV ms e = some mv -> (aH ms mv)[i]? = some s -> (ms[i]? = some false /\ s = .no) \/ (ms[i]? = some true /\ ∃ v, e[i]? = some (.mu v) /\ s = .mu v)
 | [], _, _, _, _, _, q => by unfold aH at q; simp at q
 |
  true :: ms, .mu v :: e, mv, i, s, q, q2 => by
  obtain ⟨mv', z1, z2⟩ := Option.map_eq_some_iff.mp (show (muV ms e).map (v :: ·) = some mv from q)
  subst z2
  cases i with
  | zero =>
       right; have : Sl.mu v = s := by simpa [aH] using q2
       subst this; exact ⟨rfl, v, rfl, rfl⟩
  |
   succ i =>
   have := eT (i := i) (s := s) z1 (by simpa [aH] using q2)
   simpa using this
 | true :: ms, [], mv, i, s, q, q2 => by cases q
 | true :: ms, .no :: e, mv, i, s, q, q2 => by cases q
 | true :: ms, .sh v :: e, mv, i, s, q, q2 => by cases q
 | true :: ms, .ow v :: e, mv, i, s, q, q2 => by cases q
 | true :: ms, .lo v :: e, mv, i, s, q, q2 => by cases q
 | true :: ms, .lm v :: e, mv, i, s, q, q2 => by cases q
 | false :: ms, [], mv, i, s, q, q2 => by cases q
 |
  false :: ms, t :: e, mv, i, s, q, q2 => by
  cases i with
  | zero =>
       left; have : Sl.no = s := by simpa [aH] using q2
       exact ⟨rfl, this.symm⟩
  |
   succ i =>
   have := eT (i := i) (s := s) (show muV ms e = some mv from q) (by simpa [aH] using q2)
   simpa using this
theorem km : ∀ {ms : List Bool} {e : E3} {mv : List Val} {i : Nat}, muV ms e = some mv -> ms[i]? = some true -> ∃ v, e[i]? = some (.mu v) /\ (aH ms mv)[i]? = some (.mu v)
 | [], _, _, i, _, q => by simp at q
 |
  true :: ms, .mu v :: e, mv, i, q, q2 => by
  obtain ⟨mv', z1, z2⟩ := Option.map_eq_some_iff.mp (show (muV ms e).map (v :: ·) = some mv from q)
  subst z2
  cases i with
  | zero => exact ⟨v, rfl, rfl⟩
  |
   succ i =>
   obtain ⟨u, y1, y2⟩ := km (i := i) z1 (by simpa using q2)
   exact ⟨u, by simpa using y1, by simpa [aH] using y2⟩
 | true :: ms, [], mv, i, q, q2 => by cases q
 | true :: ms, .no :: e, mv, i, q, q2 => by cases q
 | true :: ms, .sh v :: e, mv, i, q, q2 => by cases q
 | true :: ms, .ow v :: e, mv, i, q, q2 => by cases q
 | true :: ms, .lo v :: e, mv, i, q, q2 => by cases q
 | true :: ms, .lm v :: e, mv, i, q, q2 => by cases q
 | false :: ms, [], mv, i, q, q2 => by cases q
 |
  false :: ms, t :: e, mv, i, q, q2 => by
  cases i with
  | zero => simp at q2
  |
   succ i =>
   obtain ⟨u, y1, y2⟩ := km (i := i) (show muV ms e = some mv from q) (by simpa using q2)
   exact ⟨u, by simpa using y1, by simpa [aH] using y2⟩
theorem eY : ∀ {ms : List Bool} {mv : List Val}, (aH ms mv).length = ms.length
 | [], _ => rfl
 | true :: ms, v :: mv => by show (aH ms mv).length + 1 = ms.length + 1; rw [eY]
 | true :: ms, [] => by show (aH ms []).length + 1 = ms.length + 1; rw [eY]
 | false :: ms, mv => by show (aH ms mv).length + 1 = ms.length + 1; rw [eY]
theorem
    C8 {ms : List Bool} {N : Nat} {F : MS} {F3 : MS3} (hF : RS F F3) : RF ms (fnD N F) (fnV ms N F3) := fun X ps ds vs h hl S => by
 unfold fnV
 rw [if_pos hl]
 have lS : (sls ms vs).length = vs.length := by unfold sls; rw [List.length_zipWith]; omega
 have lD : ds.length = vs.length := by have := S.l1; rw [List.length_map] at this; omega
 have lP : ps.length = vs.length := by have := S.l2; omega
 have S1
     : Sat X h.length (ps ++ List.replicate (N - vs.length) none) (sls ms vs ++ List.replicate (N - vs.length) .no) (ds.map some ++ List.replicate (N - vs.length) none) h := by
  have mns : ∀ n, some n ∈ ps ++ List.replicate (N - vs.length) (none : Option Nat) ↔ some n ∈ ps := fun n => by
   rw [List.mem_append]
   constructor
   ·rintro (z | z)
    ·exact z
    ·have := List.eq_of_mem_replicate z; cases this
   ·exact .inl
  have gns : ∀ {i n : Nat}, (ps ++ List.replicate (N - vs.length) (none : Option Nat))[i]? = some (some n) -> ps[i]? = some (some n) := fun {i n} q => by
   rw [List.getElem?_append] at q
   split at q
   ·exact q
   ·rw [List.getElem?_replicate] at q; split at q <;> cases q
  refine ⟨?_, ?_, S.lh, S.xl, fun i j n q1 q2 => S.inj i j n (gns q1) (gns q2), fun i n q => S.nx i n (gns q), fun i s q => ?_⟩
  ·rw [List.length_append, List.length_append, List.length_replicate, List.length_replicate, S.l1]
  ·rw [List.length_append, List.length_append, List.length_replicate, List.length_replicate, S.l2]
  ·rw [List.getElem?_append] at q
   split at q
   ·rename_i hi
    have k := S.sl i s q
    rw [List.getElem?_append_left (by omega), List.getElem?_append_left (by rw [List.length_map]; omega)]
    exact k.mono (fun n o p q => ⟨⟨p.1, fun z => p.2 ((mns n).mp z)⟩, q⟩) fun _ _ _ q => q
   ·rename_i hi
    rw [List.getElem?_replicate] at q
    split at q
    ·cases q
     rw [List.getElem?_append_right (by omega), List.getElem?_replicate, if_pos (by omega)]
     rfl
    ·cases q
 have p := hF _ _ _ _ _ _ S1
 have e2 : fnD N F ds h = match F (ds.map some ++ List.replicate (N - vs.length) none) h with
  | .nx _ h' => .ok .non h'
  | .rt d h' => .ok d h'
  | .exc c _ h' => .exc c h'
  | _ => .stuck := by rw [<- lD]; rfl
 rw [e2]
 have fin : ∀ (Y : Nat -> Prop) (ns' : Ns) (e' : E3) (ae' : AE) (h' : AH) (mv : List Val), (∀ n, X n -> Y n) -> Stp (ps ++ List.replicate (N - vs.length) none) (sls ms vs ++ List.replicate (N - vs.length) .no) h ns' e' h' -> Sat Y h.length ns' e' ae' h' -> muV ms e' = some mv ->
   Stp ps (sls ms vs) h ps (aH ms mv) h' /\ Sat Y h.length ps (aH ms mv) (ds.map some) h' /\ ∀ n, Oc Y ns' n -> Oc Y ps n := by
  intro Y ns' e' ae' h' mv hXY a S2 qm
  have kmu : ∀ {i : Nat}, ms[i]? = some true -> ∃ v u n o, e'[i]? = some (.mu v) /\ (aH ms mv)[i]? = some (.mu v) /\ (sls ms vs)[i]? = some (.mu u) /\ ns'[i]? = ps[i]? /\ ps[i]? = some (some n) /\ (ds.map some)[i]? = some (some (.ref n)) /\ h'[n]? = some o /\ bG o /\ Rc (Oc Y ns') h' o v := by
   intro i hi
   obtain ⟨v, y1, y2⟩ := km qm hi
   have hil : i < ms.length := (List.getElem?_eq_some_iff.mp hi).1
   obtain ⟨u, y3, y4⟩ := a.mu i v y1
   rw [List.getElem?_append_left (by omega)] at y3 y4
   obtain ⟨n, o, z1, z2, _⟩ := S.sl i _ y3
   obtain ⟨n', o', w1, w2, w3, w4, w5⟩ := S2.sl i _ y1
   rw [y4, z1] at w1; cases w1
   exact ⟨v, u, n, o', y1, y2, y3, y4, z1, z2, w3, w4, w5⟩
  have kown : ∀ {i n : Nat}, ps[i]? = some (some n) -> ms[i]? = some true := fun {i n} q => by
   obtain ⟨s, v, o, z1, z2, _⟩ := S.own q
   obtain ⟨b, u, y1, _, y2⟩ := dR z1
   cases b with
   | true => exact y1
   | false => subst y2; rcases z2 with z2 | z2 <;> cases z2
  have koc : ∀ n, Oc Y ns' n -> Oc Y ps n := fun n z => ⟨z.1, fun y => by
   obtain ⟨i, y⟩ := aX.mp y
   obtain ⟨v, u, n', o, _, _, _, k1, k2, _⟩ := kmu (kown y)
   exact z.2 (aX.mpr ⟨i, by rw [k1]; exact y⟩)⟩
  refine ⟨⟨a.len, fun m o q hm => a.keep m o q fun ⟨i, s, z1, z2, z3⟩ => hm ?_, fun _ _ q => .inl q, fun i s q hl' => ?_, fun i s q hl' => ?_, fun i v q => ?_, fun i v q => ?_⟩, ⟨?_, ?_, Nat.le_trans (Nat.le_refl _) a.len, S2.xl, S.inj, fun i n q z => ?_, fun i s q => ?_⟩, koc⟩
  ·rw [List.getElem?_append] at z1
   split at z1
   ·rename_i hi
    rw [List.getElem?_append_left (by omega)] at z2
    exact ⟨i, s, z1, z2, z3⟩
   ·rw [List.getElem?_replicate] at z1; split at z1 <;> cases z1
  ·obtain ⟨b, u, _, _, y⟩ := dR q
   subst y
   cases b <;> cases hl'
  ·rcases eT qm q with ⟨_, z⟩ | ⟨_, v, _, z⟩ <;> subst z <;> cases hl'
  ·rcases eT qm q with ⟨_, z⟩ | ⟨z, _⟩
   ·cases z
   ·obtain ⟨v', u, n, o, _, _, k1, _⟩ := kmu z
    exact ⟨u, k1, rfl⟩
  ·obtain ⟨b, u, y1, _, y2⟩ := dR q
   cases b with
   | false => cases y2
   |
    true =>
    obtain ⟨v', u, n, o, _, k0, k1, _⟩ := kmu y1
    exact ⟨v', k0, rfl⟩
  ·rw [List.length_map, eY]; omega
  ·rw [eY]; omega
  ·obtain ⟨v, u, n', o, _, _, _, k1, k2, _⟩ := kmu (kown q)
   exact S2.nx i n (by rw [k1]; exact q) z
  ·rcases eT qm q with ⟨z, rfl⟩ | ⟨z, v, z2, rfl⟩
   ·have hil : i < ms.length := (List.getElem?_eq_some_iff.mp z).1
    have hi : i < (sls ms vs).length := by omega
    obtain ⟨b, u, y1, _, y2⟩ := dR (List.getElem?_eq_getElem hi)
    rw [z] at y1; cases y1
    have k := S.sl i _ (List.getElem?_eq_getElem hi)
    rw [y2] at k
    exact k.1
   ·obtain ⟨v', u, n, o, k0, _, _, k1, k2, k3, k4, k5, k6⟩ := kmu z
    rw [z2] at k0; cases k0
    exact ⟨n, o, k2, k3, k4, k5, k6.mono fun m o' y q => ⟨koc m y, q⟩⟩
 generalize F3 (sls ms vs ++ List.replicate (N - vs.length) .no) = r3 at *
 cases r3 with
 | stuck => trivial
 | bk _ => trivial
 | ct _ => trivial
 |
  nx e' =>
  obtain ⟨ae', h', ns', q, a, S2⟩ := p
  rw [q]
  dsimp only
  cases qm : muV ms e' with
  | none => trivial
  |
   some mv =>
   obtain ⟨a3, S3, koc⟩ := fin X ns' e' ae' h' mv (fun _ z => z) a S2 qm
   exact ⟨.non, h', rfl, a3, S3, .non⟩
 |
  exc c e' =>
  obtain ⟨ae', h', ns', q, a, S2⟩ := p
  rw [q]
  dsimp only
  cases qm : muV ms e' with
  | none => trivial
  |
   some mv =>
   obtain ⟨a3, S3, koc⟩ := fin X ns' e' ae' h' mv (fun _ z => z) a S2 qm
   exact ⟨h', rfl, a3, S3⟩
 |
  rt r e' =>
  obtain ⟨d, ae', h', ns', q, a, rr⟩ := p
  rw [q]
  dsimp only
  cases qm : muV ms e' with
  | none => trivial
  |
   some mv =>
   cases r with
   |
    val v =>
    obtain ⟨a3, S3, koc⟩ := fin X ns' e' ae' h' mv (fun _ z => z) a rr.1 qm
    exact ⟨d, h', rfl, a3, S3, rr.2.mono fun m o y q => ⟨koc m y, q⟩⟩
   |
    new v =>
    obtain ⟨n, o, z1, z2, z3, z4, z5, z6, z7⟩ := rr
    obtain ⟨a3, S3, koc⟩ := fin (Xn X n) ns' e' ae' h' mv (fun _ z => .inl z) a z6 qm
    exact ⟨d, h', rfl, a3, n, o, z1, z2, z3, z4, z5, S3, z7.mono fun m o y q => ⟨koc m y, q⟩⟩
noncomputable def fC (i : Nat) : List Tm -> Bool
 | .bor j :: ts => (i == j) || fC i ts
 | _ :: ts => fC i ts
 | [] => false
noncomputable def iD (i : Nat) : List Bool -> List Tm -> Bool
 | true :: ms, .bor j :: ts => (i == j) || iD i ms ts
 | _ :: ms, _ :: ts => iD i ms ts
 | _, _ => false
noncomputable def okA (e : E3) : List Bool -> List Tm -> Bool
 | true :: ms, .bor i :: ts => ((e[i]?).bind Sl.mv).isSome && !(fC i ts) && okA e ms ts
 | true :: _, _ :: _ => false
 | false :: ms, .bor i :: ts => !(iD i ms ts) && okA e ms ts
 | false :: ms, _ :: ts => okA e ms ts
 | [], [] => true
 | _, _ => false
noncomputable def kX (b : Bool) (t : Tm) : Option Nat := match b, t with
 | true, .bor i => some i
 | _, _ => none
noncomputable def bJ (ms : List Bool) (ts : List Tm) : List (Option Nat) := List.zipWith kX ms ts
noncomputable def aS (e : E3) : List Bool -> List Tm -> List Nat
 | false :: ms, .bor i :: ts => (match e[i]? with
  | some (.sh _) => aS e ms ts
  | _ => i :: aS e ms ts)
 | _ :: ms, _ :: ts => aS e ms ts
 | _, _ => []
mutual
noncomputable def cC : Val -> Bool
 | .tup xs => bY xs
 | .lst _ => false
 | .kl _ => false
 | .dct _ => false
 | .set _ => false
 | _ => true
noncomputable def bY : List Val -> Bool
 | [] => true
 | v :: vs => cC v && bY vs
end
noncomputable def jI : List (Key × Val) -> Bool
 | [] => true
 | (_, v) :: vs => cC v && jI vs
noncomputable def cH : Val -> Bool
 | .lst xs => bY xs
 | .dct xs => jI xs
 | .set _ => true
 | _ => false
noncomputable def iV : Rt -> Bool
 | .val v => cC v
 | .new v => cH v
noncomputable def kA (e : E3) : List Nat -> Option E3
 | [] => some e
 | i :: is => match bZ e (.bor i) with
  | some (e1, _) => kA e1 is
  | none => none
noncomputable def Rt.tm : Rt -> Tm
 | .val v => .val v
 | .new v => .new v
noncomputable def vj (ms : List Bool) (G : Fn3) (A : MA3) : ME3 := fun e => (A e).bind fun ts e1 => match rss e1 ts with
 | none => .stuck
 | some vs => if okA e1 ms ts = true then (match G vs with
  | .stuck => .stuck
  | .ok r mv => if (aS e1 ms ts).isEmpty || (iV r && mv.all cH) then .ok r.tm (bf (bJ ms ts) (aH ms mv) e1) else (match kA e1 (aS e1 ms ts) with
   | some e2 => .ok r.tm (bf (bJ ms ts) (aH ms mv) e2)
   | none => .stuck)
  | .exc c mv => if (aS e1 ms ts).isEmpty || mv.all cH then .exc c (bf (bJ ms ts) (aH ms mv) e1) else .stuck) else .stuck
section
variable {P P' : Nat -> Prop} {h h' : AH}
theorem Rd.flat {d : D} {v : Val} (f : cC v = true) (r : Rd P h d v) : Rd P' h' d v :=
 @Rd.rec P h (fun d v _ => cC v = true -> Rd P' h' d v) (fun o v _ => cC v = true -> Rd P' h' .non v) (fun ds vs _ => bY vs = true -> Rds P' h' ds vs) (fun ws us _ => True) (fun _ => .non) (fun b _ => .bl b) (fun i _ => .int i) (fun x _ => .str x) (fun n _ => .ty n) (fun x _ => .glb x) (fun x _ => .exc x) (fun _ ih f => .tup (ih f)) (fun _ _ f => absurd f Bool.false_ne_true) (fun _ _ r _ f => by cases r <;> exact absurd f Bool.false_ne_true) (fun _ _ f => absurd f Bool.false_ne_true) (fun _ _ f => absurd f Bool.false_ne_true) (fun _ _ f => absurd f Bool.false_ne_true) (fun _ f => absurd f Bool.false_ne_true) (fun _ => .nil) (fun _ _ a b f => .cons (a (Bool.and_eq_true .. ▸ f).1) (b (Bool.and_eq_true .. ▸ f).2)) trivial (fun _ _ _ _ => trivial) d v r f
theorem Rds.flat {d : List D} {v : List Val} (f : bY v = true) (r : Rds P h d v) : Rds P' h' d v :=
 r.ind (M := fun ds vs => bY vs = true -> Rds P' h' ds vs) (fun _ => .nil) (fun r _ ih f => by
  rw [bY, Bool.and_eq_true] at f
  exact .cons (Rd.flat f.1 r) (ih f.2)) f
theorem Rk.flat {d : List (Key × D)} {v : List (Key × Val)} (f : jI v = true) (r : Rk P h d v) : Rk P' h' d v :=
 r.ind (M := fun ds vs => jI vs = true -> Rk P' h' ds vs) (fun _ => .nil) (fun r _ ih f => by
  rw [jI, Bool.and_eq_true] at f
  exact .cons (Rd.flat f.1 r) (ih f.2)) f
theorem Rc.flat {o : Ob} {v : Val} (f : cH v = true) (r : Rc P h o v) : Rc P' h' o v := by
 cases r with
 | lst r => exact .lst (Rds.flat (by simpa [cH] using f) r)
 | fz r => simp [cH] at f
 | dct r => exact .dct (Rk.flat (by simpa [cH] using f) r)
 | set xs => exact .set xs
end
theorem kf {i : Nat} : ∀ {ts : List Tm} {k : Nat}, ts[k]? = some (.bor i) -> fC i ts = true
 | [], _, q => by simp at q
 |
  t :: ts, 0, q => by
  have : t = .bor i := by simpa using q
  subst this; simp [fC]
 |
  t :: ts, k + 1, q => by
  have := kf (ts := ts) (k := k) (by simpa using q)
  cases t <;> simp [fC, this]
theorem oP {i : Nat} : ∀ {ms : List Bool} {ts : List Tm} {k : Nat}, ms[k]? = some true -> ts[k]? = some (.bor i) -> iD i ms ts = true
 | [], _, _, q, _ => by simp at q
 | _ :: _, [], _, _, q => by simp at q
 |
  b :: ms, t :: ts, 0, q1, q => by
  have : t = .bor i := by simpa using q
  have : b = true := by simpa using q1
  subst_vars; simp [iD]
 |
  b :: ms, t :: ts, k + 1, q1, q => by
  have := oP (ms := ms) (ts := ts) (k := k) (by simpa using q1) (by simpa using q)
  cases b <;> cases t <;> simp [iD, this]
theorem kL {e : E3} : ∀ {ms : List Bool} {ts : List Tm} {k : Nat}, okA e ms ts = true -> ms[k]? = some true -> ∃ i, ts[k]? = some (.bor i) /\ ∃ u, (e[i]?).bind Sl.mv = some u
 | [], _, _, _, q => by simp at q
 | b :: ms, [], _, o, _ => by cases b <;> simp [okA] at o
 |
  b :: ms, t :: ts, 0, o, q => by
  have : b = true := by simpa using q
  subst this
  cases t with
  |
   bor i =>
   simp only [okA, Bool.and_eq_true] at o
   exact ⟨i, rfl, Option.isSome_iff_exists.mp o.1.1⟩
  | _ => simp [okA] at o
 |
  b :: ms, t :: ts, k + 1, o, q => by
  have o' : okA e ms ts = true := by
   cases b <;> cases t <;> simp only [okA, Bool.and_eq_true] at o <;> first | exact o.2 | exact o | (simp at o; done)
  obtain ⟨i, y⟩ := kL (k := k) o' (by simpa using q)
  exact ⟨i, by simpa using y⟩
theorem fQ {e : E3} : ∀ {ms : List Bool} {ts : List Tm} {k j i : Nat}, okA e ms ts = true -> ms[k]? = some true -> ts[k]? = some (.bor i) -> ts[j]? = some (.bor i) -> j = k
 | [], _, _, _, _, _, q, _, _ => by simp at q
 | b :: ms, [], _, _, _, o, _, _, _ => by cases b <;> simp [okA] at o
 | b :: ms, t :: ts, 0, 0, i, o, q1, q2, q3 => rfl
 |
  b :: ms, t :: ts, 0, j + 1, i, o, q1, q2, q3 => by
  have h1 : b = true := by simpa using q1
  have h2 : t = .bor i := by simpa using q2
  subst h1 h2
  simp only [okA, Bool.and_eq_true] at o
  have := kf (i := i) (ts := ts) (k := j) (by simpa using q3)
  rw [this] at o
  simp at o
 |
  b :: ms, t :: ts, k + 1, 0, i, o, q1, q2, q3 => by
  have h2 : t = .bor i := by simpa using q3
  subst h2
  have hm := oP (i := i) (ms := ms) (ts := ts) (k := k) (by simpa using q1) (by simpa using q2)
  have hb := kf (i := i) (ts := ts) (k := k) (by simpa using q2)
  cases b <;> simp [okA, hm, hb] at o
 |
  b :: ms, t :: ts, k + 1, j + 1, i, o, q1, q2, q3 => by
  have o' : okA e ms ts = true := by
   cases b <;> cases t <;> simp only [okA, Bool.and_eq_true] at o <;> first | exact o.2 | exact o | (simp at o; done)
  exact congrArg (· + 1) (fQ (k := k) (j := j) (i := i) o' (by simpa using q1) (by simpa using q2) (by simpa using q3))
theorem gg {e : E3} : ∀ {ms : List Bool} {ts : List Tm}, okA e ms ts = true -> ms.length = ts.length
 | [], [], _ => rfl
 | [], _ :: _, o => by simp [okA] at o
 | b :: ms, [], o => by cases b <;> simp [okA] at o
 |
  b :: ms, t :: ts, o => by
  have o' : okA e ms ts = true := by
   cases b <;> cases t <;> simp only [okA, Bool.and_eq_true] at o <;> first | exact o.2 | exact o | (simp at o; done)
  exact congrArg (· + 1) (gg o')
theorem jE {e : E3} : ∀ {ms : List Bool} {ts : List Tm} {k i : Nat}, ms[k]? = some false -> ts[k]? = some (.bor i) -> (∀ v, e[i]? ≠ some (.sh v)) -> i ∈ aS e ms ts
 | [], _, _, _, q, _, _ => by simp at q
 | _ :: _, [], _, _, _, q, _ => by simp at q
 |
  b :: ms, t :: ts, 0, i, q1, q2, hn => by
  have h1 : b = false := by simpa using q1
  have h2 : t = .bor i := by simpa using q2
  subst h1 h2
  unfold aS
  split
  ·rename_i v q; exact absurd q (hn v)
  ·exact List.mem_cons_self ..
 |
  b :: ms, t :: ts, k + 1, i, q1, q2, hn => by
  have ih := jE (ms := ms) (ts := ts) (k := k) (by simpa using q1) (by simpa using q2) hn
  cases b <;> cases t <;> simp only [aS] <;> first | exact ih | (split; exact ih; exact List.mem_cons_of_mem _ ih)
theorem du {ms : List Bool} {ts : List Tm} {k i : Nat} (q : (bJ ms ts)[k]? = some (some i)) : ms[k]? = some true /\ ts[k]? = some (.bor i) := by
 unfold bJ at q
 rw [List.getElem?_zipWith] at q
 cases h1 : ms[k]? with
 | none => rw [h1] at q; cases q
 |
  some b =>
  cases h2 : ts[k]? with
  | none => rw [h1, h2] at q; cases q
  |
   some t =>
   rw [h1, h2] at q
   have q' : kX b t = some i := Option.some.inj q
   cases b <;> cases t <;> first | (cases q'; done) | (cases q'; exact ⟨rfl, rfl⟩)
theorem xD {ms : List Bool} {ts : List Tm} {k i : Nat} (q1 : ms[k]? = some true) (q2 : ts[k]? = some (.bor i)) : (bJ ms ts)[k]? = some (some i) := by
 unfold bJ
 rw [List.getElem?_zipWith, q1, q2]; rfl
theorem
    om {e : E3} : ∀ {ts : List Tm} {vs : List Val} {k : Nat} {v : Val}, rss e ts = some vs -> vs[k]? = some v -> ∃ t, ts[k]? = some t /\ rs e t = some v
 | [], _, _, _, q, q2 => by cases q; simp at q2
 |
  t :: ts, vs, k, v, q, q2 => by
  unfold rss at q
  split at q
  ·rename_i u us e1 e2
   cases q
   cases k with
   | zero =>
        have : u = v := by simpa using q2
        subst this; exact ⟨t, rfl, e1⟩
   |
    succ k =>
    obtain ⟨t', y1, y2⟩ := om (k := k) e2 (by simpa using q2)
    exact ⟨t', by simpa using y1, y2⟩
  ·cases q
theorem iO {e : E3} : ∀ {ts : List Tm} {vs : List Val}, rss e ts = some vs -> vs.length = ts.length
 | [], _, q => by cases q; rfl
 |
  t :: ts, vs, q => by
  unfold rss at q
  split at q
  ·rename_i u us e1 e2; cases q; exact congrArg (· + 1) (iO e2)
  ·cases q
theorem TsR.get {X : Nat -> Prop} {ns : Ns} {ae : AE} {h : AH} : ∀ {ds : List D} {ts : List Tm} {k : Nat} {t : Tm}, TsR X ns ae h ds ts -> ts[k]? = some t -> ∃ d, ds[k]? = some d /\ ((∃ v, t = .val v /\ Rd (Oc X ns) h d v) \/ ∃ i, t = .bor i /\ ae[i]? = some (some d))
 | _, _, _, _, .nil, q => by simp at q
 | _, _, 0, _, .val r rr, q => by have := (by simpa using q : Tm.val _ = _); subst this; exact ⟨_, rfl, .inl ⟨_, rfl, r⟩⟩
 | _, _, 0, _, .bor r rr, q => by have := (by simpa using q : Tm.bor _ = _); subst this; exact ⟨_, rfl, .inr ⟨_, rfl, r⟩⟩
 | _, _, k + 1, t, .val r rr, q => by obtain ⟨d, y⟩ := rr.get (k := k) (by simpa using q); exact ⟨d, by simpa using y⟩
 | _, _, k + 1, t, .bor r rr, q => by obtain ⟨d, y⟩ := rr.get (k := k) (by simpa using q); exact ⟨d, by simpa using y⟩
noncomputable def Xc (X : Nat -> Prop) (ns : Ns) (e : E3) (ms : List Bool) (ts : List Tm) (n : Nat) : Prop := (X n \/ some n ∈ ns) /\ some n ∉ bK (bJ ms ts) ns /\ ∀ i ∈ aS e ms ts, ns[i]? ≠ some (some n)
theorem
    nc {X : Nat -> Prop} {h0 : Nat} {ns : Ns} {e : E3} {ae : AE} {h : AH} {ms : List Bool} {ts : List Tm} {ds : List D} {vs : List Val} (S : Sat X h0 ns e ae h) (rt : TsR X ns ae h ds ts) (qv : rss e ts = some vs) (ok : okA e ms ts = true) :
  Sat (Xc X ns e ms ts) h.length (bK (bJ ms ts) ns) (sls ms vs) (ds.map some) h := by
 have l1 := gg ok
 have l2 := iO qv
 have l3 := TsR.len rt
 have hs : jY (bJ ms ts) := fun j k i q1 q2 => fQ ok (du q2).1 (du q2).2 (du q1).2
 have mv : Mov (Oc X ns) (Oc (Xc X ns e ms ts) (bK (bJ ms ts) ns)) h h := fun n o p q => ⟨⟨fun z => by
  rcases z.1 with z | z
  ·exact p.1 z
  ·exact p.2 z, fun z => p.2 (jF z)⟩, q⟩
 refine ⟨?_, ?_, Nat.le_refl _, fun n z => ?_, fun j k n q1 q2 => ?_, fun j n q z => z.2.1 (aX.mpr ⟨j, q⟩), fun k s q => ?_⟩
 ·unfold sls; rw [List.length_map, List.length_zipWith]; omega
 ·unfold bK bJ sls; rw [List.length_map, List.length_zipWith, List.length_zipWith]; omega
 ·rcases z.1 with z | z
  ·exact S.xl n z
  ·obtain ⟨i, z⟩ := aX.mp z
   obtain ⟨_, _, _, _, _, _, _, q', _⟩ := S.own z
   exact bU q'
 ·obtain ⟨i, y1, y2⟩ := bW q1
  obtain ⟨i', y3, y4⟩ := bW q2
  have := S.inj i i' n y2 y4
  subst this
  exact hs j k i y1 y3
 ·obtain ⟨b, v,
         q1, q2, rfl⟩ := dR q
  obtain ⟨t, q3, q4⟩ := om qv q2
  obtain ⟨d, q5, q6⟩ := rt.get q3
  have qd : (ds.map some)[k]? = some (some d) := by rw [List.getElem?_map, q5]; rfl
  rw [qd]
  have qn : (bK (bJ ms ts) ns)[k]? = some ((kX b t).bind fun i => (ns[i]?).bind id) := by
   unfold bK bJ
   rw [List.getElem?_map, List.getElem?_zipWith, q1, q3]; rfl
  rw [qn]
  cases b with
  |
   true =>
   obtain ⟨i, y1, u, y2⟩ := kL ok q1
   rw [q3] at y1; cases y1
   have q4' : (e[i]?).bind Sl.val = some v := q4
   obtain ⟨s, z1, z2⟩ := Option.bind_eq_some_iff.mp y2
   rw [z1] at q4'
   have hv : s.val = some v := q4'
   have huv : u = v := by cases s <;> first | cases z2; done | (cases z2; cases hv; rfl)
   subst huv
   have hns : ∃ n, ns[i]? = some (some n) := by
    have y := S.sl i s z1
    cases s with
    | ow v => obtain ⟨n, o, y1, _⟩ := y; exact ⟨n, y1⟩
    | mu v => obtain ⟨n, o, y1, _⟩ := y; exact ⟨n, y1⟩
    | _ => cases z2
   obtain ⟨n, hn⟩ := hns
   obtain ⟨n', o, k1, k2, k3, k4, _⟩ := S.write z1 z2
   rcases q6 with ⟨_, z, _⟩ | ⟨i', z, q6⟩
   ·cases z
   ·cases z
    rw [q6] at k1; cases k1
    obtain ⟨_, _, _, _, _, _, w, _⟩ := S.own hn
    rw [q6] at w; cases w
    exact ⟨n, o, by show some ((ns[i]?).bind id) = _; rw [hn]; rfl, rfl, k2, k3, k4.mono mv⟩
  |
   false =>
   refine ⟨by cases t <;> rfl, d, rfl, ?_⟩
   rcases q6 with ⟨u, rfl, q6⟩ | ⟨i, rfl, q6⟩
   ·cases q4; exact q6.mono mv
   ·have q4' : (
          e[i]?).bind Sl.val = some v := q4
    rcases S.bor q6 q4' with z | ⟨n, o, rfl, z1, z2⟩
    ·exact z.mono mv
    ·refine .cell ⟨fun y => ?_, fun y => ?_⟩ z1 (z2.mono mv)
     ·
      by_cases hsh : ∃ w, e[i]? = some (.sh w)
      ·obtain ⟨w, hsh⟩ := hsh
       obtain ⟨_, x, w1, w2⟩ := S.sl i _ hsh
       rw [q6] at w1; cases w1
       cases w2 with
       | cell p _ _ => rcases y.1 with y | y; exact p.1 y; exact p.2 y
      ·have hl := jE q1 q3 fun w z => hsh ⟨w, z⟩
       cases w : ns[i]? with
       |
        none =>
        have hi : i < e.length := by
         cases z : e[i]? with
         | none => rw [z] at q4'; cases q4'
         | some _ => exact (List.getElem?_eq_some_iff.mp z).1
        rw [List.getElem?_eq_none_iff, S.l2] at w
        omega
       |
        some w' =>
        cases w' with
        |
         none =>
         cases z : e[i]? with
         | none => rw [z] at q4'; cases q4'
         |
          some s =>
          have k := S.sl i s z
          rw [w] at k
          cases s with
          | no => rw [z] at q4'; cases q4'
          | sh w => exact hsh ⟨w, z⟩
          | ow w => obtain ⟨_, _, k, _⟩ := k; cases k
          | lo w => obtain ⟨_, _, k, _⟩ := k; cases k
          | mu w => obtain ⟨_, _, k, _⟩ := k; cases k
          | lm w => obtain ⟨_, _, k, _⟩ := k; cases k
        |
         some n' =>
         obtain ⟨_, _, _, _, _, _, w2, _⟩ := S.own w
         rw [q6] at w2; cases w2
         exact y.2.2 i hl w
     ·obtain ⟨j, y⟩ := aX.mp y
      obtain ⟨i', y1, y2⟩ := bW y
      obtain ⟨y3, y4⟩ := du y1
      obtain ⟨_, _, _, _, _, _, w2, _⟩ := S.own y2
      have : i'
           = i := by
       cases w : ns[i]? with
       |
        none =>
        have hi : i < e.length := by
         cases z : e[i]? with
         | none => rw [z] at q4'; cases q4'
         | some _ => exact (List.getElem?_eq_some_iff.mp z).1
        rw [List.getElem?_eq_none_iff, S.l2] at w
        omega
       |
        some w' =>
        cases w' with
        |
         some n' =>
         obtain ⟨_, _, _, _, _, _, w3, _⟩ := S.own w
         rw [q6] at w3; cases w3
         exact S.inj i' i n y2 w
        |
         none =>
         cases z : e[i]? with
         | none => rw [z] at q4'; cases q4'
         |
          some s =>
          have k := S.sl i s z
          rw [w, q6] at k
          cases s with
          | no => rw [z] at q4'; cases q4'
          |
           sh w =>
           obtain ⟨_, x, k1, k2⟩ := k
           cases k1
           cases k2 with
           | cell p _ _ => exact (p.2 (aX.mpr ⟨i', y2⟩)).elim
          | ow w => obtain ⟨_, _, k, _⟩ := k; cases k
          | lo w => obtain ⟨_, _, k, _⟩ := k; cases k
          | mu w => obtain ⟨_, _, k, _⟩ := k; cases k
          | lm w => obtain ⟨_, _, k, _⟩ := k; cases k
      subst this
      have := fQ ok y3 y4 q3
      subst this
      rw [q1] at y3; cases y3
end L3
set_option Elab.async false
set_option linter.all false
set_option maxRecDepth 100000
namespace L3
open PySem PySem.Spec PyProof.Rows L2
theorem dP : ∀ {ms : List Bool} {mv : List Val} {j : Nat} {v : Val}, (aH ms mv)[j]? = some (.mu v) -> v ∈ mv
 | [], _, _, _, q => by simp [aH] at q
 | true :: ms, u :: mv, 0, v, q => by
                    have : Sl.mu u = .mu v := by simpa [aH] using q
                    cases this; exact List.mem_cons_self ..
 | true :: ms, u :: mv, j + 1, v, q => List.mem_cons_of_mem _ (dP (ms := ms) (mv := mv) (j := j) (by simpa [aH] using q))
 | true :: ms, [], 0, v, q => by simp [aH] at q
 | true :: ms, [], j + 1, v, q => dP (ms := ms) (mv := []) (j := j) (by simpa [aH] using q)
 | false :: ms, mv, 0, v, q => by simp [aH] at q
 | false :: ms, mv, j + 1, v, q => dP (ms := ms) (mv := mv) (j := j) (by simpa [aH] using q)
theorem jm {e : E3} : ∀ {ms : List Bool} {ts : List Tm} {i : Nat}, i ∈ aS e ms ts -> ∃ k : Nat, ms[k]? = some false /\ ts[k]? = some (.bor i)
 | [], _, _, q => by simp [aS] at q
 | _ :: _, [], _, q => by simp [aS] at q
 |
  b :: ms, t :: ts, i, q => by
  have up : i ∈ aS e ms ts -> ∃ k : Nat, (b :: ms)[k]? = some false /\ (t :: ts)[k]? = some (.bor i) := fun z => by
   obtain ⟨k, y1, y2⟩ := jm z
   exact ⟨k + 1, by simpa using y1, by simpa using y2⟩
  cases b <;> cases t <;> simp only [aS] at q <;> first | exact up q | skip
  split at q
  ·exact up q
  ·rcases List.mem_cons.mp q with rfl | q
   ·exact ⟨0, rfl, rfl⟩
   ·exact up q
theorem xZ {e e1 : E3} {i : Nat} {v : Val} (q : bZ e (.bor i) = some (e1, v)) : (∀ j, j ≠ i -> e1[j]? = e[j]?) /\ e1[i]? = some (.sh v) /\ (e[i]?).bind Sl.val = some v := by
 unfold bZ at q
 dsimp only at q
 split at q
 ·rename_i u q1; cases q; exact ⟨fun _ _ => rfl, q1, by rw [q1]; rfl⟩
 ·rename_i u q1; cases q; exact ⟨fun j z => bg z, bx (List.getElem?_eq_some_iff.mp q1).1, by rw [q1]; rfl⟩
 ·cases q
theorem
    m9 {X : Nat -> Prop} {h0 : Nat} {ae : AE} {h : AH} : ∀ {is : List Nat} {ns : Ns} {e e2 : E3}, Sat X h0 ns e ae h -> (∀ i ∈ is, ∃ d, ae[i]? = some (some d)) -> kA e is = some e2 -> ∃ ns2, Sat X h0 ns2 e2 ae h /\ Stp ns e h ns2 e2 h /\ (∀ i, i ∉ is -> e2[i]? = e[i]?) /\ (∀ i ∈ is, ∃ v, e2[i]? = some (.sh v)) /\ ∀ i : Nat, (e2[i]?).bind Sl.val = (e[i]?).bind Sl.val
 | [], ns, e, e2, S, _, q => by cases q; exact ⟨ns, S, .refl, fun _ _ => rfl, (fun _ z => by cases z), fun _ => rfl⟩
 |
  i :: is, ns, e, e2, S, hd, q => by
  unfold kA at q
  split at q
  ·rename_i e1 v q1
   obtain ⟨d, hd0⟩ := hd i (List.mem_cons_self ..)
   obtain ⟨ns1, S1, a1, r1⟩ := dM (L := 0) (t := .bor i) S hd0 q1
   obtain ⟨ns2, S2, a2, k1, k2, k3⟩ := m9 S1 (fun j z => hd j (List.mem_cons_of_mem _ z)) q
   obtain ⟨y1, y2, y3⟩ := xZ q1
   refine ⟨ns2, S2, a1.trans S a2, fun j hj => ?_, fun j hj => ?_, fun j => ?_⟩
   ·rw [List.mem_cons, not_or] at hj
    rw [k1 j hj.2, y1 j hj.1]
   ·by_cases z : j ∈ is
    ·exact k2 j z
    ·rcases List.mem_cons.mp hj with rfl | hj
     ·exact ⟨v, by rw [k1 j z]; exact y2⟩
     ·exact absurd hj z
   ·rw [k3 j]
    by_cases z : j = i
    ·subst z; rw [y2, y3]; rfl
    ·rw [y1 j z]
  ·cases q
theorem
    lB {e e2 : E3} : ∀ {ms : List Bool} {ts : List Tm}, (∀ (k i : Nat), ms[k]? = some true -> ts[k]? = some (.bor i) -> e2[i]? = e[i]?) -> okA e ms ts = true -> okA e2 ms ts = true
 | [], [], _, o => rfl
 | [], _ :: _, _, o => by simp [okA] at o
 | b :: ms, [], _, o => by cases b <;> simp [okA] at o
 |
  b :: ms, t :: ts, hk, o => by
  have o' : okA e ms ts = true := by
   cases b <;> cases t <;> simp only [okA, Bool.and_eq_true] at o <;> first | exact o.2 | exact o | (simp at o; done)
  have ih := lB (fun k i q1 q2 => hk (k + 1) i (by simpa using q1) (by simpa using q2)) o'
  cases b with
  | false => cases t <;> simp only [okA, Bool.and_eq_true] at o ⊢ <;> first | exact ⟨o.1, ih⟩ | exact ih
  |
   true =>
   cases t with
   |
    bor i =>
    simp only [okA, Bool.and_eq_true] at o ⊢
    rw [hk 0 i rfl rfl]
    exact ⟨o.1, ih⟩
   | _ => simp [okA] at o
theorem mX {e : E3} : ∀ {ms : List Bool} {ts : List Tm}, (∀ (k i : Nat), ms[k]? = some false -> ts[k]? = some (.bor i) -> ∃ v, e[i]? = some (.sh v)) -> aS e ms ts = []
 | [], _, _ => by simp [aS]
 | _ :: _, [], _ => by simp [aS]
 |
  b :: ms, t :: ts, hk => by
  have ih := mX (fun k i q1 q2 => hk (k + 1) i (by simpa using q1) (by simpa using q2))
  cases b <;> cases t <;> simp only [aS] <;> first | exact ih | skip
  rename_i i
  obtain ⟨v, q⟩ := hk 0 i rfl rfl
  rw [q]; exact ih
theorem lG {e e2 : E3} (hv : ∀ i : Nat, (e2[i]?).bind Sl.val = (e[i]?).bind Sl.val) : ∀ (ts : List Tm), rss e2 ts = rss e ts
 | [] => rfl
 |
  t :: ts => by
  unfold rss
  rw [lG hv ts]
  have : rs e2 t = rs e t := by
   cases t with
   | bor i => exact hv i
   | _ => rfl
  rw [this]
theorem nC {e : E3} {ms : List Bool} {ts : List Tm} {vs : List Val} (ok : okA e ms ts = true) : Lnk (bJ ms ts) e (sls ms vs) := by
 refine ⟨fun j k i q1 q2 => fQ ok (du q2).1 (du q2).2 (du q1).2, fun j v q => ?_, fun j s q hm => ?_⟩
 ·obtain ⟨b, u, q1, _, q2⟩ := dR q
  cases b with
  | false => cases q2
  |
   true =>
   obtain ⟨i, y1, w, y2⟩ := kL ok q1
   obtain ⟨s, z1, z2⟩ := Option.bind_eq_some_iff.mp y2
   exact ⟨i, s, xD q1 y1, z1, by cases s <;> first | rfl | cases z2⟩
 ·obtain ⟨b, u, q1, _, q2⟩ := dR q
  cases b with
  | false => subst q2; cases hm
  | true => exact ⟨u, q2⟩
section
variable {X : Nat -> Prop} {h0 L : Nat} {ns : Ns} {e : E3} {ae : AE} {h : AH} {ms : List Bool} {ts : List Tm} {ds : List D} {vs : List Val} {S2 : Fn} {G3 : Fn3}
theorem iH (Y : Nat -> Prop) (hY : ∀ n, Y n -> X n \/ Y n) {n : Nat} (hl : aS e ms ts = []) (z : ¬ Xc X ns e ms ts n) (z2 : some n ∉ bK (bJ ms ts) ns) : Oc X ns n := by
 refine ⟨fun y => z ⟨.inl y, z2, fun i hi => by rw [hl] at hi; cases hi⟩, fun y => z ⟨.inr y, z2, fun i hi => by rw [hl] at hi; cases hi⟩⟩
theorem
    oF {r : Rt} {mv : List Val} (S : Sat X h0 ns e ae h) (hL : L <= h.length) (rt : TsR X ns ae h ds ts) (qv : rss e ts = some vs) (ok : okA e ms ts = true) (hG : RF ms S2 G3) (q : G3 vs = .ok r mv) (hf : aS e ms ts = [] \/ (iV r = true /\ mv.all cH = true)) :
  Po X h0 ns e ae h (relE X h0 L ae) (S2 ds h) (.ok r.tm (bf (bJ ms ts) (aH ms mv) e)) := by
 have p := hG _ _ ds vs h (by rw [iO qv, gg ok]) (nc S rt qv ok)
 rw [q] at p
 obtain ⟨d, h', p1, a, rr⟩ := p
 have K := nC (vs := vs) ok
 have xcl : ∀ n, X n -> n < h.length := S.xl
 cases r with
 |
  val v =>
  obtain ⟨S3, rv⟩ := rr
  obtain ⟨S4, a4⟩ := S.back (Y := X) K a (fun n z => ⟨Nat.lt_of_lt_of_le (xcl n z) a.len, .inl z⟩) (fun _ z => z) fun j w n q1 q2 => by
   obtain ⟨s, u, o, b1, b2, b3, b4, b5, b6, b7⟩ := S3.own q2
   rw [q1] at b1; cases b1; cases b3
   rcases hf with hf | hf
   ·exact ⟨o, b5, b6, b7.mono fun m o' z y => ⟨iH X (fun _ z => .inl z) hf z.1 z.2, y⟩⟩
   ·exact ⟨o, b5, b6, b7.flat (List.all_eq_true.mp hf.2 w (dP q1))⟩
  refine ⟨d, h', ns, p1, a4, S4, ?_⟩
  rcases hf with hf | hf
  ·exact rv.mono fun m o' z y => ⟨iH X (fun _ z => .inl z) hf z.1 z.2, y⟩
  ·exact rv.flat hf.1
 |
  new v =>
  obtain ⟨n, o, z1, z2, z3, z4, z5, S3, z7⟩ := rr
  have hnx : ¬ X n := fun y => by have := xcl n y; omega
  have kk : ∀ m, Oc (Xn (Xc X ns e ms ts) n) (bK (bJ ms ts) ns) m -> aS e ms ts = [] -> Oc (Xn X n) ns m := fun m z hf => by
   have := iH X (fun _ z => .inl z) hf (fun y => z.1 (.inl y)) z.2
   exact ⟨fun y => by
    rcases y with y | y
    ·exact this.1 y
    ·exact z.1 (.inr y), this.2⟩
  obtain ⟨S4, a4⟩ := S.back (Y := Xn X n) K a (fun m z => by
    rcases z with z | rfl
    ·exact ⟨Nat.lt_of_lt_of_le (xcl m z) a.len, .inl z⟩
    ·exact ⟨bU z4, .inr z2⟩) (fun _ z => .inl z) fun j w n' q1 q2 => by
   obtain ⟨s, u, o, b1, b2, b3, b4, b5, b6, b7⟩ := S3.own q2
   rw [q1] at b1; cases b1; cases b3
   rcases hf with hf | hf
   ·exact ⟨o, b5, b6, b7.mono fun m o' z y => ⟨kk m z hf, y⟩⟩
   ·exact ⟨o, b5, b6, b7.flat (List.all_eq_true.mp hf.2 w (dP q1))⟩
  refine ⟨d, h', ns, p1, a4, S4.weak fun _ z => .inl z, n, o, z1, Nat.le_trans hL z2, hnx, z4, z5, S4, ?_⟩
  rcases hf with hf | hf
  ·exact z7.mono fun m o' z y => ⟨kk m z hf, y⟩
  ·exact z7.flat hf.1
theorem sM {c : Str} {mv : List Val} (S : Sat X h0 ns e ae h) (rt : TsR X ns ae h ds ts) (qv : rss e ts = some vs) (ok : okA e ms ts = true) (hG : RF ms S2 G3) (q : G3 vs = .exc c mv) (hf : aS e ms ts = [] \/ mv.all cH = true) :
  Po X h0 ns e ae h (relE X h0 L ae) (S2 ds h) (.exc c (bf (bJ ms ts) (aH ms mv) e)) := by
 have p := hG _ _ ds vs h (by rw [iO qv, gg ok]) (nc S rt qv ok)
 rw [q] at p
 obtain ⟨h', p1, a, S3⟩ := p
 have K := nC (vs := vs) ok
 obtain ⟨S4, a4⟩ := S.back (Y := X) K a (fun n z => ⟨Nat.lt_of_lt_of_le (S.xl n z) a.len, .inl z⟩) (fun _ z => z) fun j w n q1 q2 => by
  obtain ⟨s, u, o, b1, b2, b3, b4, b5, b6, b7⟩ := S3.own q2
  rw [q1] at b1; cases b1; cases b3
  rcases hf with hf | hf
  ·exact ⟨o, b5, b6, b7.mono fun m o' z y => ⟨iH X (fun _ z => .inl z) hf z.1 z.2, y⟩⟩
  ·exact ⟨o, b5, b6, b7.flat (List.all_eq_true.mp hf w (dP q1))⟩
 exact ⟨h', ns, p1, a4, S4⟩
theorem
    vV {A : MA} {A3 : MA3} {n : Nat} (hn : n = ms.length) (hG : RF ms S2 G3) (hA : RA A A3) : RE (pQ n S2 A) (vj ms G3 A3) := fun X h0 L ns e ae h S hl =>
 Po.bind
     S (hA X h0 ns e ae h S) fun ds ts h1 ns1 e1 a1 S1 r1 => by
  try dsimp only
  cases qv : rss e1 ts with
  | none => trivial
  |
   some vs =>
   dsimp only
   by_cases ok : okA e1 ms ts = true
   ·rw [if_pos ok]
    have hlen : ds.length = n := by rw [hn, gg ok]; exact TsR.len r1
    rw [if_pos hlen]
    have hL : L <= h1.length := Nat.le_trans hl a1.len
    cases q : G3 vs with
    | stuck => trivial
    |
     exc c mv =>
     dsimp only
     by_cases hf : ((aS e1 ms ts).isEmpty || mv.all cH) = true
     ·rw [if_pos hf]
      refine sM S1 r1 qv ok hG q ?_
      rw [Bool.or_eq_true] at hf
      rcases hf with hf | hf
      ·exact .inl (List.isEmpty_iff.mp hf)
      ·exact .inr hf
     ·rw [if_neg hf]; trivial
    |
     ok r mv =>
     dsimp only
     by_cases hf : ((aS e1 ms ts).isEmpty || (iV r && mv.all cH)) = true
     ·rw [if_pos hf]
      refine oF S1 hL r1 qv ok hG q ?_
      rw [Bool.or_eq_true, Bool.and_eq_true] at hf
      rcases hf with hf | hf
      ·exact .inl (List.isEmpty_iff.mp hf)
      ·exact .inr hf
     ·rw [if_neg hf]
      cases qd : kA e1 (aS e1 ms ts) with
      | none => trivial
      |
       some e2 =>
       dsimp only
       obtain ⟨ns2, S2', a2, k1, k2, k3⟩ := m9 S1 (fun i hi => by
        obtain ⟨k, _, y⟩ := jm hi
        obtain ⟨d, _, z⟩ := r1.get y
        rcases z with ⟨_, z, _⟩ | ⟨j, z, z2⟩
        ·cases z
        ·cases z; exact ⟨d, z2⟩) qd
       have ok2 : okA e2 ms ts = true := lB (fun k i q1 q2 => k1 i fun z => by
        obtain ⟨k', y1, y2⟩ := jm z
        have := fQ ok q1 q2 y2
        subst this
        rw [q1] at y1; cases y1) ok
       have ln : aS e2 ms ts = [] := mX fun k i q1 q2 => by
        by_cases z : i ∈ aS e1 ms ts
        ·exact k2 i z
        ·rw [k1 i z]
         exact Classical.byContradiction fun w => z (jE q1 q2 fun v y => w ⟨v, y⟩)
       have pp := oF (L := L) S2' hL (r1.stp S1 a2) (by rw [lG k3]; exact qv) ok2 hG q (.inl ln)
       obtain ⟨d, h', ns', y, y1, y2, y3⟩ := pp
       exact ⟨d, h', ns', y, a2.trans S1 y1, y2, y3⟩
   ·rw [if_neg ok]; trivial
end
noncomputable def RMv (m2 : D -> List D -> AH -> R D) (m3 : Val -> List Val -> Bv) : Prop := ∀ P h d v ds vs, ShR P h d v -> pX v = true -> ShRs P h ds vs -> BvR P h (m2 d ds h) (m3 v vs)
end L3
set_option Elab.async false
set_option linter.all false
set_option maxRecDepth 100000
namespace L3
open PySem PySem.Spec PyProof.Rows L2
noncomputable def aI (f : Int -> Int -> Val) : Val -> Val -> Bv := fun x y => match x, y with
 | .int i, .int j => .val (f i j)
 | _, _ => .stuck
open Classical in
noncomputable def aIc (C : Int -> Int -> Prop) (f : Int -> Int -> Val) : Val -> Val -> Bv := fun x y => match x, y with
 | .int i, .int j => if C i j then .val (f i j) else .stuck
 | _, _ => .stuck
noncomputable def o6 : Val -> Val -> Bv := fun x y => match x, y with
 | .lst xs, .lst ys => if xs.length + ys.length <= 16777216 then .new (.lst (xs ++ ys)) else .stuck
 | .tup xs, .tup ys => if xs.length + ys.length <= 16777216 then .val (.tup (xs ++ ys)) else .stuck
 | _, _ => .stuck
noncomputable def ue : Val -> Val -> Bv := fun x y => match x, y with
 | .int i, .int j => .val (.int (i + j))
 | x, y => o6 x y
noncomputable def aMin := aI fun i j => .int (i - j)
noncomputable def pB := aIc CMulA fun i j => .int (i * j)
noncomputable def pO := aIc CDivB fun i j => .int (i.fdiv j)
noncomputable def pL := aIc (fun _ j => j ≠ 0) fun i j => .int (i.fmod j)
noncomputable def pG := aIc kI fun i j => .int (i ^ j.toNat)
noncomputable def aLt := aI fun i j => .bl (decide (i < j))
noncomputable def aGt := aI fun i j => .bl (decide (j < i))
noncomputable def aGe := aI fun i j => .bl (decide (j <= i))
noncomputable def uA : Val -> Bv := fun x => match x with
 | .int i => .val (.int (-i))
 | _ => .stuck
noncomputable def aIx : Val -> Val -> Bv := fun x y => match x.items, y with
 | some xs, .int i => (match atI xs i with
  | some v => .val v
  | none => .stuck)
 | _, _ => .stuck
section
theorem o3 {f2 : Int -> Int -> D} {f3 : Int -> Int -> Val} (hr : ∀ i j P h, Rd P h (f2 i j) (f3 i j)) : RO (gI f2) (aI f3) := fun P h d1 d2 v1 v2 r1 r2 => by
 unfold aI
 split
 ·obtain rfl := r1.int; obtain rfl := r2.int; exact ⟨_, rfl, hr _ _ P h⟩
 ·trivial
theorem lR {C : Int -> Int -> Prop} {f2 : Int -> Int -> D} {f3 : Int -> Int -> Val} (hr : ∀ i j P h, Rd P h (f2 i j) (f3 i j)) : RO (gIc C f2) (aIc C f3) := fun P h d1 d2 v1 v2 r1 r2 => by
 unfold aIc
 split
 ·obtain rfl := r1.int; obtain rfl := r2.int
  split
  ·rename_i hc; exact ⟨_, by unfold gIc; dsimp only; rw [if_pos hc], hr _ _ P h⟩
  ·trivial
 ·trivial
theorem z9 : RO js o6 := fun P h d1 d2 v1 v2 r1 r2 => by
 unfold o6
 split
 ·obtain ⟨n, ds, rfl, e1, _, q1⟩ := r1.lst
  obtain ⟨m, es, rfl, e2, _, q2⟩ := r2.lst
  split
  ·rename_i hl
   exact ⟨.lst (ds ++ es), by unfold js; dsimp only; rw [e1, e2]; dsimp only; rw [if_pos (by rw [q1.len, q2.len]; exact hl)], trivial, .lst (q1.append q2)⟩
  ·trivial
 ·obtain ⟨ds, rfl, q1⟩ := r1.tup
  obtain ⟨es, rfl, q2⟩ := r2.tup
  split
  ·rename_i hl
   exact ⟨_, by unfold js; dsimp only; rw [if_pos (by rw [q1.len, q2.len]; exact hl)], .tup (q1.append q2)⟩
  ·trivial
 ·trivial
theorem zy : RO pA ue := fun P h d1 d2 v1 v2 r1 r2 => by
 unfold ue
 split
 ·obtain rfl := r1.int; obtain rfl := r2.int; exact ⟨_, rfl, .int _⟩
 ·rename_i hn
  have k := z9 P h d1 d2 v1 v2 r1 r2
  have e : pA d1 d2 h = js d1 d2 h \/ o6 v1 v2 = .stuck := by
   cases v1 <;> first | (right; rfl) | (left; skip)
   ·obtain ⟨ds, rfl, _⟩ := r1.tup; rfl
   ·obtain ⟨n, ds, rfl, _⟩ := r1.lst; rfl
  rcases e with e | e
  ·rw [e]; exact k
  ·rw [e]; trivial
theorem Ao : RO tV aMin := o3 fun _ _ _ _ => .int _
theorem BJ : RO tf pB := lR fun _ _ _ _ => .int _
theorem zQ : RO uQ pO := lR fun _ _ _ _ => .int _
theorem Ad : RO uG pL := lR fun _ _ _ _ => .int _
theorem yp : RO ve pG := lR fun _ _ _ _ => .int _
theorem DF : RO gLt aLt := o3 fun _ _ _ _ => .bl _
theorem Cu : RO gGt aGt := o3 fun _ _ _ _ => .bl _
theorem CK : RO gGe aGe := o3 fun _ _ _ _ => .bl _
theorem yw : RU pf uA := fun P h d v r => by
 unfold uA
 split
 ·obtain rfl := r.int; exact ⟨_, rfl, .int _⟩
 ·trivial
theorem BN {P : Nat -> Prop} {h : AH} {ds : List D} {vs : List Val} (r : Rds P h ds vs) {i : Int} {v : Val} (e : atI vs i = some v) : ∃ d, atI ds i = some d /\ Rd P h d v := by
 unfold atI at e ⊢
 rw [r.len]
 cases q : ixN vs.length i with
 | none => rw [q] at e; cases e
 | some j => rw [q] at e; exact r.get e
theorem DH : RO gIx aIx := fun P h d1 d2 v1 v2 r1 r2 => by
 unfold aIx
 split
 ·rename_i xs i e1
  obtain ⟨ds, e2, q⟩ := r1.items e1
  obtain rfl := r2.int
  split
  ·rename_i v e3
   obtain ⟨d, e4, q2⟩ := BN q e3
   exact ⟨d, by unfold gIx; rw [e2]; dsimp only; rw [e4], q2⟩
  ·trivial
 ·trivial
end
mutual
noncomputable def cD : Nat -> Val -> Option PyData
 | 0, _ => none
 | _ + 1, .non => some .none
 | _ + 1, .bl b => some (.bool b)
 | _ + 1, .int i => some (.int i)
 | _ + 1, .str x => some (.str x)
 | k + 1, .tup xs => (dc k xs).map .tuple
 | k + 1, .lst xs => (dc k xs).map .list
 | _ + 1, _ => none
noncomputable def dc : Nat -> List Val -> Option (List PyData)
 | _, [] => some []
 | k, x :: xs => match cD k x, dc k xs with
  | some a, some b => some (a :: b)
  | _, _ => none
end
theorem
    uV {P : Nat -> Prop} {h : AH} {k : Nat} (hk : ∀ d v pd, Rd P h d v -> cD k v = some pd -> c9 k h d = some pd) : ∀ {ds : List D} {vs : List Val} {ps : List PyData}, Rds P h ds vs -> dc k vs = some ps -> ds.mapM (c9 k h) = some ps := by
 intro ds
 induction ds with
 |
  nil =>
  intro vs ps r q
  cases r
  unfold dc at q
  cases q
  rfl
 |
  cons d0 ds ih =>
  intro vs ps r q
  cases r with
  |
   cons r rr =>
   unfold dc at q
   split at q
   ·rename_i a b e1 e2
    cases q
    rw [List.mapM_cons, hk _ _ _ r e1, ih rr e2]; rfl
   ·cases q
theorem kH {P : Nat -> Prop} {h : AH} : ∀ (k : Nat) (d : D) (v : Val) (pd : PyData), ShR P h d v -> cD k v = some pd -> c9 k h d = some pd
 | 0, _, _, _, _, q => by unfold cD at q; cases q
 |
  k + 1, d, v, pd, r, q => by
  have ih : ∀ {ds : List D} {vs : List Val} {ps : List PyData}, Rds P h ds vs -> dc k vs = some ps -> ds.mapM (c9 k h) = some ps := uV fun d v pd r q => kH k d v pd (.inl r) q
  cases v with
  | non => obtain rfl := r.non; simp only [cD] at q; cases q; rfl
  | bl b => obtain rfl := r.bl; simp only [cD] at q; cases q; rfl
  | int b => obtain rfl := r.int; simp only [cD] at q; cases q; rfl
  | str b => obtain rfl := r.str; simp only [cD] at q; cases q; rfl
  |
   tup xs =>
   obtain ⟨ds, rfl, r2⟩ := r.tup
   simp only [cD] at q
   obtain ⟨ps, q1, rfl⟩ := Option.map_eq_some_iff.mp q
   show (ds.mapM (c9 k h)).map PyData.tuple = _
   rw [ih r2 q1]; rfl
  |
   lst xs =>
   obtain ⟨n, ds, rfl, _, e1, r2⟩ := r.lst
   simp only [cD] at q
   obtain ⟨ps, q1, rfl⟩ := Option.map_eq_some_iff.mp q
   unfold c9
   rw [e1]
   show (ds.mapM (c9 k h)).map PyData.list = _
   rw [ih r2 q1]; rfl
  | _ => simp only [cD] at q; cases q
noncomputable def eG (x y : Val) : Option Bool := match cD 64 x, cD 64 y with
 | some a, some b => if SeqAt.shaped a = true /\ SeqAt.shaped b = true then some (PyData.eqv a b) else none
 | _, _ => none
noncomputable def aEq (neg : Bool) : Val -> Val -> Bv := fun x y => match eG x y with
 | some b => .val (.bl (if neg then !b else b))
 | none => .stuck
theorem zN {P : Nat -> Prop} {h : AH} {d1 d2 : D} {v1 v2 : Val} {b : Bool} (r1 : ShR P h d1 v1) (r2 : ShR P h d2 v2) (q : eG v1 v2 = some b) : nh h d1 d2 = some b := by
 unfold eG at q
 split at q
 ·rename_i a c e1 e2
  unfold nh
  rw [kH 64 _ _ _ r1 e1, kH 64 _ _ _ r2 e2]
  exact q
 ·cases q
theorem vm (neg : Bool) : RO (gEq neg) (aEq neg) := fun P h d1 d2 v1 v2 r1 r2 => by
 unfold aEq
 split
 ·rename_i b q
  exact ⟨_, by unfold gEq; rw [zN r1 r2 q], .bl _⟩
 ·trivial
noncomputable def uu (neg : Bool) : Val -> Val -> Bv := fun x y => match x, y with
 | .non, .non => .val (.bl (!neg))
 | _, .non => .val (.bl neg)
 | _, _ => .stuck
theorem BD (neg : Bool) : RO (tX neg) (uu neg) := fun P h d1 d2 v1 v2 r1 r2 => by
 unfold uu
 split
 ·obtain rfl := r1.non; obtain rfl := r2.non; exact ⟨_, rfl, .bl _⟩
 ·rename_i hn
  obtain rfl := r2.non
  have : d1 ≠ .non := by
   rintro rfl
   rcases r1 with r | ⟨n, o, z, _⟩
   ·cases r; exact hn rfl
   ·cases z
  refine ⟨_, ?_, .bl neg⟩
  unfold tX
  split
  ·exact absurd rfl this
  ·rfl
  ·rename_i h1 h2; exact (h1 rfl).elim
 ·trivial
noncomputable def uI : List Val -> Bv := fun vs => match vs with
 | [v] => (match v.items with
  | some xs => .val (.int xs.length)
  | none => (match v with
   | .str z => if z.length <= 16777216 then .val (.int z.length) else .stuck
   | _ => .stuck))
 | _ => .stuck
noncomputable def vd : List Val -> Bv := fun vs => match vs with
 | [.int i] => .val (.int (if i < 0 then -i else i))
 | _ => .stuck
noncomputable def fJ : List Val -> Option (List Bool)
 | [] => some []
 | .bl b :: r => (fJ r).map (b :: ·)
 | _ => none
noncomputable def ur : List Val -> Bv := fun vs => match vs with
 | [.lst xs] => (match fJ xs with
  | some bs => .val (.bl (bs.all id))
  | none => .stuck)
 | _ => .stuck
noncomputable def qa : List Val -> Bv := fun vs => match vs with
 | [v] => (match v.items with
  | some xs => .new (.lst xs)
  | none => .stuck)
 | _ => .stuck
theorem
    Bi : RFn m5 uI := fun P h ds vs r => by
 unfold uI
 split
 ·obtain ⟨d, hd, rr1⟩ := iR r; subst hd; clear r; have r := rr1
  split
  ·rename_i xs e
   obtain ⟨es, e2, q⟩ := r.items e
   exact ⟨_, by unfold m5; dsimp only; rw [e2], by rw [<- q.len]; exact .int _⟩
  ·split
   ·rename_i z _
    obtain rfl := r.str
    split
    ·rename_i hl; exact ⟨_, by show (if z.length <= 16777216 then _ else _) = _; rw [if_pos hl], .int _⟩
    ·trivial
   ·trivial
 ·trivial
theorem Bq : RFn pY vd := fun P h ds vs r => by
 unfold vd
 split
 ·obtain ⟨d, hd, rr1⟩ := iR r; subst hd; clear r; have r := rr1; obtain rfl := r.int; exact ⟨_, rfl, .int _⟩
 ·trivial
theorem
    vo {P : Nat -> Prop} {h : AH} : ∀ {ds : List D} {vs : List Val} {bs : List Bool}, Rds P h ds vs -> fJ vs = some bs -> eg ds = some bs := by
 intro ds
 induction ds with
 |
  nil =>
  intro vs bs r q
  cases r
  cases q
  rfl
 |
  cons d0 ds ih =>
  intro vs bs r q
  cases r with
  |
   cons r rr =>
   rename_i v vs
   cases v with
   |
    bl b =>
    obtain rfl := ShR.bl (.inl r)
    obtain ⟨b', q1, rfl⟩ := Option.map_eq_some_iff.mp (show (fJ vs).map (b :: ·) = some bs from q)
    show (eg _).map (b :: ·) = _
    rw [ih rr q1]; rfl
   | _ => cases q
theorem zt : RFn ml ur := fun P h ds vs r => by
 unfold ur
 split
 ·obtain ⟨d, hd, rr1⟩ := iR r; subst hd; clear r; have r := rr1
  obtain ⟨n, es, rfl, _, e1, q⟩ := r.lst
  split
  ·rename_i bs e2
   exact ⟨_, by unfold ml; dsimp only; rw [e1]; show (match eg es with | some bs => _ | none => _) = _; rw [vo q e2], .bl _⟩
  ·trivial
 ·trivial
theorem wN : RFn ka qa := fun P h ds vs r => by
 unfold qa
 split
 ·obtain ⟨d, hd, rr1⟩ := iR r; subst hd; clear r; have r := rr1
  split
  ·rename_i xs e
   obtain ⟨es, e2, q⟩ := r.items e
   exact ⟨.lst es, by unfold ka; dsimp only; rw [e2], trivial, .lst q⟩
  ·trivial
 ·trivial
noncomputable def tyC : Val -> Option Cl
 | .non => some (.b "NoneType")
 | .bl _ => some (.b "bool")
 | .int _ => some (.b "int")
 | .str _ => some (.b "str")
 | .tup _ => some (.b "tuple")
 | .exc x => some (.o x)
 | .lst _ => some (.b "list")
 | .dct _ => some (.b "dict")
 | _ => none
noncomputable def clV : Val -> Option Cl
 | .ty n => some (.b n)
 | .glb x => some (.o x)
 | _ => none
noncomputable def ph : List Val -> Option (List Cl)
 | [] => some []
 | v :: vs => match clV v, ph vs with
  | some c, some cs => some (c :: cs)
  | _, _ => none
noncomputable def Dj : Val -> Option (List Cl)
 | .tup cs => ph cs
 | v => (clV v).map ([·])
noncomputable def vf (kt : dF) : List Val -> Bv := fun vs => match vs with
 | [v, c] => (match tyC v, Dj c with
  | some t, some (c0 :: cr) => (match dX kt t (c0 :: cr), kit kt t c0 with
   | some b, some _ => .val (.bl b)
   | _, _ => .stuck)
  | _, _ => .stuck)
 | _ => .stuck
theorem Ds {P : Nat -> Prop} {h : AH} {d : D} {v : Val} {t : Cl} (r : ShR P h d v) (q : tyC v = some t) : tyD h d = some t := by
 cases v with
 | non => obtain rfl := r.non; exact q
 | bl b => obtain rfl := r.bl; exact q
 | int b => obtain rfl := r.int; exact q
 | str b => obtain rfl := r.str; exact q
 | exc b => obtain rfl := r.exc; exact q
 | tup b => obtain ⟨ds, rfl, _⟩ := r.tup; exact q
 | lst b => obtain ⟨n, ds, rfl, e, _⟩ := r.lst; unfold tyD; dsimp only; rw [e]; exact q
 | dct b => obtain ⟨n, ds, rfl, e, _⟩ := r.dct; unfold tyD; dsimp only; rw [e]; exact q
 | _ => cases q
theorem vR {P : Nat -> Prop} {h : AH} {d : D} {v : Val} {c : Cl} (r : ShR P h d v) (q : clV v = some c) : clD d = some c := by
 cases v with
 | ty b => obtain rfl := r.ty; exact q
 | glb b => obtain rfl := r.glb; exact q
 | _ => cases q
theorem
    ym {P : Nat -> Prop} {h : AH} : ∀ {ds : List D} {vs : List Val} {cs : List Cl}, Rds P h ds vs -> ph vs = some cs -> ds.mapM clD = some cs := by
 intro ds
 induction ds with
 |
  nil =>
  intro vs cs r q
  cases r
  cases q
  rfl
 |
  cons d0 ds ih =>
  intro vs cs r q
  cases r with
  |
   cons r rr =>
   unfold ph at q
   split at q
   ·rename_i c cs' e1 e2
    cases q
    rw [List.mapM_cons, vR (.inl r) e1, ih rr e2]; rfl
   ·cases q
theorem
    Bl (kt : dF) : RFn (nt kt) (vf kt) := fun P h ds vs r => by
 unfold vf
 split
 ·rename_i v c
  obtain ⟨d, d', rfl, r1, r2⟩ := B1 r
  split
  ·rename_i t c0 cr e1 e2
   have e3 := Ds r1 e1
   split
   ·rename_i b b' e4 e5
    refine ⟨.bl b, ?_, .bl b⟩
    unfold nt
    dsimp only
    rw [e3]
    dsimp only
    by_cases ht : ∃ cs, c = .tup cs
    ·obtain ⟨cs, rfl⟩ := ht
     obtain ⟨es, rfl, q⟩ := r2.tup
     dsimp only
     rw [ym q e2]
     dsimp only
     rw [e4, e5]
    ·have e2' : (clV c).map ([·]) = some (c0 :: cr) := by
      cases c with
      | tup cs => exact absurd ⟨cs, rfl⟩ ht
      | _ => exact e2
     obtain ⟨cl, y1, y2⟩ := Option.map_eq_some_iff.mp e2'
     cases y2
     have y3 := vR r2 y1
     have hd : ∀ cs, d' ≠ .tup cs := fun cs z => by subst z; cases y3
     split
     ·rename_i cs; exact absurd rfl (hd cs)
     ·rw [y3]
      dsimp only
      have : kit kt t c0 = some b := by
       unfold dX at e4
       rw [e5] at e4 ⊢
       cases b' with
       | true => exact e4
       | false => unfold dX at e4; exact e4
      rw [this]
   ·trivial
  ·trivial
 ·trivial
noncomputable def gn (xs : List Val) (lo hi : Option Int) : List Val := (xs.drop (HT.sIx xs.length 0 lo)).take (HT.sIx xs.length xs.length hi - HT.sIx xs.length 0 lo)
abbrev MO3 := E3 -> R3 (Option Int)
noncomputable def uc (_ : Ns) (_ : E3) (_ : AH) (b c : Option Int) : Prop := b = c
noncomputable def ROp (F : MO) (G : MO3) : Prop := ∀ X h0 ns e ae h, Sat X h0 ns e ae h -> Po X h0 ns e ae h uc (F ae h) (G e)
noncomputable def qJ : MO3 := fun e => .ok none e
noncomputable def sq (F : ME3) : MO3 := fun e => (F e).bind fun t e1 => match rs e1 t with
 | some (.int i) => .ok (some i) e1
 | _ => .stuck
noncomputable def aSl (x : Val) (lo hi : Option Int) : Bv := match x with
 | .tup xs => if HT.sIx xs.length 0 lo = 0 /\ HT.sIx xs.length xs.length hi = xs.length then .stuck else .val (.tup (gn xs lo hi))
 | .lst xs => .new (.lst (gn xs lo hi))
 | .kl xs => .new (.lst (gn xs lo hi))
 | _ => .stuck
noncomputable def vSl (F : ME3) (L U : MO3) : ME3 := fun e => (F e).bind fun t e1 => (L e1).bind fun lo e2 => (U e2).bind fun hi e3 => match rs e3 t.drop with
 | some v => (aSl v lo hi).at e3
 | none => .stuck
theorem xh : ROp qh qJ := fun X h0 ns e ae h S => Po.ret S rfl
theorem
    xo {F : ME} {F3 : ME3} (hF : RE F F3) : ROp (pV F) (sq F3) := fun X h0 ns e ae h S =>
 Po.bind S (hF X h0 0 ns e ae h S (Nat.zero_le _)) fun d t h1 ns1 e1 a1 S1 r1 => by
  by_cases hq : ∃ i, rs e1 t = some (.int i)
  ·obtain ⟨i, hq⟩ := hq
   have hd := (r1.sh S1 hq).int
   subst hd
   show Po X h0 ns1 e1 ae h1 uc (R.ok (some i) h1) (match rs e1 t with | some (.int i) => R3.ok (some i) e1 | _ => .stuck)
   rw [hq]
   exact Po.ret S1 rfl
  ·have : (match rs e1 t with | some (.int i) => R3.ok (some i) e1 | _ => .stuck) = (.stuck : R3 (Option Int)) := by
    split
    ·rename_i i q; exact absurd ⟨i, q⟩ hq
    ·rfl
   show Po X h0 ns1 e1 ae h1 uc _ (match rs e1 t with | some (.int i) => R3.ok (some i) e1 | _ => .stuck)
   rw [this]; trivial
theorem
    Cc {F : ME} {F3 : ME3} {L U : MO} {L3' U3 : MO3} (hF : RE F F3) (hL : ROp L L3') (hU : ROp U U3) : RE (eSl F L U) (vSl F3 L3' U3) := fun X h0 LL ns e ae h S hl =>
 Po.bind
     S (hF X h0 LL ns e ae h S hl) fun d t h1 ns1 e1 a1 S1 r1 => Po.bind S1 (hL X h0 ns1 e1 ae h1 S1) fun lo lo' h2 ns2 e2 a2 S2 r2 => Po.bind S2 (hU X h0 ns2 e2 ae h2 S2) fun hi hi' h3 ns3 e3 a3 S3 r3 => by
  cases r2; cases r3
  obtain ⟨r1', hn⟩ := r1.drop
  have r4 := (r1'.stp S1 a2 hn).stp S2 a3 hn
  try dsimp only
  split
  ·rename_i v q
   have rr := r4.sh S3 q
   refine BvR.po S3 (Nat.le_trans hl (Nat.le_trans a1.len (Nat.le_trans a2.len a3.len))) ?_
   unfold aSl
   split
   ·rename_i xs
    obtain ⟨ds, rfl, q1⟩ := rr.tup
    split
    ·trivial
    ·rename_i hne
     refine ⟨_, by unfold gSl; dsimp only; rw [if_neg (by rw [q1.len]; exact hne)], .tup ?_⟩
     unfold L2.cutD gn
     rw [q1.len]
     exact (q1.drop _).take _
   ·rename_i xs
    obtain ⟨n, ds, rfl, _, e1, q1⟩ := rr.lst
    refine ⟨.lst (L2.cutD ds lo hi), by unfold gSl; dsimp only; rw [e1], trivial, .lst ?_⟩
    unfold L2.cutD gn
    rw [q1.len]
    exact (q1.drop _).take _
   ·rename_i xs
    have key : ∃ ds, gSl d lo hi h3 = .ok (.ref h3.length) (h3 ++ [.lst (L2.cutD ds lo hi)]) /\ Rds (Oc X ns3) h3 ds xs := by
     rcases rr with rr | ⟨n, o, rfl, e, rr⟩
     ·cases rr with
      | kl q1 => exact ⟨_, rfl, q1⟩
      | cell p e rc => cases rc with | fz q1 => exact ⟨_, by unfold gSl aV; dsimp only; rw [e], q1⟩
     ·cases rr with | fz q1 => exact ⟨_, by unfold gSl aV; dsimp only; rw [e], q1⟩
    obtain ⟨ds, e1, q1⟩ := key
    refine ⟨.lst (L2.cutD ds lo hi), e1, trivial, .lst ?_⟩
    unfold L2.cutD gn
    rw [q1.len]
    exact (q1.drop _).take _
   ·trivial
  ·trivial
noncomputable def kQ : Val -> List Val -> Option (Val × Val) := fun u vs => match u, vs with
 | .lst xs, [v] => if xs.length < 16777216 then some (.lst (xs ++ [v]), .non) else none
 | _, _ => none
section
variable {P : Nat -> Prop} {h : AH}
theorem qf {n : Nat} {o : Ob} {xs : List Val} (e : h[n]? = some o) (r : Rc P h o (.lst xs)) : jT h (.ref n) = true /\ ∃ ds, h[n]? = some (.lst ds) /\ Rds P h ds xs /\ ∀ f, jH h (.ref n) f = f n ds := by
 obtain ⟨ds, e1, e2, q⟩ := Rc.seq e r
 refine ⟨by show (aV h n).isSome = true; rw [e2]; rfl, ds, e1, q, fun f => ?_⟩
 unfold jH; dsimp only; rw [e1]
theorem rds1 {ds : List D} {v : Val} (r : Rds P h ds [v]) : ∃ d, ds = [d] /\ Rd P h d v := by
 cases r with | cons r rr => cases rr; exact ⟨_, rfl, r⟩
end
theorem qV : RM ja kQ := fun P h n o u ds vs u' v e hf r rs q => by
 unfold kQ at q
 split at q
 ·split at q
  ·rename_i hl
   cases q
   obtain ⟨q1, es, q2, q3, q4⟩ := qf e r
   obtain ⟨d, rfl, rd⟩ := rds1 rs
   refine ⟨q1, .lst (es ++ [d]), .non, ?_, trivial, .lst (q3.append (.cons rd .nil)), .non⟩
   unfold ja; rw [q4]; dsimp only; rw [if_pos (by rw [q3.len]; exact hl)]
  ·cases q
 ·cases q
noncomputable def sL : Val -> Val -> Val -> Option Val := fun u i v => match u, i with
 | .lst xs, .int k => (match ixN xs.length k with
  | some j => some (.lst (xs.set j v))
  | none => none)
 | _, _ => none
theorem Ay : nK wL sL := fun P h n o u di vi d v u' _ e hf r ri rd q => by
 unfold sL at q
 split at q
 ·split at q
  ·rename_i j hj
   cases q
   obtain ⟨q1, es, q2, q3, q4⟩ := qf e r
   obtain rfl := ri.int
   refine ⟨.lst (es.set j d), ?_, trivial, .lst (q3.set rd j)⟩
   unfold wL; dsimp only; rw [q2]; dsimp only; rw [q3.len, hj]
  ·cases q
 ·cases q
end L3
set_option Elab.async false
set_option linter.all false
set_option maxRecDepth 100000
namespace L3
open PySem PySem.Spec PyProof.Rows L2
structure PEx where
 F : ME
 G : ME3
 ok : RE F G
structure PTs where
 F : MT
 G : MT3
 ok : RT F G
structure PAs where
 F : MA
 G : MA3
 ok : RA F G
structure PSt where
 F : MS
 G : MS3
 ok : RS F G
structure PGt where
 F : MG
 G : MG3
 ok : RG F G
structure PGs where
 F : MGs
 G : gv
 ok : RGs F G
structure PIt where
 F : MI
 G : MI3
 ok : RI F G
structure POp where
 F : MO
 G : MO3
 ok : ROp F G
structure PO2 where
 F : D -> D -> AH -> R D
 G : Val -> Val -> Bv
 ok : RO F G
structure PU1 where
 F : D -> AH -> R D
 G : Val -> Bv
 ok : RU F G
structure PBf where
 F : Fn
 G : List Val -> Bv
 ok : RFn F G
structure PMm where
 F : D -> List D -> AH -> R D
 G : Val -> List Val -> Option (Val × Val)
 ok : RM F G
structure PMv where
 F : D -> List D -> AH -> R D
 G : Val -> List Val -> Bv
 ok : RMv F G
structure PSe where
 F : D -> D -> D -> AH -> R Unit
 G : Val -> Val -> Val -> Option Val
 ok : nK F G
structure PFn where
 ms : List Bool
 F : Fn
 G : Fn3
 ok : RF ms F G
structure PFx (ms : List Bool) where
 F : Fn
 G : Fn3
 ok : RF ms F G
noncomputable section
noncomputable def PFx.fn {ms : List Bool} (p : PFx ms) : PFn := ⟨ms, p.F, p.G, p.ok⟩
noncomputable def ah (i : Nat) : PEx := ⟨cS i, ua i, AQ i⟩
noncomputable def ao (i : Int) : PEx := ⟨eC (.int i), vC (.int i), mf fun _ _ => .int i⟩
noncomputable def pBl (i : Bool) : PEx := ⟨eC (.bl i), vC (.bl i), mf fun _ _ => .bl i⟩
noncomputable def c8 (i : Str) : PEx := ⟨eC (.str i), vC (.str i), mf fun _ _ => .str i⟩
noncomputable def p9 : PEx := ⟨eC .non, vC .non, mf fun _ _ => .non⟩
noncomputable def pTy (i : String) : PEx := ⟨eC (.ty i), vC (.ty i), mf fun _ _ => .ty i⟩
noncomputable def pUn (o : PU1) (a : PEx) : PEx := ⟨eUn o.F a.F, vUn o.G a.G, Cb o.ok a.ok⟩
noncomputable def pOp (o : PO2) (a b : PEx) : PEx := ⟨eOp o.F a.F b.F, vOp o.G a.G b.G, B9 o.ok a.ok b.ok⟩
noncomputable def aq : PAs := ⟨p8, vNil, BE⟩
noncomputable def ag (a : PEx) (r : PAs) : PAs := ⟨lV a.F r.F, vG a.G r.G, wM a.ok r.ok⟩
noncomputable def pFn (o : PBf) (a : PAs) : PEx := ⟨eFn o.F a.F, vFn o.G a.G, BR o.ok a.ok⟩
noncomputable def jG (a : PAs) : PEx := ⟨eFn j6 a.F, vTup a.G, yQ a.ok⟩
noncomputable def qt (a : PAs) : PEx := ⟨eFn cQ a.F, vLst a.G, yq a.ok⟩
noncomputable def mi (a b : PEx) : PEx := ⟨sV a.F b.F, vAnd a.G b.G, Am a.ok b.ok⟩
noncomputable def pOr (a b : PEx) : PEx := ⟨eOr a.F b.F, vOr a.G b.G, Cw a.ok b.ok⟩
noncomputable def ky (a : PEx) : PEx := ⟨vc a.F, vNot a.G, Bw a.ok⟩
noncomputable def qOf (a : PEx) : PTs := ⟨tOf a.F, cOf a.G, Cq a.ok⟩
noncomputable def qAn (a b : PTs) : PTs := ⟨tAn a.F b.F, cAn a.G b.G, B6 a.ok b.ok⟩
noncomputable def qO (a b : PTs) : PTs := ⟨tO a.F b.F, cO a.G b.G, rt_o a.ok b.ok⟩
noncomputable def qNo (a : PTs) : PTs := ⟨tNo a.F, cNo a.G, DZ a.ok⟩
noncomputable def qY : PTs := ⟨tY, cY, rt_y⟩
noncomputable def xNx : PSt := ⟨sNx, wNx, C7⟩
noncomputable def aQ (a : PEx) : PSt := ⟨uq a.F, wRet a.G, As a.ok⟩
noncomputable def iM (a : PEx) : PSt := ⟨qA a.F, vh a.G, xP a.ok⟩
noncomputable def ay (a b : PSt) : PSt := ⟨uf a.F b.F, wSeq a.G b.G, Bz a.ok b.ok⟩
noncomputable def xIf (c : PTs) (a b : PSt) : PSt := ⟨sIf c.F a.F b.F, wIf c.G a.G b.G, Dy c.ok a.ok b.ok⟩
noncomputable def ba (o : Bool) (i : Nat) (a : PEx) : PSt := ⟨fu a.F (gN i), wAsg o i a.G, Be o i a.ok⟩
noncomputable def gtN (i : Nat) : PGt := ⟨gN i, pN i, uB i⟩
noncomputable def eI : PGs := ⟨gsN, psN, CJ⟩
noncomputable def cb (a : PGt) (b : PGs) : PGs := ⟨gsC a.F b.F, psC a.G b.G, CA a.ok b.ok⟩
noncomputable def gtT (n : Nat) (a : PGs) : PGt := ⟨gT fun ds ae h => if ds.length = n then a.F ds ae h else .stuck, pT n a.G, rg_t n a.ok⟩
noncomputable def gtX (a : PGt) : PGt := ⟨fun d ae h => noX (a.F d ae h), a.G, Bt a.ok⟩
noncomputable def lZ (a : PEx) (g : PGt) : PSt := ⟨fu a.F g.F, vv a.G g.G, xw a.ok g.ok⟩
noncomputable def hZ (i j : Nat) (a : PAs) : PSt := ⟨sN i j a.F, wPar i j a.G, Az i j a.ok⟩
noncomputable def ir (c : Str) (a : PAs) : PSt := ⟨mw c a.F, rL c a.G, tw c a.ok⟩
noncomputable def eW (i : Nat) (w : PSe) (k a : PEx) : PSt := ⟨fu a.F (gS (cS i) k.F w.F), wSet i k.G a.G w.G, za i w.ok k.ok a.ok⟩
noncomputable def mI (i : Nat) (m : PMm) (a : PAs) : PEx := ⟨eM m.F (cS i) a.F, vg i m.G a.G, zb i m.ok a.ok⟩
noncomputable def df (a : PEx) : PIt := ⟨tL a.F, vA a.G, zP a.ok⟩
noncomputable def iW (a : PAs) : PIt := ⟨sP a.F, uJ fN a.G, Ab a.ok⟩
noncomputable def lW (a : PAs) : PIt := ⟨uE a.F, vJ a.G, Bd a.ok⟩
noncomputable def gm (i : PIt) (g : PGt) (b : PSt) : PSt := ⟨sF i.F g.F b.F, wFor i.G g.G b.G, Au i.ok g.ok b.ok⟩
noncomputable def xWh (c : PTs) (b : PSt) : PSt := ⟨sWh c.F b.F, wWh c.G b.G, DJ c.ok b.ok⟩
noncomputable def pLC (i : PIt) (sub : List (Option Nat)) (hs : (sub.filterMap id).Nodup) (g : PGt) (c : PTs) (a : PEx) : PEx := ⟨eLC i.F sub g.F c.F a.F, vLC i.G sub g.G c.G a.G, Cy hs i.ok g.ok c.ok a.ok⟩
noncomputable def az (f : PFn) (a : PAs) : PEx := ⟨pQ f.ms.length f.F a.F, vj f.ms f.G a.G, vV rfl f.ok a.ok⟩
noncomputable def oN : POp := ⟨qh, qJ, xh⟩
noncomputable def oS (a : PEx) : POp := ⟨pV a.F, sq a.G, xo a.ok⟩
noncomputable def pSl (a : PEx) (l u : POp) : PEx := ⟨eSl a.F l.F u.F, vSl a.G l.G u.G, Cc a.ok l.ok u.ok⟩
noncomputable def fnP (ms : List Bool) (N : Nat) (c : PSt) : PFn := ⟨ms, fnD N c.F, fnV ms N c.G, C8 c.ok⟩
noncomputable def cM : PO2 := ⟨pA, ue, zy⟩
noncomputable def o7 : PO2 := ⟨tV, aMin, Ao⟩
noncomputable def aT : PO2 := ⟨tf, pB, BJ⟩
noncomputable def cL : PO2 := ⟨uQ, pO, zQ⟩
noncomputable def bO : PO2 := ⟨uG, pL, Ad⟩
noncomputable def kR : PO2 := ⟨ve, pG, yp⟩
noncomputable def bLt : PO2 := ⟨gLt, aLt, DF⟩
noncomputable def bGt : PO2 := ⟨gGt, aGt, Cu⟩
noncomputable def bGe : PO2 := ⟨gGe, aGe, CK⟩
noncomputable def bIx : PO2 := ⟨gIx, aIx, DH⟩
noncomputable def bEq : PO2 := ⟨gEq false, aEq false, vm false⟩
noncomputable def bNe : PO2 := ⟨gEq true, aEq true, vm true⟩
noncomputable def bIs : PO2 := ⟨tX false, uu false, BD false⟩
noncomputable def pK : PU1 := ⟨pf, uA, yw⟩
noncomputable def ee : PBf := ⟨m5, uI, Bi⟩
noncomputable def jM : PBf := ⟨pY, vd, Bq⟩
noncomputable def qp : PBf := ⟨ml, ur, zt⟩
noncomputable def dI : PBf := ⟨ka, qa, wN⟩
noncomputable def cn (kt : dF) : PBf := ⟨nt kt, vf kt, Bl kt⟩
noncomputable def fb : PMm := ⟨ja, kQ, qV⟩
noncomputable def seL : PSe := ⟨wL, sL, Ay⟩
end
theorem kN {P : Nat -> Prop} {h : AH} : ∀ (ns : List Int), Rds P h (ns.map D.int) (ns.map Val.int)
 | [] => .nil
 | _ :: r => .cons (.int _) (kN r)
theorem
    law3 (p : PFn) (hm : p.ms = [false]) (hG : ∀ ns : List Int, ns.length <= 63 -> p.G [.kl (ns.map .int)] = .ok (.val (.bl true)) []) (d : D) (h : AH) (ns : List Int) (hl : ns.length <= 63) (sc : Script h d ns) : ∃ h', p.F [d] h = .ok (.bl true) h' := by
 have hp := p.ok
 rw [hm] at hp
 have rd : Rd (Oc (fun _ => False) [none]) h d (.kl (ns.map .int)) := by
  rcases sc.form with ⟨n, rfl, e⟩ | rfl
  ·exact .cell ⟨fun z => z, by simp⟩ e (.fz (kN ns))
  ·exact .kl (kN ns)
 have S : Sat (fun _ => False) h.length [none] (sls [false] [.kl (ns.map .int)]) ([d].map some) h := by
  refine ⟨rfl, rfl, Nat.le_refl _, fun _ z => z.elim, fun i j n q => ?_, fun i n q z => z, fun i s q => ?_⟩
  ·cases i with
   | zero => simp at q
   | succ i => simp at q
  ·cases i with
   |
    zero =>
    have : sl1 false (.kl (ns.map .int)) = s := by simpa [sls] using q
    subst this
    exact ⟨rfl, d, rfl, rd⟩
   | succ i => simp [sls] at q
 have := hp _ _ [d] [.kl (ns.map .int)] h rfl S
 rw [hG ns hl] at this
 obtain ⟨d', h', e, _, _, r⟩ := this
 cases r with
 | bl => exact ⟨h', e⟩
 | cell p e r => cases r
section
variable (e : E3)
@[simp] theorem j5 {α β : Type} (a : α) (f : α -> E3 -> R3 β) : (R3.ok a e).bind f = f a e := rfl
@[simp] theorem Dp {α : Type} (a : α) (f : α -> E3 -> SR3) : (R3.ok a e).toS f = f a e := rfl
@[simp] theorem CW (f : E3 -> SR3) : (SR3.nx e).then f = f e := rfl
@[simp] theorem Dh (r : Rt) (f : E3 -> SR3) : (SR3.rt r e).then f = .rt r e := rfl
@[simp] theorem j3 (f : E3 -> SR3) : (SR3.nx e).loop f = f e := rfl
@[simp] theorem vM (f : E3 -> SR3) : (SR3.ct e).loop f = f e := rfl
@[simp] theorem Ca (r : SR3) : r.unl none = r := by cases r <;> rfl
@[simp] theorem CS (k : Nat) : (SR3.nx e).unl (some k) = .nx (unlock e k) := rfl
@[simp] theorem tS : lockO e none = e := rfl
@[simp] theorem sQ (k : Nat) : lockO e (some k) = lock e k := rfl
@[simp] theorem pk : cW e none = e := rfl
@[simp] theorem qu (k : Nat) : cW e (some k) = unlock e k := rfl
@[simp] theorem zI (v : Val) : (Bv.val v).at e = .ok (.val v) e := rfl
@[simp] theorem BH (v : Val) : (Bv.new v).at e = .ok (.new v) e := rfl
@[simp] theorem AR (v : Val) : rs e (.val v) = some v := rfl
@[simp] theorem BB (v : Val) : rs e (.new v) = some v := rfl
@[simp] theorem yy (i : Nat) : rs e (.bor i) = (e[i]?).bind Sl.val := rfl
@[simp] theorem zL (v : Val) : (Tm.val v).drop = .val v := rfl
@[simp] theorem A2 (v : Val) : (Tm.new v).drop = .val v := rfl
@[simp] theorem yX (i : Nat) : (Tm.bor i).drop = .bor i := rfl
@[simp] theorem wX : rss e [] = some [] := rfl
@[simp] theorem uz (t : Tm) (ts : List Tm) : rss e (t :: ts) = match rs e t, rss e ts with
  | some v, some vs => some (v :: vs)
  | _, _ => none := rfl
@[simp] theorem AA (v : Val) : bZ e (.val v) = some (e, v) := rfl
@[simp] theorem A4 (v : Val) : bZ e (.new v) = some (e, v) := rfl
@[simp] theorem zY (i : Nat) : bZ e (.bor i) = match e[i]? with
  | some (.sh v) => some (e, v)
  | some (.ow v) => some (e.set i (.sh v), v)
  | _ => none := rfl
@[simp] theorem zh : dem e [] = some (e, []) := rfl
@[simp] theorem wz (t : Tm) (ts : List Tm) : dem e (t :: ts) = match bZ e t with
  | some (e1, v) => match dem e1 ts with
   | some (e2, vs) => some (e2, v :: vs)
   | none => none
  | none => none := rfl
@[simp] theorem Aq (b : Bool) : bOf (some (.bl b)) = some b := rfl
@[simp] theorem Dc (i : Nat) : (ah i).G e = match e[i]? with
 | some (.sh v) => .ok (.val v) e
 | some .no => .stuck
 | some _ => .ok (.bor i) e
 | none => .stuck := rfl
@[simp] theorem Cf (i : Int) : (ao i).G e = .ok (.val (.int i)) e := rfl
@[simp] theorem v_bl (i : Bool) : (pBl i).G e = .ok (.val (.bl i)) e := rfl
@[simp] theorem Dm (i : Str) : (c8 i).G e = .ok (.val (.str i)) e := rfl
@[simp] theorem CZ : p9.G e = .ok (.val .non) e := rfl
@[simp] theorem v_ty (i : String) : (pTy i).G e = .ok (.val (.ty i)) e := rfl
@[simp] theorem v_un (o : PU1) (a : PEx) : (pUn o a).G e = (a.G e).bind fun t e1 => match rs e1 t with
 | some v => (o.G v).at e1
 | none => .stuck := rfl
@[simp] theorem v_op (o : PO2) (a b : PEx) : (pOp o a b).G e = (a.G e).bind fun t1 e1 => (b.G e1).bind fun t2 e2 => match rs e2 t1.drop, rs e2 t2 with
 | some v1, some v2 => (o.G v1 v2).at e2
 | _, _ => .stuck := rfl
@[simp] theorem CQ : aq.G e = .ok [] e := rfl
@[simp] theorem Bo (a : PEx) (r : PAs) : (ag a r).G e = (a.G e).bind fun t e1 => (r.G e1).bind fun ts e2 => .ok (t.drop :: ts) e2 := rfl
@[simp] theorem v_fn (o : PBf) (a : PAs) : (pFn o a).G e = (a.G e).bind fun ts e1 => match rss e1 ts with
 | some vs => (o.G vs).at e1
 | none => .stuck := rfl
@[simp] theorem B8 (a : PAs) : (jG a).G e = (a.G e).bind fun ts e1 => match dem e1 ts with
 | some (e2, vs) => if vs.length <= 16777216 then .ok (.val (.tup vs)) e2 else .stuck
 | none => .stuck := rfl
@[simp] theorem BO (a : PAs) : (qt a).G e = (a.G e).bind fun ts e1 => match dem e1 ts with
 | some (e2, vs) => if vs.length <= 16777216 then .ok (.new (.lst vs)) e2 else .stuck
 | none => .stuck := rfl
@[simp] theorem Du (a b : PEx) : (mi a b).G e = (a.G e).bind fun t e1 => match bOf (rs e1 t) with
 | some true => b.G e1
 | some false => .ok (.val (.bl false)) e1
 | none => .stuck := rfl
@[simp] theorem y_or (a b : PEx) : (pOr a b).G e = (a.G e).bind fun t e1 => match bOf (rs e1 t) with
 | some true => .ok (.val (.bl true)) e1
 | some false => b.G e1
 | none => .stuck := rfl
@[simp] theorem BX (a : PEx) : (ky a).G e = (a.G e).bind fun t e1 => match bOf (rs e1 t) with
 | some b => .ok (.val (.bl (!b))) e1
 | none => .stuck := rfl
@[simp] theorem c_of (a : PEx) : (qOf a).G e = (a.G e).bind fun t e1 => match bOf (rs e1 t) with
 | some b => .ok b e1
 | none => .stuck := rfl
@[simp] theorem c_an (a b : PTs) : (qAn a b).G e = (a.G e).bind fun k e1 => if k = true then b.G e1 else .ok false e1 := rfl
@[simp] theorem c_o (a b : PTs) : (qO a b).G e = (a.G e).bind fun k e1 => if k = true then .ok true e1 else b.G e1 := rfl
@[simp] theorem c_no (a : PTs) : (qNo a).G e = (a.G e).bind fun k e1 => .ok (!k) e1 := rfl
@[simp] theorem c_y : qY.G e = .ok true e := rfl
@[simp] theorem x_nx : xNx.G e = .nx e := rfl
@[simp] theorem Dg (a : PEx) : (aQ a).G e = (a.G e).toS m7 := rfl
@[simp] theorem xi (v : Val) : m7 (.val v) e = .rt (.val v) e := rfl
@[simp] theorem xv (v : Val) : m7 (.new v) e = .rt (.new v) e := rfl
@[simp] theorem zX (a : PEx) : (iM a).G e = (a.G e).toS fun _ e1 => .nx e1 := rfl
@[simp] theorem vK (a b : PSt) : (ay a b).G e = (a.G e).then b.G := rfl
@[simp] theorem x_if (c : PTs) (a b : PSt) : (xIf c a b).G e = (c.G e).toS fun k e1 => if k = true then a.G e1 else b.G e1 := rfl
@[simp] theorem D1 (o : Bool) (i : Nat) (a : PEx) : (ba o i a).G e = (a.G e).toS (fF o i) := rfl
@[simp] theorem CY : Sl.no.pl = true := rfl
@[simp] theorem Cz (v : Val) : (Sl.sh v).pl = true := rfl
@[simp] theorem xr (o : Bool) (i : Nat) (v : Val) : fF o i (.val v) e = match e[i]? with
 | some s0 => if s0.pl = true then .nx (e.set i (.sh v)) else .stuck
 | none => .stuck := by unfold fF; rfl
@[simp] theorem u9 (i : Nat) (v : Val) : fF true i (.new v) e = match e[i]? with
 | some s0 => if s0.pl = true then .nx (e.set i (.ow v)) else .stuck
 | none => .stuck := by unfold fF; rfl
@[simp] theorem tD (i : Nat) (v : Val) : fF false i (.new v) e = match e[i]? with
 | some s0 => if s0.pl = true then .nx (e.set i (.sh v)) else .stuck
 | none => .stuck := by unfold fF; rfl
@[simp] theorem g_n (i : Nat) (v : Val) : (gtN i).G v e = match e[i]? with
 | some s => if s.pl = true then some (e.set i (.sh v)) else none
 | none => none := rfl
@[simp] theorem g_sn : eI.G [] e = some e := rfl
@[simp] theorem g_sc (a : PGt) (b : PGs) (v : Val) (vs : List Val) : (cb a b).G (v :: vs) e = (a.G v e).bind fun e1 => b.G vs e1 := rfl
@[simp] theorem g_t (n : Nat) (a : PGs) (vs : List Val) : (gtT n a).G (.tup vs) e = if vs.length = n then a.G vs e else none := rfl
@[simp] theorem g_x (a : PGt) (v : Val) : (gtX a).G v e = a.G v e := rfl
@[simp] theorem zx (a : PEx) (g : PGt) : (lZ a g).G e = (a.G e).toS fun t e1 => match bZ e1 t with
 | some (e2, v) => match g.G v e2 with
  | some e3 => .nx e3
  | none => .stuck
 | none => .stuck := rfl
@[simp] theorem Dn (i j : Nat) (a : PAs) : (hZ i j a).G e = (a.G e).toS fun ts e1 => match dem e1 ts with
 | some (e2, [v, u]) => match (pN i v e2).bind (pN j u) with
  | some e3 => .nx e3
  | none => .stuck
 | _ => .stuck := rfl
@[simp] theorem DK (i : Nat) (v : Val) : pN i v e = match e[i]? with
 | some s => if s.pl = true then some (e.set i (.sh v)) else none
 | none => none := rfl
@[simp] theorem wd (c : Str) (a : PAs) : (ir c a).G e = (a.G e).toS fun ts e1 => if ts.length <= 16777216 then .exc c e1 else .stuck := rfl
@[simp] theorem C0 (i : Nat) (w : PSe) (k a : PEx) : (eW i w k a).G e = (a.G e).toS fun t e1 => match (e1[i]?).bind Sl.mv with
 | none => .stuck
 | some _ => (k.G e1).toS fun t2 e2 => match rs e2 t2 with
  | none => .stuck
  | some vi => match bZ e2 t.drop with
   | none => .stuck
   | some (e3, v) => match e3[i]? with
    | none => .stuck
    | some s => match s.mv with
     | none => .stuck
     | some u => match w.G u vi v with
      | some u' => .nx (e3.set i (s.re u'))
      | none => .stuck := rfl
@[simp] theorem CV (v : Val) : (Sl.ow v).mv = some v := rfl
@[simp] theorem DV (v : Val) : (Sl.mu v).mv = some v := rfl
@[simp] theorem CG (v u : Val) : (Sl.ow v).re u = .ow u := rfl
@[simp] theorem DQ (v u : Val) : (Sl.mu v).re u = .mu u := rfl
@[simp] theorem y9 (v : Val) : (Sl.ow v).val = some v := rfl
@[simp] theorem Bj (v : Val) : (Sl.mu v).val = some v := rfl
@[simp] theorem yU (v : Val) : (Sl.lo v).val = some v := rfl
@[simp] theorem Dw (i : Nat) (m : PMm) (a : PAs) : (mI i m a).G e = match e[i]? with
 | some s => if (s.mv.map pX) = some true then (a.G e).bind fun ts e1 => match dem e1 ts with
  | some (e2, vs) => match e2[i]? with
   | some s2 => match s2.mv with
    | some u => match m.G u vs with
     | some (u', v) => .ok (.val v) (e2.set i (s2.re u'))
     | none => .stuck
    | none => .stuck
   | none => .stuck
  | none => .stuck else .stuck
 | none => .stuck := rfl
@[simp] theorem sJ (xs : List Val) : pX (.lst xs) = true := rfl
@[simp] theorem Cm (a : PEx) : (df a).G e = (a.G e).bind fun t e1 => match d6 t e1 with
 | some p => .ok p e1
 | none => .stuck := rfl
@[simp] theorem DN (a : PAs) : (lW a).G e = (a.G e).bind fun ts e1 => match ts with
 | [t, u] => (match d6 t e1, d6 u e1 with
  | some (xs, k), some (ys, none) => .ok (List.zipWith (fun x y => .tup [x, y]) xs ys, k) e1
  | _, _ => .stuck)
 | _ => .stuck := rfl
@[simp] theorem yC (v : Val) : d6 (.val v) e = (fh v).map fun xs => (xs, none) := rfl
@[simp] theorem yf (k : Nat) : d6 (.bor k) e = match e[k]? with
  | some (.sh v) => (fh v).map fun xs => (xs, none)
  | some (.ow (.lst xs)) => some (xs, some k)
  | some (.mu (.lst xs)) => some (xs, some k)
  | _ => none := rfl
@[simp] theorem Bf (xs : List Val) : fh (.tup xs) = some xs := rfl
@[simp] theorem yk (xs : List Val) : fh (.lst xs) = some xs := rfl
@[simp] theorem Cv (a : PAs) : (iW a).G e = (a.G e).bind fun ts e1 => match (rss e1 ts).bind fN with
 | some xs => .ok (xs, none) e1
 | none => .stuck := rfl
@[simp] theorem C6 (i : PIt) (g : PGt) (b : PSt) : (gm i g b).G e = (i.G e).toS fun p e1 => (dA g.G b.G p.1 (lockO e1 p.2)).unl p.2 := rfl
@[simp] theorem oX (g : MG3) (B : MS3) : dA g B [] e = .nx e := rfl
theorem eS (g : MG3) (B : MS3) (v : Val) (vs : List Val) : dA g B (v :: vs) e = match g v e with
  | some e1 => (B e1).loop (dA g B vs)
  | none => .stuck := rfl
theorem kF (c : PTs) (b : PSt) : (xWh c b).G e = (c.G e).toS fun k e1 => if k = true then (b.G e1).loop (xWh c b).G else .nx e1 := sS c.G b.G e
@[simp] theorem v_lc (i : PIt) (sub : List (Option Nat)) (hs : (sub.filterMap id).Nodup) (g : PGt) (c : PTs) (a : PEx) : (pLC i sub hs g c a).G e = (i.G e).bind fun p e1 => match lcV g.G c.G a.G p.1 [] (c5 sub (lockO e1 p.2)) with
 | .ok ys e2 => if ys.length <= 16777216 then .ok (.new (.lst ys)) (cW (bf sub e2 (lockO e1 p.2)) p.2) else .stuck
 | _ => .stuck := rfl
@[simp] theorem zM (f : PFn) (a : PAs) : (az f a).G e = (a.G e).bind fun ts e1 => match rss e1 ts with
 | none => .stuck
 | some vs => if okA e1 f.ms ts = true then (match f.G vs with
  | .stuck => .stuck
  | .ok r mv => if (aS e1 f.ms ts).isEmpty || (iV r && mv.all cH) then .ok r.tm (bf (bJ f.ms ts) (aH f.ms mv) e1) else (match kA e1 (aS e1 f.ms ts) with
   | some e2 => .ok r.tm (bf (bJ f.ms ts) (aH f.ms mv) e2)
   | none => .stuck)
  | .exc c mv => if (aS e1 f.ms ts).isEmpty || mv.all cH then .exc c (bf (bJ f.ms ts) (aH f.ms mv) e1) else .stuck) else .stuck := rfl
@[simp] theorem zk (v : Val) : (Rt.val v).tm = .val v := rfl
@[simp] theorem yE (v : Val) : (Rt.new v).tm = .new v := rfl
@[simp] theorem o_n : oN.G e = .ok none e := rfl
@[simp] theorem o_s (a : PEx) : (oS a).G e = (a.G e).bind fun t e1 => match rs e1 t with
 | some (.int i) => .ok (some i) e1
 | _ => .stuck := rfl
@[simp] theorem v_sl (a : PEx) (l u : POp) : (pSl a l u).G e = (a.G e).bind fun t e1 => (l.G e1).bind fun lo e2 => (u.G e2).bind fun hi e3 => match rs e3 t.drop with
 | some v => (aSl v lo hi).at e3
 | none => .stuck := rfl
theorem cK (ms : List Bool) (N : Nat) (c : PSt) (vs : List Val) : (fnP ms N c).G vs = if vs.length = ms.length then (match c.G (sls ms vs ++ List.replicate (N - vs.length) .no) with
 | .nx e => (match muV ms e with | some mv => .ok (.val .non) mv | none => .stuck)
 | .rt r e => (match muV ms e with | some mv => .ok r mv | none => .stuck)
 | .exc c e => (match muV ms e with | some mv => .exc c mv | none => .stuck)
 | _ => .stuck) else .stuck := rfl
end
@[simp] theorem Cg (i j : Int) : cM.G (.int i) (.int j) = .val (.int (i + j)) := rfl
@[simp] theorem DM (i j : Int) : o7.G (.int i) (.int j) = .val (.int (i - j)) := rfl
@[simp] theorem k_lt (i j : Int) : bLt.G (.int i) (.int j) = .val (.bl (decide (i < j))) := rfl
@[simp] theorem k_gt (i j : Int) : bGt.G (.int i) (.int j) = .val (.bl (decide (j < i))) := rfl
@[simp] theorem k_ge (i j : Int) : bGe.G (.int i) (.int j) = .val (.bl (decide (j <= i))) := rfl
@[simp] theorem Df (i : Int) : pK.G (.int i) = .val (.int (-i)) := rfl
theorem b8 {i j : Int} (c : CMulA i j) : aT.G (.int i) (.int j) = .val (.int (i * j)) := by show pB (.int i) (.int j) = _; unfold pB aIc; dsimp only; rw [if_pos c]
theorem eK {i j : Int} (c : CDivB i j) : cL.G (.int i) (.int j) = .val (.int (i.fdiv j)) := by show pO (.int i) (.int j) = _; unfold pO aIc; dsimp only; rw [if_pos c]
theorem ef {i j : Int} (c : j ≠ 0) : bO.G (.int i) (.int j) = .val (.int (i.fmod j)) := by show pL (.int i) (.int j) = _; unfold pL aIc; dsimp only; rw [if_pos c]
theorem vn {i j : Int} (c : kI i j) : kR.G (.int i) (.int j) = .val (.int (i ^ j.toNat)) := by show pG (.int i) (.int j) = _; unfold pG aIc; dsimp only; rw [if_pos c]
@[simp] theorem k_ix (x : Val) (i : Int) : bIx.G x (.int i) = match x.items with
 | some xs => (match atI xs i with
  | some v => .val v
  | none => .stuck)
 | none => .stuck := by show aIx x (.int i) = _; unfold aIx; cases x.items <;> rfl
@[simp] theorem yD (xs : List Val) : (Val.tup xs).items = some xs := rfl
@[simp] theorem Ap (xs : List Val) : (Val.lst xs).items = some xs := rfl
@[simp] theorem k_eq (x y : Val) : bEq.G x y = match eG x y with
 | some b => .val (.bl b)
 | none => .stuck := by show aEq false x y = _; unfold aEq; cases eG x y <;> rfl
@[simp] theorem k_ne (x y : Val) : bNe.G x y = match eG x y with
 | some b => .val (.bl (!b))
 | none => .stuck := by show aEq true x y = _; unfold aEq; cases eG x y <;> rfl
@[simp] theorem CO (x y : Int) : eG (.int x) (.int y) = some (x == y) := rfl
@[simp] theorem k_is (x : Val) : bIs.G x .non = match x with
 | .non => .val (.bl true)
 | _ => .val (.bl false) := by cases x <;> rfl
@[simp] theorem CC (v : Val) : ee.G [v] = match v.items with
  | some xs => .val (.int xs.length)
  | none => (match v with
   | .str z => if z.length <= 16777216 then .val (.int z.length) else .stuck
   | _ => .stuck) := rfl
@[simp] theorem BS (i : Int) : jM.G [.int i] = .val (.int (if i < 0 then -i else i)) := rfl
@[simp] theorem CN (xs : List Val) : qp.G [.lst xs] = match fJ xs with
  | some bs => .val (.bl (bs.all id))
  | none => .stuck := rfl
@[simp] theorem BL (v : Val) : dI.G [v] = match v.items with
  | some xs => .new (.lst xs)
  | none => .stuck := rfl
@[simp] theorem uF (xs : List Val) (v : Val) : fb.G (.lst xs) [v] = if xs.length < 16777216 then some (.lst (xs ++ [v]), .non) else none := rfl
@[simp] theorem mK : ∀ (bs : List Bool), fJ (bs.map Val.bl) = some bs
 | [] => rfl
 | b :: r => by show (fJ (r.map Val.bl)).map (b :: ·) = _; rw [mK r]; rfl
end L3
set_option Elab.async false
set_option linter.all false
set_option maxRecDepth 100000
namespace L3
open PySem PySem.Spec PyProof.Rows L2
section
variable {K : PySem.W.Frag} {mg : Str -> Option Value} {X : Cx} {ES : L2.St -> XK} {e a b c o i tg iter elt : Expr} {es : List Expr} {st : Stmt} {sts sts' : List Stmt} {p q r : PEx} {A : PAs} {t u : PTs} {x y : PSt} {g : PGt} {gs : PGs} {I : PIt} {pos : Pos}
theorem aa (i : Nat) {x : Str} (hN : X.N[i]? = some x := by rfl) (hv : Vis X.env.scope x := by first | exact Or.inl rfl | exact Or.inr (Or.inl rfl) | exact Or.inr (Or.inr rfl)) (hd : (x == ("__debug__" : Str)) = false := by decide) (hcd : (x == ("__classdict__" : Str)) = false := by decide) : DE K mg X ES (.Name x pos) (ah i).F := yh i hN hv hd hcd
theorem ai {i : Int} {j : Nat} : DE K mg X ES (.Constant (.int i) j pos) (ao i).F := Bg
theorem dD {i : Bool} {j : Nat} : DE K mg X ES (.Constant (.bool i) j pos) (pBl i).F := C2
theorem cz {i : Str} {j : Nat} : DE K mg X ES (.Constant (.str i) j pos) (c8 i).F := yN
theorem gQ {x : Str} {n : String} (hg : Gl X x) (hm : mg x = none) (hv : bootBuiltins x = some (.type n)) (he : X.mg = mg := by rfl) (hn : x ≠ "__name__" := by decide) (hd : (x == ("__debug__" : Str)) = false := by decide) : DE K mg X ES (.Name x pos) (pTy n).F := DB hg hm hv he hn hd
theorem ax {op : Operator} {r' : R2} {k : PO2} (ho : OpR X (binaryOp op) r') (hd : OpD K mg r' k.F) (ha : DE K mg X ES a p.F) (hb : DE K mg X ES b q.F) : DE K mg X ES (.BinOp a op b pos) (pOp k p q).F := CT ho hd ha hb
theorem a9 {r' : R2} {k : PO2} (hr : IxR X r') (hd : OpD K mg r' k.F) (ha : DE K mg X ES a p.F) (hb : DE K mg X ES b q.F) (hs : kO b) : DE K mg X ES (.Subscript a b pos) (pOp k p q).F := C1 hr hd ha hb hs
theorem iu {op : CmpOp} {r' : R2} {k : PO2} (ho : OpR X (compareOp op) r') (hd : OpD K mg r' k.F) (ha : DE K mg X ES a p.F) (hb : DE K mg X ES b q.F) (hm : behindInMarks op b = false) : DE K mg X ES (.Compare a [op] [b] pos) (pOp k p q).F := Br ho hd ha hb hm
theorem aY {op : CmpOp} {r' : R2} {k : PO2} (ho : OpR X (compareOp op) r') (hd : OpD K mg r' k.F) (ha : DE K mg X ES a p.F) (hb : DE K mg X ES b q.F) (hm : behindInMarks op b = false) : DT K mg X ES (.Compare a [op] [b] pos) (qOf (pOp k p q)).F := An ho hd ha hb hm
theorem er (ha : DE K mg X ES a p.F) (he : ∀ whole, isTrue a X.env whole = (do let v <- whole; standAt a.pos; holding [v] (truthy v)) := by intro _; rfl) : DT K mg X ES a (qOf p).F := zU ha he
theorem eQ (ha : DT K mg X ES a t.F) : DT K mg X ES (.UnaryOp .Not a pos) (qNo t).F := yi ha
theorem wO (ha : DT K mg X ES a t.F) : DW K mg X ES (.BoolOp .And [a] pos) t.F := wg ha
theorem kd (ha : DT K mg X ES a t.F) : DW K mg X ES (.BoolOp .Or [a] pos) t.F := yZ ha
theorem AG (ha : DT K mg X ES a t.F) (hb : DW K mg X ES (.BoolOp .And (b :: es) pos) u.F) : DW K mg X ES (.BoolOp .And (a :: b :: es) pos) (qAn t u).F := A7 ha hb
theorem jW (ha : DT K mg X ES a t.F) (hb : DW K mg X ES (.BoolOp .Or (b :: es) pos) u.F) : DW K mg X ES (.BoolOp .Or (a :: b :: es) pos) (qO t u).F := CI ha hb
theorem ZW.dt (h : DW K mg X ES a t.F) : DT K mg X ES a t.F := DW.dt h
theorem jQ {op} (h : DE K mg X ES a p.F) : DE K mg X ES (.BoolOp op [a] pos) p.F := zd h
theorem mS (ha : DE K mg X ES a p.F) (hb : DE K mg X ES (.BoolOp .And (b :: es) pos) q.F) : DE K mg X ES (.BoolOp .And (a :: b :: es) pos) (mi p q).F := BA ha hb
theorem vD (ha : DE K mg X ES a p.F) (hb : DE K mg X ES (.BoolOp .Or (b :: es) pos) q.F) : DE K mg X ES (.BoolOp .Or (a :: b :: es) pos) (pOr p q).F := BY ha hb
theorem rG (ha : DE K mg X ES a p.F) : DE K mg X ES (.UnaryOp .Not a pos) (ky p).F := y0 ha
theorem vp {op : UnaryOp} {r' : V -> Hp -> VK -> Prop} {k : PU1} (ho : UnR X (unaryOp op) r') (hd : UnD K mg r' k.F) (ha : DE K mg X ES a p.F) : DE K mg X ES (.UnaryOp op a pos) (pUn k p).F := B7 ho hd ha
theorem aj : DA K mg X ES [] aq.F := zO
theorem af (ha : DE K mg X ES e p.F) (hr : DA K mg X ES es A.F) (hs : starEach (e :: es) X.env = (false, eval e X.env) :: starEach es X.env := by rfl) : DA K mg X ES (e :: es) (ag p A).F := xf ha hr hs
theorem iq {x1} (h : DA K mg X ES es A.F) : DE K mg X ES (.Tuple es x1 pos) (jG A).F := yO h
theorem rN (h : DA K mg X ES es A.F) : DE K mg X ES (.List es pos) (qt A).F := zS h
theorem aP {id : String} {r' : List V -> Hp -> VK -> Prop} {k : PBf} {x : Str} {p0 : Pos} (hc : CallR X (.builtin id) r') (hd : cw K mg r' k.F) (hg : Gl X x) (hm : mg x = none) (hv : bootBuiltins x = some (.builtin id)) (ha : DA K mg X ES (e :: es) A.F) (hk : X.mg = mg := by rfl) (hn : x ≠ "__name__" := by decide) (hdb : (x == ("__debug__" : Str)) = false := by decide) (he : starEach (e :: es) X.env = (false, eval e X.env) :: starEach es X.env := by rfl) (hpl : (backTo pos (starEach es X.env)).any (·.1) = false := by rfl) : DE K mg X ES (.Call (.Name x p0) (e :: es) [] pos) (pFn k A).F := tT hc hd hg hm hv ha hk hn hdb he hpl
theorem fj {id : String} {r' : List V -> Hp -> VK -> Prop} {k : PBf} {x : Str} {p0 : Pos} (hc : CallR X (.type id) r') (hd : cw K mg r' k.F) (hg : Gl X x) (hm : mg x = none) (hv : bootBuiltins x = some (.type id)) (ha : DA K mg X ES (e :: es) A.F) (hk : X.mg = mg := by rfl) (hn : x ≠ "__name__" := by decide) (hdb : (x == ("__debug__" : Str)) = false := by decide) (he : starEach (e :: es) X.env = (false, eval e X.env) :: starEach es X.env := by rfl) (hpl : (backTo pos (starEach es X.env)).any (·.1) = false := by rfl) : DE K mg X ES (.Call (.Name x p0) (e :: es) [] pos) (pFn k A).F := so hc hd hg hm hv ha hk hn hdb he hpl
theorem av {f : PFn} {x : Str} {p0 : Pos} {k n : Nat} {ps : List Str} (C : Callee X.prog X.w X.K X.mg X.base x k ps (spD K mg n f.F)) (hr : Room k X.A) (hg : Gl X x) (hx : j9 X ES) (ha : DA K mg X ES (e :: es) A.F) (hn : f.ms.length = n := by rfl) (hdb : (x == ("__debug__" : Str)) = false := by decide) (he : starEach (e :: es) X.env = (false, eval e X.env) :: starEach es X.env := by rfl) (hpl : (backTo pos (starEach es X.env)).any (·.1) = false := by rfl) : DE K mg X ES (.Call (.Name x p0) (e :: es) [] pos) (az f A).F := by
 subst hn
 exact tH C hr hg hx ha hdb he hpl
theorem aN : DSs K mg X ES [] xNx.F := wW
theorem aw (h1 : DS K mg X ES st x.F) : DSs K mg X ES [st] x.F := vY h1
theorem ak (h1 : DS K mg X ES st x.F) (h2 : DSs K mg X ES sts y.F) : DSs K mg X ES (st :: sts) (ay x y).F := tj h1 h2
theorem aF (he : DE K mg X ES e p.F) : DS K mg X ES (.Return (some e) pos) (aQ p).F := zj he
theorem kU (he : DE K mg X ES e p.F) (hs : swapsWith e none pos.line X.env = pure false := by rfl) : DS K mg X ES (.Expr e pos) (iM p).F := xb he hs
theorem br (hc : DT K mg X ES c t.F) (ha : DSs K mg X ES sts x.F) (hb : DSs K mg X ES sts' y.F) : DS K mg X ES (.If c sts sts' pos) (xIf t x y).F := DP hc ha hb
theorem aU {i : Nat} {x : Str} (hN : X.N.Nodup) (hi : X.N[i]? = some x) (hx : Loc X.env.scope x) (hf : X.fn x = true \/ X.env.scope.names.lookup x = some .local := by first | exact .inl rfl | exact .inr rfl | assumption) : DG K mg X ES (.Name x pos) (gtN i).F := wt hN hi hx hf
theorem fY : DGs K mg X ES [] eI.F := v9
theorem cA (h1 : DG K mg X (fun _ => E0) e g.F) (h2 : DGs K mg X (fun _ => E0) es gs.F) (hs : (assignEach (e :: es) X.env).map (·.2) = assign e X.env :: (assignEach es X.env).map (·.2) := by rfl) : DGs K mg X (fun _ => E0) (e :: es) (cb g gs).F := sR h1 h2 hs
theorem jV {k n : Nat} (hK : X.K = K) (hc : X.calm = true) (h : DGs K mg X (fun _ => E0) es gs.F) (hn : (assignEach es X.env).length = n := by rfl) (hst : (assignEach es X.env).findIdx? (·.1) = none := by rfl) : DG K mg X (fun _ => E0) (.Tuple es k pos) (gtT n gs).F := yF hK hc h hn hst
theorem ZG.weak (hg : DG K mg X (fun _ => E0) e g.F) : DG K mg X ES e (gtX g).F := DG.weak hg
theorem oO (he : DE K mg X ES e p.F) (hg : DG K mg X ES a g.F) (hs : swapsWithSole [a] e pos.line X.env = pure false := by rfl) (hw : swappedStores [a] e X.env = pure none := by rfl) (h1 : (assignEach [a] X.env).map (·.2) = [assign a X.env] := by rfl) : DS K mg X ES (.Assign [a] e pos) (lZ p g).F := mT he hg hs hw h1
theorem fR {j : Nat} {w : PSe} {r' : jB} {p1 : Pos} (he : DE K mg X ES e p.F) (ho : DE K mg X ES o (ah j).F) (hi : DE K mg X ES i q.F) (hs' : nL X r') (hd : nI K mg r' w.F) (hs : swapsWithSole [.Subscript o i p1] e pos.line X.env = pure false := by rfl) (hw : swappedStores [.Subscript o i p1] e X.env = pure none := by rfl) (h1 : (assignEach [.Subscript o i p1] X.env).map (·.2) = [assign (.Subscript o i p1) X.env] := by rfl)
  (ha : ∀ v, assign (.Subscript o i p1) X.env v = (do
   let ov <- holding [v] (eval o X.env)
   let iv <- holding [v, ov] (eval i X.env)
   standAt p1
   holding [v, ov, iv] (setItem ov iv v)
   release [v, ov, iv] []) := by intro _; rfl) : DS K mg X ES (.Assign [.Subscript o i p1] e pos) (eW j w q p).F := mT he (ze ho hi hs' hd ha) hs hw h1
theorem bc {ow : Bool} {i : Nat} {x : Str} {pos' : Pos} (hN : X.N.Nodup) (hi : X.N[i]? = some x) (hx : Loc X.env.scope x) (he : DE K mg X ES e p.F) (hs : swapsWith e (some (.Name x pos')) pos.line X.env = pure false := by rfl) (hf : X.fn x = true \/ X.env.scope.names.lookup x = some .local := by first | exact .inl rfl | exact .inr rfl | assumption) : DS K mg X ES (.Assign [.Name x pos'] e pos) (ba ow i p).F := AO hN hi hx he hs hf
theorem e8 {i j : Nat} {x y : Str} {px py pt : Pos} {kt k2 pt2} (hc : X.calm = true) (hN : X.N.Nodup) (hi : X.N[i]? = some x) (hj : X.N[j]? = some y) (hij : i ≠ j) (hx : X.env.scope.names.lookup x = some .local) (hy : X.env.scope.names.lookup y = some .local) (ha : DA K mg X ES [a, b] A.F) (hw : swappedStores [.Tuple [.Name x px, .Name y py] kt pt] (.Tuple [a, b] k2 pt2) X.env = pure (some [x, y])) (hs : swapsWithSole [.Tuple [.Name x px, .Name y py] kt pt] (.Tuple [a, b] k2 pt2) pos.line X.env = pure false := by rfl) : DS K mg X ES (.Assign [.Tuple [.Name x px, .Name y py] kt pt] (.Tuple [a, b] k2 pt2) pos) (hZ i j A).F := zC hc hN hi hj hij hx hy ha hw hs
theorem jn {x : Str} {C : Addr} {E : XK} {np cpos : Pos} (hc : X.calm = true) (hR : Rz X E) (hg : Gl X x) (hm : mg x = some (.ref C)) (hq : PySem.W.excIn X.K C gE "ValueError.__new__" = true) (ha : DA K mg X (fun _ => E) (e :: es) A.F) (hk : X.mg = mg := by rfl) (he : starEach (e :: es) X.env = (false, eval e X.env) :: starEach es X.env := by rfl) (hplain : (backTo cpos (starEach es X.env)).any (·.1) = false := by rfl) (hd : (x == ("__debug__" : Str)) = false := by decide) : DS K mg X (fun _ => E) (.Raise (some (.Call (.Name x np) (e :: es) [] cpos)) none pos) (ir x A).F := uD hc hR hg hm hq ha hk he hplain hd
theorem ek (hK : X.K = K) (he : DE K mg X ES e p.F) : DI K mg X ES tg e (df p).F := zR hK he
theorem fc {p0 : Pos} (hg : Gl X "range") (hm : mg "range" = none) (ha : DA K mg X ES [a] A.F) (hk : X.mg = mg := by rfl) (hs : starEach [a] X.env = [(false, eval a X.env)] := by rfl) : DI K mg X ES tg (.Call (.Name "range" p0) [a] [] pos) (iW A).F := rm hg hm ha hk hs
theorem Aa {elts : List Expr} {x1 : Nat} {tp p0 : Pos} (hK : X.K = K) (hg : Gl X "zip") (hm : mg "zip" = none) (ha : DA K mg X ES [a, b] A.F) (hk : X.mg = mg := by rfl) (hs : starEach [a, b] X.env = [(false, eval a X.env), (false, eval b X.env)] := by rfl) (hs2 : starEach [b] X.env = [(false, eval b X.env)] := by rfl) : DI K mg X ES (.Tuple elts x1 tp) (.Call (.Name "zip" p0) [a, b] [] pos) (lW A).F := zq hK hg hm ha hk hs hs2
theorem fW (hp : PassesOwn (model X.prog X.w) X.A X.env X.xe) (hc : X.calm = true) (hi : DI K mg X ES tg iter I.F) (hg : DG K mg X ES tg g.F) (hb : DSs K mg X ES sts x.F) (hs : ∀ x, foldedSetIterable iter X.env x = pure x := by intro _; rfl) : DS K mg X ES (.For tg iter sts [] pos) (gm I g x).F := A1 hp hc hi hg hb hs
theorem jz (hp : PassesOwn (model X.prog X.w) X.A X.env X.xe) (hc : DT K mg X ES c t.F) (hb : DSs K mg X ES sts x.F) : DS K mg X ES (.While c sts [] pos) (xWh t x).F := sU hp hc hb
theorem ma {scope : Scope} (M : List Str) (kn : List (Str × NameKind)) (N : List Str) (sub : List (Option Nat)) {hsb : (sub.filterMap id).Nodup} (hc : X.calm = true) (hi : DI K mg X ES tg iter I.F) (hg : ∀ cl C s₂ H fp, DG K mg (aZ X N scope cl C s₂ H fp) (fun _ => E0) tg g.F) (he : ∀ cl C s₂ H fp, DE K mg (aZ X N scope cl C s₂ H fp) (fun _ => E0) elt p.F) (hM : X.N = M := by rfl) (hkn : X.env.scope.names = kn := by rfl) (hsub : fo M scope.names sub N = true := by decide +kernel) (hk : scope.kind = .function := by rfl) (hnc : ∀ x ∈ scope.names, x.2 ≠ .cell := by decide +kernel) (hnames : ∀ x ∈ scope.names, x.2 = .local -> scope.names.lookup x.1 = some .local := by decide +kernel) (hfr : il kn scope.names = true := by decide +kernel) (hsl : sub.length = N.length := by rfl) (hs : ∀ x, foldedSetIterable iter X.env x = pure x := by intro _; rfl) : DE K mg X ES (.ListComp elt [⟨tg, iter, [], 0⟩] scope pos) (pLC I sub hsb g qY p).F := CU M kn N sub hc hi hg he hM hkn hsub hk hnc hnames hfr hsl hs
theorem qz {ow : Bool} {px spos : Pos} {iT : Nat} {xT : Str} {scope : Scope} (M : List Str) (kn : List (Str × NameKind)) (N : List Str) (sub : List (Option Nat)) {hsb : (sub.filterMap id).Nodup} (hc : X.calm = true) (hN : X.N.Nodup) (hix : X.N[iT]? = some xT) (hxl : Loc X.env.scope xT) (hi : DI K mg X ES tg iter I.F) (hg : ∀ cl C s₂ H fp, DG K mg (aZ X N scope cl C s₂ H fp) (fun _ => E0) tg g.F) (he : ∀ cl C s₂ H fp, DE K mg (aZ X N scope cl C s₂ H fp) (fun _ => E0) elt p.F) (hsw : swapsWith (.ListComp elt [⟨tg, iter, [], 0⟩] scope pos) (some (.Name xT px)) spos.line X.env = pure true := by rfl) (hM : X.N = M := by rfl) (hkn : X.env.scope.names = kn := by rfl) (hsub : fo M scope.names sub N = true := by decide +kernel) (hk : scope.kind = .function := by rfl) (hnc : ∀ x ∈ scope.names, x.2 ≠ .cell := by decide +kernel) (hnames : ∀ x ∈ scope.names, x.2 = .local -> scope.names.lookup x.1 = some .local := by decide +kernel) (hfr : il kn scope.names = true := by decide +kernel) (hsl : sub.length = N.length := by rfl) (hs : ∀ x, foldedSetIterable iter X.env x = pure x := by intro _; rfl) (hf : X.fn xT = true \/ X.env.scope.names.lookup xT = some .local := by first | exact .inl rfl | exact .inr rfl | assumption) : DS K mg X ES (.Assign [.Name xT px] (.ListComp elt [⟨tg, iter, [], 0⟩] scope pos) spos) (ba ow iT (pLC I sub hsb g qY p)).F := DY M kn N sub hc hN hix hxl hi hg he hsw hM hkn hsub hk hnc hnames hfr hsl hs hf
theorem rH {j : Nat} {name : Str} {id : String} {apos cpos : Pos} {r' : V -> List V -> Hp -> VK -> Prop} {k : PMm} (hK : X.K = K) (slot : Slot "list" name id) (hty : typeOf (.builtin id) = pure (.type "method_descriptor")) (hm : MtM X id r') (hd : MtD K mg r' k.F) (ho : DE K mg X ES o (ah j).F) (ha : DA K mg X ES (e :: es) A.F) (hbase : attributeBase o name X.env (eval o X.env) = eval o X.env := by rfl) (hfew : ((backTo cpos (starEach (e :: es) X.env)).all (fun x => !x.1) && (backToKw cpos (keywordEach [] X.env)).all (fun x => x.1.isSome) && decide ((e :: es).length + ([] : List Keyword).length + (if ([] : List Keyword).isEmpty then 0 else 1) < 30)) = true := by rfl) (hline : (apos.endLine == cpos.line) = true := by rfl) (hs : starEach (e :: es) X.env = (false, eval e X.env) :: starEach es X.env := by rfl) (hplain : (backTo cpos (starEach es X.env)).any (·.1) = false := by rfl) : DE K mg X ES (.Call (.Attribute o name apos) (e :: es) [] cpos) (mI j k A).F := de_m hK slot hty hm hd ho ha hbase hfew hline hs hplain
theorem wI : DO K mg X ES none oN.F := xB
theorem xE (he : DE K mg X ES e p.F) : DO K mg X ES (some e) (oS p).F := wC he
theorem tK {l u : POp} {lo hi : Option Expr} {p2 : Pos} (hK : X.K = K) (he : DE K mg X ES e p.F) (hl : DO K mg X ES lo l.F) (hu : DO K mg X ES hi u.F) : DE K mg X ES (.Subscript e (.Slice lo hi none p2) pos) (pSl p l u).F := uY hK he hl hu
theorem bM : OpD K mg (fun x y H Q => rI0 (fun i j => .int (i + j)) x y H Q \/ (kS x y H Q \/ (iX K x y H Q \/ iL K x y H Q))) cM.F := yx
theorem qX : OpD K mg (rI0 fun i j => .int (i - j)) o7.F := ye
theorem bu : OpD K mg (rI CMulA fun i j => .int (i * j)) aT.F := AY
theorem de : OpD K mg (rI CDivB fun i j => .int (i.fdiv j)) cL.F := AZ
theorem cF : OpD K mg (rI (fun _ j => j ≠ 0) fun i j => .int (i.fmod j)) bO.F := yo
theorem rP : OpD K mg (rI kI fun i j => .int (i ^ j.toNat)) kR.F := Aj
theorem lT : OpD K mg (rI0 fun i j => .bl (decide (i < j))) bLt.F := BW
theorem iU : OpD K mg (rI0 fun i j => .bl (decide (j < i))) bGt.F := DR
theorem vt : OpD K mg (rI0 fun i j => .bl (decide (j <= i))) bGe.F := C4
theorem a8 : OpD K mg (fun x y H Q => pH K x y H Q \/ pz K x y H Q) bIx.F := Ag
theorem g0 : OpD K mg (pj K) bEq.F := zK
theorem eN : OpD K mg (pJ K) bNe.F := Av
theorem eV : cw K mg (fun xs H Q => (∃ p ys, xs = [.ref p] /\ (SqL K H p ys \/ SqT K H p ys) /\ Q (.int ys.length) H) \/ (∃ z, xs = [.str z] /\ z.length <= sizeLine /\ Q (.int z.length) H)) ee.F := AW
theorem nM : cw K mg (fun xs H Q => ∃ i, xs = [.int i] /\ Q (.int (if i < 0 then -i else i)) H) jM.F := z8
theorem yV : cw K mg (fun xs H Q => ∃ (a : Addr) (bs : List Bool), xs = [.ref a] /\ SqL K H a (bs.map V.bl) /\ Q (.bl (bs.all id)) H) qp.F := Ax
theorem iK : cw K mg (fun xs H Q => ∃ p ys, xs = [.ref p] /\ (SqL K H p ys \/ SqT K H p ys) /\ ∀ l, H l = none -> Q (.ref l) (upd H l (.lst ys))) dI.F := xt
theorem eZ {kt : dF} (ok : KitsOk K mg kt) : cw K mg (fun xs H Q => (∃ x c t v b, xs = [x, c] /\ TyX K H x t /\ dB c = some v /\ PySem.W.kitOne K t v = some b /\ Q (.bl b) H) \/
  (∃ x tp cs t vs b, xs = [x, .ref tp] /\ SqT K H tp cs /\ TyX K H x t /\ cs.mapM dB = some vs /\ PySem.W.kitAny K t vs = some b /\ Q (.bl b) H)) (cn kt).F := AI ok
theorem lK : MtD K mg kT fb.F := rn
theorem oU : nI K mg pR seL.F := wZ
theorem qN : UnD K mg (rU fun i => .int (-i)) pK.F := yt
variable {P : Program} {w : World} {base : Heap} {fx : Str} {fst : Stmt} {k n m : Nat} {ps N : List Str} {ms : List Bool}
theorem okP (D : Def K mg fx fst) (S : FnScope N ps (au fst))
  (hb : ∀ (kV doc pm : Value) (an : Option Addr) (cdv ct : Value) (us : List Value), us.length = ps.length -> bindArgs (PySem.W.fnOf fx fx (cX fst) (bR fst) (au fst) .none kV doc pm an cdv ct) ⟨us, []⟩ = pure (ps.zip us))
  (hbody : ∀ (f : Addr) (cdv : Value) (A : Around) (outer : List Env) (s : Shared) (H : Hp) (E : XK), Room k (A.deeper (envOfC fx (au fst) s.heap.objs.size f cdv)) ->
   DSs K mg (dm (CX1 P w) P w K mg base N fx (au fst) f cdv A outer s H E) (fun _ => E) (bR fst) x.F) (hn : ps.length = n := by rfl) (hm : N.length = m := by rfl) : Callee P w K mg base fx (k + 1) ps (spD K mg n (fnP ms m x).F) := by
 subst hn hm
 exact D.okD S hb hbody
end
end L3
set_option Elab.async false
set_option linter.all false
set_option maxRecDepth 100000
namespace L3
open PySem PySem.Spec PyProof.Rows L2
theorem Bu (b : Bool) (ms : List Bool) (v : Val) (vs : List Val) : sls (b :: ms) (v :: vs) = sl1 b v :: sls ms vs := rfl
theorem yd : sls [] [] = [] := rfl
theorem Dq (v : Val) : sl1 true v = .mu v := rfl
theorem C9 (v : Val) : sl1 false v = .sh v := rfl
section
variable (e : E3)
theorem xS : okA e [] [] = true := rfl
theorem yK (i : Nat) (ms : List Bool) (ts : List Tm) : okA e (true :: ms) (.bor i :: ts) = (((e[i]?).bind Sl.mv).isSome && !(fC i ts) && okA e ms ts) := rfl
theorem AS (i : Nat) (ms : List Bool) (ts : List Tm) : okA e (false :: ms) (.bor i :: ts) = (!(iD i ms ts) && okA e ms ts) := rfl
theorem Bb (v : Val) (ms : List Bool) (ts : List Tm) : okA e (false :: ms) (.val v :: ts) = okA e ms ts := rfl
theorem uC (i : Nat) : fC i [] = false := rfl
theorem Ac (i : Nat) (v : Val) (ts : List Tm) : fC i (.val v :: ts) = fC i ts := rfl
theorem sW (i : Nat) : iD i [] [] = false := rfl
theorem rf : aS e [] [] = [] := rfl
theorem wY (i : Nat) (ms : List Bool) (ts : List Tm) : aS e (false :: ms) (.bor i :: ts) = match e[i]? with
  | some (.sh _) => aS e ms ts
  | _ => i :: aS e ms ts := rfl
theorem xK (v : Val) (ms : List Bool) (ts : List Tm) : aS e (false :: ms) (.val v :: ts) = aS e ms ts := rfl
theorem A5 (t : Tm) (ms : List Bool) (ts : List Tm) : aS e (true :: ms) (t :: ts) = aS e ms ts := by cases t <;> rfl
end
theorem qK : bJ [] [] = [] := rfl
theorem wU (b : Bool) (t : Tm) (ms : List Bool) (ts : List Tm) : bJ (b :: ms) (t :: ts) = kX b t :: bJ ms ts := rfl
theorem xX (i : Nat) : kX true (.bor i) = some i := rfl
theorem zV (t : Tm) : kX false t = none := by cases t <;> rfl
theorem uH (e : E3) : bf [] [] e = e := rfl
theorem yj (o : Option Nat) (sub : List (Option Nat)) (s : Sl) (i e : E3) : bf (o :: sub) (s :: i) e = bf sub i (d7 o s e) := rfl
theorem xI (i : Nat) (v : Val) (e : E3) : d7 (some i) (.mu v) e = match e[i]? with
  | some t => e.set i (t.re v)
  | none => e := rfl
theorem Af (s : Sl) (e : E3) : d7 none s e = e := rfl
theorem uW (vs : List Val) : aH [] vs = [] := rfl
theorem yB (ms : List Bool) (v : Val) (vs : List Val) : aH (true :: ms) (v :: vs) = .mu v :: aH ms vs := rfl
theorem Ah (ms : List Bool) (vs : List Val) : aH (false :: ms) vs = .no :: aH ms vs := by cases vs <;> rfl
theorem wx (e : E3) : muV [] e = some [] := by cases e <;> rfl
theorem DD (ms : List Bool) (v : Val) (e : E3) : muV (true :: ms) (.mu v :: e) = (muV ms e).map (v :: ·) := rfl
theorem C5 (ms : List Bool) (s : Sl) (e : E3) : muV (false :: ms) (s :: e) = muV ms e := by cases s <;> rfl
theorem sj (v : Val) : iV (.val v) = cC v := rfl
theorem rK (v : Val) : iV (.new v) = cH v := rfl
theorem rC (xs : List Val) : cH (.lst xs) = bY xs := rfl
theorem qw : bY [] = true := by simp [bY]
theorem nV (v : Val) (vs : List Val) : bY (v :: vs) = (cC v && bY vs) := by simp [bY]
theorem lj (i : Int) : cC (.int i) = true := by simp [cC]
theorem tE (i : Bool) : cC (.bl i) = true := by simp [cC]
theorem rR : cC .non = true := by simp [cC]
theorem kc {α : Type} (f : α -> Val) (hf : ∀ a, cC (f a) = true) : ∀ l : List α, bY (l.map f) = true
 | [] => qw
 | a :: l => by rw [List.map_cons, nV, hf a, kc f hf l]; rfl
theorem fk {α : Type} {l : List α} {i : Int} {x : α} (h0 : 0 <= i) (h : l[i.toNat]? = some x) : atI l i = some x := by
 have hl := (List.getElem?_eq_some_iff.mp h).1
 unfold atI ixN
 rw [if_pos h0, if_pos (by omega)]
 exact h
theorem zo {n : Nat} {i : Int} (h0 : 0 <= i) (h : i.toNat < n) : ixN n i = some i.toNat := by
 unfold ixN
 rw [if_pos h0, if_pos (by omega)]
section
variable {α : Type} (a b c d e f g h : α) (l : List α)
theorem ati0 : atI (a :: l) 0 = some a := fk (by decide) rfl
theorem ati1 : atI (a :: b :: l) 1 = some b := fk (by decide) rfl
theorem ati2 : atI (a :: b :: c :: l) 2 = some c := fk (by decide) rfl
theorem ati3 : atI (a :: b :: c :: d :: l) 3 = some d := fk (by decide) rfl
end
theorem Dt (xs : List Val) (k : Int) (v : Val) : seL.G (.lst xs) (.int k) v = match ixN xs.length k with
  | some j => some (.lst (xs.set j v))
  | none => none := rfl
end L3
set_option Elab.async false
set_option linter.all false
set_option maxRecDepth 100000
namespace L3
open PySem PySem.Spec PyProof.Rows L2
mutual
noncomputable def vq : Val -> Val -> Bool
 | .non, .non => true
 | .bl a, .bl b => a == b
 | .bl a, .int j => (if a then 1 else 0) == j
 | .int i, .bl b => i == (if b then 1 else 0)
 | .int i, .int j => i == j
 | .str x, .str y => x == y
 | .tup xs, .tup ys => vqs xs ys
 | .lst xs, .lst ys => vqs xs ys
 | _, _ => false
noncomputable def vqs : List Val -> List Val -> Bool
 | [], [] => true
 | x :: xs, y :: ys => vq x y && vqs xs ys
 | _, _ => false
end
mutual
noncomputable def wfV : Nat -> Val -> Bool
 | _, .non => true
 | _, .bl _ => true
 | _, .int _ => true
 | _, .str x => PyData.strOk x
 | k + 1, .tup xs => cN k xs
 | k + 1, .lst xs => cN k xs
 | _, _ => false
noncomputable def cN : Nat -> List Val -> Bool
 | _, [] => true
 | k, x :: xs => wfV k x && cN k xs
end
mutual
noncomputable def eD : Val -> PyData
 | .bl b => .bool b
 | .int i => .int i
 | .str x => .str x
 | .tup xs => .tuple (cU xs)
 | .lst xs => .list (cU xs)
 | _ => .none
noncomputable def cU : List Val -> List PyData
 | [] => []
 | x :: xs => eD x :: cU xs
end
mutual
theorem kg : ∀ (k : Nat) (v : Val), wfV k v = true -> (∀ j, k < j -> cD j v = some (eD v)) /\ (eD v).canLay0 = true /\ (eD v).depth <= k
 | k, .non, _ => ⟨fun j hj => by cases j with | zero => exact absurd hj (Nat.not_lt_zero _) | succ j => rfl, rfl, Nat.zero_le _⟩
 | k, .bl b, _ => ⟨fun j hj => by cases j with | zero => exact absurd hj (Nat.not_lt_zero _) | succ j => rfl, rfl, Nat.zero_le _⟩
 | k, .int b, _ => ⟨fun j hj => by cases j with | zero => exact absurd hj (Nat.not_lt_zero _) | succ j => rfl, rfl, Nat.zero_le _⟩
 | k, .str b, w => ⟨fun j hj => by cases j with | zero => exact absurd hj (Nat.not_lt_zero _) | succ j => rfl, by cases k <;> exact w, Nat.zero_le _⟩
 | 0, .tup xs, w => absurd w Bool.false_ne_true
 | 0, .lst xs, w => absurd w Bool.false_ne_true
 |
  k + 1, .tup xs, w => by
  obtain ⟨h1, h2, h3⟩ := ji k xs w
  exact ⟨fun j hj => by cases j with | zero => exact absurd hj (Nat.not_lt_zero _) | succ j => simp only [cD, eD, h1 j (Nat.lt_of_succ_lt_succ hj), Option.map_some], h2, by simpa [eD, PyData.depth] using h3⟩
 |
  k + 1, .lst xs, w => by
  obtain ⟨h1, h2, h3⟩ := ji k xs w
  exact ⟨fun j hj => by cases j with | zero => exact absurd hj (Nat.not_lt_zero _) | succ j => simp only [cD, eD, h1 j (Nat.lt_of_succ_lt_succ hj), Option.map_some], h2, by simpa [eD, PyData.depth] using h3⟩
 | k, .ty _, w => by cases k <;> exact absurd w Bool.false_ne_true
 | k, .glb _, w => by cases k <;> exact absurd w Bool.false_ne_true
 | k, .exc _, w => by cases k <;> exact absurd w Bool.false_ne_true
 | k, .kl _, w => by cases k <;> exact absurd w Bool.false_ne_true
 | k, .dct _, w => by cases k <;> exact absurd w Bool.false_ne_true
 | k, .set _, w => by cases k <;> exact absurd w Bool.false_ne_true
theorem ji : ∀ (k : Nat) (vs : List Val), cN k vs = true -> (∀ j, k < j -> dc j vs = some (cU vs)) /\ PyData.canLayAll0 (cU vs) = true /\ PyData.depthAll (cU vs) <= k
 | k, [], _ => ⟨fun j hj => by simp [dc, cU], rfl, Nat.zero_le _⟩
 |
  k, v :: vs, w => by
  have w' : (wfV k v && cN k vs) = true := w
  rw [Bool.and_eq_true] at w'
  obtain ⟨h1, h2, h3⟩ := kg k v w'.1
  obtain ⟨i1, i2, i3⟩ := ji k vs w'.2
  exact ⟨fun j hj => by simp [dc, cU, h1 j hj, i1 j hj], by simp [cU, PyData.canLayAll0, h2, i2], Nat.max_le.mpr ⟨h3, i3⟩⟩
end
mutual
theorem qW : ∀ (k : Nat) (v u : Val), wfV k v = true -> wfV k u = true -> PyData.eqv (eD v) (eD u) = vq v u
 |
  k, v, u, hv, hu => by
  cases v <;> first | (cases k <;> exact absurd hv Bool.false_ne_true) | skip
  all_goals (cases u <;> first | (cases k <;> exact absurd hu Bool.false_ne_true) | rfl | (cases k with | zero => exact absurd hv Bool.false_ne_true | succ k => exact oQ k _ _ hv hu))
theorem oQ : ∀ (k : Nat) (v u : List Val), cN k v = true -> cN k u = true -> PyData.eqvAll (cU v) (cU u) = vqs v u
 | _, [], [], _, _ => rfl
 | _, [], _ :: _, _, _ => rfl
 | _, _ :: _, [], _, _ => rfl
 |
  k, x :: xs, y :: ys, hv, hu => by
  have h1 : (wfV k x && cN k xs) = true := hv
  have h2 : (wfV k y && cN k ys) = true := hu
  rw [Bool.and_eq_true] at h1 h2
  show (PyData.eqv (eD x) (eD y) && PyData.eqvAll (cU xs) (cU ys)) = (vq x y && vqs xs ys)
  rw [qW k x y h1.1 h2.1, oQ k xs ys h1.2 h2.2]
end
theorem vN {x y : Val} (hx : wfV 60 x = true) (hy : wfV 60 y = true) : eG x y = some (vq x y) := by
 obtain ⟨h1, h2, h3⟩ := kg 60 x hx
 obtain ⟨i1, i2, i3⟩ := kg 60 y hy
 unfold eG
 rw [h1 64 (by omega), i1 64 (by omega)]
 dsimp only
 rw [if_pos ⟨lg h2 (by omega), lg i2 (by omega)⟩, qW 60 x y hx hy]
mutual
theorem kz : ∀ (k : Nat) (v : Val), wfV k v = true -> vq v v = true
 |
  k, v, hv => by
  cases v <;> first | (cases k <;> exact absurd hv Bool.false_ne_true) | rfl | exact beq_self_eq_true _ | (cases k with | zero => exact absurd hv Bool.false_ne_true | succ k => exact mx k _ hv)
theorem mx : ∀ (k : Nat) (v : List Val), cN k v = true -> vqs v v = true
 | _, [], _ => rfl
 |
  k, x :: xs, hv => by
  have h1 : (wfV k x && cN k xs) = true := hv
  rw [Bool.and_eq_true] at h1
  show (vq x x && vqs xs xs) = true
  rw [kz k x h1.1, mx k xs h1.2]
  rfl
end
noncomputable def fV (q : Rat) : Val := .tup [.int q.num, .int q.den]
structure Bx where
 l : Rat
 t : Rat
 w : Rat
 h : Rat
structure Bx.Ok (b : Bx) : Prop where
 w : 0 < b.w
 h : 0 < b.h
structure Bx.Sz (n : Nat) (b : Bx) : Prop where
 l : L2.Sz n b.l
 t : L2.Sz n b.t
 w : L2.Sz n b.w
 h : L2.Sz n b.h
noncomputable def bV (b : Bx) : Val := .tup [fV b.l, fV b.t, fV b.w, fV b.h]
theorem DL (q : Rat) (k : Nat) : wfV (k + 1) (fV q) = true := by simp [fV, wfV, cN]
theorem BQ (b : Bx) (k : Nat) : wfV (k + 2) (bV b) = true := by simp [bV, wfV, cN, DL]
noncomputable def knV : Val -> Bool
 | .exc _ => false
 | v => (tyC v).isSome
noncomputable def fK : Nat -> Val -> Bool
 | k + 1, .tup xs => xs.all (fK k)
 | _, v => knV v
noncomputable def ju : Val -> Bool
 | .int _ => true
 | _ => false
noncomputable def aK : Val -> Bool
 | .tup [.int a, .int b] => decide (1 <= b) && decide (Int.gcd a b = 1)
 | _ => false
noncomputable def gz : Val -> Bool
 | .tup (.int a :: _) => decide (0 < a)
 | _ => false
noncomputable def eh : Val -> Bool
 | .tup [a, b, c, d] => aK a && (aK b && (aK c && (aK d && (gz c && gz d))))
 | _ => false
noncomputable def dC : Val -> Bool
 | .tup _ => true
 | _ => false
theorem B2 {a b : Int} (h1 : 1 <= b) (h2 : Int.gcd a b = 1) : Val.tup [.int a, .int b] = fV ((a : Rat) / (b : Rat)) := by
 have hb : b ≠ 0 := by omega
 have h := jR (a := a) hb
 have s := Fr.self (by omega) h2
 unfold fV
 rw [<- h.1, <- h.2, s.1, s.2]
theorem gC (q : Rat) : aK (fV q) = true := by
 show (decide (1 <= (q.den : Int)) && decide (Int.gcd q.num q.den = 1)) = true
 have := q.den_pos
 rw [decide_eq_true (by omega), decide_eq_true (oI q)]; rfl
theorem rj {d : Val} (h : aK d = true) : ∃ q, d = fV q := by
 unfold aK at h
 split at h
 ·simp only [Bool.and_eq_true, decide_eq_true_eq] at h
  exact ⟨_, B2 h.1 h.2⟩
 ·cases h
theorem oD (q : Rat) : gz (fV q) = decide (0 < q) := by
 show decide (0 < q.num) = decide (0 < q)
 rw [decide_eq_decide]
 exact oq
theorem sG {b : Bx} (h : b.Ok) : eh (bV b) = true := by
 show (aK (fV b.l) && (aK (fV b.t) && (aK (fV b.w) && (aK (fV b.h) && (gz (fV b.w) && gz (fV b.h)))))) = true
 rw [gC, gC, gC, gC, oD, oD, decide_eq_true h.w, decide_eq_true h.h]; rfl
theorem zE (b : Bx) : fK 2 (bV b) = true := by simp [bV, fV, fK, knV, tyC]
theorem ox {g : MG3} {F : ME3} {f : Val -> Val} (P : E3 -> Prop) : ∀ (vs acc : List Val) (e : E3), P e -> (∀ v ∈ vs, ∀ e, P e -> ∃ e1 t e2, g v e = some e1 /\ F e1 = .ok t e2 /\ bZ e2 t = some (e2, f v) /\ P e2) -> acc.length + vs.length <= 16777216 -> ∃ e', P e' /\ lcV g cY F vs acc e = .ok (acc ++ vs.map f) e'
 | [], acc, e, hp, _, _ => ⟨e, hp, by simp [lcV]⟩
 |
  v :: vs, acc, e, hp, hf, hl => by
  obtain ⟨e1, t, e2, q1, q2, q3, q4⟩ := hf v (List.mem_cons_self ..) e hp
  obtain ⟨e', p', q5⟩ := ox P vs (acc ++ [f v]) e2 q4 (fun u hu => hf u (List.mem_cons_of_mem _ hu)) (by simp at hl ⊢; omega)
  refine ⟨e', p', ?_⟩
  unfold lcV
  rw [if_pos (by simp at hl; omega), q1]
  simp only [cY, j5, if_true, q2, q3, q5]
  simp
end L3
set_option Elab.async false
set_option linter.all false
set_option maxRecDepth 100000
namespace L3
open PySem PySem.Spec PyProof.Rows L2
noncomputable def rgV (k : Nat) : List Val := (List.range k).map fun j => Val.int (j : Nat)
theorem wH {k : Nat} (h : k < 1000000) : fN [.int (k : Nat)] = some (rgV k) := by
 simp only [fN]
 rw [if_pos (⟨by omega, by omega⟩ : RgB _), Int.toNat_natCast]
 unfold qB rgV
 simp only [Int.zero_add]
theorem kD {i : Int} (h0 : 0 <= i) (h : i < 1000000) : fN [.int i] = some (rgV i.toNat) := by
 have := wH (k := i.toNat) (by omega)
 rwa [show ((i.toNat : Nat) : Int) = i from by omega] at this
theorem ff {g : MG3} {B : MS3} {α σ : Type} (f : α -> Val) (st : σ -> α -> σ) (P : σ -> E3 -> Prop) : ∀ (l : List α) (s : σ) (e : E3), P s e -> (∀ a ∈ l, ∀ s e, P s e -> ∃ e1 e2, g (f a) e = some e1 /\ (B e1 = .nx e2 \/ B e1 = .ct e2) /\ P (st s a) e2) -> ∃ e', P (l.foldl st s) e' /\ dA g B (l.map f) e = .nx e'
 | [], s, e, hp, _ => ⟨e, hp, rfl⟩
 |
  a :: l, s, e, hp, hf => by
  obtain ⟨e1, e2, q1, q2, q3⟩ := hf a (List.mem_cons_self ..) s e hp
  obtain ⟨e', p', q4⟩ := ff f st P l (st s a) e2 q3 fun u hu => hf u (List.mem_cons_of_mem _ hu)
  refine ⟨e', p', ?_⟩
  rw [List.map_cons, eS, q1]
  rcases q2 with q2 | q2 <;> simp only [q2, j3, vM, q4]
theorem d8 {g : MG3} {F : ME3} {α : Type} (fv fw : α -> Val) (P : E3 -> Prop) : ∀ (l : List α) (acc : List Val) (e : E3), P e -> (∀ a ∈ l, ∀ e, P e -> ∃ e1 t e2, g (fv a) e = some e1 /\ F e1 = .ok t e2 /\ bZ e2 t = some (e2, fw a) /\ P e2) -> acc.length + l.length <= 16777216 -> ∃ e', P e' /\ lcV g qY.G F (l.map fv) acc e = .ok (acc ++ l.map fw) e'
 | [], acc, e, hp, _, _ => ⟨e, hp, by simp [lcV]⟩
 |
  v :: vs, acc, e, hp, hf, hl => by
  obtain ⟨e1, t, e2, q1, q2, q3, q4⟩ := hf v (List.mem_cons_self ..) e hp
  obtain ⟨e', p', q5⟩ := d8 fv fw P vs (acc ++ [fw v]) e2 q4 (fun u hu => hf u (List.mem_cons_of_mem _ hu)) (by simp at hl ⊢; omega)
  refine ⟨e', p', ?_⟩
  rw [List.map_cons]
  unfold lcV
  have cy : qY.G = cY := rfl
  rw [cy] at q5 ⊢
  rw [if_pos (by simp at hl; omega), q1]
  simp only [cY, j5, if_true, q2, q3, q5]
  simp
theorem BM (v : Val) : inS (.mu v) = .mu v := rfl
theorem Bk (v : Val) : inS (.sh v) = .sh v := rfl
theorem jq (k : Nat) : ∀ xs : List Val, cN k xs = xs.all (wfV k)
 | [] => by simp [cN]
 | x :: xs => by simp [cN, jq k xs]
theorem xk (i : Nat) (v : Val) (e : E3) : d7 (some i) (.sh v) e = e := rfl
theorem bF {Q : SR3 -> Prop} (I : E3 -> Prop) {a b : PSt} {e : E3} (h1 : ∃ e1, a.G e = .nx e1 /\ I e1) (h2 : ∀ e1, I e1 -> Q (b.G e1)) : Q ((ay a b).G e) := by
 obtain ⟨e1, q, i⟩ := h1
 rw [vK, q]
 exact h2 e1 i
theorem sm8 {m : Int} (h : m.natAbs < 1099511627776) : Sm 8000 m := Nat.lt_of_lt_of_le (show m.natAbs < 2 ^ 40 from h) (Nat.pow_le_pow_right (by decide) (by decide))
theorem kY {m : Int} (h : 0 < m) : (0 : Rat) < (m : Rat) := Rat.intCast_pos.mpr h
theorem m6 {a b : Int} (h1 : 0 < a) (h2 : 0 < b) : (0 : Rat) < (a : Rat) / (b : Rat) := by
 rw [Rat.div_def]
 exact Rat.mul_pos (kY h1) (Rat.inv_pos.mpr (kY h2))
structure Good (b : Bx) : Prop where
 ok : b.Ok
 sz : b.Sz 101
end L3
set_option Elab.async false
set_option linter.all false
set_option maxRecDepth 100000
namespace L3
open PySem PySem.Spec PyProof.Rows L2
section
variable {K : PySem.W.Frag} {mg : Str -> Option Value} {X : Cx} {ES : L2.St -> XK} {e : Expr} {es : List Expr} {A : PAs} {pos : Pos}
end
end L3
set_option Elab.async false
set_option linter.all false
set_option maxRecDepth 100000
namespace L3
open PySem PySem.Spec PyProof.Rows L2
section
variable {K : PySem.W.Frag} {mg : Str -> Option Value} {X : Cx} {ES : L2.St -> XK} {e a b c o lo hi : Expr} {p q r : PEx} {pos p1 p2 : Pos}
end
theorem ar1 {α : Type} {P : List α -> Prop} (h : ∀ a, P [a]) : ∀ us : List α, us.length = 1 -> P us
 | [a], _ => h a
theorem ar2 {α : Type} {P : List α -> Prop} (h : ∀ a b, P [a, b]) : ∀ us : List α, us.length = 2 -> P us
 | [a, b], _ => h a b
end L3
set_option Elab.async false
set_option linter.all false
set_option maxRecDepth 100000
namespace L3
open PySem PySem.Spec PyProof.Rows L2
section
variable {P : Nat -> Prop} {h : AH}
theorem BV {k : Key} {v : Val} {ws : List (Key × D)} {us : List (Key × Val)} (r : Rk P h ws us) : lkD us k = some v -> ∃ d, lkD ws k = some d /\ Rd P h d v :=
 r.ind (M := fun ws us => lkD us k = some v -> ∃ d, lkD ws k = some d /\ Rd P h d v) (fun q => by cases q) (fun {k2 d v2 ds vs} r _ ih q => by
  unfold lkD at q ih ⊢
  rw [List.find?_cons] at q ⊢
  dsimp only at q ⊢
  by_cases hk : k2 = k
  ·rw [decide_eq_true hk] at q ⊢
   cases q
   exact ⟨d, rfl, r⟩
  ·rw [decide_eq_false hk] at q ⊢
   exact ih q)
theorem vZ {ws : List (Key × D)} {us : List (Key × Val)} (r : Rk P h ws us) : us.map (·.1) = ws.map (·.1) :=
 r.ind (M := fun ws us => us.map (·.1) = ws.map (·.1)) rfl fun _ _ ih => by rw [List.map_cons, List.map_cons, ih]
theorem BK {ws : List (Key × D)} {us : List (Key × Val)} (r : Rk P h ws us) : ws.length = us.length :=
 r.ind (M := fun ws us => ws.length = us.length) rfl fun _ _ ih => congrArg (· + 1) ih
theorem zm {ws ws' : List (Key × D)} {us us' : List (Key × Val)} (r : Rk P h ws us) (q : Rk P h ws' us') : Rk P h (ws ++ ws') (us ++ us') :=
 r.ind (M := fun ws us => Rk P h (ws ++ ws') (us ++ us')) q fun r _ ih => .cons r ih
theorem yW {k : Key} {d : D} {v : Val} (rd : Rd P h d v) {ws : List (Key × D)} {us : List (Key × Val)} (r : Rk P h ws us) : Rk P h (gX ws k d) (gX us k v) := by
 unfold gX
 rw [mE (vZ r)]
 by_cases hc : (ws.any fun kv => decide (kv.1 = k)) = true
 ·rw [if_pos hc, if_pos hc]
  exact r.ind (M := fun ws us => Rk P h (ws.map fun kv => if kv.1 = k then (kv.1, d) else kv) (us.map fun kv => if kv.1 = k then (kv.1, v) else kv)) .nil (fun {k2 d2 v2 ds vs} r _ ih => by
   rw [List.map_cons, List.map_cons]
   dsimp only
   by_cases hk : k2 = k
   ·rw [if_pos hk, if_pos hk]; exact .cons rd ih
   ·rw [if_neg hk, if_neg hk]; exact .cons r ih)
 ·rw [if_neg hc, if_neg hc]
  exact zm r (.cons rd .nil)
theorem Bp : ∀ {ks : List Key} {ds : List D} {vs : List Val}, Rds P h ds vs -> Rk P h (ks.zip ds) (ks.zip vs) := by
 intro ks
 induction ks with
 | nil => intro ds vs _; exact .nil
 |
  cons k ks ih =>
  intro ds vs r
  cases r with
  | nil => exact .nil
  | cons r rr => exact .cons r (ih rr)
end
noncomputable def sI : Val -> Val -> Bv := fun x y => match x with
 | .dct kvs => (match y with
  | .str k => (match lkD kvs (.inr k) with
   | some v => .val v
   | none => .stuck)
  | _ => .stuck)
 | _ => .stuck
theorem
    yP : RO mQ sI := fun P h d1 d2 v1 v2 r1 r2 => by
 unfold sI
 split
 ·rename_i kvs
  split
  ·rename_i k
   split
   ·rename_i v q
    obtain ⟨n, ws, rfl, e, rk⟩ := r1.dct
    obtain rfl := r2.str
    obtain ⟨d, q1, rd⟩ := BV rk q
    refine ⟨d, ?_, rd⟩
    unfold mQ
    dsimp only
    rw [e]
    dsimp only
    rw [q1]
   ·trivial
  ·trivial
 ·trivial
noncomputable def eJ : PO2 := ⟨mQ, sI, yP⟩
noncomputable def sD : Val -> Val -> Val -> Option Val := fun o i v => match o with
 | .dct kvs => (match i with
  | .str k => if kvs.length < 16777216 then some (.dct (gX kvs (.inr k) v)) else none
  | _ => none)
 | _ => none
theorem
    Ak : nK wD sD := fun P h n o u di vi d v u' np e hf r ri rd q => by
 unfold sD at q
 split at q
 ·rename_i kvs
  split at q
  ·rename_i k
   split at q
   ·rename_i hl
    cases q
    obtain rfl := ri.str
    cases r with
    |
     dct rk =>
     rename_i ws
     refine ⟨.dct (gX ws (.inr k) d), ?_, trivial, .dct (yW rd rk)⟩
     unfold wD
     dsimp only
     rw [e]
     dsimp only
     rw [if_pos (by rw [BK rk]; exact hl)]
   ·cases q
  ·cases q
 ·cases q
noncomputable def seD : PSe := ⟨wD, sD, Ak⟩
noncomputable def pP (ks : List Str) (A : MA3) : ME3 := fun e => (A e).bind fun ts e1 => match dem e1 ts with
 | some (e2, vs) => if ks.length = vs.length then .ok (.new (.dct ((ks.map Sum.inr).zip vs))) e2 else .stuck
 | none => .stuck
theorem
    xY {A : MA} {A3 : MA3} (ks : List Str) (hA : RA A A3) : RE (jS ks A) (pP ks A3) := fun X h0 L ns e ae h S hl => by
 have SG := S.grow (.dct [])
 have p := hA (Xn X h.length) h0 ns e ae (h ++ [.dct []]) SG
 unfold pP jS
 cases q : A3 e with
 | stuck => trivial
 |
  exc c e' =>
  rw [q] at p
  obtain ⟨h', ns', y, a, S'⟩ := p
  exact ⟨h', ns', by rw [y]; rfl, (Stp.grow _).trans S a, S'.weak fun n z => .inl z⟩
 |
  ok ts e1 =>
  rw [q] at p
  obtain ⟨ds, h1, ns1, y, a1, S1, r1⟩ := p
  rw [y]
  show Po X h0 ns e ae h (relE X h0 L ae) _ (match dem e1 ts with
   | some (e2, vs) => if ks.length = vs.length then .ok (.new (.dct ((ks.map Sum.inr).zip vs))) e2 else .stuck
   | none => .stuck)
  cases qd : dem e1 ts with
  | none => trivial
  |
   some w =>
   obtain ⟨e2, vs⟩ := w
   dsimp only
   by_cases hlen : ks.length = vs.length
   ·rw [if_pos hlen]
    obtain ⟨ns2, S2, a2, r2⟩ := gj S1 r1 qd
    have hk : h1[h.length]? = some (.dct []) := a1.keep _ _ oG fun ⟨i, s, z, _⟩ => SG.nx i _ z (.inr rfl)
    have A := ((Stp.grow (.dct [])).trans S a1).trans S a2
    have hlt := bU hk
    have mv : Mov (Oc (Xn X h.length) ns2) (Oc (Xn X h.length) ns2) h1 (h1.set h.length (.dct ((ks.map Sum.inr).zip ds))) := fun m o p q => ⟨p, by
     have : m ≠ h.length := fun z => p.1 (.inr z)
     rw [bg this]; exact q⟩
    have S3 : Sat (Xn X h.length) h0 ns2 e2 ae (h1.set h.length (.dct ((ks.map Sum.inr).zip ds))) := ⟨S2.l1, S2.l2, by rw [List.length_set]; exact S2.lh, fun m z => by rw [List.length_set]; exact S2.xl m z, S2.inj, S2.nx, fun j s qj => (S2.sl j s qj).mono mv fun m o qm qo => by
     have : m ≠ h.length := fun z => S2.nx j m qm (.inr z)
     rw [bg this]; exact qo⟩
    have A3' : Stp ns e h ns2 e2 (h1.set h.length (.dct ((ks.map Sum.inr).zip ds))) := ⟨by rw [List.length_set]; exact A.len, fun m o qm hm => by
     have : m ≠ h.length := Nat.ne_of_lt (bU qm)
     rw [bg this]; exact A.keep m o qm hm, A.nw, A.lk, A.lk', A.mu, A.mu'⟩
    refine ⟨.ref h.length, _, ns2, ?_, A3', S3.weak fun n z => .inl z, h.length, _, rfl, hl, fun z => Nat.lt_irrefl _ (S.xl _ z), bx hlt, trivial, S3, .dct ((Bp r2).mono mv)⟩
    show (match h1[h.length]? with
     | some (.dct []) => if ks.length = ds.length then R.ok (D.ref h.length) (h1.set h.length (.dct ((ks.map Sum.inr).zip ds))) else .stuck
     | _ => .stuck) = _
    rw [hk]
    dsimp only
    rw [if_pos (by rw [r2.len]; exact hlen)]
   ·rw [if_neg hlen]
    trivial
noncomputable def p7 (ks : List Str) (a : PAs) : PEx := ⟨jS ks a.F, pP ks a.G, xY ks a.ok⟩
theorem rb (e : E3) (ks : List Str) (a : PAs) : (p7 ks a).G e = (a.G e).bind fun ts e1 => match dem e1 ts with
 | some (e2, vs) => if ks.length = vs.length then .ok (.new (.dct ((ks.map Sum.inr).zip vs))) e2 else .stuck
 | none => .stuck := rfl
section
variable {K : PySem.W.Frag} {mg : Str -> Option Value} {X : Cx} {ES : L2.St -> XK} {a b : Expr} {p q : PEx} {pos : Pos}
theorem dw (hu : X.A.units + 1 < cLine) (ha : DE K mg X ES a p.F) (hb : DE K mg X ES b q.F) (hs : pE b) : DE K mg X ES (.Subscript a b pos) (pOp eJ p q).F := xH hu ha hb hs
theorem xj {keys : List (Option Expr)} {values : List Expr} {prs : List (Str × ME)} {ks : List Str} {A : PAs} (hp : PPs X pos keys values (tps K mg ES prs)) (h1 : ks = prs.map (·.1) := by rfl) (h2 : A.F = aL prs := by rfl) (hn : ks.Nodup := by decide +kernel) (hall : keys.all (·.isSome) = true := by rfl) (hl : keys.length = values.length := by rfl) (h0 : keys ≠ [] := by intro h; cases h) (h15 : keys.length <= 15 := by decide) (hp15 : prs.length <= 15 := by decide) : DE K mg X ES (.Dict keys values pos) (p7 ks A).F := by
 subst h1
 show DE K mg X ES (.Dict keys values pos) (jS (prs.map (·.1)) A.F)
 rw [h2]
 exact xR hp hall hl h0 h15 hn hp15
end
noncomputable def tF : List Val -> Bv := fun vs => match vs with
 | [.lst xs] => (match fJ xs with
  | some bs => .val (.bl (bs.any id))
  | none => .stuck)
 | _ => .stuck
theorem yS : RFn nz tF := fun P h ds vs r => by
 unfold tF
 split
 ·obtain ⟨d, hd, rr1⟩ := iR r; subst hd; clear r; have r := rr1
  obtain ⟨n, es, rfl, _, e1, q⟩ := r.lst
  split
  ·rename_i bs e2
   exact ⟨_, by unfold nz; dsimp only; rw [e1]; show (match eg es with | some bs => _ | none => _) = _; rw [vo q e2], .bl _⟩
  ·trivial
 ·trivial
noncomputable def l7 : PBf := ⟨nz, tF, yS⟩
theorem B5 (xs : List Val) : l7.G [.lst xs] = match fJ xs with
  | some bs => .val (.bl (bs.any id))
  | none => .stuck := rfl
theorem zg {K : PySem.W.Frag} {mg : Str -> Option Value} : cw K mg (fun xs H Q => ∃ (a : Addr) (bs : List Bool), xs = [.ref a] /\ SqL K H a (bs.map V.bl) /\ Q (.bl (bs.any id)) H) l7.F := AX
noncomputable def uk : Val -> Val -> Val -> Option Val := fun o _ v => match o with
 | .lst xs => (match v with
  | .lst ys => if xs.length + ys.length <= 16777216 then some (.lst ys) else none
  | _ => none)
 | _ => none
theorem
    uS : nK kG uk := fun P h n o u di vi d v u' np e hf r ri rd q => by
 unfold uk at q
 split at q
 ·rename_i xs
  split at q
  ·rename_i ys
   split at q
   ·rename_i hc
    cases q
    obtain ⟨_, es, q2, q3, _⟩ := qf e r
    cases rd with
    |
     cell p e' r' =>
     cases r' with
     |
      lst rs =>
      refine ⟨.lst _, ?_, trivial, .lst rs⟩
      unfold kG
      dsimp only
      rw [q2]
      dsimp only
      rw [e']
      dsimp only
      rw [if_pos ⟨fun z => np (z ▸ p), by rw [q3.len, rs.len]; exact hc⟩]
   ·cases q
  ·cases q
 ·cases q
noncomputable def l6 : PSe := ⟨kG, uk, uS⟩
theorem zJ (xs ys : List Val) : l6.G (.lst xs) .non (.lst ys) = if xs.length + ys.length <= 16777216 then some (.lst ys) else none := rfl
theorem wo {K : PySem.W.Frag} {mg : Str -> Option Value} {X : Cx} {ES : L2.St -> XK} {e o : Expr} {p : PEx} {pos p1 p2 : Pos} {j : Nat} (he : DE K mg X ES e p.F) (ho : DE K mg X ES o (ah j).F) (hs : swapsWithSole [.Subscript o (.Slice none none none p2) p1] e pos.line X.env = pure false := by rfl) (hw : swappedStores [.Subscript o (.Slice none none none p2) p1] e X.env = pure none := by rfl) (h1 : (assignEach [.Subscript o (.Slice none none none p2) p1] X.env).map (·.2) = [assign (.Subscript o (.Slice none none none p2) p1) X.env] := by rfl)
  (ha : ∀ v, assign (.Subscript o (.Slice none none none p2) p1) X.env v = (do
   let ov <- holding [v] (eval o X.env)
   let iv <- holding [v, ov] (eval (.Slice none none none p2) X.env)
   standAt p1
   holding [v, ov, iv] (setItem ov iv v)
   release [iv, v, ov] []) := by intro _; rfl) : DS K mg X ES (.Assign [.Subscript o (.Slice none none none p2) p1] e pos) (eW j l6 p9 p).F := mT he (By ho ha) hs hw h1
end L3
set_option linter.all false
namespace L3
open PySem L2
theorem lz {g : MG3} {B : MS3} (P : Nat -> E3 -> Prop) (m : Nat) (hs : ∀ i, i < m -> ∀ e, P i e -> ∃ e1 e2, g (.int (i : Nat)) e = some e1 /\ (B e1 = .nx e2 \/ B e1 = .ct e2) /\ P (i + 1) e2) : ∀ (k i : Nat) (e : E3), i + k = m -> P i e -> ∃ e', P m e' /\ dA g B ((List.range' i k).map fun j => Val.int (j : Nat)) e = .nx e'
 |
  0, i, e, h, p => by
  obtain rfl : i = m := by omega
  exact ⟨e, p, rfl⟩
 |
  k + 1, i, e, h, p => by
  obtain ⟨e1, e2, q1, q2, q3⟩ := hs i (by omega) e p
  obtain ⟨e', p', q4⟩ := lz P m hs k (i + 1) e2 (by omega) q3
  refine ⟨e', p', ?_⟩
  rw [List.range'_succ, List.map_cons, eS, q1]
  rcases q2 with q2 | q2
  ·simp only [q2, j3]; exact q4
  ·simp only [q2, vM]; exact q4
theorem tI {g : MG3} {B : MS3} (P : Nat -> E3 -> Prop) (m : Nat) {e : E3} (h0 : P 0 e) (hs : ∀ i, i < m -> ∀ e, P i e -> ∃ e1 e2, g (.int (i : Nat)) e = some e1 /\ (B e1 = .nx e2 \/ B e1 = .ct e2) /\ P (i + 1) e2) : ∃ e', P m e' /\ dA g B (rgV m) e = .nx e' := by
 have := lz P m hs m 0 e (by omega) h0
 rw [<- List.range_eq_range'] at this
 exact this
theorem yA (xs : List Val) (n : Nat) : gn xs none (some (n : Int)) = xs.take n := by
 unfold gn
 rw [HT.sIx_none, HT.sIx_nat, List.drop_zero, Nat.sub_zero]
 by_cases h : n <= xs.length
 ·rw [Nat.min_eq_left h]
 ·rw [Nat.min_eq_right (by omega), List.take_of_length_le (Nat.le_refl _), List.take_of_length_le (by omega)]
theorem CB (xs : List Val) (lo hi : Option Int) : aSl (.kl xs) lo hi = .new (.lst (gn xs lo hi)) := rfl
end L3
set_option Elab.async false
set_option linter.all false
set_option maxRecDepth 100000
namespace L3
open PySem PySem.Spec PyProof.Rows L2
noncomputable def pU (n : Nat) (u : gv) : MG3 := fun v e => match v with
 | .tup vs => if vs.length = n then u vs e else none
 | .lst vs => if vs.length = n then u vs e else none
 | _ => none
section
variable {gs : MGs} {gs3 : gv}
theorem rg_u (n : Nat) (hs : RGs gs gs3) : RG (gU fun ds ae h => if ds.length = n then gs ds ae h else .stuck) (pU n gs3) := fun X h0 ns e ae h d v e' S r q => by
 unfold pU at q
 split at q
 ·split at q
  ·rename_i hn
   obtain ⟨ds, rfl, r2⟩ := ShR.tup (.inl r)
   obtain ⟨ae1, ns1, p1, S1, a1⟩ := hs _ _ _ _ _ _ _ _ _ S r2 q
   refine ⟨ae1, ns1, ?_, S1, a1⟩
   unfold gU; dsimp only; rw [if_pos (by rw [r2.len]; exact hn)]; exact p1
  ·cases q
 ·split at q
  ·rename_i hn
   obtain ⟨m, ds, rfl, _, eq, r2⟩ := ShR.lst (.inl r)
   obtain ⟨ae1, ns1, p1, S1, a1⟩ := hs _ _ _ _ _ _ _ _ _ S r2 q
   refine ⟨ae1, ns1, ?_, S1, a1⟩
   unfold gU; dsimp only; rw [eq]; dsimp only; rw [if_pos (by rw [r2.len]; exact hn)]; exact p1
  ·cases q
 ·cases q
end
noncomputable def gtU (n : Nat) (a : PGs) : PGt := ⟨gU fun ds ae h => if ds.length = n then a.F ds ae h else .stuck, pU n a.G, rg_u n a.ok⟩
section
variable {e : E3}
theorem g_uL (n : Nat) (a : PGs) (vs : List Val) : (gtU n a).G (.lst vs) e = if vs.length = n then a.G vs e else none := rfl
end
section
variable {K : PySem.W.Frag} {mg : Str -> Option Value} {X : Cx} {es : List Expr} {gs : PGs} {pos : Pos}
theorem zF {k n : Nat} (hK : X.K = K) (hc : X.calm = true) (h : DGs K mg X (fun _ => E0) es gs.F) (hn : (assignEach es X.env).length = n := by rfl) (hst : (assignEach es X.env).findIdx? (·.1) = none := by rfl) : DG K mg X (fun _ => E0) (.Tuple es k pos) (gtU n gs).F := yR hK hc h hn hst
end
end L3
namespace Wb
open L2
noncomputable def lc (qs : List Rat) (c : Nat) : Nat := qs.foldl (fun c q => Nat.lcm c q.den) c
noncomputable def gc (ws : List Int) (g : Nat) : Nat := ws.foldl (fun g w => Int.gcd (g : Int) w) g
noncomputable def wh (L : Nat) (qs : List Rat) : List Int := qs.map fun q => q.num * ((L / q.den : Nat) : Int)
noncomputable def ws (qs : List Rat) : List Int := wh (lc qs 1) qs
noncomputable def dv (qs : List Rat) : Nat := gc (ws qs) 0
noncomputable def wb (qs : List Rat) : List Int := (ws qs).map fun w => w.fdiv (dv qs : Nat)
theorem oR : ∀ (qs : List Rat) (c : Nat), c ∣ lc qs c
 | [], c => Nat.dvd_refl c
 | q :: qs, c => Nat.dvd_trans (Nat.dvd_lcm_left c q.den) (oR qs _)
theorem lc_dvd : ∀ (qs : List Rat) (c : Nat) {q : Rat}, q ∈ qs -> q.den ∣ lc qs c
 |
  p :: qs, c, q, h => by
  cases h with
  | head => exact Nat.dvd_trans (Nat.dvd_lcm_right c _) (oR qs _)
  | tail _ h => exact lc_dvd qs _ h
theorem lc_pos : ∀ (qs : List Rat) (c : Nat), 0 < c -> 0 < lc qs c
 | [], c, h => h
 | q :: qs, c, h => lc_pos qs _ (Nat.lcm_pos h q.den_pos)
theorem yJ (a b : Nat) : Nat.lcm a b <= a * b := by
 unfold Nat.lcm
 exact Nat.div_le_self _ _
theorem lc_sm {b : Nat} : ∀ (qs : List Rat) (c a : Nat), Sm a (c : Int) -> (∀ q ∈ qs, Sz b q) -> Sm (a + b * qs.length) ((lc qs c : Nat) : Int)
 | [], c, a, h, _ => by simpa [lc] using h
 |
  q :: qs, c, a, h, hq => by
  have h1 : Sm (a + b) ((Nat.lcm c q.den : Nat) : Int) := (h.mul (hq q (List.mem_cons_self ..)).bot).of_le (by
   rw [Int.natAbs_natCast, <- Int.natCast_mul, Int.natAbs_natCast]
   exact yJ c q.den)
  have := lc_sm qs _ (a + b) h1 fun p hp => hq p (List.mem_cons_of_mem _ hp)
  rw [List.length_cons, show a + b * (qs.length + 1) = a + b + b * qs.length by rw [Nat.mul_add, Nat.mul_one]; omega]
  exact this
theorem oC : ∀ (l : List Int) (g : Nat), gc l g ∣ g
 | [], g => Nat.dvd_refl g
 |
  w :: l, g => Nat.dvd_trans (oC l _) (by
  have := Int.gcd_dvd_left (g : Int) w
  exact Int.natCast_dvd_natCast.mp this)
theorem gc_dvd : ∀ (l : List Int) (g : Nat) {w : Int}, w ∈ l -> ((gc l g : Nat) : Int) ∣ w
 |
  v :: l, g, w, h => by
  cases h with
  | head => exact Int.dvd_trans (Int.natCast_dvd_natCast.mpr (oC l _)) (Int.gcd_dvd_right (g : Int) _)
  | tail _ h => exact gc_dvd l _ h
theorem sv (d : Nat) : ∀ (l : List Int) (g : Nat), gc (l.map fun w => (d : Int) * w) (d * g) = d * gc l g
 | [], g => rfl
 |
  w :: l, g => by
  have e : Int.gcd ((d * g : Nat) : Int) ((d : Int) * w) = d * Int.gcd (g : Int) w := by
   rw [Int.natCast_mul, Int.gcd_mul_left, Int.natAbs_natCast]
  show gc (l.map fun w => (d : Int) * w) (Int.gcd ((d * g : Nat) : Int) ((d : Int) * w)) = d * gc l (Int.gcd (g : Int) w)
  rw [e]
  exact sv d l _
theorem Dl {qs : List Rat} {q : Rat} (h : q ∈ qs) : q.num * ((lc qs 1 / q.den : Nat) : Int) * (q.den : Int) = q.num * (lc qs 1 : Nat) := by
 rw [Int.mul_assoc, <- Int.natCast_mul, Nat.div_mul_cancel (lc_dvd qs 1 h)]
theorem x8 {q : Rat} (h : 0 < q) : 0 < q.num := by
 exact oq.mpr h
theorem nO {qs : List Rat} (hp : ∀ q ∈ qs, 0 < q) {w : Int} (h : w ∈ ws qs) : 0 < w := by
 obtain ⟨q, hq, rfl⟩ := List.mem_map.mp h
 have a := x8 (hp q hq)
 have b : 0 < lc qs 1 / q.den := Nat.div_pos (Nat.le_of_dvd (lc_pos qs 1 (by decide)) (lc_dvd qs 1 hq)) q.den_pos
 exact Int.mul_pos a (by omega)
theorem dv_pos {qs : List Rat} (hp : ∀ q ∈ qs, 0 < q) (h0 : qs ≠ []) : 0 < dv qs := by
 cases qs with
 | nil => exact absurd rfl h0
 |
  cons q l =>
  have hm : q.num * ((lc (q :: l) 1 / q.den : Nat) : Int) ∈ ws (q :: l) := List.mem_map.mpr ⟨q, List.mem_cons_self .., rfl⟩
  have h1 := nO hp hm
  have h2 := gc_dvd (ws (q :: l)) 0 hm
  refine Nat.pos_of_ne_zero fun e => ?_
  unfold dv at e
  rw [e] at h2
  have := Int.zero_dvd.mp h2
  omega
theorem fd_mul {d : Nat} {w : Int} (h : (d : Int) ∣ w) (hd : 0 < d) : (d : Int) * w.fdiv (d : Nat) = w := by
 rw [Int.fdiv_eq_ediv_of_nonneg _ (by omega)]
 exact Int.mul_ediv_cancel' h
theorem xA {qs : List Rat} (hp : ∀ q ∈ qs, 0 < q) (h0 : qs ≠ []) : ((wb qs).map fun w => ((dv qs : Nat) : Int) * w) = ws qs := by
 unfold wb
 rw [List.map_map]
 have : ∀ w ∈ ws qs, ((fun w => ((dv qs : Nat) : Int) * w) ∘ fun w => w.fdiv (dv qs : Nat)) w = id w := fun w hw => fd_mul (gc_dvd _ 0 hw) (dv_pos hp h0)
 rw [List.map_congr_left this, List.map_id]
theorem wb_one {qs : List Rat} (hp : ∀ q ∈ qs, 0 < q) (h0 : qs ≠ []) : gc (wb qs) 0 = 1 := by
 have e := sv (dv qs) (wb qs) 0
 rw [xA hp h0, Nat.mul_zero] at e
 have e' : dv qs * 1 = dv qs * gc (wb qs) 0 := by rw [Nat.mul_one]; exact e
 exact (Nat.eq_of_mul_eq_mul_left (dv_pos hp h0) e').symm
theorem wb_ge {qs : List Rat} (hp : ∀ q ∈ qs, 0 < q) (h0 : qs ≠ []) {r : Int} (h : r ∈ wb qs) : 1 <= r := by
 obtain ⟨w, hw, rfl⟩ := List.mem_map.mp h
 have e := fd_mul (gc_dvd _ 0 hw) (dv_pos hp h0)
 have h1 := nO hp hw
 have h2 := dv_pos hp h0
 refine Int.not_lt.mp fun hn => ?_
 have : w.fdiv (dv qs : Nat) <= 0 := by omega
 have h3 : ((dv qs : Nat) : Int) * w.fdiv (dv qs : Nat) <= 0 := Int.mul_nonpos_of_nonneg_of_nonpos (by omega) this
 unfold dv at h3
 rw [e] at h3
 omega
theorem wb_len (qs : List Rat) : (wb qs).length = qs.length := by simp [wb, ws, wh]
theorem vF {qs : List Rat} (hp : ∀ q ∈ qs, 0 < q) (h0 : qs ≠ []) {i : Nat} (hi : i < qs.length) : ((dv qs : Nat) : Int) * (wb qs)[i]'(by rw [wb_len]; exact hi) * (qs[i].den : Int) = qs[i].num * (lc qs 1 : Nat) := by
 have hm : qs[i] ∈ qs := List.getElem_mem hi
 have e : ((dv qs : Nat) : Int) * (wb qs)[i]'(by rw [wb_len]; exact hi) = qs[i].num * ((lc qs 1 / qs[i].den : Nat) : Int) := by
  have hw : qs[i].num * ((lc qs 1 / qs[i].den : Nat) : Int) ∈ ws qs := List.mem_map.mpr ⟨qs[i], hm, rfl⟩
  have := fd_mul (gc_dvd _ 0 hw) (dv_pos hp h0)
  have e2 : (wb qs)[i]'(by rw [wb_len]; exact hi) = (qs[i].num * ((lc qs 1 / qs[i].den : Nat) : Int)).fdiv (dv qs : Nat) := by
   simp only [wb, ws, wh, List.getElem_map]
  rw [e2]
  exact this
 rw [e]
 exact Dl hm
theorem wb_as {qs : List Rat} (hp : ∀ q ∈ qs, 0 < q) (h0 : qs ≠ []) {i j : Nat} (hi : i < qs.length) (hj : j < qs.length) : (wb qs)[i]'(by rw [wb_len]; exact hi) * qs[j].num * (qs[i].den : Int) = (wb qs)[j]'(by rw [wb_len]; exact hj) * qs[i].num * (qs[j].den : Int) := by
 have a := vF hp h0 hi
 have b := vF hp h0 hj
 have d := dv_pos hp h0
 refine Int.eq_of_mul_eq_mul_left (a := ((dv qs : Nat) : Int)) (by omega) ?_
 calc ((dv qs : Nat) : Int) * ((wb qs)[i]'(by rw [wb_len]; exact hi) * qs[j].num * (qs[i].den : Int))
   = ((dv qs : Nat) : Int) * (wb qs)[i]'(by rw [wb_len]; exact hi) * (qs[i].den : Int) * qs[j].num := by ac_rfl
  _ = qs[i].num * (lc qs 1 : Nat) * qs[j].num := by rw [a]
  _ = qs[j].num * (lc qs 1 : Nat) * qs[i].num := by ac_rfl
  _ = ((dv qs : Nat) : Int) * (wb qs)[j]'(by rw [wb_len]; exact hj) * (qs[j].den : Int) * qs[i].num := by rw [b]
  _ = _ := by ac_rfl
theorem dv_le {qs : List Rat} (hp : ∀ q ∈ qs, 0 < q) {w : Int} (h : w ∈ ws qs) : (dv qs : Nat) <= w.natAbs := by
 have := gc_dvd (ws qs) 0 h
 have h1 := nO hp h
 have := Int.le_of_dvd h1 this
 unfold dv
 omega
end Wb
set_option Elab.async false
set_option linter.all false
set_option maxRecDepth 100000
set_option maxHeartbeats 4000000
namespace KK
open PySem PySem.Spec PyProof.Rows L2 L3
theorem nE : bootBuiltins "abs" = some (.builtin "abs") := by decide +kernel
theorem AM : bootBuiltins "all" = some (.builtin "all") := by decide +kernel
theorem BG : bootBuiltins "any" = some (.builtin "any") := by decide +kernel
theorem oM : bootBuiltins "bool" = some (.type "bool") := by decide +kernel
theorem qR : bootBuiltins "int" = some (.type "int") := by decide +kernel
theorem bI : bootBuiltins "isinstance" = some (.builtin "isinstance") := by decide +kernel
theorem eP : bootBuiltins "len" = some (.builtin "len") := by decide +kernel
theorem fZ : bootBuiltins "list" = some (.type "list") := by decide +kernel
theorem my : bootBuiltins "tuple" = some (.type "tuple") := by decide +kernel
noncomputable def top (i : Nat) : Stmt := PySem.Challenge.pw_weightrooms_k76_weights_back.main.body.getD i (.Pass ⟨0, 0, 0, 0⟩)
abbrev gB : Stmt := top 17
theorem nR : FnScope ["_law_script"] ["_law_script"] (au gB) := ⟨rfl, rfl, rfl, by decide +kernel, rfl, by decide +kernel, by decide +kernel⟩
abbrev gw : Stmt := top 18
theorem cJ : FnScope ["_law_feed_here", "_law_many", "_law_found", "_law_at", "_law_cell", "_law_number"] ["_law_feed_here", "_law_many"] (au gw) := ⟨rfl, rfl, rfl, by decide +kernel, rfl, by decide +kernel, by decide +kernel⟩
abbrev iz : Stmt := top 20
theorem gY : FnScope ["_law_top", "_law_bottom", "_law_one", "_law_other"] ["_law_top", "_law_bottom"] (au iz) := ⟨rfl, rfl, rfl, by decide +kernel, rfl, by decide +kernel, by decide +kernel⟩
abbrev fy : Stmt := top 19
theorem dG : FnScope ["_law_feed_here", "_law_pieces", "_law_number", "_law_k"] ["_law_feed_here", "_law_pieces"] (au fy) := ⟨rfl, rfl, rfl, by decide +kernel, rfl, by decide +kernel, by decide +kernel⟩
abbrev gF : Stmt := top 22
theorem jf : FnScope ["_law_feed_here", "_law_far", "_law_way"] ["_law_feed_here", "_law_far"] (au gF) := ⟨rfl, rfl, rfl, by decide +kernel, rfl, by decide +kernel, by decide +kernel⟩
abbrev fi : Stmt := top 24
theorem gJ : FnScope ["_law_feed_here", "_law_far", "_law_left", "_law_top"] ["_law_feed_here", "_law_far"] (au fi) := ⟨rfl, rfl, rfl, by decide +kernel, rfl, by decide +kernel, by decide +kernel⟩
abbrev gq : Stmt := top 5
theorem nZ : FnScope ["thing"] ["thing"] (au gq) := ⟨rfl, rfl, rfl, by decide +kernel, rfl, by decide +kernel, by decide +kernel⟩
abbrev dn : Stmt := top 6
theorem c7 : FnScope ["one", "other"] ["one", "other"] (au dn) := ⟨rfl, rfl, rfl, by decide +kernel, rfl, by decide +kernel, by decide +kernel⟩
abbrev eF : Stmt := top 7
theorem dZ : FnScope ["thing", "top", "bottom"] ["thing"] (au eF) := ⟨rfl, rfl, rfl, by decide +kernel, rfl, by decide +kernel, by decide +kernel⟩
abbrev gO : Stmt := top 11
theorem rl : FnScope ["thing"] ["thing"] (au gO) := ⟨rfl, rfl, rfl, by decide +kernel, rfl, by decide +kernel, by decide +kernel⟩
abbrev fE : Stmt := top 12
theorem nr : FnScope ["thing"] ["thing"] (au fE) := ⟨rfl, rfl, rfl, by decide +kernel, rfl, by decide +kernel, by decide +kernel⟩
abbrev gA : Stmt := top 8
theorem fH : FnScope ["top", "bottom", "divisor"] ["top", "bottom"] (au gA) := ⟨rfl, rfl, rfl, by decide +kernel, rfl, by decide +kernel, by decide +kernel⟩
abbrev ko : Stmt := top 9
theorem uZ : FnScope ["one", "other"] ["one", "other"] (au ko) := ⟨rfl, rfl, rfl, by decide +kernel, rfl, by decide +kernel, by decide +kernel⟩
abbrev nG : Stmt := top 13
theorem w6 : FnScope ["box"] ["box"] (au nG) := ⟨rfl, rfl, rfl, by decide +kernel, rfl, by decide +kernel, by decide +kernel⟩
abbrev bS : Stmt := top 15
theorem aM : FnScope ["boxes", "areas", "common", "top", "bottom", "wholes", "divisor", "whole"] ["boxes"] (au bS) := ⟨rfl, rfl, rfl, by decide +kernel, rfl, by decide +kernel, by decide +kernel⟩
abbrev fD : Stmt := top 21
theorem mj : FnScope ["_law_one", "_law_other"] ["_law_one", "_law_other"] (au fD) := ⟨rfl, rfl, rfl, by decide +kernel, rfl, by decide +kernel, by decide +kernel⟩
abbrev eB : Stmt := top 23
theorem fS : FnScope ["_law_one", "_law_other"] ["_law_one", "_law_other"] (au eB) := ⟨rfl, rfl, rfl, by decide +kernel, rfl, by decide +kernel, by decide +kernel⟩
abbrev jb : Stmt := top 25
theorem bX : FnScope ["_law_script", "_law_feed_here", "_law_bout", "_law_far", "_law_many", "_law_boxes", "_law_k", "_law_handed", "_law_found", "_law_spaces", "_law_by", "_law_one", "_law_space", "_law_told"] ["_law_script"] (au jb) := ⟨rfl, rfl, rfl, by decide +kernel, rfl, by decide +kernel, by decide +kernel⟩
noncomputable def kits : dF := [((.b "NoneType"), (.b "bool"), false), ((.b "bool"), (.b "bool"), true), ((.b "int"), (.b "bool"), false), ((.b "str"), (.b "bool"), false), ((.b "tuple"), (.b "bool"), false), ((.b "list"), (.b "bool"), false), ((.b "dict"), (.b "bool"), false), ((.b "NoneType"), (.b "int"), false), ((.b "bool"), (.b "int"), true), ((.b "int"), (.b "int"), true), ((.b "str"), (.b "int"), false), ((.b "tuple"), (.b "int"), false), ((.b "list"), (.b "int"), false), ((.b "dict"), (.b "int"), false), ((.b "NoneType"), (.b "list"), false), ((.b "bool"), (.b "list"), false), ((.b "int"), (.b "list"), false), ((.b "str"), (.b "list"), false), ((.b "tuple"), (.b "list"), false), ((.b "list"), (.b "list"), true), ((.b "dict"), (.b "list"), false), ((.b "NoneType"), (.b "tuple"), false), ((.b "bool"), (.b "tuple"), false), ((.b "int"), (.b "tuple"), false), ((.b "str"), (.b "tuple"), false), ((.b "tuple"), (.b "tuple"), true), ((.b "list"), (.b "tuple"), false), ((.b "dict"), (.b "tuple"), false)]
structure Txt (K : PySem.W.Frag) (mg : Str -> Option Value) (a_NoFraction : Addr) (a_NoBox : Addr) : Prop where
 m_NoBox : mg "NoBox" = some (.ref a_NoBox)
 m_NoFraction : mg "NoFraction" = some (.ref a_NoFraction)
 n_abs : mg "abs" = none
 n_all : mg "all" = none
 n_any : mg "any" = none
 n_bool : mg "bool" = none
 n_int : mg "int" = none
 n_isinstance : mg "isinstance" = none
 n_len : mg "len" = none
 n_list : mg "list" = none
 n_range : mg "range" = none
 n_tuple : mg "tuple" = none
 n_zip : mg "zip" = none
 x_NoFraction : PySem.W.excIn K a_NoFraction gE "ValueError.__new__" = true
 x_NoBox : PySem.W.excIn K a_NoBox gE "ValueError.__new__" = true
 kits : KitsOk K mg kits
section
variable {P : Program} {w : World} {K : PySem.W.Frag} {mg : Str -> Option Value} {base : Heap} {a_NoFraction a_NoBox : Addr}
noncomputable def gL : PSt :=
 (aQ (p7 ["cells", "at", "left"] (ag (pFn dI (ag (pSl (ah 0) oN (oS (ao 63))) aq)) (ag (ao 0) (ag (ao 0) aq)))))
noncomputable def cG : PFn := fnP [false] 1 gL
theorem n8 : cG.ms = [false] := rfl
theorem mZ (T : Txt K mg a_NoFraction a_NoBox) (D : Def K mg "_law_feed" gB)  : Callee P w K mg base "_law_feed" (0 + 1) ["_law_script"] (spD K mg 1 cG.F) := by
 unfold cG gL
 exact okP D nR (fun _ _ _ _ _ _ => ar1 fun _ => rfl) fun f cdv A outer s H E hr =>
  (aw (aF (xj (jy (fj (j8 (K := K) rfl) iK rfl T.n_list fZ (af (tK rfl (aa 0) wI (xE ai)) aj)) (jy ai (jy ai wF))))))
noncomputable def gM : PSt :=
 (ay (xIf (qOf (pOp bGt (pOp eJ (ah 0) (c8 "left")) (ao 0))) (ay (ba false 2 (pOp bO (pOp eJ (ah 0) (c8 "left")) (ah 1)))
  (ay (eW 0 seD (c8 "left") (pOp cL (pOp eJ (ah 0) (c8 "left")) (ah 1)))
  (aQ (ah 2)))) xNx)
  (ay (ba false 3 (pOp eJ (ah 0) (c8 "at")))
  (ay (eW 0 seD (c8 "at") (pOp cM (ah 3) (ao 1)))
  (ay (ba false 4 (ah 3))
  (ay (xIf (qOf (pOp bGt (pFn ee (ag (pOp eJ (ah 0) (c8 "cells")) aq)) (ao 0))) (ba false 4 (pOp bIx (pOp eJ (ah 0) (c8 "cells")) (pOp bO (ah 3) (pFn ee (ag (pOp eJ (ah 0) (c8 "cells")) aq))))) xNx)
  (ay (xIf (qAn (qOf (pOp bGe (ah 4) (pOp kR (ao 10) (ao 18)))) (qOf (pOp bLt (ah 3) (pFn ee (ag (pOp eJ (ah 0) (c8 "cells")) aq))))) (ay (eW 0 seD (c8 "left") (pOp cL (ah 4) (ah 1)))
  (aQ (pOp bO (ah 4) (ah 1)))) xNx)
  (ay (ba false 5 (pOp bO (pOp aT (pOp cM (pOp cM (pOp cM (pOp bO (ah 4) (ao 1000003)) (pOp aT (pOp aT (ao 61) (ah 3)) (ah 3))) (pOp aT (ao 7) (ah 3))) (ao 1)) (ao 48271)) (ao 999983)))
  (aQ (pOp bO (pOp cL (pOp bO (pOp aT (pOp bO (pOp cM (pOp aT (ah 5) (ao 69623)) (pOp aT (ao 7919) (ah 3))) (ao 1999993)) (ao 16811)) (ao 524287)) (ao 5)) (ah 1))))))))))
noncomputable def aB : PFn := fnP [true, false] 6 gM
theorem nQ : aB.ms = [true, false] := rfl
theorem nB (T : Txt K mg a_NoFraction a_NoBox) (D : Def K mg "_law_draw" gw)  : Callee P w K mg base "_law_draw" (0 + 1) ["_law_feed_here", "_law_many"] (spD K mg 2 aB.F) := by
 unfold aB gM
 exact okP D cJ (fun _ _ _ _ _ _ => ar2 fun _ _ => rfl) fun f cdv A outer s H E hr =>
  (ak (br (aY iI iU (dw (dz hr) (aa 0) cz (fun _ _ => rfl)) ai (aJ _)) (ak (bc (i := 2) cJ.nd rfl (by first | exact Or.inl rfl | exact Or.inr rfl) (ax bT cF (dw (dz hr) (aa 0) cz (fun _ _ => rfl)) (aa 1)))
   (ak (fR (ax cB de (dw (dz hr) (aa 0) cz (fun _ _ => rfl)) (aa 1)) (aa 0) cz (jt (dz hr)) kE)
   (aw (aF (aa 2))))) aN)
   (ak (bc (i := 3) cJ.nd rfl (by first | exact Or.inl rfl | exact Or.inr rfl) (dw (dz hr) (aa 0) cz (fun _ _ => rfl)))
   (ak (fR (ax (bL (K := K) rfl) bM (aa 3) ai) (aa 0) cz (jt (dz hr)) kE)
   (ak (bc (i := 4) cJ.nd rfl (by first | exact Or.inl rfl | exact Or.inr rfl) (aa 3))
   (ak (br (aY iI iU (aP (gZ (K := K) rfl) eV rfl T.n_len eP (af (dw (dz hr) (aa 0) cz (fun _ _ => rfl)) aj)) ai (aJ _)) (aw (bc (i := 4) cJ.nd rfl (by first | exact Or.inl rfl | exact Or.inr rfl) (a9 (ixK (K := K) rfl) a8 (dw (dz hr) (aa 0) cz (fun _ _ => rfl)) (ax bT cF (aa 3) (aP (gZ (K := K) rfl) eV rfl T.n_len eP (af (dw (dz hr) (aa 0) cz (fun _ _ => rfl)) aj))) (fun _ _ => rfl)))) aN)
   (ak (br (ZW.dt (AG (aY vT vt (aa 4) (ax sx rP ai ai) (aJ _)) (wO (aY lY lT (aa 3) (aP (gZ (K := K) rfl) eV rfl T.n_len eP (af (dw (dz hr) (aa 0) cz (fun _ _ => rfl)) aj)) (aJ _))))) (ak (fR (ax cB de (aa 4) (aa 1)) (aa 0) cz (jt (dz hr)) kE)
   (aw (aF (ax bT cF (aa 4) (aa 1))))) aN)
   (ak (bc (i := 5) cJ.nd rfl (by first | exact Or.inl rfl | exact Or.inr rfl) (ax bT cF (ax bt bu (ax (bL (K := K) rfl) bM (ax (bL (K := K) rfl) bM (ax (bL (K := K) rfl) bM (ax bT cF (aa 4) ai) (ax bt bu (ax bt bu ai (aa 3)) (aa 3))) (ax bt bu ai (aa 3))) ai) ai) ai))
   (aw (aF (ax bT cF (ax cB de (ax bT cF (ax bt bu (ax bT cF (ax (bL (K := K) rfl) bM (ax bt bu (aa 5) ai) (ax bt bu ai (aa 3))) ai) ai) ai) ai) (aa 1)))))))))))
noncomputable def dH : PSt :=
 (hZ 2 3 (ag (ah 3) (ag (pOp bO (ah 2) (ah 3)) aq)))
noncomputable def iC : PSt :=
 (ay (hZ 2 3 (ag (pFn jM (ag (ah 0) aq)) (ag (ah 1) aq)))
  (ay (xWh (qOf (pOp bGt (ah 3) (ao 0))) (dH))
  (aQ (jG (ag (pOp cL (ah 0) (ah 2)) (ag (pOp cL (ah 1) (ah 2)) aq))))))
noncomputable def bq : PFn := fnP [false, false] 4 iC
theorem qD : bq.ms = [false, false] := rfl
theorem nU (T : Txt K mg a_NoFraction a_NoBox) (D : Def K mg "_law_low" iz)  : Callee P w K mg base "_law_low" (0 + 1) ["_law_top", "_law_bottom"] (spD K mg 2 bq.F) := by
 unfold bq iC dH
 exact okP D gY (fun _ _ _ _ _ _ => ar2 fun _ _ => rfl) fun f cdv A outer s H E hr =>
  (ak (e8 (i := 2) (j := 3) rfl gY.nd rfl rfl (by decide) rfl rfl (af (aP jw nM rfl T.n_abs nE (af (aa 0) aj)) (af (aa 1) aj)) rfl)
   (ak (jz gP (aY iI iU (aa 3) ai (aJ _)) (aw (e8 (i := 2) (j := 3) rfl gY.nd rfl rfl (by decide) rfl rfl (af (aa 3) (af (ax bT cF (aa 2) (aa 3)) aj)) rfl)))
   (aw (aF (iq (af (ax cB de (aa 0) (aa 2)) (af (ax cB de (aa 1) (aa 2)) aj)))))))
noncomputable def e7 : PSt :=
 (ba false 2 (pOp cM (pOp aT (ah 2) (ao 100000)) (az aB (ag (ah 0) (ag (ao 100000) aq)))))
noncomputable def fB : PSt :=
 (ay (ba false 2 (ao 0))
  (ay (gm (iW (ag (ah 1) aq)) (gtN 3) (e7))
  (aQ (ah 2))))
noncomputable def bP : PFn := fnP [true, false] 4 fB
theorem mF : bP.ms = [true, false] := rfl
theorem lL (T : Txt K mg a_NoFraction a_NoBox) (D : Def K mg "_law_great" fy) (c_law_draw : Callee P w K mg base "_law_draw" 1 ["_law_feed_here", "_law_many"] (spD K mg 2 aB.F)) : Callee P w K mg base "_law_great" (1 + 1) ["_law_feed_here", "_law_pieces"] (spD K mg 2 bP.F) := by
 unfold bP fB e7
 exact okP D dG (fun _ _ _ _ _ _ => ar2 fun _ _ => rfl) fun f cdv A outer s H E hr =>
  (ak (bc (i := 2) dG.nd rfl (by first | exact Or.inl rfl | exact Or.inr rfl) ai)
   (ak (fW gP rfl (fc rfl T.n_range (af (aa 1) aj)) (aU (i := 3) dG.nd rfl (by first | exact Or.inl rfl | exact Or.inr rfl)) (aw (bc (i := 2) dG.nd rfl (by first | exact Or.inl rfl | exact Or.inr rfl) (ax (bL (K := K) rfl) bM (ax bt bu (aa 2) ai) (av c_law_draw (hr.mono (by omega)) rfl (ar aG) (af (aa 0) (af ai aj)))))))
   (aw (aF (aa 2)))))
noncomputable def gK : PSt :=
 (ay (ba false 2 (az aB (ag (ah 0) (ag (ao 5) aq))))
  (ay (xIf (qOf (pOp bLt (ah 2) (ao 2))) (aQ (jG (ag (pOp cM (ao 1) (az aB (ag (ah 0) (ag (ao 12) aq)))) (ag (ao 1) aq)))) xNx)
  (ay (xIf (qOf (pOp bEq (ah 2) (ao 2))) (aQ (jG (ag (ao 1) (ag (ao 1) aq)))) xNx)
  (ay (xIf (qOf (pOp bEq (ah 2) (ao 3))) (aQ (az bq (ag (pOp cM (ao 1) (az aB (ag (ah 0) (ag (ao 60) aq)))) (ag (pOp cM (ao 1) (az aB (ag (ah 0) (ag (ao 12) aq)))) aq)))) xNx)
  (aQ (az bq (ag (pOp cM (ao 1) (pOp bO (az bP (ag (ah 0) (ag (ao 6) aq))) (ah 1))) (ag (pOp cM (ao 1) (pOp bO (az bP (ag (ah 0) (ag (ao 6) aq))) (ah 1))) aq))))))))
noncomputable def ck : PFn := fnP [true, false] 3 gK
theorem nW : ck.ms = [true, false] := rfl
theorem mY (T : Txt K mg a_NoFraction a_NoBox) (D : Def K mg "_law_side" gF) (c_law_draw : Callee P w K mg base "_law_draw" 1 ["_law_feed_here", "_law_many"] (spD K mg 2 aB.F)) (c_law_low : Callee P w K mg base "_law_low" 1 ["_law_top", "_law_bottom"] (spD K mg 2 bq.F)) (c_law_great : Callee P w K mg base "_law_great" 2 ["_law_feed_here", "_law_pieces"] (spD K mg 2 bP.F)) : Callee P w K mg base "_law_side" (2 + 1) ["_law_feed_here", "_law_far"] (spD K mg 2 ck.F) := by
 unfold ck gK
 exact okP D jf (fun _ _ _ _ _ _ => ar2 fun _ _ => rfl) fun f cdv A outer s H E hr =>
  (ak (bc (i := 2) jf.nd rfl (by first | exact Or.inl rfl | exact Or.inr rfl) (av c_law_draw (hr.mono (by omega)) rfl (ar aG) (af (aa 0) (af ai aj))))
   (ak (br (aY lY lT (aa 2) ai (aJ _)) (aw (aF (iq (af (ax (bL (K := K) rfl) bM ai (av c_law_draw (hr.mono (by omega)) rfl (ar aG) (af (aa 0) (af ai aj)))) (af ai aj))))) aN)
   (ak (br (aY (jC (K := K) rfl hr.units) g0 (aa 2) ai (aJ _)) (aw (aF (iq (af ai (af ai aj))))) aN)
   (ak (br (aY (jC (K := K) rfl hr.units) g0 (aa 2) ai (aJ _)) (aw (aF (av c_law_low (hr.mono (by omega)) rfl (ar aG) (af (ax (bL (K := K) rfl) bM ai (av c_law_draw (hr.mono (by omega)) rfl (ar aG) (af (aa 0) (af ai aj)))) (af (ax (bL (K := K) rfl) bM ai (av c_law_draw (hr.mono (by omega)) rfl (ar aG) (af (aa 0) (af ai aj)))) aj))))) aN)
   (aw (aF (av c_law_low (hr.mono (by omega)) rfl (ar aG) (af (ax (bL (K := K) rfl) bM ai (ax bT cF (av c_law_great (hr.mono (by omega)) rfl (ar aG) (af (aa 0) (af ai aj))) (aa 1))) (af (ax (bL (K := K) rfl) bM ai (ax bT cF (av c_law_great (hr.mono (by omega)) rfl (ar aG) (af (aa 0) (af ai aj))) (aa 1))) aj)))))))))
noncomputable def ik : PSt :=
 (ay (lZ (pLC (iW (ag (ao 2) aq)) [none, some 0] (by decide) (gtN 0) qY (az bq (ag (pOp o7 (az aB (ag (ah 1) (ag (ao 41) aq))) (ao 20)) (ag (pOp cM (ao 1) (az aB (ag (ah 1) (ag (ao 9) aq)))) aq)))) (gtX (gtU 2 (cb (gtN 2) (cb (gtN 3) eI)))))
  (aQ (jG (ag (ah 2) (ag (ah 3) (ag (az ck (ag (ah 0) (ag (ah 1) aq))) (ag (az ck (ag (ah 0) (ag (ah 1) aq))) aq)))))))
noncomputable def cx : PFn := fnP [true, false] 4 ik
theorem pM : cx.ms = [true, false] := rfl
theorem nX (T : Txt K mg a_NoFraction a_NoBox) (D : Def K mg "_law_box" fi) (c_law_low : Callee P w K mg base "_law_low" 1 ["_law_top", "_law_bottom"] (spD K mg 2 bq.F)) (c_law_draw : Callee P w K mg base "_law_draw" 1 ["_law_feed_here", "_law_many"] (spD K mg 2 aB.F)) (c_law_side : Callee P w K mg base "_law_side" 3 ["_law_feed_here", "_law_far"] (spD K mg 2 ck.F)) : Callee P w K mg base "_law_box" (3 + 1) ["_law_feed_here", "_law_far"] (spD K mg 2 cx.F) := by
 unfold cx ik
 exact okP D gJ (fun _ _ _ _ _ _ => ar2 fun _ _ => rfl) fun f cdv A outer s H E hr =>
  (ak (oO (ma ["_law_feed_here", "_law_far", "_law_left", "_law_top"] (au fi).names ["_law_k", "_law_feed_here"] [none, some 0] rfl (fc rfl T.n_range (af ai aj)) (fun _ _ _ _ _ => (aU (i := 0) (show List.Nodup (["_law_k", "_law_feed_here"] : List Str) from by decide +kernel) rfl (by first | exact Or.inl rfl | exact Or.inr rfl))) (fun _ _ _ _ _ => (av c_law_low (hr.mono (by omega)) rfl dY (af (ax rO qX (av c_law_draw (hr.mono (by omega)) rfl dY (af (aa 1) (af ai aj))) ai) (af (ax (bL (K := K) rfl) bM ai (av c_law_draw (hr.mono (by omega)) rfl dY (af (aa 1) (af ai aj)))) aj))))) (ZG.weak (zF rfl rfl (cA (aU (i := 2) gJ.nd rfl (by first | exact Or.inl rfl | exact Or.inr rfl)) (cA (aU (i := 3) gJ.nd rfl (by first | exact Or.inl rfl | exact Or.inr rfl)) fY)))))
   (aw (aF (iq (af (aa 2) (af (aa 3) (af (av c_law_side (hr.mono (by omega)) rfl (ar aG) (af (aa 0) (af (aa 1) aj))) (af (av c_law_side (hr.mono (by omega)) rfl (ar aG) (af (aa 0) (af (aa 1) aj))) aj))))))))
noncomputable def gy : PSt :=
 (aQ (mi (pFn (cn kits) (ag (ah 0) (ag (pTy "int") aq))) (ky (pFn (cn kits) (ag (ah 0) (ag (pTy "bool") aq))))))
noncomputable def cm : PFn := fnP [false] 1 gy
theorem nT : cm.ms = [false] := rfl
theorem nN (T : Txt K mg a_NoFraction a_NoBox) (D : Def K mg "is_whole" gq)  : Callee P w K mg base "is_whole" (0 + 1) ["thing"] (spD K mg 1 cm.F) := by
 unfold cm gy
 exact okP D nZ (fun _ _ _ _ _ _ => ar1 fun _ => rfl) fun f cdv A outer s H E hr =>
  (aw (aF (mS (aP (gW (K := K) rfl) (eZ T.kits) rfl T.n_isinstance bI (af (aa 0) (af (gQ rfl T.n_int qR) aj))) (jQ (rG (aP (gW (K := K) rfl) (eZ T.kits) rfl T.n_isinstance bI (af (aa 0) (af (gQ rfl T.n_bool oM) aj))))))))
noncomputable def bN : PSt :=
 (hZ 0 1 (ag (ah 1) (ag (pOp bO (ah 0) (ah 1)) aq)))
noncomputable def dk : PSt :=
 (ay (hZ 0 1 (ag (pFn jM (ag (ah 0) aq)) (ag (pFn jM (ag (ah 1) aq)) aq)))
  (ay (xWh (qOf (pOp bNe (ah 1) (ao 0))) (bN))
  (aQ (ah 0))))
noncomputable def aE : PFn := fnP [false, false] 2 dk
theorem jc : aE.ms = [false, false] := rfl
theorem iB (T : Txt K mg a_NoFraction a_NoBox) (D : Def K mg "common_divisor" dn)  : Callee P w K mg base "common_divisor" (0 + 1) ["one", "other"] (spD K mg 2 aE.F) := by
 unfold aE dk bN
 exact okP D c7 (fun _ _ _ _ _ _ => ar2 fun _ _ => rfl) fun f cdv A outer s H E hr =>
  (ak (e8 (i := 0) (j := 1) rfl c7.nd rfl rfl (by decide) rfl rfl (af (aP jw nM rfl T.n_abs nE (af (aa 0) aj)) (af (aP jw nM rfl T.n_abs nE (af (aa 1) aj)) aj)) rfl)
   (ak (jz gP (aY (ia (K := K) rfl hr.units) eN (aa 1) ai (aJ _)) (aw (e8 (i := 0) (j := 1) rfl c7.nd rfl rfl (by decide) rfl rfl (af (aa 1) (af (ax bT cF (aa 0) (aa 1)) aj)) rfl)))
   (aw (aF (aa 0)))))
noncomputable def eA : PSt :=
 (ay (xIf (qO (qNo (qOf (pFn (cn kits) (ag (ah 0) (ag (pTy "tuple") aq))))) (qOf (pOp bNe (pFn ee (ag (ah 0) aq)) (ao 2)))) (aQ (pBl false)) xNx)
  (ay (lZ (ah 0) (gtX (gtT 2 (cb (gtN 1) (cb (gtN 2) eI)))))
  (ay (xIf (qO (qNo (qOf (az cm (ag (ah 1) aq)))) (qNo (qOf (az cm (ag (ah 2) aq))))) (aQ (pBl false)) xNx)
  (aQ (mi (pOp bGe (ah 2) (ao 1)) (pOp bEq (az aE (ag (ah 1) (ag (ah 2) aq))) (ao 1)))))))
noncomputable def bp : PFn := fnP [false] 3 eA
theorem kJ : bp.ms = [false] := rfl
theorem j4 (T : Txt K mg a_NoFraction a_NoBox) (D : Def K mg "is_fraction" eF) (c_is_whole : Callee P w K mg base "is_whole" 1 ["thing"] (spD K mg 1 cm.F)) (c_common_divisor : Callee P w K mg base "common_divisor" 1 ["one", "other"] (spD K mg 2 aE.F)) : Callee P w K mg base "is_fraction" (1 + 1) ["thing"] (spD K mg 1 bp.F) := by
 unfold bp eA
 exact okP D dZ (fun _ _ _ _ _ _ => ar1 fun _ => rfl) fun f cdv A outer s H E hr =>
  (ak (br (ZW.dt (jW (eQ (er (aP (gW (K := K) rfl) (eZ T.kits) rfl T.n_isinstance bI (af (aa 0) (af (gQ rfl T.n_tuple my) aj))))) (kd (aY (ia (K := K) rfl hr.units) eN (aP (gZ (K := K) rfl) eV rfl T.n_len eP (af (aa 0) aj)) ai (aJ _))))) (aw (aF dD)) aN)
   (ak (oO (aa 0) (ZG.weak (jV rfl rfl (cA (aU (i := 1) dZ.nd rfl (by first | exact Or.inl rfl | exact Or.inr rfl)) (cA (aU (i := 2) dZ.nd rfl (by first | exact Or.inl rfl | exact Or.inr rfl)) fY)))))
   (ak (br (ZW.dt (jW (eQ (er (av c_is_whole (hr.mono (by omega)) rfl (ar aG) (af (aa 1) aj)))) (kd (eQ (er (av c_is_whole (hr.mono (by omega)) rfl (ar aG) (af (aa 2) aj))))))) (aw (aF dD)) aN)
   (aw (aF (mS (iu vT vt (aa 2) ai (aJ _)) (jQ (iu (jC (K := K) rfl hr.units) g0 (av c_common_divisor (hr.mono (by omega)) rfl (ar aG) (af (aa 1) (af (aa 2) aj))) ai (aJ _)))))))))
noncomputable def jk : PSt :=
 (ay (xIf (qO (qNo (qOf (pFn (cn kits) (ag (ah 0) (ag (pTy "tuple") aq))))) (qOf (pOp bNe (pFn ee (ag (ah 0) aq)) (ao 4)))) (aQ (pBl false)) xNx)
  (ay (xIf (qNo (qOf (pFn qp (ag (pLC (df (ah 0)) [none] (by decide) (gtN 0) qY (az bp (ag (ah 0) aq))) aq)))) (aQ (pBl false)) xNx)
  (aQ (mi (pOp bGt (pOp bIx (pOp bIx (ah 0) (ao 2)) (ao 0)) (ao 0)) (pOp bGt (pOp bIx (pOp bIx (ah 0) (ao 3)) (ao 0)) (ao 0))))))
noncomputable def dh : PFn := fnP [false] 1 jk
theorem qM : dh.ms = [false] := rfl
theorem pv (T : Txt K mg a_NoFraction a_NoBox) (D : Def K mg "is_box" gO) (c_is_fraction : Callee P w K mg base "is_fraction" 2 ["thing"] (spD K mg 1 bp.F)) : Callee P w K mg base "is_box" (2 + 1) ["thing"] (spD K mg 1 dh.F) := by
 unfold dh jk
 exact okP D rl (fun _ _ _ _ _ _ => ar1 fun _ => rfl) fun f cdv A outer s H E hr =>
  (ak (br (ZW.dt (jW (eQ (er (aP (gW (K := K) rfl) (eZ T.kits) rfl T.n_isinstance bI (af (aa 0) (af (gQ rfl T.n_tuple my) aj))))) (kd (aY (ia (K := K) rfl hr.units) eN (aP (gZ (K := K) rfl) eV rfl T.n_len eP (af (aa 0) aj)) ai (aJ _))))) (aw (aF dD)) aN)
   (ak (br (eQ (er (aP (allK (K := K) rfl rfl) yV rfl T.n_all AM (af (ma ["thing"] (au gO).names ["part"] [none] rfl (ek rfl (aa 0)) (fun _ _ _ _ _ => (aU (i := 0) (show List.Nodup (["part"] : List Str) from by decide +kernel) rfl (by first | exact Or.inl rfl | exact Or.inr rfl))) (fun _ _ _ _ _ => (av c_is_fraction (hr.mono (by omega)) rfl dY (af (aa 0) aj)))) aj)))) (aw (aF dD)) aN)
   (aw (aF (mS (iu iI iU (a9 (ixK (K := K) rfl) a8 (a9 (ixK (K := K) rfl) a8 (aa 0) ai (fun _ _ => rfl)) ai (fun _ _ => rfl)) ai (aJ _)) (jQ (iu iI iU (a9 (ixK (K := K) rfl) a8 (a9 (ixK (K := K) rfl) a8 (aa 0) ai (fun _ _ => rfl)) ai (fun _ _ => rfl)) ai (aJ _))))))))
noncomputable def fI : PSt :=
 (xIf (qNo (qOf (az dh (ag (ah 0) aq)))) (ir "NoBox" (ag (c8 "this is no box") aq)) xNx)
noncomputable def bQ : PFn := fnP [false] 1 fI
theorem ni : bQ.ms = [false] := rfl
theorem lQ (T : Txt K mg a_NoFraction a_NoBox) (D : Def K mg "check_box" fE) (c_is_box : Callee P w K mg base "is_box" 3 ["thing"] (spD K mg 1 dh.F)) : Callee P w K mg base "check_box" (3 + 1) ["thing"] (spD K mg 1 bQ.F) := by
 unfold bQ fI
 exact okP D nr (fun _ _ _ _ _ _ => ar1 fun _ => rfl) fun f cdv A outer s H E hr =>
  (aw (br (eQ (er (av c_is_box (hr.mono (by omega)) rfl (ar aG) (af (aa 0) aj)))) (aw (jn rfl rz1 rfl T.m_NoBox T.x_NoBox (af cz aj))) aN))
noncomputable def hX : PSt :=
 (ay (xIf (qOf (pOp bEq (ah 1) (ao 0))) (ir "NoFraction" (ag (c8 "a fraction has no bottom of 0") aq)) xNx)
  (ay (ba false 2 (az aE (ag (ah 0) (ag (ah 1) aq))))
  (ay (xIf (qOf (pOp bLt (ah 1) (ao 0))) (ba false 2 (pUn pK (ah 2))) xNx)
  (aQ (jG (ag (pOp cL (ah 0) (ah 2)) (ag (pOp cL (ah 1) (ah 2)) aq)))))))
noncomputable def cI : PFn := fnP [false, false] 3 hX
theorem n5 : cI.ms = [false, false] := rfl
theorem mr (T : Txt K mg a_NoFraction a_NoBox) (D : Def K mg "fraction" gA) (c_common_divisor : Callee P w K mg base "common_divisor" 1 ["one", "other"] (spD K mg 2 aE.F)) : Callee P w K mg base "fraction" (1 + 1) ["top", "bottom"] (spD K mg 2 cI.F) := by
 unfold cI hX
 exact okP D fH (fun _ _ _ _ _ _ => ar2 fun _ _ => rfl) fun f cdv A outer s H E hr =>
  (ak (br (aY (jC (K := K) rfl hr.units) g0 (aa 1) ai (aJ _)) (aw (jn rfl rz1 rfl T.m_NoFraction T.x_NoFraction (af cz aj))) aN)
   (ak (bc (i := 2) fH.nd rfl (by first | exact Or.inl rfl | exact Or.inr rfl) (av c_common_divisor (hr.mono (by omega)) rfl (ar aG) (af (aa 0) (af (aa 1) aj))))
   (ak (br (aY lY lT (aa 1) ai (aJ _)) (aw (bc (i := 2) fH.nd rfl (by first | exact Or.inl rfl | exact Or.inr rfl) (vp rB qN (aa 2)))) aN)
   (aw (aF (iq (af (ax cB de (aa 0) (aa 2)) (af (ax cB de (aa 1) (aa 2)) aj))))))))
noncomputable def kM : PSt :=
 (aQ (az cI (ag (pOp aT (pOp bIx (ah 0) (ao 0)) (pOp bIx (ah 1) (ao 0))) (ag (pOp aT (pOp bIx (ah 0) (ao 1)) (pOp bIx (ah 1) (ao 1))) aq))))
noncomputable def dS : PFn := fnP [false, false] 2 kM
theorem uK : dS.ms = [false, false] := rfl
theorem rQ (T : Txt K mg a_NoFraction a_NoBox) (D : Def K mg "times" ko) (c_fraction : Callee P w K mg base "fraction" 2 ["top", "bottom"] (spD K mg 2 cI.F)) : Callee P w K mg base "times" (2 + 1) ["one", "other"] (spD K mg 2 dS.F) := by
 unfold dS kM
 exact okP D uZ (fun _ _ _ _ _ _ => ar2 fun _ _ => rfl) fun f cdv A outer s H E hr =>
  (aw (aF (av c_fraction (hr.mono (by omega)) rfl (ar aG) (af (ax bt bu (a9 (ixK (K := K) rfl) a8 (aa 0) ai (fun _ _ => rfl)) (a9 (ixK (K := K) rfl) a8 (aa 1) ai (fun _ _ => rfl))) (af (ax bt bu (a9 (ixK (K := K) rfl) a8 (aa 0) ai (fun _ _ => rfl)) (a9 (ixK (K := K) rfl) a8 (aa 1) ai (fun _ _ => rfl))) aj)))))
noncomputable def mm : PSt :=
 (ay (iM (az bQ (ag (ah 0) aq)))
  (aQ (az dS (ag (pOp bIx (ah 0) (ao 2)) (ag (pOp bIx (ah 0) (ao 3)) aq)))))
noncomputable def eu : PFn := fnP [false] 1 mm
theorem xN : eu.ms = [false] := rfl
theorem u7 (T : Txt K mg a_NoFraction a_NoBox) (D : Def K mg "area" nG) (c_check_box : Callee P w K mg base "check_box" 4 ["thing"] (spD K mg 1 bQ.F)) (c_times : Callee P w K mg base "times" 3 ["one", "other"] (spD K mg 2 dS.F)) : Callee P w K mg base "area" (4 + 1) ["box"] (spD K mg 1 eu.F) := by
 unfold eu mm
 exact okP D w6 (fun _ _ _ _ _ _ => ar1 fun _ => rfl) fun f cdv A outer s H E hr =>
  (ak (kU (av c_check_box (hr.mono (by omega)) rfl (ar aG) (af (aa 0) aj)))
   (aw (aF (av c_times (hr.mono (by omega)) rfl (ar aG) (af (a9 (ixK (K := K) rfl) a8 (aa 0) ai (fun _ _ => rfl)) (af (a9 (ixK (K := K) rfl) a8 (aa 0) ai (fun _ _ => rfl)) aj))))))
noncomputable def cP : PSt :=
 (ba false 2 (pOp cL (pOp aT (ah 2) (ah 4)) (az aE (ag (ah 2) (ag (ah 4) aq)))))
noncomputable def cR : PSt :=
 (ba false 6 (az aE (ag (ah 6) (ag (ah 7) aq))))
noncomputable def dQ : PSt :=
 (ay (xIf (qOf (pOp bEq (pFn ee (ag (ah 0) aq)) (ao 0))) (ir "NoBox" (ag (c8 "there are no boxes") aq)) xNx)
  (ay (ba false 1 (pLC (df (ah 0)) [none] (by decide) (gtN 0) qY (az eu (ag (ah 0) aq))))
  (ay (ba false 2 (ao 1))
  (ay (gm (df (ah 1)) (gtX (gtT 2 (cb (gtN 3) (cb (gtN 4) eI)))) (cP))
  (ay (ba false 5 (pLC (df (ah 1)) [none, none, some 2] (by decide) (gtT 2 (cb (gtN 0) (cb (gtN 1) eI))) qY (pOp aT (ah 0) (pOp cL (ah 2) (ah 1)))))
  (ay (ba false 6 (ao 0))
  (ay (gm (df (ah 5)) (gtN 7) (cR))
  (aQ (pLC (df (ah 5)) [none, some 6] (by decide) (gtN 0) qY (pOp cL (ah 0) (ah 1)))))))))))
noncomputable def aD : PFn := fnP [false] 8 dQ
theorem jN : aD.ms = [false] := rfl
theorem jj (T : Txt K mg a_NoFraction a_NoBox) (D : Def K mg "weights_back" bS) (c_area : Callee P w K mg base "area" 5 ["box"] (spD K mg 1 eu.F)) (c_common_divisor : Callee P w K mg base "common_divisor" 1 ["one", "other"] (spD K mg 2 aE.F)) : Callee P w K mg base "weights_back" (5 + 1) ["boxes"] (spD K mg 1 aD.F) := by
 unfold aD dQ cR cP
 exact okP D aM (fun _ _ _ _ _ _ => ar1 fun _ => rfl) fun f cdv A outer s H E hr =>
  (ak (br (aY (jC (K := K) rfl hr.units) g0 (aP (gZ (K := K) rfl) eV rfl T.n_len eP (af (aa 0) aj)) ai (aJ _)) (aw (jn rfl rz1 rfl T.m_NoBox T.x_NoBox (af cz aj))) aN)
   (ak (qz (iT := 1) ["boxes", "areas", "common", "top", "bottom", "wholes", "divisor", "whole"] (au bS).names ["box"] [none] rfl aM.nd rfl (by first | exact Or.inl rfl | exact Or.inr rfl) (ek rfl (aa 0)) (fun _ _ _ _ _ => (aU (i := 0) (show List.Nodup (["box"] : List Str) from by decide +kernel) rfl (by first | exact Or.inl rfl | exact Or.inr rfl))) (fun _ _ _ _ _ => (av c_area (hr.mono (by omega)) rfl dY (af (aa 0) aj))))
   (ak (bc (i := 2) aM.nd rfl (by first | exact Or.inl rfl | exact Or.inr rfl) ai)
   (ak (fW gP rfl (ek rfl (aa 1)) (ZG.weak (jV rfl rfl (cA (aU (i := 3) aM.nd rfl (by first | exact Or.inl rfl | exact Or.inr rfl)) (cA (aU (i := 4) aM.nd rfl (by first | exact Or.inl rfl | exact Or.inr rfl)) fY)))) (aw (bc (i := 2) aM.nd rfl (by first | exact Or.inl rfl | exact Or.inr rfl) (ax cB de (ax bt bu (aa 2) (aa 4)) (av c_common_divisor (hr.mono (by omega)) rfl (ar aG) (af (aa 2) (af (aa 4) aj)))))))
   (ak (qz (iT := 5) ["boxes", "areas", "common", "top", "bottom", "wholes", "divisor", "whole"] (au bS).names ["top", "bottom", "common"] [none, none, some 2] rfl aM.nd rfl (by first | exact Or.inl rfl | exact Or.inr rfl) (ek rfl (aa 1)) (fun _ _ _ _ _ => (jV rfl rfl (cA (aU (i := 0) (show List.Nodup (["top", "bottom", "common"] : List Str) from by decide +kernel) rfl (by first | exact Or.inl rfl | exact Or.inr rfl)) (cA (aU (i := 1) (show List.Nodup (["top", "bottom", "common"] : List Str) from by decide +kernel) rfl (by first | exact Or.inl rfl | exact Or.inr rfl)) fY)))) (fun _ _ _ _ _ => (ax bt bu (aa 0) (ax cB de (aa 2) (aa 1)))))
   (ak (bc (i := 6) aM.nd rfl (by first | exact Or.inl rfl | exact Or.inr rfl) ai)
   (ak (fW gP rfl (ek rfl (aa 5)) (aU (i := 7) aM.nd rfl (by first | exact Or.inl rfl | exact Or.inr rfl)) (aw (bc (i := 6) aM.nd rfl (by first | exact Or.inl rfl | exact Or.inr rfl) (av c_common_divisor (hr.mono (by omega)) rfl (ar aG) (af (aa 6) (af (aa 7) aj))))))
   (aw (aF (ma ["boxes", "areas", "common", "top", "bottom", "wholes", "divisor", "whole"] (au bS).names ["whole", "divisor"] [none, some 6] rfl (ek rfl (aa 5)) (fun _ _ _ _ _ => (aU (i := 0) (show List.Nodup (["whole", "divisor"] : List Str) from by decide +kernel) rfl (by first | exact Or.inl rfl | exact Or.inr rfl))) (fun _ _ _ _ _ => (ax cB de (aa 0) (aa 1)))))))))))))
noncomputable def fG : PSt :=
 (aQ (az bq (ag (pOp aT (pOp bIx (ah 0) (ao 0)) (pOp bIx (ah 1) (ao 0))) (ag (pOp aT (pOp bIx (ah 0) (ao 1)) (pOp bIx (ah 1) (ao 1))) aq))))
noncomputable def bC : PFn := fnP [false, false] 2 fG
theorem mL : bC.ms = [false, false] := rfl
theorem lO (T : Txt K mg a_NoFraction a_NoBox) (D : Def K mg "_law_times" fD) (c_law_low : Callee P w K mg base "_law_low" 1 ["_law_top", "_law_bottom"] (spD K mg 2 bq.F)) : Callee P w K mg base "_law_times" (1 + 1) ["_law_one", "_law_other"] (spD K mg 2 bC.F) := by
 unfold bC fG
 exact okP D mj (fun _ _ _ _ _ _ => ar2 fun _ _ => rfl) fun f cdv A outer s H E hr =>
  (aw (aF (av c_law_low (hr.mono (by omega)) rfl (ar aG) (af (ax bt bu (a9 (ixK (K := K) rfl) a8 (aa 0) ai (fun _ _ => rfl)) (a9 (ixK (K := K) rfl) a8 (aa 1) ai (fun _ _ => rfl))) (af (ax bt bu (a9 (ixK (K := K) rfl) a8 (aa 0) ai (fun _ _ => rfl)) (a9 (ixK (K := K) rfl) a8 (aa 1) ai (fun _ _ => rfl))) aj)))))
noncomputable def cE : PSt :=
 (hZ 0 1 (ag (ah 1) (ag (pOp bO (ah 0) (ah 1)) aq)))
noncomputable def eE : PSt :=
 (ay (xWh (qOf (pOp bGt (ah 1) (ao 0))) (cE))
  (aQ (ah 0)))
noncomputable def bH : PFn := fnP [false, false] 2 eE
theorem kq : bH.ms = [false, false] := rfl
theorem jU (T : Txt K mg a_NoFraction a_NoBox) (D : Def K mg "_law_divisor" eB)  : Callee P w K mg base "_law_divisor" (0 + 1) ["_law_one", "_law_other"] (spD K mg 2 bH.F) := by
 unfold bH eE cE
 exact okP D fS (fun _ _ _ _ _ _ => ar2 fun _ _ => rfl) fun f cdv A outer s H E hr =>
  (ak (jz gP (aY iI iU (aa 1) ai (aJ _)) (aw (e8 (i := 0) (j := 1) rfl fS.nd rfl rfl (by decide) rfl rfl (af (aa 1) (af (ax bT cF (aa 0) (aa 1)) aj)) rfl)))
   (aw (aF (aa 0))))
noncomputable def gb : PSt :=
 (ay (iM (mI 5 fb (ag (az cx (ag (ah 1) (ag (ah 3) aq))) aq)))
  (xIf (qOf (pOp bEq (az aB (ag (ah 1) (ag (ao 5) aq))) (ao 0))) (eW 5 seL (pUn pK (ao 1)) (pOp bIx (ah 5) (az aB (ag (ah 1) (ag (pOp cM (ah 6) (ao 1)) aq))))) xNx))
noncomputable def fX : PSt :=
 (ay (xIf (qOf (pOp bNe (pOp aT (pOp aT (ah 11) (pOp bIx (pOp bIx (ah 9) (ao 0)) (ao 0))) (pOp bIx (ah 12) (ao 1))) (pOp aT (pOp aT (pOp bIx (ah 8) (ao 0)) (pOp bIx (ah 12) (ao 0))) (pOp bIx (pOp bIx (ah 9) (ao 0)) (ao 1))))) (aQ (pBl false)) xNx)
  (ba false 10 (az bH (ag (ah 10) (ag (ah 11) aq)))))
noncomputable def fO : PSt :=
 (ay (hZ 3 4 (ag (ao 60) (ag (pOp bIx (qt (ag (pOp cM (ao 1) (az aB (ag (ah 1) (ag (ao 40) aq)))) (ag (pOp cM (ao 1) (az aB (ag (ah 1) (ag (ao 5) aq)))) (ag (ao 40) aq)))) (az aB (ag (ah 1) (ag (ao 3) aq)))) aq)))
  (ay (xIf (qOf (pOp bEq (az aB (ag (ah 1) (ag (ao 4) aq))) (ao 0))) (hZ 3 4 (ag (pOp o7 (pOp kR (ao 10) (ao 30)) (ao 1)) (ag (pOp cM (ao 1) (az aB (ag (ah 1) (ag (ao 8) aq)))) aq))) xNx)
  (ay (ba true 5 (qt aq))
  (ay (gm (iW (ag (ah 4) aq)) (gtN 6) (gb))
  (ay (ba true 7 (pFn dI (ag (ah 5) aq)))
  (ay (ba true 8 (az aD (ag (ah 7) aq)))
  (ay (xIf (qO (qNo (qOf (pFn (cn kits) (ag (ah 8) (ag (pTy "list") aq))))) (qO (qOf (pOp bNe (pFn ee (ag (ah 8) aq)) (ah 4))) (qOf (pOp bNe (ah 7) (ah 5))))) (aQ (pBl false)) xNx)
  (ay (xIf (qOf (pFn l7 (ag (pLC (df (ah 8)) [none] (by decide) (gtN 0) qY (pOr (pFn (cn kits) (ag (ah 0) (ag (pTy "bool") aq))) (pOr (ky (pFn (cn kits) (ag (ah 0) (ag (pTy "int") aq)))) (pOp bLt (ah 0) (ao 1))))) aq))) (aQ (pBl false)) xNx)
  (ay (ba false 9 (pLC (df (ah 5)) [none] (by decide) (gtN 0) qY (az bC (ag (pOp bIx (ah 0) (ao 2)) (ag (pOp bIx (ah 0) (ao 3)) aq)))))
  (ay (ba false 10 (ao 0))
  (ay (gm (lW (ag (ah 8) (ag (ah 9) aq))) (gtX (gtT 2 (cb (gtN 11) (cb (gtN 12) eI)))) (fX))
  (ay (xIf (qOf (pOp bNe (ah 10) (ao 1))) (aQ (pBl false)) xNx)
  (ay (ba false 13 (pFn dI (ag (ah 8) aq)))
  (ay (iM (mI 8 fb (ag (ao 0) aq)))
  (ay (xIf (qOf (pOp bNe (az aD (ag (ah 7) aq)) (ah 13))) (aQ (pBl false)) xNx)
  (ay (eW 5 seL (az aB (ag (ah 1) (ag (ah 4) aq))) (az cx (ag (ah 1) (ag (ah 3) aq))))
  (ay (eW 7 l6 p9 (ah 5))
  (xIf (qOf (pOp bNe (az aD (ag (ah 7) aq)) (az aD (ag (pFn dI (ag (ah 5) aq)) aq)))) (aQ (pBl false)) xNx))))))))))))))))))
noncomputable def p6 : PSt :=
 (ay (ba true 1 (az cG (ag (ah 0) aq)))
  (ay (gm (iW (ag (ao 2) aq)) (gtN 2) (fO))
  (aQ (pBl true))))
noncomputable def jL : PFn := fnP [false] 14 p6
theorem xU (T : Txt K mg a_NoFraction a_NoBox) (D : Def K mg "law" jb) (c_law_feed : Callee P w K mg base "_law_feed" 1 ["_law_script"] (spD K mg 1 cG.F)) (c_law_draw : Callee P w K mg base "_law_draw" 1 ["_law_feed_here", "_law_many"] (spD K mg 2 aB.F)) (c_law_box : Callee P w K mg base "_law_box" 4 ["_law_feed_here", "_law_far"] (spD K mg 2 cx.F)) (c_weights_back : Callee P w K mg base "weights_back" 6 ["boxes"] (spD K mg 1 aD.F)) (c_law_times : Callee P w K mg base "_law_times" 2 ["_law_one", "_law_other"] (spD K mg 2 bC.F)) (c_law_divisor : Callee P w K mg base "_law_divisor" 1 ["_law_one", "_law_other"] (spD K mg 2 bH.F)) : Callee P w K mg base "law" (6 + 1) ["_law_script"] (spD K mg 1 jL.F) := by
 unfold jL p6 fO fX gb
 exact okP D bX (fun _ _ _ _ _ _ => ar1 fun _ => rfl) fun f cdv A outer s H E hr =>
  (ak (bc (i := 1) bX.nd rfl (by first | exact Or.inl rfl | exact Or.inr rfl) (av c_law_feed (hr.mono (by omega)) rfl (ar aG) (af (aa 0) aj)))
   (ak (fW gP rfl (fc rfl T.n_range (af ai aj)) (aU (i := 2) bX.nd rfl (by first | exact Or.inl rfl | exact Or.inr rfl)) (ak (e8 (i := 3) (j := 4) rfl bX.nd rfl rfl (by decide) rfl rfl (af ai (af (a9 (ixK (K := K) rfl) a8 (rN (af (ax (bL (K := K) rfl) bM ai (av c_law_draw (hr.mono (by omega)) rfl (ar aG) (af (aa 1) (af ai aj)))) (af (ax (bL (K := K) rfl) bM ai (av c_law_draw (hr.mono (by omega)) rfl (ar aG) (af (aa 1) (af ai aj)))) (af ai aj)))) (av c_law_draw (hr.mono (by omega)) rfl (ar aG) (af (aa 1) (af ai aj))) (fun _ _ => rfl)) aj)) rfl)
   (ak (br (aY (jC (K := K) rfl hr.units) g0 (av c_law_draw (hr.mono (by omega)) rfl (ar aG) (af (aa 1) (af ai aj))) ai (aJ _)) (aw (e8 (i := 3) (j := 4) rfl bX.nd rfl rfl (by decide) rfl rfl (af (ax rO qX (ax sx rP ai ai) ai) (af (ax (bL (K := K) rfl) bM ai (av c_law_draw (hr.mono (by omega)) rfl (ar aG) (af (aa 1) (af ai aj)))) aj)) rfl)) aN)
   (ak (bc (i := 5) bX.nd rfl (by first | exact Or.inl rfl | exact Or.inr rfl) (rN aj))
   (ak (fW gP rfl (fc rfl T.n_range (af (aa 4) aj)) (aU (i := 6) bX.nd rfl (by first | exact Or.inl rfl | exact Or.inr rfl)) (ak (kU (rH rfl PySem.F.slot_list_append PySem.F.type_list_append lE lK (aa 5) (af (av c_law_box (hr.mono (by omega)) rfl (ar aG) (af (aa 1) (af (aa 3) aj))) aj)))
   (aw (br (aY (jC (K := K) rfl hr.units) g0 (av c_law_draw (hr.mono (by omega)) rfl (ar aG) (af (aa 1) (af ai aj))) ai (aJ _)) (aw (fR (a9 (ixK (K := K) rfl) a8 (aa 5) (av c_law_draw (hr.mono (by omega)) rfl (ar aG) (af (aa 1) (af (ax (bL (K := K) rfl) bM (aa 6) ai) aj))) (fun _ _ => rfl)) (aa 5) (vp rB qN ai) nH oU)) aN))))
   (ak (bc (i := 7) bX.nd rfl (by first | exact Or.inl rfl | exact Or.inr rfl) (fj (j8 (K := K) rfl) iK rfl T.n_list fZ (af (aa 5) aj)))
   (ak (bc (i := 8) bX.nd rfl (by first | exact Or.inl rfl | exact Or.inr rfl) (av c_weights_back (hr.mono (by omega)) rfl (ar aG) (af (aa 7) aj)))
   (ak (br (ZW.dt (jW (eQ (er (aP (gW (K := K) rfl) (eZ T.kits) rfl T.n_isinstance bI (af (aa 8) (af (gQ rfl T.n_list fZ) aj))))) (jW (aY (ia (K := K) rfl hr.units) eN (aP (gZ (K := K) rfl) eV rfl T.n_len eP (af (aa 8) aj)) (aa 4) (aJ _)) (kd (aY (ia (K := K) rfl hr.units) eN (aa 7) (aa 5) (aJ _)))))) (aw (aF dD)) aN)
   (ak (br (er (aP (anyK (K := K) rfl rfl) zg rfl T.n_any BG (af (ma ["_law_script", "_law_feed_here", "_law_bout", "_law_far", "_law_many", "_law_boxes", "_law_k", "_law_handed", "_law_found", "_law_spaces", "_law_by", "_law_one", "_law_space", "_law_told"] (au jb).names ["_law_one"] [none] rfl (ek rfl (aa 8)) (fun _ _ _ _ _ => (aU (i := 0) (show List.Nodup (["_law_one"] : List Str) from by decide +kernel) rfl (by first | exact Or.inl rfl | exact Or.inr rfl))) (fun _ _ _ _ _ => (vD (aP (gW (K := K) rfl) (eZ T.kits) rfl T.n_isinstance bI (af (aa 0) (af (gQ rfl T.n_bool oM) aj))) (vD (rG (aP (gW (K := K) rfl) (eZ T.kits) rfl T.n_isinstance bI (af (aa 0) (af (gQ rfl T.n_int qR) aj)))) (jQ (iu lY lT (aa 0) ai (aJ _))))))) aj))) (aw (aF dD)) aN)
   (ak (qz (iT := 9) ["_law_script", "_law_feed_here", "_law_bout", "_law_far", "_law_many", "_law_boxes", "_law_k", "_law_handed", "_law_found", "_law_spaces", "_law_by", "_law_one", "_law_space", "_law_told"] (au jb).names ["_law_box_here"] [none] rfl bX.nd rfl (by first | exact Or.inl rfl | exact Or.inr rfl) (ek rfl (aa 5)) (fun _ _ _ _ _ => (aU (i := 0) (show List.Nodup (["_law_box_here"] : List Str) from by decide +kernel) rfl (by first | exact Or.inl rfl | exact Or.inr rfl))) (fun _ _ _ _ _ => (av c_law_times (hr.mono (by omega)) rfl dY (af (a9 (ixK (K := K) rfl) a8 (aa 0) ai (fun _ _ => rfl)) (af (a9 (ixK (K := K) rfl) a8 (aa 0) ai (fun _ _ => rfl)) aj)))))
   (ak (bc (i := 10) bX.nd rfl (by first | exact Or.inl rfl | exact Or.inr rfl) ai)
   (ak (fW gP rfl (Aa rfl rfl T.n_zip (af (aa 8) (af (aa 9) aj))) (ZG.weak (jV rfl rfl (cA (aU (i := 11) bX.nd rfl (by first | exact Or.inl rfl | exact Or.inr rfl)) (cA (aU (i := 12) bX.nd rfl (by first | exact Or.inl rfl | exact Or.inr rfl)) fY)))) (ak (br (aY (ia (K := K) rfl hr.units) eN (ax bt bu (ax bt bu (aa 11) (a9 (ixK (K := K) rfl) a8 (a9 (ixK (K := K) rfl) a8 (aa 9) ai (fun _ _ => rfl)) ai (fun _ _ => rfl))) (a9 (ixK (K := K) rfl) a8 (aa 12) ai (fun _ _ => rfl))) (ax bt bu (ax bt bu (a9 (ixK (K := K) rfl) a8 (aa 8) ai (fun _ _ => rfl)) (a9 (ixK (K := K) rfl) a8 (aa 12) ai (fun _ _ => rfl))) (a9 (ixK (K := K) rfl) a8 (a9 (ixK (K := K) rfl) a8 (aa 9) ai (fun _ _ => rfl)) ai (fun _ _ => rfl))) (aJ _)) (aw (aF dD)) aN)
   (aw (bc (i := 10) bX.nd rfl (by first | exact Or.inl rfl | exact Or.inr rfl) (av c_law_divisor (hr.mono (by omega)) rfl (ar aG) (af (aa 10) (af (aa 11) aj)))))))
   (ak (br (aY (ia (K := K) rfl hr.units) eN (aa 10) ai (aJ _)) (aw (aF dD)) aN)
   (ak (bc (i := 13) bX.nd rfl (by first | exact Or.inl rfl | exact Or.inr rfl) (fj (j8 (K := K) rfl) iK rfl T.n_list fZ (af (aa 8) aj)))
   (ak (kU (rH rfl PySem.F.slot_list_append PySem.F.type_list_append lE lK (aa 8) (af ai aj)))
   (ak (br (aY (ia (K := K) rfl hr.units) eN (av c_weights_back (hr.mono (by omega)) rfl (ar aG) (af (aa 7) aj)) (aa 13) (aJ _)) (aw (aF dD)) aN)
   (ak (fR (av c_law_box (hr.mono (by omega)) rfl (ar aG) (af (aa 1) (af (aa 3) aj))) (aa 5) (av c_law_draw (hr.mono (by omega)) rfl (ar aG) (af (aa 1) (af (aa 4) aj))) nH oU)
   (ak (wo (aa 5) (aa 7))
   (aw (br (aY (ia (K := K) rfl hr.units) eN (av c_weights_back (hr.mono (by omega)) rfl (ar aG) (af (aa 7) aj)) (av c_weights_back (hr.mono (by omega)) rfl (ar aG) (af (fj (j8 (K := K) rfl) iK rfl T.n_list fZ (af (aa 5) aj)) aj)) (aJ _)) (aw (aF dD)) aN))))))))))))))))))))
   (aw (aF dD))))
end
noncomputable def fdD (cs : List Int) (a l : Int) : Val := .dct [(.inr "cells", .lst (cs.map .int)), (.inr "at", .int a), (.inr "left", .int l)]
noncomputable def Fd (n : Nat) (v : Val) : Prop := ∃ cs a l, v = fdD cs a l /\ 0 <= a /\ a <= n
theorem Fd.mono {n m : Nat} {v : Val} (h : Fd n v) (q : n <= m) : Fd m v := by
 obtain ⟨cs, a, l, e, h0, h1⟩ := h
 exact ⟨cs, a, l, e, h0, by omega⟩
theorem eU (cs : List Int) (a l : Int) : eJ.G (fdD cs a l) (.str "cells") = .val (.lst (cs.map .int)) := rfl
theorem jP (cs : List Int) (a l : Int) : eJ.G (fdD cs a l) (.str "at") = .val (.int a) := rfl
theorem fT (cs : List Int) (a l : Int) : eJ.G (fdD cs a l) (.str "left") = .val (.int l) := rfl
theorem fU (cs : List Int) (a l x : Int) : seD.G (fdD cs a l) (.str "at") (.int x) = some (fdD cs x l) := rfl
theorem eX (cs : List Int) (a l x : Int) : seD.G (fdD cs a l) (.str "left") (.int x) = some (fdD cs a x) := rfl
theorem lX : kR.G (.int 10) (.int 18) = .val (.int (10 ^ 18)) := vn ⟨by decide, by decide, by decide⟩
theorem dW {a m : Int} (h : 0 < m) : 0 <= a.fmod m /\ a.fmod m < m := ⟨Int.fmod_nonneg_of_pos a h, Int.fmod_lt_of_pos a h⟩
set_option hygiene false in
local macro_rules | `(tactic| simp! [$args,*]) => `(tactic| simp only [j5, Dp, CW, Dh, j3, Ca, CS, tS, sQ, pk, qu, zI, BH, AR, BB, yy, zL, A2, yX, wX, uz, AA, A4, zY, zh, wz, Aq, Dc, Cf, v_bl, Dm, CZ, v_ty, v_un, v_op, CQ, Bo, v_fn, B8, BO, Du, y_or, BX, c_of, c_an, c_o, c_no, c_y, x_nx, Dg, xi, xv, zX, vK, x_if, D1, CY, Cz, xr, u9, tD, g_n, g_sn, g_sc, g_t, g_x, zx, Dn, DK, wd, C0, CV, DV, CG, DQ, y9, Bj, yU, Dw, sJ, Cm, DN, yC, yf, Bf, yk, Cv, C6, oX, v_lc, zM, zk, yE, o_n, o_s, v_sl, Cg, DM, k_lt, k_gt, k_ge, Df, k_ix, yD, Ap, k_eq, k_ne, CO, CC, BS, CN, BL, uF, mK, List.getElem?_cons_zero, List.getElem?_cons_succ, List.set_cons_zero, List.set_cons_succ, List.length_cons, List.length_nil, Option.bind_some, Option.map_some, Option.isSome_some, if_true, if_false, Bool.not_true, Bool.not_false, Bool.and_true, Bool.true_and, Bool.false_and, Bool.or_true, Bool.true_or, Nat.reduceLeDiff, Nat.reduceLT, Nat.reduceAdd, Nat.reduceSub, Nat.zero_add, Nat.sub_self, List.cons_append, List.nil_append, List.append_nil, List.replicate, decide_false, Bool.false_eq_true, List.all_cons, List.all_nil, List.isEmpty_nil, List.isEmpty_cons, List.map_cons, List.map_nil, Int.reduceBEq, Int.reduceLT, Int.reduceAdd, Int.reduceSub, Int.reduceMul, Int.cast_ofNat_Int, Bu, yd, yK, Bb, AS, xS, uC, Ac, sW, rf, wY, xK, A5, wU, qK, xX, zV, uH, yj, xI, Af, uW, yB, Ah, wx, DD, C5, Dq, C9, sj, rK, rC, lj, tE, rR, ati0, ati1, ati2, ati3, Dt, c5, BM, Bk, Int.reduceNeg, xk, g_uL, rb, B5, n8, nQ, qD, mF, nW, pM, nT, jc, kJ, qM, ni, n5, uK, xN, jN, mL, kq, $args,*])
theorem xJ {ns : List Int} (hl : ns.length <= 63) : ∃ v, cG.G [.kl (ns.map .int)] = .ok (.new v) [] /\ Fd 0 v := by
 refine ⟨fdD ns 0 0, ?_, ns, 0, 0, rfl, by omega, by omega⟩
 unfold cG
 rw [cK]
 unfold gL
 have e : aSl (.kl (ns.map Val.int)) none (some 63) = .new (.lst (ns.map Val.int)) := by
  have := CB (ns.map Val.int) none (some ((63 : Nat) : Int))
  rw [yA, List.take_of_length_le (by rw [List.length_map]; exact hl)] at this
  exact this
 have c : Val.items (.lst (ns.map Val.int)) = some (ns.map Val.int) := rfl
 simp! [rb, e, c]
 rfl
theorem
    aO {n : Nat} {v : Val} {m : Int} (f : Fd n v) (hn : n <= 1000000000) (h0 : 0 < m) (hm : Sm 8000 m) : ∃ r v', aB.G [v, .int m] = .ok (.val (.int r)) [v'] /\ Fd (n + 1) v' /\ 0 <= r /\ r < m := by
 obtain ⟨cs, a, l, rfl, a0, a1⟩ := f
 have m0 : m ≠ 0 := by omega
 have d1 := fun i => ef (i := i) m0
 have d2 := fun i => eK (i := i) (CDivB.of m0 hm)
 unfold aB
 rw [cK]
 unfold gM
 have x1 : aT.G (.int 61) (.int a) = .val (.int (61 * a)) := b8 (CMulA.left (by decide) (by decide))
 have x2 : aT.G (.int (61 * a)) (.int a) = .val (.int (61 * a * a)) := b8 (CMulA.right (by omega) (by omega))
 have x3 : aT.G (.int 7) (.int a) = .val (.int (7 * a)) := b8 (CMulA.left (by decide) (by decide))
 have x4 : ∀ x : Int, aT.G (.int x) (.int 48271) = .val (.int (x * 48271)) := fun x => b8 (CMulA.right (by decide) (by decide))
 have x5 : ∀ x : Int, aT.G (.int x) (.int 69623) = .val (.int (x * 69623)) := fun x => b8 (CMulA.right (by decide) (by decide))
 have x6 : aT.G (.int 7919) (.int a) = .val (.int (7919 * a)) := b8 (CMulA.left (by decide) (by decide))
 have x7 : ∀ x : Int, aT.G (.int x) (.int 16811) = .val (.int (x * 16811)) := fun x => b8 (CMulA.right (by decide) (by decide))
 have y1 : ∀ x : Int, bO.G (.int x) (.int 1000003) = .val (.int (x.fmod 1000003)) := fun x => ef (by decide)
 have y2 : ∀ x : Int, bO.G (.int x) (.int 999983) = .val (.int (x.fmod 999983)) := fun x => ef (by decide)
 have y3 : ∀ x : Int, bO.G (.int x) (.int 1999993) = .val (.int (x.fmod 1999993)) := fun x => ef (by decide)
 have y4 : ∀ x : Int, bO.G (.int x) (.int 524287) = .val (.int (x.fmod 524287)) := fun x => ef (by decide)
 have y5 : ∀ x : Int, cL.G (.int x) (.int 5) = .val (.int (x.fdiv 5)) := fun x => eK (CDivB.of (by decide) (sm8 (by decide)))
 by_cases hc : 0 < l
 ·have hc' : decide (0 < l) = true := decide_eq_true hc
  refine ⟨l.fmod m, fdD cs a (l.fdiv m), ?_, ⟨cs, a, _, rfl, a0, by omega⟩, dW h0⟩
  simp! [hc', d1, d2, eU, jP, fT, fU, eX]
 ·have hc' : decide (0 < l) = false := decide_eq_false hc
  have fin : ∀ x : Int, ∃ r v', (R3F.ok (Rt.val (.int (x.fmod m))) [fdD cs (a + 1) l] : R3F) = .ok (.val (.int r)) [v'] /\ Fd (n + 1) v' /\ 0 <= r /\ r < m := fun x => ⟨_, _, rfl, ⟨cs, _, _, rfl, by omega, by omega⟩, dW h0⟩
  have z18 : ((10 : Int) ^ 18) = 1000000000000000000 := by decide
  by_cases hl : 0 < cs.length
  ·have r := dW (a := a) (m := (cs.length : Nat)) (by omega)
   have hi : (a.fmod (cs.length : Nat)).toNat < cs.length := by omega
   have at1 : atI (cs.map Val.int) (a.fmod (cs.length : Nat)) = some (.int cs[(a.fmod (cs.length : Nat)).toNat]) := fk r.1 (by rw [List.getElem?_map, List.getElem?_eq_getElem hi]; rfl)
   have l1 : decide ((0 : Int) < ((cs.length : Nat) : Int)) = true := decide_eq_true (by omega)
   have e1 : bO.G (.int a) (.int (cs.length : Nat)) = .val (.int (a.fmod (cs.length : Nat))) := ef (by omega)
   by_cases hb : (10 ^ 18 : Int) <= cs[(a.fmod (cs.length : Nat)).toNat]
   ·have hb' := decide_eq_true hb
    by_cases ha : a < (cs.length : Nat)
    ·have ha' := decide_eq_true ha
     refine ⟨(cs[(a.fmod (cs.length : Nat)).toNat]).fmod m, fdD cs (a + 1) ((cs[(a.fmod (cs.length : Nat)).toNat]).fdiv m), ?_, ⟨cs, _, _, rfl, by omega, by omega⟩, dW h0⟩
     simp! [hc', d1, d2, eU, jP, fT, fU, eX, List.length_map, l1, e1, at1, lX, hb', ha']
    ·have ha' := decide_eq_false ha
     simp! [hc', d1, d2, eU, jP, fT, fU, eX, List.length_map, l1, e1, at1, lX, hb', ha', x1, x2, x3, x4, x5, x6, x7, y1, y2, y3, y4, y5]
     exact fin _
   ·have hb' := decide_eq_false hb
    simp! [hc', d1, d2, eU, jP, fT, fU, eX, List.length_map, l1, e1, at1, lX, hb', x1, x2, x3, x4, x5, x6, x7, y1, y2, y3, y4, y5]
    exact fin _
  ·have l1 : decide ((0 : Int) < ((cs.length : Nat) : Int)) = false := decide_eq_false (by omega)
   have hb' : decide ((10 ^ 18 : Int) <= a) = false := decide_eq_false (by rw [z18]; omega)
   simp! [hc', d1, d2, eU, jP, fT, fU, eX, List.length_map, l1, lX, hb', x1, x2, x3, x4, x5, x6, x7, y1, y2, y3, y4, y5]
   exact fin _
theorem Dx : fN [.int 6] = some [.int 0, .int 1, .int 2, .int 3, .int 4, .int 5] := kD (i := 6) (by decide) (by decide)
theorem rz {n : Nat} {v : Val} (f : Fd n v) (hn : n <= 900000000) : ∃ r v', bP.G [v, .int 6] = .ok (.val (.int r)) [v'] /\ Fd (n + 6) v' /\ 0 <= r := by
 have s : Sm 8000 100000 := sm8 (by decide)
 obtain ⟨r1, v1, e1, f1, a1, _⟩ := aO (m := 100000) f (by omega) (by decide) s
 obtain ⟨r2, v2, e2, f2, a2, _⟩ := aO (m := 100000) f1 (by omega) (by decide) s
 obtain ⟨r3, v3, e3, f3, a3, _⟩ := aO (m := 100000) f2 (by omega) (by decide) s
 obtain ⟨r4, v4, e4, f4, a4, _⟩ := aO (m := 100000) f3 (by omega) (by decide) s
 obtain ⟨r5, v5, e5, f5, a5, _⟩ := aO (m := 100000) f4 (by omega) (by decide) s
 obtain ⟨r6, v6, e6, f6, a6, _⟩ := aO (m := 100000) f5 (by omega) (by decide) s
 have c6 : ∀ x : Int, aT.G (.int x) (.int 100000) = .val (.int (x * 100000)) := fun x => b8 (CMulA.right (by decide) (by decide))
 refine ⟨((((((0 * 100000 + r1) * 100000 + r2) * 100000 + r3) * 100000 + r4) * 100000 + r5) * 100000 + r6), v6, ?_, f6.mono (by omega), by omega⟩
 unfold bP
 rw [cK]
 unfold fB e7
 simp! [Dx, eS, c6, e1, e2, e3, e4, e5, e6]
theorem oY (a : Int) : (if a < 0 then -a else a) = ((a.natAbs : Nat) : Int) := by split <;> omega
theorem md : ∀ (n one other : Nat), other <= n -> (xWh (qOf (pOp bNe (ah 1) (ao 0))) bN).G [.sh (.int (one : Nat)), .sh (.int (other : Nat))] = .nx [.sh (.int (Nat.gcd one other : Nat)), .sh (.int 0)]
 |
  n, one, 0, _ => by
  rw [kF]
  simp! [j5]
  rw [Nat.gcd_zero_right]
  try rfl
 | 0, one, other + 1, hl => absurd hl (by omega)
 |
  n + 1, one, other + 1, hl => by
  rw [kF]
  have e : ((((other + 1 : Nat) : Int) == 0)) = false := by rw [beq_eq_false_iff_ne]; omega
  have e1 : bO.G (.int (one : Nat)) (.int ((other + 1 : Nat) : Int)) = .val (.int (((one : Nat) : Int).fmod ((other + 1 : Nat) : Int))) := ef (by omega)
  have e2 : ((one : Nat) : Int).fmod ((other + 1 : Nat) : Int) = ((one % (other + 1) : Nat) : Int) := by
   rw [Int.fmod_eq_emod_of_nonneg _ (by omega)]; rfl
  have ih := md n (other + 1) (one % (other + 1)) (by have := Nat.mod_lt one (show other + 1 > 0 by omega); omega)
  rw [Fr.euc] at ih
  rw [e2] at e1
  have bb : bN.G [.sh (.int (one : Nat)), .sh (.int ((other + 1 : Nat) : Int))] = .nx [.sh (.int ((other + 1 : Nat) : Int)), .sh (.int ((one % (other + 1) : Nat) : Int))] := by
   unfold bN
   simp! [e1]
  simp! [e, bb, ih]
theorem bo (a b : Int) : aE.G [.int a, .int b] = .ok (.val (.int (Int.gcd a b : Nat))) [] := by
 unfold aE
 rw [cK]
 unfold dk
 have := md b.natAbs a.natAbs b.natAbs (Nat.le_refl _)
 simp! [oY, this]
 rfl
theorem nS {a b : Int} (hb : b ≠ 0) (hs : Sm 8000 b) : cI.G [.int a, .int b] = .ok (.val (fV ((a : Rat) / (b : Rat)))) [] := by
 unfold cI
 rw [cK]
 unfold hX
 have e : (b == 0) = false := by rw [beq_eq_false_iff_ne]; exact hb
 have c : ∀ x, CDivB x (Fr.dv a b) := fun x => CDivB.of (Fr.dv_ne hb) (hs.of_le (by
   rw [Fr.dv_abs]
   exact Nat.le_of_dvd (by omega) (Nat.gcd_dvd_right a.natAbs b.natAbs)))
 have k1 := eK (c a)
 have k2 := eK (c b)
 have hh := jR (a := a) hb
 have fin : Val.tup [.int (a.fdiv (Fr.dv a b)), .int (b.fdiv (Fr.dv a b))] = fV ((a : Rat) / (b : Rat)) := by
  unfold fV
  rw [<- hh.1, <- hh.2]
  rfl
 by_cases hn : b < 0
 ·have hd : Fr.dv a b = -((Int.gcd a b : Nat) : Int) := by unfold Fr.dv; rw [if_pos hn]
  rw [hd] at k1 k2 fin
  simp! [e, bo, decide_eq_true hn, k1, k2, fin]
 ·have hd : Fr.dv a b = ((Int.gcd a b : Nat) : Int) := by unfold Fr.dv; rw [if_neg hn]
  rw [hd] at k1 k2 fin
  simp! [e, bo, decide_eq_false hn, k1, k2, fin]
theorem tP {p q : Rat} {n m : Nat} (hp : Sz n p) (hq : Sz m q) (h : n + m <= 8000) : dS.G [fV p, fV q] = .ok (.val (fV (p * q))) [] := by
 have c1 := b8 (CMulA.of hp.top hq.top (by omega) (by omega))
 have c2 := b8 (CMulA.of hp.bot hq.bot (by omega) (by omega))
 have fe := nS (a := p.num * q.num) (b := p.den * q.den) (Int.mul_ne_zero (gh p) (gh q)) ((hp.bot.mul hq.bot).mono h)
 rw [<- kB] at fe
 unfold dS
 rw [cK]
 unfold kM
 rw [show fV p = .tup [.int p.num, .int p.den] from rfl, show fV q = .tup [.int q.num, .int q.den] from rfl]
 simp! [c1, c2, fe]
theorem iQ {v : Val} (hk : knV v = true) : (cn kits).G [v, .ty "tuple"] = .val (.bl (dC v)) := by
 cases v <;> first | rfl | cases hk
theorem je {v : Val} (hk : knV v = true) : cm.G [v] = .ok (.val (.bl (ju v))) [] := by
 unfold cm
 rw [cK]
 unfold gy
 cases v <;> first | rfl | cases hk
theorem nD (v : Val) : dC v = false \/ ∃ xs, v = .tup xs := by
 cases v <;> first | exact .inr ⟨_, rfl⟩ | exact .inl rfl
theorem mO (v : Val) : ju v = false \/ ∃ i, v = .int i := by
 cases v <;> first | exact .inr ⟨_, rfl⟩ | exact .inl rfl
theorem Ct {v : Val} (h : dC v = false) : aK v = false := by
 cases v <;> first | rfl | cases h
theorem Cj {v : Val} (h : dC v = false) : eh v = false := by
 cases v <;> first | rfl | cases h
theorem yL {a b : Val} (h : ju a = false) : aK (.tup [a, b]) = false := by
 cases a <;> first | rfl | cases h
theorem AU {i : Int} {b : Val} (h : ju b = false) : aK (.tup [.int i, b]) = false := by
 cases b <;> first | rfl | cases h
theorem Co {xs : List Val} (hl : xs.length ≠ 2) : aK (.tup xs) = false := by
 unfold aK
 split
 ·rename_i e; injection e with e; subst e; exact absurd rfl hl
 ·rfl
theorem CM {xs : List Val} (hl : xs.length ≠ 4) : eh (.tup xs) = false := by
 unfold eh
 split
 ·rename_i e; injection e with e; subst e; exact absurd rfl hl
 ·rfl
theorem vB {k : Nat} {v : Val} (ha : fK k v = true) (h : dC v = false) : knV v = true := by
 cases v with
 | tup xs => cases h
 | _ => cases k <;> exact ha
theorem
    kW {v : Val} (ha : fK 1 v = true) : bp.G [v] = .ok (.val (.bl (aK v))) [] := by
 unfold bp
 rw [cK]
 unfold eA
 rcases nD v with ht | ⟨xs, rfl⟩
 ·have it := iQ (vB ha ht)
  rw [ht] at it
  simp! [it, Ct ht]
 have it := iQ (v := .tup xs) rfl
 by_cases hl : xs.length = 2
 ·match xs, hl, ha with
  |
   [a, b], _, ha =>
   have ha' : (knV a && (knV b && true)) = true := by simpa [fK] using ha
   simp only [Bool.and_eq_true] at ha'
   have w1 := je ha'.1
   have w2 := je ha'.2.1
   rcases mO a with h1 | ⟨i, rfl⟩
   ·rw [h1] at w1
    simp! [it, dC, w1, yL h1]
   rcases mO b with h2 | ⟨j, rfl⟩
   ·rw [h2] at w2
    simp! [it, dC, w1, ju, w2, AU h2]
   have f : aK (.tup [.int i, .int j]) = (decide (1 <= j) && decide (Int.gcd i j = 1)) := rfl
   have g : ((((Int.gcd i j : Nat) : Int) == 1) : Bool) = decide (Int.gcd i j = 1) := by
    rw [Bool.eq_iff_iff, beq_iff_eq, decide_eq_true_eq]; omega
   by_cases hj : 1 <= j
   ·simp! [it, dC, w1, w2, ju, bo, decide_eq_true hj, f, g]
   ·simp! [it, dC, w1, w2, ju, bo, decide_eq_false hj, f, g]
 ·have e : (((xs.length : Nat) : Int) == 2) = false := by rw [beq_eq_false_iff_ne]; omega
  simp! [it, dC, e, Co hl]
theorem
    lA {v : Val} (ha : fK 2 v = true) : dh.G [v] = .ok (.val (.bl (eh v))) [] := by
 unfold dh
 rw [cK]
 unfold jk
 rcases nD v with ht | ⟨xs, rfl⟩
 ·have it := iQ (vB ha ht)
  rw [ht] at it
  simp! [it, Cj ht]
 have it := iQ (v := .tup xs) rfl
 by_cases hl : xs.length = 4
 ·match
     xs, hl, ha with
  |
   [a, b, c, d], _, ha =>
   have e1 : eh (.tup [a, b, c, d]) = (aK a && (aK b && (aK c && (aK d && (gz c && gz d))))) := rfl
   have bl4 : ∀ x y z w : Bool, fJ [.bl x, .bl y, .bl z, .bl w] = some [x, y, z, w] := fun _ _ _ _ => rfl
   obtain ⟨e', ⟨s', rfl, _⟩, lc⟩ := ox (g := (gtN 0).G) (F := (az bp (ag (ah 0) aq)).G) (f := fun v => .bl (aK v)) (fun e => ∃ s, e = [s] /\ s.pl = true) [a, b, c, d] [] [.no] ⟨.no, rfl, rfl⟩ (by
    rintro v hv e ⟨s, rfl, hs⟩
    have hv' : fK 1 v = true := List.all_eq_true.mp (by simpa [fK] using ha) v hv
    refine ⟨[.sh v], .val (.bl (aK v)), [.sh v], ?_, ?_, rfl, ⟨_, rfl, rfl⟩⟩
    ·simp! [hs]
    ·simp! [kW hv']) (by simp)
   have cy : cY = qY.G := rfl
   rw [cy, List.nil_append] at lc
   simp only [List.map_cons, List.map_nil] at lc
   cases hA : (aK a && (aK b && (aK c && aK d))) with
   |
    true =>
    simp only [Bool.and_eq_true] at hA
    obtain ⟨p, rfl⟩ := rj hA.2.2.1
    obtain ⟨q, rfl⟩ := rj hA.2.2.2
    rw [hA.1, hA.2.1, hA.2.2.1, hA.2.2.2] at e1 lc
    have e2 : eh (.tup [a, b, fV p, fV q]) = (decide (0 < p.num) && decide (0 < q.num)) := by rw [e1]; rfl
    rw [e2]
    have i1 : (fV p).items = some [.int p.num, .int p.den] := rfl
    have i2 : (fV q).items = some [.int q.num, .int q.den] := rfl
    by_cases hp : 0 < p.num
    ·simp! [it, dC, lc, c5, bl4, id, i1, i2, decide_eq_true hp]
    ·simp! [it, dC, lc, c5, bl4, id, i1, decide_eq_false hp]
   |
    false =>
    have e2 : eh (.tup [a, b, c, d]) = false := by
     rw [e1]
     revert hA
     generalize aK a = a', aK b = b', aK c = c', aK d = d', (gz c && gz d) = z
     revert a' b' c' d' z
     decide
    rw [e2]
    simp! [it, dC, lc, c5, bl4, id, hA]
 ·have e : (((xs.length : Nat) : Int) == 4) = false := by rw [beq_eq_false_iff_ne]; omega
  simp! [it, dC, e, CM hl]
theorem mB {v : Val} (ha : fK 2 v = true) : bQ.G [v] = if eh v = true then .ok (.val .non) [] else .exc "NoBox" [] := by
 unfold bQ
 rw [cK]
 unfold fI
 cases h : eh v with
 | true => simp! [lA ha, h]
 | false => simp! [lA ha, h]
theorem mh {b : Bx} (hb : b.Ok) : bQ.G [bV b] = .ok (.val .non) [] := by rw [mB (zE b), sG hb]; rfl
theorem x9 {b : Bx} {n : Nat} (hb : b.Ok) (hs : b.Sz n) (h : n + n <= 8000) : eu.G [bV b] = .ok (.val (fV (b.w * b.h))) [] := by
 have c := mh hb
 have t := tP hs.w hs.h h
 unfold eu
 rw [cK]
 unfold mm
 rw [show bV b = .tup [fV b.l, fV b.t, fV b.w, fV b.h] from rfl] at *
 simp! [c, t]
theorem mD (x y : Val) : ∀ (n one other : Nat), other <= n -> (xWh (qOf (pOp bGt (ah 3) (ao 0))) dH).G [.sh x, .sh y, .sh (.int (one : Nat)), .sh (.int (other : Nat))] = .nx [.sh x, .sh y, .sh (.int (Nat.gcd one other : Nat)), .sh (.int 0)]
 |
  n, one, 0, _ => by
  rw [kF]
  simp! [Nat.gcd_zero_right, Int.natCast_zero, Int.lt_irrefl]
 | 0, one, other + 1, hl => absurd hl (by omega)
 |
  n + 1, one, other + 1, hl => by
  rw [kF]
  have e : decide ((0 : Int) < ((other + 1 : Nat) : Int)) = true := decide_eq_true (by omega)
  have e1 : bO.G (.int (one : Nat)) (.int ((other + 1 : Nat) : Int)) = .val (.int (((one : Nat) : Int).fmod ((other + 1 : Nat) : Int))) := ef (by omega)
  have e2 : ((one : Nat) : Int).fmod ((other + 1 : Nat) : Int) = ((one % (other + 1) : Nat) : Int) := by
   rw [Int.fmod_eq_emod_of_nonneg _ (by omega)]; rfl
  have ih := mD x y n (other + 1) (one % (other + 1)) (by have := Nat.mod_lt one (show other + 1 > 0 by omega); omega)
  rw [Fr.euc] at ih
  rw [e2] at e1
  have bb : dH.G [.sh x, .sh y, .sh (.int (one : Nat)), .sh (.int ((other + 1 : Nat) : Int))] = .nx [.sh x, .sh y, .sh (.int ((other + 1 : Nat) : Int)), .sh (.int ((one % (other + 1) : Nat) : Int))] := by
   unfold dH
   simp! [e1]
  simp! [e, bb, ih]
theorem iA {a b : Int} (hb : 0 < b) (hs : Sm 8000 b) : bq.G [.int a, .int b] = .ok (.val (fV ((a : Rat) / (b : Rat)))) [] := by
 unfold bq
 rw [cK]
 unfold iC
 have hb0 : b ≠ 0 := by omega
 have lo := mD (.int a) (.int b) b.natAbs a.natAbs b.natAbs (Nat.le_refl _)
 rw [show Nat.gcd a.natAbs b.natAbs = Int.gcd a b from rfl, show ((b.natAbs : Nat) : Int) = b by omega] at lo
 have c : ∀ x, CDivB x (Fr.dv a b) := fun x => CDivB.of (Fr.dv_ne hb0) (hs.of_le (by
   rw [Fr.dv_abs]
   exact Nat.le_of_dvd (by omega) (Nat.gcd_dvd_right a.natAbs b.natAbs)))
 have k1 := eK (c a)
 have k2 := eK (c b)
 have hh := jR (a := a) hb0
 have fin : Val.tup [.int (a.fdiv (Fr.dv a b)), .int (b.fdiv (Fr.dv a b))] = fV ((a : Rat) / (b : Rat)) := by
  unfold fV
  rw [<- hh.1, <- hh.2]
  rfl
 have hd : Fr.dv a b = ((Int.gcd a b : Nat) : Int) := by unfold Fr.dv; rw [if_neg (by omega)]
 rw [hd] at k1 k2 fin
 simp! [oY, lo, k1, k2, fin]
theorem qP : Sm 1 ((1 : Nat) : Int) := by unfold Sm; decide
theorem vz {bs : List Bx} {n : Nat} (h0 : bs ≠ []) (hl : bs.length <= 1000) (ok : ∀ b ∈ bs, b.Ok) (sz : ∀ b ∈ bs, b.Sz n) (h : (n + n) * (bs.length + 1) <= 7000) : aD.G [.lst (bs.map bV)] = .ok (.new (.lst ((Wb.wb (bs.map fun b => b.w * b.h)).map .int))) [] := by
 have hn : n + n <= 7000 := Nat.le_trans (by rw [Nat.mul_add, Nat.mul_one]; exact Nat.le_add_left _ _) h
 obtain ⟨e1, ⟨s1, rfl, _⟩, lc1⟩ := d8 (g := (gtN 0).G) (F := (az eu (ag (ah 0) aq)).G) bV (fun b => fV (b.w * b.h)) (fun e => ∃ s, e = [s] /\ s.pl = true) bs [] [.no] ⟨.no, rfl, rfl⟩ (by
  rintro b hb e ⟨s, rfl, hp⟩
  refine ⟨[.sh (bV b)], .val (fV (b.w * b.h)), [.sh (bV b)], ?_, ?_, rfl, ⟨_, rfl, rfl⟩⟩
  ·simp! [hp]
  ·simp! [x9 (ok b hb) (sz b hb) (by omega)]) (by simp; omega)
 rw [List.nil_append] at lc1
 have hm : bs.map (fun b => fV (b.w * b.h)) = (bs.map fun b => b.w * b.h).map fV := by rw [List.map_map]; rfl
 have len1 : (bs.map fun b => fV (b.w * b.h)).length <= 16777216 := by rw [List.length_map]; omega
 rw [hm] at lc1 len1
 have hz : ∀ q ∈ bs.map (fun b => b.w * b.h), Sz (n + n) q := by
  intro q hq
  obtain ⟨b, hb, rfl⟩ := List.mem_map.mp hq
  exact (sz b hb).w.mul (sz b hb).h
 have hp : ∀ q ∈ bs.map (fun b => b.w * b.h), 0 < q := by
  intro q hq
  obtain ⟨b, hb, rfl⟩ := List.mem_map.mp hq
  exact Rat.mul_pos (ok b hb).1 (ok b hb).2
 have hq0 : bs.map (fun b => b.w * b.h) ≠ [] := by
  intro e
  exact h0 (List.map_eq_nil_iff.mp e)
 have hql : (bs.map fun b => b.w * b.h).length = bs.length := List.length_map ..
 have hne : ((((bs.map bV).length : Nat) : Int) == 0) = false := by
  rw [beq_eq_false_iff_ne, List.length_map]
  have := List.length_pos_iff.mpr h0
  omega
 generalize hbv : bs.map bV = bv at *
 generalize bs.map (fun b => b.w * b.h) = qs at *
 have hL : Sm (1 + (n + n) * qs.length) ((Wb.lc qs 1 : Nat) : Int) := Wb.lc_sm qs 1 1 qP hz
 have hm2 : (n + n) * qs.length <= 7000 := Nat.le_trans (Nat.mul_le_mul_left _ (by omega)) h
 have hLp := Wb.lc_pos qs 1 (by decide)
 obtain ⟨e2, ⟨_, _, s3, s4, rfl, h3, h4⟩, fr1⟩ := ff (g := (gtX (gtT 2 (cb (gtN 3) (cb (gtN 4) eI)))).G) (B := cP.G) fV (fun c q => Nat.lcm c q.den) (fun c e => c ∣ Wb.lc qs 1 /\ 0 < c /\ ∃ s3 s4, e = [.sh (.lst bv), .sh (.lst (qs.map fV)), .sh (.int (c : Nat)), s3, s4, .no, .no, .no] /\ s3.pl = true /\ s4.pl = true) qs 1 [.sh (.lst bv), .sh (.lst (qs.map fV)), .sh (.int 1), .no, .no, .no, .no, .no] ⟨Nat.one_dvd _, by decide, _, _, rfl, rfl, rfl⟩ (by
  rintro q hq c e ⟨d1, d2, s3, s4, rfl, h3, h4⟩
  have i1 : fV q = .tup [.int q.num, .int q.den] := rfl
  have sc : Sm (1 + (n + n) * qs.length) (c : Int) := hL.of_le (by rw [Int.natAbs_natCast, Int.natAbs_natCast]; exact Nat.le_of_dvd hLp d1)
  have m1 : aT.G (.int (c : Nat)) (.int (q.den : Nat)) = .val (.int ((c : Nat) * (q.den : Nat))) := b8 (CMulA.of sc (hz q hq).bot (by omega) (by omega))
  have gp : 0 < Nat.gcd c q.den := Nat.gcd_pos_of_pos_left _ d2
  have gs : Sm 8000 ((Nat.gcd c q.den : Nat) : Int) := ((hz q hq).bot.of_le (by rw [Int.natAbs_natCast]; exact Nat.le_of_dvd q.den_pos (Nat.gcd_dvd_right _ _))).mono (by omega)
  have m2 : cL.G (.int ((c : Nat) * (q.den : Nat))) (.int ((Int.gcd (c : Int) (q.den : Int) : Nat) : Int)) = .val (.int (Nat.lcm c q.den : Nat)) := by
   rw [show Int.gcd (c : Int) (q.den : Int) = Nat.gcd c q.den from rfl, eK (CDivB.of (by omega) gs), <- Int.natCast_mul, Int.fdiv_eq_ediv_of_nonneg _ (by omega)]
   rfl
  refine ⟨[.sh (.lst bv), .sh (.lst (qs.map fV)), .sh (.int (c : Nat)), .sh (.int q.num), .sh (.int (q.den : Nat)), .no, .no, .no], [.sh (.lst bv), .sh (.lst (qs.map fV)), .sh (.int (Nat.lcm c q.den : Nat)), .sh (.int q.num), .sh (.int (q.den : Nat)), .no, .no, .no], ?_, .inl ?_, Nat.lcm_dvd d1 (Wb.lc_dvd qs 1 hq), Nat.lcm_pos d2 q.den_pos, _, _, rfl, rfl, rfl⟩
  ·simp! [i1, h3, h4]
  ·unfold cP
   simp! [bo, m1, m2])
 obtain ⟨e3, ⟨a1, a2, rfl, _, _⟩, lc2⟩ := d8 (g := (gtT 2 (cb (gtN 0) (cb (gtN 1) eI))).G) (F := (pOp aT (ah 0) (pOp cL (ah 2) (ah 1))).G) fV (fun q => .int (q.num * ((Wb.lc qs 1 / q.den : Nat) : Int))) (fun e => ∃ s t, e = [s, t, .sh (.int (Wb.lc qs 1 : Nat))] /\ s.pl = true /\ t.pl = true) qs [] [.no, .no, .sh (.int (Wb.lc qs 1 : Nat))] ⟨.no, .no, rfl, rfl, rfl⟩ (by
  rintro q hq e ⟨s, t, rfl, hs, ht⟩
  have i1 : fV q = .tup [.int q.num, .int q.den] := rfl
  have m2 : cL.G (.int (Wb.lc qs 1 : Nat)) (.int (q.den : Nat)) = .val (.int ((Wb.lc qs 1 / q.den : Nat) : Int)) := by
   have := q.den_pos
   rw [eK (CDivB.of (by omega) ((hz q hq).bot.mono (by omega))), Int.fdiv_eq_ediv_of_nonneg _ (by omega)]
   rfl
  have sd : Sm (1 + (n + n) * qs.length) ((Wb.lc qs 1 / q.den : Nat) : Int) := hL.of_le (by rw [Int.natAbs_natCast, Int.natAbs_natCast]; exact Nat.div_le_self _ _)
  have m1 : aT.G (.int q.num) (.int ((Wb.lc qs 1 / q.den : Nat) : Int)) = .val (.int (q.num * ((Wb.lc qs 1 / q.den : Nat) : Int))) := b8 (CMulA.of (hz q hq).top sd (by omega) (by omega))
  refine ⟨[.sh (.int q.num), .sh (.int (q.den : Nat)), .sh (.int (Wb.lc qs 1 : Nat))], .val (.int (q.num * ((Wb.lc qs 1 / q.den : Nat) : Int))), [.sh (.int q.num), .sh (.int (q.den : Nat)), .sh (.int (Wb.lc qs 1 : Nat))], ?_, ?_, rfl, ⟨_, _, rfl, rfl, rfl⟩⟩
  ·simp! [i1, hs, ht]
  ·simp! [m2, m1]) (by simp; omega)
 rw [List.nil_append, show qs.map (fun q => Val.int (q.num * ((Wb.lc qs 1 / q.den : Nat) : Int))) = (Wb.ws qs).map Val.int by unfold Wb.ws Wb.wh; rw [List.map_map]; rfl] at lc2
 have wsl : (Wb.ws qs).length = bs.length := by unfold Wb.ws Wb.wh; rw [List.length_map]; exact hql
 have len2 : ((Wb.ws qs).map Val.int).length <= 16777216 := by rw [List.length_map]; omega
 have len3 : ((Wb.wb qs).map Val.int).length <= 16777216 := by rw [List.length_map, Wb.wb_len]; omega
 have fold1 : qs.foldl (fun c q => Nat.lcm c q.den) 1 = Wb.lc qs 1 := rfl
 rw [fold1] at fr1
 obtain ⟨e4, ⟨s7, rfl, h7⟩, fr2⟩ := ff (g := (gtN 7).G) (B := cR.G) Val.int (fun g w => Int.gcd (g : Int) w) (fun g e => ∃ s7, e = [.sh (.lst bv), .sh (.lst (qs.map fV)), .sh (.int (Wb.lc qs 1 : Nat)), s3, s4, .sh (.lst ((Wb.ws qs).map .int)), .sh (.int (g : Nat)), s7] /\ s7.pl = true) (Wb.ws qs) 0 [.sh (.lst bv), .sh (.lst (qs.map fV)), .sh (.int (Wb.lc qs 1 : Nat)), s3, s4, .sh (.lst ((Wb.ws qs).map .int)), .sh (.int 0), .no] ⟨_, rfl, rfl⟩ (by
  rintro w hw g e ⟨s7, rfl, h7⟩
  refine ⟨[.sh (.lst bv), .sh (.lst (qs.map fV)), .sh (.int (Wb.lc qs 1 : Nat)), s3, s4, .sh (.lst ((Wb.ws qs).map .int)), .sh (.int (g : Nat)), .sh (.int w)], [.sh (.lst bv), .sh (.lst (qs.map fV)), .sh (.int (Wb.lc qs 1 : Nat)), s3, s4, .sh (.lst ((Wb.ws qs).map .int)), .sh (.int (Int.gcd (g : Int) w : Nat)), .sh (.int w)], ?_, .inl ?_, _, rfl, rfl⟩
  ·simp! [h7]
  ·unfold cR
   simp! [bo])
 have fold2 : (Wb.ws qs).foldl (fun g w => Int.gcd (g : Int) w) 0 = Wb.dv qs := rfl
 rw [fold2] at fr2
 have dp := Wb.dv_pos hp hq0
 have ds : Sm 8000 ((Wb.dv qs : Nat) : Int) := by
  cases hws : Wb.ws qs with
  |
   nil =>
   rw [hws] at wsl
   have := List.length_pos_iff.mpr h0
   simp at wsl
   omega
  |
   cons w l =>
   have hw : w ∈ Wb.ws qs := by rw [hws]; exact List.mem_cons_self ..
   obtain ⟨q, hq, e⟩ := List.mem_map.mp hw
   have sd : Sm (1 + (n + n) * qs.length) ((Wb.lc qs 1 / q.den : Nat) : Int) := hL.of_le (by rw [Int.natAbs_natCast, Int.natAbs_natCast]; exact Nat.div_le_self _ _)
   have sw := (hz q hq).top.mul sd
   have h' : (n + n) + (n + n) * qs.length <= 7000 := by rw [hql]; rw [Nat.mul_add, Nat.mul_one] at h; omega
   rw [show q.num * ((Wb.lc qs 1 / q.den : Nat) : Int) = w from e] at sw
   exact (sw.of_le (by rw [Int.natAbs_natCast]; exact Wb.dv_le hp hw)).mono (by omega)
 obtain ⟨e5, ⟨b1, rfl, _⟩, lc3⟩ := d8 (g := (gtN 0).G) (F := (pOp cL (ah 0) (ah 1)).G) Val.int (fun w => .int (w.fdiv (Wb.dv qs : Nat))) (fun e => ∃ s, e = [s, .sh (.int (Wb.dv qs : Nat))] /\ s.pl = true) (Wb.ws qs) [] [.no, .sh (.int (Wb.dv qs : Nat))] ⟨.no, rfl, rfl⟩ (by
  rintro w hw e ⟨s, rfl, hs⟩
  have m2 : cL.G (.int w) (.int (Wb.dv qs : Nat)) = .val (.int (w.fdiv (Wb.dv qs : Nat))) := eK (CDivB.of (by omega) ds)
  refine ⟨[.sh (.int w), .sh (.int (Wb.dv qs : Nat))], .val (.int (w.fdiv (Wb.dv qs : Nat))), [.sh (.int w), .sh (.int (Wb.dv qs : Nat))], ?_, ?_, rfl, ⟨_, rfl, rfl⟩⟩
  ·simp! [hs]
  ·simp! [m2]) (by rw [List.length_nil]; omega)
 rw [List.nil_append, show (Wb.ws qs).map (fun w => Val.int (w.fdiv (Wb.dv qs : Nat))) = (Wb.wb qs).map Val.int by unfold Wb.wb; rw [List.map_map]; rfl] at lc3
 unfold aD
 rw [cK]
 unfold dQ
 simp! [hne, c5, lc1, len1, fr1, lc2, len2, fr2, lc3, len3]
theorem p30 : kR.G (.int 10) (.int 30) = .val (.int 1000000000000000000000000000000) := vn ⟨by decide, by decide, by decide⟩
theorem nF {p q : Rat} {n m : Nat} (hp : Sz n p) (hq : Sz m q) (h : n + m <= 8000) : bC.G [fV p, fV q] = .ok (.val (fV (p * q))) [] := by
 have i1 : fV p = .tup [.int p.num, .int p.den] := rfl
 have i2 : fV q = .tup [.int q.num, .int q.den] := rfl
 have m1 : aT.G (.int p.num) (.int q.num) = .val (.int (p.num * q.num)) := b8 (CMulA.of hp.top hq.top (by omega) (by omega))
 have m2 : aT.G (.int (p.den : Nat)) (.int (q.den : Nat)) = .val (.int ((p.den : Int) * (q.den : Int))) := b8 (CMulA.of hp.bot hq.bot (by omega) (by omega))
 have dp := p.den_pos
 have dq := q.den_pos
 have pp : (0 : Int) < (p.den : Int) * (q.den : Int) := Int.mul_pos (by omega) (by omega)
 have lo := iA (a := p.num * q.num) pp ((hp.bot.mul hq.bot).mono h)
 rw [<- kB] at lo
 unfold bC
 rw [cK]
 unfold fG
 simp! [i1, i2, m1, m2, lo]
theorem nq : ∀ (n one other : Nat), other <= n -> (xWh (qOf (pOp bGt (ah 1) (ao 0))) cE).G [.sh (.int (one : Nat)), .sh (.int (other : Nat))] = .nx [.sh (.int (Nat.gcd one other : Nat)), .sh (.int 0)]
 |
  n, one, 0, _ => by
  rw [kF]
  simp! [Nat.gcd_zero_right, Int.natCast_zero, Int.lt_irrefl]
 | 0, one, other + 1, hl => absurd hl (by omega)
 |
  n + 1, one, other + 1, hl => by
  rw [kF]
  have e : decide ((0 : Int) < ((other + 1 : Nat) : Int)) = true := decide_eq_true (by omega)
  have e1 : bO.G (.int (one : Nat)) (.int ((other + 1 : Nat) : Int)) = .val (.int (((one : Nat) : Int).fmod ((other + 1 : Nat) : Int))) := ef (by omega)
  have e2 : ((one : Nat) : Int).fmod ((other + 1 : Nat) : Int) = ((one % (other + 1) : Nat) : Int) := by
   rw [Int.fmod_eq_emod_of_nonneg _ (by omega)]; rfl
  have ih := nq n (other + 1) (one % (other + 1)) (by have := Nat.mod_lt one (show other + 1 > 0 by omega); omega)
  rw [Fr.euc] at ih
  rw [e2] at e1
  have bb : cE.G [.sh (.int (one : Nat)), .sh (.int ((other + 1 : Nat) : Int))] = .nx [.sh (.int ((other + 1 : Nat) : Int)), .sh (.int ((one % (other + 1) : Nat) : Int))] := by
   unfold cE
   simp! [e1]
  simp! [e, bb, ih]
theorem kh (g : Nat) {w : Int} (hw : 0 <= w) : bH.G [.int (g : Nat), .int w] = .ok (.val (.int (Int.gcd (g : Int) w : Nat))) [] := by
 have lo := nq w.natAbs g w.natAbs (Nat.le_refl _)
 rw [show Nat.gcd g w.natAbs = Int.gcd (g : Int) w from rfl, show ((w.natAbs : Nat) : Int) = w by omega] at lo
 unfold bH
 rw [cK]
 unfold eE
 simp! [lo]
theorem fm {β : Nat} {a b : Int} (h0 : 0 <= a) (h : a <= b) (hb : Sm β b) : Sm β a := hb.of_le (by omega)
theorem
    oT {n β : Nat} {v : Val} {far : Int} (f : Fd n v) (hn : n <= 800000000) (h1 : 1 <= far) (hf : Sm β far) (h60 : Sm β 60) (hβ : β <= 8000) : ∃ q v', ck.G [v, .int far] = .ok (.val (fV q)) [v'] /\ Fd (n + 13) v' /\ 0 < q /\ Sz β q := by
 obtain ⟨w, v1, e1, f1, w0, w5⟩ := aO (m := 5) f (by omega) (by decide) (sm8 (by decide))
 unfold ck
 rw [cK]
 unfold gK
 by_cases h2 : w < 2
 ·obtain ⟨a, v2, e2, f2, a0, a1⟩ := aO (m := 12) f1 (by omega) (by decide) (sm8 (by decide))
  refine ⟨((1 + a : Int) : Rat), v2, ?_, f2.mono (by omega), kY (by omega), fm (by show (0 : Int) <= 1 + a; omega) (by show 1 + a <= 60; omega) h60, fm (a := 1) (by decide) (by decide) h60⟩
  have i1 : fV ((1 + a : Int) : Rat) = .tup [.int (1 + a), .int 1] := rfl
  rw [i1]
  simp! [e1, e2, decide_eq_true h2]
 ·have d2 := decide_eq_false h2
  by_cases h3 : w = 2
  ·subst h3
   refine ⟨1, v1, ?_, f1.mono (by omega), by decide, fm (a := 1) (by decide) (by decide) h60, fm (a := 1) (by decide) (by decide) h60⟩
   have i1 : fV 1 = .tup [.int 1, .int 1] := rfl
   rw [i1]
   simp! [e1, d2]
  ·have d3 : (w == 2) = false := by rw [beq_eq_false_iff_ne]; exact h3
   by_cases h4 : w = 3
   ·subst h4
    obtain ⟨a, v2, e2, f2, a0, a1⟩ := aO (m := 60) f1 (by omega) (by decide) (sm8 (by decide))
    obtain ⟨b, v3, e3, f3, b0, b1⟩ := aO (m := 12) f2 (by omega) (by decide) (sm8 (by decide))
    have sb : Sm β (1 + b) := fm (by omega) (by omega) h60
    have lo := iA (a := 1 + a) (b := 1 + b) (by omega) (sb.mono hβ)
    refine ⟨((1 + a : Int) : Rat) / ((1 + b : Int) : Rat), v3, ?_, f3.mono (by omega), m6 (by omega) (by omega), Sz.div (by omega) (fm (by omega) (by omega) h60) sb β (Nat.le_refl _) (Nat.le_refl _)⟩
    simp! [e1, e2, e3, d2, lo]
   ·have d4 : (w == 3) = false := by rw [beq_eq_false_iff_ne]; exact h4
    obtain ⟨a, v2, e2, f2, a0⟩ := rz f1 (by omega)
    obtain ⟨b, v3, e3, f3, b0⟩ := rz f2 (by omega)
    have m1 : ∀ x : Int, bO.G (.int x) (.int far) = .val (.int (x.fmod far)) := fun x => ef (by omega)
    have r1 := dW (a := a) (m := far) (by omega)
    have r2 := dW (a := b) (m := far) (by omega)
    have sb : Sm β (1 + b.fmod far) := fm (by omega) (by omega) hf
    have lo := iA (a := 1 + a.fmod far) (b := 1 + b.fmod far) (by omega) (sb.mono hβ)
    refine ⟨((1 + a.fmod far : Int) : Rat) / ((1 + b.fmod far : Int) : Rat), v3, ?_, f3.mono (by omega), m6 (by omega) (by omega), Sz.div (by omega) (fm (by omega) (by omega) hf) sb β (Nat.le_refl _) (Nat.le_refl _)⟩
    simp! [e1, e2, e3, d2, d3, d4, m1, lo]
theorem vL : fN [.int 2] = some [.int 0, .int 1] := kD (i := 2) (by decide) (by decide)
theorem rV {n β : Nat} {v : Val} {far : Int} (f : Fd n v) (hn : n <= 700000000) (h1 : 1 <= far) (hf : Sm β far) (h60 : Sm β 60) (hβ : β <= 8000) : ∃ b v', cx.G [v, .int far] = .ok (.val (bV b)) [v'] /\ Fd (n + 30) v' /\ b.Ok /\ b.Sz β := by
 obtain ⟨a1, v1, e1, f1, a10, a11⟩ := aO (m := 41) f (by omega) (by decide) (sm8 (by decide))
 obtain ⟨a2, v2, e2, f2, a20, a21⟩ := aO (m := 9) f1 (by omega) (by decide) (sm8 (by decide))
 obtain ⟨a3, v3, e3, f3, a30, a31⟩ := aO (m := 41) f2 (by omega) (by decide) (sm8 (by decide))
 obtain ⟨a4, v4, e4, f4, a40, a41⟩ := aO (m := 9) f3 (by omega) (by decide) (sm8 (by decide))
 obtain ⟨p, v5, e5, f5, p0, ps⟩ := oT f4 (by omega) h1 hf h60 hβ
 obtain ⟨q, v6, e6, f6, q0, qs⟩ := oT f5 (by omega) h1 hf h60 hβ
 have l1 := iA (a := a1 - 20) (b := 1 + a2) (by omega) (sm8 (by omega))
 have l2 := iA (a := a3 - 20) (b := 1 + a4) (by omega) (sm8 (by omega))
 have sl : ∀ a b : Int, 0 <= a -> a < 41 -> 0 <= b -> b < 9 -> Sz β (((a - 20 : Int) : Rat) / ((1 + b : Int) : Rat)) := fun a b u1 u2 u3 u4 => Sz.div (by omega) (h60.of_le (by omega)) (h60.of_le (by omega)) β (Nat.le_refl _) (Nat.le_refl _)
 refine ⟨⟨((a1 - 20 : Int) : Rat) / ((1 + a2 : Int) : Rat), ((a3 - 20 : Int) : Rat) / ((1 + a4 : Int) : Rat), p, q⟩, v6, ?_, f6.mono (by omega), ⟨p0, q0⟩, ⟨sl a1 a2 a10 a11 a20 a21, sl a3 a4 a30 a31 a40 a41, ps, qs⟩⟩
 have i1 : ∀ b : Bx, bV b = .tup [fV b.l, fV b.t, fV b.w, fV b.h] := fun b => rfl
 rw [i1]
 unfold cx
 rw [cK]
 unfold ik
 simp! [vL, c5, lcV, e1, e2, e3, e4, e5, e6, l1, l2]
theorem vH {qs : List Rat} {n : Nat} (hp : ∀ q ∈ qs, 0 < q) (h0 : qs ≠ []) (hz : ∀ q ∈ qs, Sz n q) {r : Int} (h : r ∈ Wb.wb qs) : Sm (n + (1 + n * qs.length)) r := by
 obtain ⟨w, hw, rfl⟩ := List.mem_map.mp h
 have e := Wb.fd_mul (Wb.gc_dvd _ 0 hw) (Wb.dv_pos hp h0)
 have d := Wb.dv_pos hp h0
 obtain ⟨q, hq, e2⟩ := List.mem_map.mp hw
 have hL : Sm (1 + n * qs.length) ((Wb.lc qs 1 : Nat) : Int) := Wb.lc_sm qs 1 1 qP hz
 have sd : Sm (1 + n * qs.length) ((Wb.lc qs 1 / q.den : Nat) : Int) := hL.of_le (by rw [Int.natAbs_natCast, Int.natAbs_natCast]; exact Nat.div_le_self _ _)
 have sw := (hz q hq).top.mul sd
 rw [show q.num * ((Wb.lc qs 1 / q.den : Nat) : Int) = w from e2] at sw
 refine sw.of_le ?_
 have e3 : w.natAbs = Wb.dv qs * (w.fdiv (Wb.dv qs : Nat)).natAbs := by
  have := congrArg Int.natAbs e
  rw [Int.natAbs_mul, Int.natAbs_natCast] at this
  exact this.symm
 rw [e3]
 exact Nat.le_mul_of_pos_left _ d
theorem zw : ∀ (a : List Int) (b : List Rat), List.zipWith (fun x y => Val.tup [x, y]) (a.map .int) (b.map fV) = (a.zip b).map fun p => .tup [.int p.1, fV p.2]
 | [], b => by simp
 | _ :: _, [] => by simp
 | x :: a, y :: b => by simp [zw a b]
theorem yG (a : List Int) (b : List Rat) (h : a.length = b.length) : (a.zip b).foldl (fun g p => Int.gcd (g : Int) p.1) 0 = Wb.gc a 0 := by
 have e : (a.zip b).foldl (fun g p => Int.gcd (g : Int) p.1) 0 = ((a.zip b).map Prod.fst).foldl (fun g w => Int.gcd (g : Int) w) 0 := by rw [List.foldl_map]
 rw [e, List.map_fst_zip (by omega)]
 rfl
noncomputable def Bs (β : Nat) (bs : List Bx) : Prop := ∀ b ∈ bs, b.Ok /\ b.Sz β
theorem Bs.put {β : Nat} {bs : List Bx} (h : Bs β bs) {c : Bx} (hc : c.Ok /\ c.Sz β) (j : Nat) : Bs β (bs.set j c) := fun b hb => (List.mem_or_eq_of_mem_set hb).elim (h b) (fun z => z ▸ hc)
theorem Bs.app {β : Nat} {bs : List Bx} (h : Bs β bs) {c : Bx} (hc : c.Ok /\ c.Sz β) : Bs β (bs ++ [c]) := fun b hb => (List.mem_append.mp hb).elim (h b) (fun z => by rw [List.mem_singleton] at z; exact z ▸ hc)
theorem zp (bs : List Bx) : eG (.lst (bs.map bV)) (.lst (bs.map bV)) = some true := by
 have w : wfV 60 (.lst (bs.map bV)) = true := by
  show cN 59 _ = true
  rw [jq, List.all_eq_true]
  intro v hv
  obtain ⟨b, _, rfl⟩ := List.mem_map.mp hv
  exact BQ b 57
 rw [vN w w, kz 60 _ w]
theorem oB (is : List Int) : eG (.lst (is.map .int)) (.lst (is.map .int)) = some true := by
 have w : wfV 60 (.lst (is.map .int)) = true := by
  show cN 59 _ = true
  rw [jq, List.all_eq_true]
  intro v hv
  obtain ⟨b, _, rfl⟩ := List.mem_map.mp hv
  rfl
 rw [vN w w, kz 60 _ w]
theorem B0 {β : Nat} {s0 s2 s7 s8 s9 s10 s11 s12 s13 : Sl} {far : Int} {m n : Nat} (h1 : 1 <= far) (hf : Sm β far) (h60 : Sm β 60) (hβ : β <= 8000) (hm : m <= 40) (hn : n <= 10000) {v : Val} (f : Fd n v) {s6 : Sl} (h6 : s6.pl = true) : ∃ e', (∃ v bs s6, Fd (n + 32 * m) v /\ bs.length = m /\ Bs β bs /\ s6.pl = true /\ e' = [s0, .ow v, s2, .sh (.int far), .sh (.int (m : Nat)), .ow (.lst (bs.map bV)), s6, s7, s8, s9, s10, s11, s12, s13]) /\ dA (gtN 6).G gb.G (rgV m) [s0, .ow v, s2, .sh (.int far), .sh (.int (m : Nat)), .ow (.lst []), s6, s7, s8, s9, s10, s11, s12, s13] = .nx e' := by
 refine tI (g := (gtN 6).G) (B := gb.G) (fun i e => ∃ v bs s6, Fd (n + 32 * i) v /\ bs.length = i /\ Bs β bs /\ s6.pl = true /\ e = [s0, .ow v, s2, .sh (.int far), .sh (.int (m : Nat)), .ow (.lst (bs.map bV)), s6, s7, s8, s9, s10, s11, s12, s13]) m ⟨v, [], s6, f, rfl, (fun _ h => nomatch h), h6, rfl⟩ ?_
 rintro i hi e ⟨v, bs, s6, f, hl, hb, h6, rfl⟩
 obtain ⟨b, v1, e1, f1, b1, b2⟩ := rV f (by omega) h1 hf h60 hβ
 obtain ⟨r, v2, e2, f2, r0, r5⟩ := aO (m := 5) f1 (by omega) (by decide) (sm8 (by decide))
 have ll : (bs.map bV).length < 16777216 := by rw [List.length_map]; omega
 have hb1 := hb.app ⟨b1, b2⟩
 have le : bs.map bV ++ [bV b] = (bs ++ [b]).map bV := by rw [List.map_append]; rfl
 by_cases hr : r = 0
 ·subst hr
  obtain ⟨j, v3, e3, f3, j0, j1⟩ := aO (m := (i : Int) + 1) f2 (by omega) (by omega) (sm8 (by omega))
  have hj : j.toNat < (bs ++ [b]).length := by rw [List.length_append, hl]; show j.toNat < i + 1; omega
  have at1 : atI (bs.map bV ++ [bV b]) j = some (bV (bs ++ [b])[j.toNat]) := by
   rw [le]
   exact fk j0 (by rw [List.getElem?_map, List.getElem?_eq_getElem hj]; rfl)
  have ix1 : ixN (bs.map bV ++ [bV b]).length (-1) = some i := by
   rw [le, List.length_map, List.length_append, hl]
   show ixN (i + 1) (-1) = some i
   unfold ixN
   rw [if_neg (by decide), if_pos (by omega)]
   congr 1
   omega
  refine ⟨[s0, .ow v, s2, .sh (.int far), .sh (.int (m : Nat)), .ow (.lst (bs.map bV)), .sh (.int (i : Nat)), s7, s8, s9, s10, s11, s12, s13], [s0, .ow v3, s2, .sh (.int far), .sh (.int (m : Nat)), .ow (.lst ((bs.map bV ++ [bV b]).set i (bV (bs ++ [b])[j.toNat]))), .sh (.int (i : Nat)), s7, s8, s9, s10, s11, s12, s13], ?_, .inl ?_, v3, (bs ++ [b]).set i (bs ++ [b])[j.toNat], _, f3.mono (by omega), by rw [List.length_set, List.length_append, hl]; rfl, hb1.put (hb1 _ (List.getElem_mem hj)) i, rfl, by rw [le, List.map_set]⟩
  ·simp! [h6]
  ·unfold gb
   simp! [e1, e2, e3, ll, at1, ix1]
 ·have hr' : (r == 0) = false := by rw [beq_eq_false_iff_ne]; exact hr
  refine ⟨[s0, .ow v, s2, .sh (.int far), .sh (.int (m : Nat)), .ow (.lst (bs.map bV)), .sh (.int (i : Nat)), s7, s8, s9, s10, s11, s12, s13], [s0, .ow v2, s2, .sh (.int far), .sh (.int (m : Nat)), .ow (.lst (bs.map bV ++ [bV b])), .sh (.int (i : Nat)), s7, s8, s9, s10, s11, s12, s13], ?_, .inl ?_, v2, bs ++ [b], _, f2.mono (by omega), by rw [List.length_append, hl]; rfl, hb1, rfl, by rw [le]⟩
  ·simp! [h6]
  ·unfold gb
   simp! [e1, e2, hr', ll]
theorem wk {β : Nat} {s0 s1 s2 s3 s4 s5 s6 s7 s13 : Sl} {qs : List Rat} (hz : ∀ q ∈ qs, Sz β q) (hp : ∀ q ∈ qs, 0 < q) (h0 : qs ≠ []) (hl : β * (qs.length + 1) <= 7000) {s11 s12 : Sl} (h11 : s11.pl = true) (h12 : s12.pl = true) : ∃ e', (∃ s11 s12, s11.pl = true /\ s12.pl = true /\ e' = [s0, s1, s2, s3, s4, s5, s6, s7, .lo (.lst ((Wb.wb qs).map .int)), .sh (.lst (qs.map fV)), .sh (.int 1), s11, s12, s13]) /\ dA (gtX (gtT 2 (cb (gtN 11) (cb (gtN 12) eI)))).G fX.G (((Wb.wb qs).zip qs).map fun p => .tup [.int p.1, fV p.2]) [s0, s1, s2, s3, s4, s5, s6, s7, .lo (.lst ((Wb.wb qs).map .int)), .sh (.lst (qs.map fV)), .sh (.int 0), s11, s12, s13] = .nx e' := by
 have hlen := Wb.wb_len qs
 have l0 := List.length_pos_iff.mpr h0
 have q0 : atI (qs.map fV) 0 = some (fV qs[0]) := fk (by decide) (by rw [List.getElem?_map]; show (qs[0]?).map fV = _; rw [List.getElem?_eq_getElem l0]; rfl)
 have w0 : atI ((Wb.wb qs).map Val.int) 0 = some (.int ((Wb.wb qs)[0]'(by omega))) := fk (by decide) (by rw [List.getElem?_map]; show ((Wb.wb qs)[0]?).map Val.int = _; rw [List.getElem?_eq_getElem (by omega)]; rfl)
 have it : ∀ q : Rat, (fV q).items = some [.int q.num, .int (q.den : Nat)] := fun q => rfl
 have hb : β + (1 + β * qs.length) <= 7001 := by rw [Nat.mul_add, Nat.mul_one] at hl; omega
 have hb1 : β <= 7000 := by rw [Nat.mul_add, Nat.mul_one] at hl; omega
 obtain ⟨e', ⟨t11, t12, g11, g12, rfl⟩, fr⟩ := ff (g := (gtX (gtT 2 (cb (gtN 11) (cb (gtN 12) eI)))).G) (B := fX.G) (fun p : Int × Rat => .tup [.int p.1, fV p.2]) (fun g p => Int.gcd (g : Int) p.1) (fun g e => ∃ s11 s12, s11.pl = true /\ s12.pl = true /\ e = [s0, s1, s2, s3, s4, s5, s6, s7, .lo (.lst ((Wb.wb qs).map .int)), .sh (.lst (qs.map fV)), .sh (.int (g : Nat)), s11, s12, s13]) ((Wb.wb qs).zip qs) 0 [s0, s1, s2, s3, s4, s5, s6, s7, .lo (.lst ((Wb.wb qs).map .int)), .sh (.lst (qs.map fV)), .sh (.int 0), s11, s12, s13] ⟨s11, s12, h11, h12, rfl⟩ (by
  rintro p hp' g e ⟨s11, s12, h11, h12, rfl⟩
  obtain ⟨i, hi, rfl⟩ := List.getElem_of_mem hp'
  rw [List.length_zip] at hi
  have hi2 : i < qs.length := by omega
  have hi1 : i < (Wb.wb qs).length := by omega
  rw [List.getElem_zip]
  dsimp only
  have s1' := vH hp h0 hz (List.getElem_mem hi1)
  have s2' := vH hp h0 hz (List.getElem_mem (show 0 < (Wb.wb qs).length by omega))
  have z0 := hz _ (List.getElem_mem l0)
  have zi := hz _ (List.getElem_mem hi2)
  have m1 : aT.G (.int (Wb.wb qs)[i]) (.int qs[0].num) = .val (.int ((Wb.wb qs)[i] * qs[0].num)) := b8 (CMulA.of s1' z0.top (by omega) (by omega))
  have m2 : aT.G (.int ((Wb.wb qs)[i] * qs[0].num)) (.int (qs[i].den : Nat)) = .val (.int ((Wb.wb qs)[i] * qs[0].num * (qs[i].den : Nat))) := b8 (CMulA.of (s1'.mul z0.top) zi.bot (by omega) (by omega))
  have m3 : aT.G (.int (Wb.wb qs)[0]) (.int qs[i].num) = .val (.int ((Wb.wb qs)[0] * qs[i].num)) := b8 (CMulA.of s2' zi.top (by omega) (by omega))
  have m4 : aT.G (.int ((Wb.wb qs)[0] * qs[i].num)) (.int (qs[0].den : Nat)) = .val (.int ((Wb.wb qs)[0] * qs[i].num * (qs[0].den : Nat))) := b8 (CMulA.of (s2'.mul zi.top) z0.bot (by omega) (by omega))
  have as := Wb.wb_as hp h0 hi2 l0
  have dg := kh g (w := (Wb.wb qs)[i]) (by have := Wb.wb_ge hp h0 (List.getElem_mem hi1); omega)
  refine ⟨[s0, s1, s2, s3, s4, s5, s6, s7, .lo (.lst ((Wb.wb qs).map .int)), .sh (.lst (qs.map fV)), .sh (.int (g : Nat)), .sh (.int (Wb.wb qs)[i]), .sh (fV qs[i]), s13], [s0, s1, s2, s3, s4, s5, s6, s7, .lo (.lst ((Wb.wb qs).map .int)), .sh (.lst (qs.map fV)), .sh (.int (Int.gcd (g : Int) (Wb.wb qs)[i] : Nat)), .sh (.int (Wb.wb qs)[i]), .sh (fV qs[i]), s13], ?_, .inl ?_, _, _, rfl, rfl, rfl⟩
  ·simp! [h11, h12]
  ·unfold fX
   simp! [q0, w0, it, m1, m2, m3, m4, as, dg, beq_self_eq_true])
 refine ⟨_, ⟨t11, t12, g11, g12, ?_⟩, fr⟩
 rw [yG _ _ hlen, Wb.wb_one hp h0]
 rfl
noncomputable def lwP (ns : List Int) (n : Nat) (e : E3) : Prop := ∃ v s2 s3 s4 s5 s6 s7 s8 s9 s10 s11 s12 s13, Fd n v /\ e = [.sh (.kl (ns.map .int)), .ow v, s2, s3, s4, s5, s6, s7, s8, s9, s10, s11, s12, s13] /\ s2.pl = true /\ s3.pl = true /\ s4.pl = true /\ s5.pl = true /\ s6.pl = true /\ s7.pl = true /\ s8.pl = true /\ s9.pl = true /\ s10.pl = true /\ s11.pl = true /\ s12.pl = true /\ s13.pl = true
noncomputable def lwQ (ns : List Int) (n : Nat) (r : SR3) : Prop := ∃ e, r = .nx e /\ lwP ns n e
theorem uM {β : Nat} {bs : List Bx} (hb : Bs β bs) : (∀ q ∈ bs.map (fun b => b.w * b.h), Sz (β + β) q) /\ ∀ q ∈ bs.map (fun b => b.w * b.h), 0 < q := by
 refine ⟨fun q hq => ?_, fun q hq => ?_⟩
 ·obtain ⟨b, h, rfl⟩ := List.mem_map.mp hq
  exact (hb b h).2.w.mul (hb b h).2.h
 ·obtain ⟨b, h, rfl⟩ := List.mem_map.mp hq
  exact Rat.mul_pos (hb b h).1.1 (hb b h).1.2
theorem wm {ns : List Int} {n m β : Nat} {far : Int} (h1 : 1 <= far) (hf : Sm β far) (h60 : Sm β 60) (hβ : β <= 100) (m1 : 1 <= m) (hm : m <= 40) (hs : (β + β) * (m + 1) <= 7000) (hn : n <= 10000) {v : Val} (f : Fd n v) {bs : List Bx} (hl : bs.length = m) (hb : Bs β bs) {s2 s6 s7 s8 s9 s10 s11 s12 s13 : Sl} (g2 : s2.pl = true) (g6 : s6.pl = true) (g7 : s7.pl = true) (g8 : s8.pl = true) (g9 : s9.pl = true) (g10 : s10.pl = true) (g11 : s11.pl = true) (g12 : s12.pl = true) (g13 : s13.pl = true) : lwQ ns (n + 40) ((ay (ba true 7 (pFn dI (ag (ah 5) aq)))
  (ay (ba true 8 (az aD (ag (ah 7) aq)))
  (ay (xIf (qO (qNo (qOf (pFn (cn kits) (ag (ah 8) (ag (pTy "list") aq))))) (qO (qOf (pOp bNe (pFn ee (ag (ah 8) aq)) (ah 4))) (qOf (pOp bNe (ah 7) (ah 5))))) (aQ (pBl false)) xNx)
  (ay (xIf (qOf (pFn l7 (ag (pLC (df (ah 8)) [none] (by decide) (gtN 0) qY (pOr (pFn (cn kits) (ag (ah 0) (ag (pTy "bool") aq))) (pOr (ky (pFn (cn kits) (ag (ah 0) (ag (pTy "int") aq)))) (pOp bLt (ah 0) (ao 1))))) aq))) (aQ (pBl false)) xNx)
  (ay (ba false 9 (pLC (df (ah 5)) [none] (by decide) (gtN 0) qY (az bC (ag (pOp bIx (ah 0) (ao 2)) (ag (pOp bIx (ah 0) (ao 3)) aq)))))
  (ay (ba false 10 (ao 0))
  (ay (gm (lW (ag (ah 8) (ag (ah 9) aq))) (gtX (gtT 2 (cb (gtN 11) (cb (gtN 12) eI)))) (fX))
  (ay (xIf (qOf (pOp bNe (ah 10) (ao 1))) (aQ (pBl false)) xNx)
  (ay (ba false 13 (pFn dI (ag (ah 8) aq)))
  (ay (iM (mI 8 fb (ag (ao 0) aq)))
  (ay (xIf (qOf (pOp bNe (az aD (ag (ah 7) aq)) (ah 13))) (aQ (pBl false)) xNx)
  (ay (eW 5 seL (az aB (ag (ah 1) (ag (ah 4) aq))) (az cx (ag (ah 1) (ag (ah 3) aq))))
  (ay (eW 7 l6 p9 (ah 5))
  (xIf (qOf (pOp bNe (az aD (ag (ah 7) aq)) (az aD (ag (pFn dI (ag (ah 5) aq)) aq)))) (aQ (pBl false)) xNx)))))))))))))).G [.sh (.kl (ns.map .int)), .ow v, s2, .sh (.int far), .sh (.int (m : Nat)), .ow (.lst (bs.map bV)), s6, s7, s8, s9, s10, s11, s12, s13]) := by
 have h0 : bs ≠ [] := by rintro rfl; simp at hl; omega
 have wq := vz (n := β) h0 (by omega) (fun b h => (hb b h).1) (fun b h => (hb b h).2) (by rw [hl]; exact hs)
 obtain ⟨hz, hp⟩ := uM hb
 have hqn : bs.map (fun b => b.w * b.h) ≠ [] := fun z => h0 (List.map_eq_nil_iff.mp z)
 have lq : (bs.map fun b => b.w * b.h).length = m := by rw [List.length_map]; exact hl
 have fq : bs.map (fun b => fV (b.w * b.h)) = (bs.map fun b => b.w * b.h).map fV := by rw [List.map_map]; rfl
 obtain ⟨ea, ⟨sa, rfl, _⟩, lca⟩ := d8 (g := (gtN 0).G) (F := (az bC (ag (pOp bIx (ah 0) (ao 2)) (ag (pOp bIx (ah 0) (ao 3)) aq))).G) bV (fun b => fV (b.w * b.h)) (fun e => ∃ s, e = [s] /\ s.pl = true) bs [] [.no] ⟨.no, rfl, rfl⟩ (by
  rintro b h e ⟨s, rfl, hp⟩
  have ib : (bV b).items = some [fV b.l, fV b.t, fV b.w, fV b.h] := rfl
  refine ⟨[.sh (bV b)], .val (fV (b.w * b.h)), [.sh (bV b)], ?_, ?_, rfl, ⟨_, rfl, rfl⟩⟩
  ·simp! [hp]
  ·simp! [ib, nF (hb b h).2.w (hb b h).2.h (by omega)]) (by simp; omega)
 rw [List.nil_append, fq] at lca
 have fl : ∀ l : List Int, bY (l.map Val.int) = true := fun l => kc Val.int (fun _ => lj _) l
 have itl : ∀ xs : List Val, (Val.lst xs).items = some xs := fun _ => rfl
 generalize bs.map (fun b => b.w * b.h) = qs at *
 have lw : ((Wb.wb qs).map Val.int).length = m := by rw [List.length_map, Wb.wb_len]; exact lq
 have hsl : ∀ i : Int, (cn kits).G [.int i, .ty "bool"] = .val (.bl false) := fun _ => rfl
 have hsi : ∀ i : Int, (cn kits).G [.int i, .ty "int"] = .val (.bl true) := fun _ => rfl
 have hst : ∀ xs : List Val, (cn kits).G [.lst xs, .ty "list"] = .val (.bl true) := fun _ => rfl
 obtain ⟨eb, ⟨sb, rfl, _⟩, lcb⟩ := d8 (g := (gtN 0).G) (F := (pOr (pFn (cn kits) (ag (ah 0) (ag (pTy "bool") aq))) (pOr (ky (pFn (cn kits) (ag (ah 0) (ag (pTy "int") aq)))) (pOp bLt (ah 0) (ao 1)))).G) Val.int (fun _ => .bl false) (fun e => ∃ s, e = [s] /\ s.pl = true) (Wb.wb qs) [] [.no] ⟨.no, rfl, rfl⟩ (by
  rintro w h e ⟨s, rfl, hp'⟩
  have hw : decide (w < 1) = false := decide_eq_false (by have := Wb.wb_ge hp hqn h; omega)
  refine ⟨[.sh (.int w)], .val (.bl false), [.sh (.int w)], ?_, ?_, rfl, ⟨_, rfl, rfl⟩⟩
  ·simp! [hp']
  ·simp! [hsl, hsi, hw]) (by rw [List.length_nil, Wb.wb_len]; omega)
 rw [List.nil_append, show (Wb.wb qs).map (fun _ => Val.bl false) = ((Wb.wb qs).map fun _ => false).map Val.bl by rw [List.map_map]; rfl] at lcb
 have anb : ((Wb.wb qs).map fun _ => false).any id = false := by
  rw [List.any_map, List.any_eq_false]
  intro x _
  exact Bool.false_ne_true
 have llb : (((Wb.wb qs).map fun _ => false).map Val.bl).length <= 16777216 := by rw [List.length_map, List.length_map, Wb.wb_len]; omega
 have lla : (qs.map fV).length <= 16777216 := by rw [List.length_map]; omega
 refine bF (fun e => e = [.sh (.kl (ns.map .int)), .ow v, s2, .sh (.int far), .sh (.int (m : Nat)), .ow (.lst (bs.map bV)), s6, .ow (.lst (bs.map bV)), s8, s9, s10, s11, s12, s13]) ⟨_, by simp! [g7, itl], rfl⟩ ?_
 rintro _ rfl
 refine bF (fun e => e = [.sh (.kl (ns.map .int)), .ow v, s2, .sh (.int far), .sh (.int (m : Nat)), .ow (.lst (bs.map bV)), s6, .ow (.lst (bs.map bV)), .ow (.lst ((Wb.wb qs).map .int)), s9, s10, s11, s12, s13]) ⟨_, by simp! [g8, wq, fl], rfl⟩ ?_
 rintro _ rfl
 refine bF (fun e => e = [.sh (.kl (ns.map .int)), .ow v, s2, .sh (.int far), .sh (.int (m : Nat)), .ow (.lst (bs.map bV)), s6, .ow (.lst (bs.map bV)), .ow (.lst ((Wb.wb qs).map .int)), s9, s10, s11, s12, s13]) ⟨_, by simp! [hst, lw, zp, beq_self_eq_true], rfl⟩ ?_
 rintro _ rfl
 refine bF (fun e => e = [.sh (.kl (ns.map .int)), .ow v, s2, .sh (.int far), .sh (.int (m : Nat)), .ow (.lst (bs.map bV)), s6, .ow (.lst (bs.map bV)), .ow (.lst ((Wb.wb qs).map .int)), s9, s10, s11, s12, s13]) ⟨_, by simp! [lock, unlock, d9, dJ, lcb, llb, anb], rfl⟩ ?_
 rintro _ rfl
 refine bF (fun e => e = [.sh (.kl (ns.map .int)), .ow v, s2, .sh (.int far), .sh (.int (m : Nat)), .ow (.lst (bs.map bV)), s6, .ow (.lst (bs.map bV)), .ow (.lst ((Wb.wb qs).map .int)), .sh (.lst (qs.map fV)), s10, s11, s12, s13]) ⟨_, by simp! [g9, lock, unlock, d9, dJ, lca, lla], rfl⟩ ?_
 rintro _ rfl
 refine bF (fun e => e = [.sh (.kl (ns.map .int)), .ow v, s2, .sh (.int far), .sh (.int (m : Nat)), .ow (.lst (bs.map bV)), s6, .ow (.lst (bs.map bV)), .ow (.lst ((Wb.wb qs).map .int)), .sh (.lst (qs.map fV)), .sh (.int 0), s11, s12, s13]) ⟨_, by simp! [g10], rfl⟩ ?_
 rintro _ rfl
 obtain ⟨ec, ⟨t11, t12, k11, k12, rfl⟩, frc⟩ := wk (β := β + β) (s0 := .sh (.kl (ns.map .int))) (s1 := .ow v) (s2 := s2) (s3 := .sh (.int far)) (s4 := .sh (.int (m : Nat))) (s5 := .ow (.lst (bs.map bV))) (s6 := s6) (s7 := .ow (.lst (bs.map bV))) (s13 := s13) hz hp hqn (by rw [lq]; exact hs) g11 g12
 refine bF (fun e => e = [.sh (.kl (ns.map .int)), .ow v, s2, .sh (.int far), .sh (.int (m : Nat)), .ow (.lst (bs.map bV)), s6, .ow (.lst (bs.map bV)), .ow (.lst ((Wb.wb qs).map .int)), .sh (.lst (qs.map fV)), .sh (.int 1), t11, t12, s13]) ⟨_, by simp! [lock, unlock, d9, dJ, zw, frc], rfl⟩ ?_
 rintro _ rfl
 refine bF (fun e => e = [.sh (.kl (ns.map .int)), .ow v, s2, .sh (.int far), .sh (.int (m : Nat)), .ow (.lst (bs.map bV)), s6, .ow (.lst (bs.map bV)), .ow (.lst ((Wb.wb qs).map .int)), .sh (.lst (qs.map fV)), .sh (.int 1), t11, t12, s13]) ⟨_, by simp! [j5], rfl⟩ ?_
 rintro _ rfl
 refine bF (fun e => e = [.sh (.kl (ns.map .int)), .ow v, s2, .sh (.int far), .sh (.int (m : Nat)), .ow (.lst (bs.map bV)), s6, .ow (.lst (bs.map bV)), .ow (.lst ((Wb.wb qs).map .int)), .sh (.lst (qs.map fV)), .sh (.int 1), t11, t12, .sh (.lst ((Wb.wb qs).map .int))]) ⟨_, by simp! [g13, itl], rfl⟩ ?_
 rintro _ rfl
 have la : ((Wb.wb qs).map Val.int).length < 16777216 := by omega
 refine bF (fun e => e = [.sh (.kl (ns.map .int)), .ow v, s2, .sh (.int far), .sh (.int (m : Nat)), .ow (.lst (bs.map bV)), s6, .ow (.lst (bs.map bV)), .ow (.lst ((Wb.wb qs).map .int ++ [.int 0])), .sh (.lst (qs.map fV)), .sh (.int 1), t11, t12, .sh (.lst ((Wb.wb qs).map .int))]) ⟨_, by simp! [la], rfl⟩ ?_
 rintro _ rfl
 refine bF (fun e => e = [.sh (.kl (ns.map .int)), .ow v, s2, .sh (.int far), .sh (.int (m : Nat)), .ow (.lst (bs.map bV)), s6, .ow (.lst (bs.map bV)), .ow (.lst ((Wb.wb qs).map .int ++ [.int 0])), .sh (.lst (qs.map fV)), .sh (.int 1), t11, t12, .sh (.lst ((Wb.wb qs).map .int))]) ⟨_, by simp! [wq, oB, fl], rfl⟩ ?_
 rintro _ rfl
 obtain ⟨b, v1, e1, f1, b1, b2⟩ := rV f (by omega) h1 hf h60 (by omega)
 obtain ⟨r, v2, e2, f2, r0, r1⟩ := aO (m := (m : Int)) f1 (by omega) (by omega) (sm8 (by omega))
 have ixr : ixN (bs.map bV).length r = some r.toNat := zo r0 (by rw [List.length_map]; omega)
 have hb2 := hb.put ⟨b1, b2⟩ r.toNat
 have lb2 : (bs.set r.toNat b).length = m := by rw [List.length_set]; exact hl
 have le : (bs.map bV).set r.toNat (bV b) = (bs.set r.toNat b).map bV := by rw [List.map_set]
 refine bF (fun e => e = [.sh (.kl (ns.map .int)), .ow v2, s2, .sh (.int far), .sh (.int (m : Nat)), .ow (.lst ((bs.set r.toNat b).map bV)), s6, .ow (.lst (bs.map bV)), .ow (.lst ((Wb.wb qs).map .int ++ [.int 0])), .sh (.lst (qs.map fV)), .sh (.int 1), t11, t12, .sh (.lst ((Wb.wb qs).map .int))]) ⟨_, by simp! [e1, e2, ixr, le], rfl⟩ ?_
 rintro _ rfl
 generalize bs.set r.toNat b = cs at *
 have c0 : cs ≠ [] := by rintro rfl; simp at lb2; omega
 have wc := vz (n := β) c0 (by omega) (fun b h => (hb2 b h).1) (fun b h => (hb2 b h).2) (by rw [lb2]; exact hs)
 have lbc : (bs.map bV).length + (cs.map bV).length <= 16777216 := by rw [List.length_map, List.length_map]; omega
 refine bF (fun e => e = [.sh (.kl (ns.map .int)), .ow v2, s2, .sh (.int far), .sh (.int (m : Nat)), .sh (.lst (cs.map bV)), s6, .ow (.lst (cs.map bV)), .ow (.lst ((Wb.wb qs).map .int ++ [.int 0])), .sh (.lst (qs.map fV)), .sh (.int 1), t11, t12, .sh (.lst ((Wb.wb qs).map .int))]) ⟨_, by simp! [zJ, lbc], rfl⟩ ?_
 rintro _ rfl
 refine ⟨[.sh (.kl (ns.map .int)), .ow v2, s2, .sh (.int far), .sh (.int (m : Nat)), .sh (.lst (cs.map bV)), s6, .ow (.lst (cs.map bV)), .ow (.lst ((Wb.wb qs).map .int ++ [.int 0])), .sh (.lst (qs.map fV)), .sh (.int 1), t11, t12, .sh (.lst ((Wb.wb qs).map .int))], ?_, v2, _, _, _, _, _, _, _, _, _, _, _, _, f2.mono (by omega), rfl, g2, rfl, rfl, rfl, g6, rfl, rfl, rfl, rfl, k11, k12, rfl⟩
 simp! [wc, itl, oB, fl]
theorem yc {ns : List Int} {n : Nat} (hn : n <= 5000) {e : E3} (he : lwP ns n e) : lwQ ns (n + 1400) (fO.G e) := by
 obtain ⟨v, s2, s3, s4, s5, s6, s7, s8, s9, s10, s11, s12, s13, f, rfl, g2, g3, g4, g5, g6, g7, g8, g9, g10, g11, g12, g13⟩ := he
 unfold fO
 obtain ⟨a, v1, e1, f1, a0, a1⟩ := aO (m := 40) f (by omega) (by decide) (sm8 (by decide))
 obtain ⟨b, v2, e2, f2, b0, b1⟩ := aO (m := 5) f1 (by omega) (by decide) (sm8 (by decide))
 obtain ⟨c, v3, e3, f3, c0, c1⟩ := aO (m := 3) f2 (by omega) (by decide) (sm8 (by decide))
 refine bF (fun e => ∃ m : Int, 1 <= m /\ m <= 40 /\ e = [.sh (.kl (ns.map .int)), .ow v3, s2, .sh (.int 60), .sh (.int m), s5, s6, s7, s8, s9, s10, s11, s12, s13]) ?_ ?_
 ·obtain rfl | rfl | rfl : c = 0 \/ c = 1 \/ c = 2 := by omega
  ·exact ⟨_, by simp! [e1, e2, e3, g3, g4], 1 + a, by omega, by omega, rfl⟩
  ·exact ⟨_, by simp! [e1, e2, e3, g3, g4], 1 + b, by omega, by omega, rfl⟩
  ·exact ⟨_, by simp! [e1, e2, e3, g3, g4], 40, by omega, by omega, rfl⟩
 rintro _ ⟨m, m1, m2, rfl⟩
 obtain ⟨d, v4, e4, f4, d0, d1⟩ := aO (m := 4) f3 (by omega) (by decide) (sm8 (by decide))
 refine bF (fun e => ∃ (v : Val) (far : Int) (m β : Nat), Fd (n + 5) v /\ 1 <= far /\ Sm β far /\ Sm β 60 /\ β <= 100 /\ 1 <= m /\ m <= 40 /\ (β + β) * (m + 1) <= 7000 /\ e = [.sh (.kl (ns.map .int)), .ow v, s2, .sh (.int far), .sh (.int (m : Nat)), s5, s6, s7, s8, s9, s10, s11, s12, s13]) ?_ ?_
 ·by_cases hd : d = 0
  ·subst hd
   obtain ⟨k, v5, e5, f5, k0, k1⟩ := aO (m := 8) f4 (by omega) (by decide) (sm8 (by decide))
   obtain ⟨k', rfl⟩ := Int.eq_ofNat_of_zero_le k0
   refine ⟨_, by simp! [e4, e5, p30]; rfl, v5, 999999999999999999999999999999, 1 + k', 100, f5, by decide, by unfold Sm; decide, by unfold Sm; decide, by omega, by omega, by omega, by omega, by rw [Int.natCast_add]; rfl⟩
  ·have hd' : (d == 0) = false := by rw [beq_eq_false_iff_ne]; exact hd
   obtain ⟨k', rfl⟩ := Int.eq_ofNat_of_zero_le (show 0 <= m by omega)
   exact ⟨_, by simp! [e4, hd'], v4, 60, k', 6, f4.mono (by omega), by decide, by unfold Sm; decide, by unfold Sm; decide, by omega, by omega, by omega, by omega, rfl⟩
 rintro _ ⟨v, far, m, β, f, h1, hf, h60, hβ, m1, m2, hs, rfl⟩
 refine bF (fun e => e = [.sh (.kl (ns.map .int)), .ow v, s2, .sh (.int far), .sh (.int (m : Nat)), .ow (.lst []), s6, s7, s8, s9, s10, s11, s12, s13]) ⟨_, by simp! [g5], rfl⟩ ?_
 rintro _ rfl
 have rg : fN [.int (m : Nat)] = some (rgV m) := kD (i := (m : Nat)) (by omega) (by omega)
 obtain ⟨e', h', fr⟩ := B0 (s0 := .sh (.kl (ns.map .int))) (s2 := s2) (s7 := s7) (s8 := s8) (s9 := s9) (s10 := s10) (s11 := s11) (s12 := s12) (s13 := s13) h1 hf h60 (by omega) m2 (by omega) f g6
 refine bF (fun e => ∃ v bs s6, Fd (n + 5 + 32 * m) v /\ bs.length = m /\ Bs β bs /\ s6.pl = true /\ e = [.sh (.kl (ns.map .int)), .ow v, s2, .sh (.int far), .sh (.int (m : Nat)), .ow (.lst (bs.map bV)), s6, s7, s8, s9, s10, s11, s12, s13]) ⟨e', by simp! [rg, fr], h'⟩ ?_
 rintro _ ⟨v, bs, s6, f, hl, hb, g6, rfl⟩
 obtain ⟨e2, q1, v', t2, t3, t4, t5, t6, t7, t8, t9, t10, t11, t12, t13, f', q2⟩ := wm (ns := ns) h1 hf h60 hβ m1 m2 hs (by omega) f hl hb g2 g6 g7 g8 g9 g10 g11 g12 g13
 exact ⟨e2, q1, v', t2, t3, t4, t5, t6, t7, t8, t9, t10, t11, t12, t13, f'.mono (by omega), q2⟩
theorem zf (ns : List Int) (hl : ns.length <= 63) : jL.G [.kl (ns.map .int)] = .ok (.val (.bl true)) [] := by
 obtain ⟨v, e1, f⟩ := xJ hl
 have st : ∀ (n : Nat) (i : Int) (e : E3), n <= 5000 -> lwP ns n e -> ∃ e1 e2, (gtN 2).G (.int i) e = some e1 /\ fO.G e1 = .nx e2 /\ lwP ns (n + 1400) e2 := by
  rintro n i e hn ⟨v, s2, s3, s4, s5, s6, s7, s8, s9, s10, s11, s12, s13, f, rfl, g2, g⟩
  obtain ⟨e2, q1, q2⟩ := yc (ns := ns) hn (e := [.sh (.kl (ns.map .int)), .ow v, .sh (.int i), s3, s4, s5, s6, s7, s8, s9, s10, s11, s12, s13]) ⟨v, _, s3, s4, s5, s6, s7, s8, s9, s10, s11, s12, s13, f, rfl, rfl, g⟩
  exact ⟨_, e2, by simp! [g2], q1, q2⟩
 obtain ⟨a1, a2, p1, p2, p3⟩ := st 0 0 [.sh (.kl (ns.map .int)), .ow v, .no, .no, .no, .no, .no, .no, .no, .no, .no, .no, .no, .no] (by omega) ⟨v, _, _, _, _, _, _, _, _, _, _, _, _, f, rfl, rfl, rfl, rfl, rfl, rfl, rfl, rfl, rfl, rfl, rfl, rfl, rfl⟩
 obtain ⟨b1, b2, r1, r2, r3⟩ := st _ 1 a2 (by omega) p3
 have fr : dA (gtN 2).G fO.G [.int 0, .int 1] [.sh (.kl (ns.map .int)), .ow v, .no, .no, .no, .no, .no, .no, .no, .no, .no, .no, .no, .no] = .nx b2 := by
  rw [eS, p1]
  simp only [p2, j3]
  rw [eS, r1]
  simp only [r2, j3, oX]
 obtain ⟨v', s2, s3, s4, s5, s6, s7, s8, s9, s10, s11, s12, s13, f', rfl, _⟩ := r3
 unfold jL
 rw [cK]
 unfold p6
 simp! [e1, vL, fr]
theorem zr {K : PySem.W.Frag} {h : Heap} {mg : Str -> Option Value} {a_NoFraction : Addr} {a_NoBox : Addr} (X : K.In h) (G : h.Ns mainGlobals mg)
  (m_NoBox : PySem.W.nsIn K mainGlobals "NoBox" = some (some (.ref a_NoBox)))
  (m_NoFraction : PySem.W.nsIn K mainGlobals "NoFraction" = some (some (.ref a_NoFraction)))
  (n_abs : PySem.W.nsIn K mainGlobals "abs" = some none)
  (n_all : PySem.W.nsIn K mainGlobals "all" = some none)
  (n_any : PySem.W.nsIn K mainGlobals "any" = some none)
  (n_bool : PySem.W.nsIn K mainGlobals "bool" = some none)
  (n_int : PySem.W.nsIn K mainGlobals "int" = some none)
  (n_isinstance : PySem.W.nsIn K mainGlobals "isinstance" = some none)
  (n_len : PySem.W.nsIn K mainGlobals "len" = some none)
  (n_list : PySem.W.nsIn K mainGlobals "list" = some none)
  (n_range : PySem.W.nsIn K mainGlobals "range" = some none)
  (n_tuple : PySem.W.nsIn K mainGlobals "tuple" = some none)
  (n_zip : PySem.W.nsIn K mainGlobals "zip" = some none)
  (gs_ : PySem.W.specialIn K (.builtin "object.__class__") "__get__" = some (some (.builtin "getset_descriptor.__get__")))
  (tk_ : PySem.W.takesIn K (.builtin "object.__class__") = some true)
  (x_NoFraction : PySem.W.excIn K a_NoFraction gE "ValueError.__new__" = true)
  (k_NoFraction_cls : (PySem.W.clsIn K a_NoFraction).isSome = true)
  (k_NoFraction_ga : PySem.W.findIn K (.ref a_NoFraction) "__getattribute__" = some (some (.builtin "BaseException.__getattribute__")))
  (k_NoFraction_gt : PySem.W.findIn K (.ref a_NoFraction) "__getattr__" = some none)
  (k_NoFraction_at : PySem.W.findIn K (.ref a_NoFraction) "__class__" = some (some (.builtin "object.__class__")))
  (k_NoFraction_mo : PySem.W.mroIn K a_NoFraction (.type "object") = some true)
  (k_NoFraction_mb : PySem.W.mroIn K a_NoFraction (.type "BaseException") = some true)
  (x_NoBox : PySem.W.excIn K a_NoBox gE "ValueError.__new__" = true)
  (k_NoBox_cls : (PySem.W.clsIn K a_NoBox).isSome = true)
  (k_NoBox_ga : PySem.W.findIn K (.ref a_NoBox) "__getattribute__" = some (some (.builtin "BaseException.__getattribute__")))
  (k_NoBox_gt : PySem.W.findIn K (.ref a_NoBox) "__getattr__" = some none)
  (k_NoBox_at : PySem.W.findIn K (.ref a_NoBox) "__class__" = some (some (.builtin "object.__class__")))
  (k_NoBox_mo : PySem.W.mroIn K a_NoBox (.type "object") = some true)
  (k_NoBox_mb : PySem.W.mroIn K a_NoBox (.type "BaseException") = some true)
  (i0 : PySem.W.kitOne K (.type "NoneType") (.type "bool") = some false)
  (i1 : PySem.W.kitOne K (.type "bool") (.type "bool") = some true)
  (i2 : PySem.W.kitOne K (.type "int") (.type "bool") = some false)
  (i3 : PySem.W.kitOne K (.type "str") (.type "bool") = some false)
  (i4 : PySem.W.kitOne K (.type "tuple") (.type "bool") = some false)
  (i5 : PySem.W.kitOne K (.type "list") (.type "bool") = some false)
  (i6 : PySem.W.kitOne K (.type "dict") (.type "bool") = some false)
  (i7 : PySem.W.kitOne K (.type "NoneType") (.type "int") = some false)
  (i8 : PySem.W.kitOne K (.type "bool") (.type "int") = some true)
  (i9 : PySem.W.kitOne K (.type "int") (.type "int") = some true)
  (i10 : PySem.W.kitOne K (.type "str") (.type "int") = some false)
  (i11 : PySem.W.kitOne K (.type "tuple") (.type "int") = some false)
  (i12 : PySem.W.kitOne K (.type "list") (.type "int") = some false)
  (i13 : PySem.W.kitOne K (.type "dict") (.type "int") = some false)
  (i14 : PySem.W.kitOne K (.type "NoneType") (.type "list") = some false)
  (i15 : PySem.W.kitOne K (.type "bool") (.type "list") = some false)
  (i16 : PySem.W.kitOne K (.type "int") (.type "list") = some false)
  (i17 : PySem.W.kitOne K (.type "str") (.type "list") = some false)
  (i18 : PySem.W.kitOne K (.type "tuple") (.type "list") = some false)
  (i19 : PySem.W.kitOne K (.type "list") (.type "list") = some true)
  (i20 : PySem.W.kitOne K (.type "dict") (.type "list") = some false)
  (i21 : PySem.W.kitOne K (.type "NoneType") (.type "tuple") = some false)
  (i22 : PySem.W.kitOne K (.type "bool") (.type "tuple") = some false)
  (i23 : PySem.W.kitOne K (.type "int") (.type "tuple") = some false)
  (i24 : PySem.W.kitOne K (.type "str") (.type "tuple") = some false)
  (i25 : PySem.W.kitOne K (.type "tuple") (.type "tuple") = some true)
  (i26 : PySem.W.kitOne K (.type "list") (.type "tuple") = some false)
  (i27 : PySem.W.kitOne K (.type "dict") (.type "tuple") = some false)
  : Txt K mg a_NoFraction a_NoBox := by
 have mNoBox := PySem.W.mg_of X G m_NoBox
 have mNoFraction := PySem.W.mg_of X G m_NoFraction
 exact {
 m_NoBox := mNoBox,
 m_NoFraction := mNoFraction,
 n_abs := PySem.W.mg_none_of X G n_abs,
 n_all := PySem.W.mg_none_of X G n_all,
 n_any := PySem.W.mg_none_of X G n_any,
 n_bool := PySem.W.mg_none_of X G n_bool,
 n_int := PySem.W.mg_none_of X G n_int,
 n_isinstance := PySem.W.mg_none_of X G n_isinstance,
 n_len := PySem.W.mg_none_of X G n_len,
 n_list := PySem.W.mg_none_of X G n_list,
 n_range := PySem.W.mg_none_of X G n_range,
 n_tuple := PySem.W.mg_none_of X G n_tuple,
 n_zip := PySem.W.mg_none_of X G n_zip,
 x_NoFraction := x_NoFraction,
 x_NoBox := x_NoBox,
 kits := (aA i0 rfl rfl aW
   (aA i1 rfl rfl aW
   (aA i2 rfl rfl aW
   (aA i3 rfl rfl aW
   (aA i4 rfl rfl aW
   (aA i5 rfl rfl aW
   (aA i6 rfl rfl aW
   (aA i7 rfl rfl aW
   (aA i8 rfl rfl aW
   (aA i9 rfl rfl aW
   (aA i10 rfl rfl aW
   (aA i11 rfl rfl aW
   (aA i12 rfl rfl aW
   (aA i13 rfl rfl aW
   (aA i14 rfl rfl aW
   (aA i15 rfl rfl aW
   (aA i16 rfl rfl aW
   (aA i17 rfl rfl aW
   (aA i18 rfl rfl aW
   (aA i19 rfl rfl aW
   (aA i20 rfl rfl aW
   (aA i21 rfl rfl aW
   (aA i22 rfl rfl aW
   (aA i23 rfl rfl aW
   (aA i24 rfl rfl aW
   (aA i25 rfl rfl aW
   (aA i26 rfl rfl aW
   (aA i27 rfl rfl aW
   tU))))))))))))))))))))))))))))
 }
end KK
noncomputable def PySem.W.Fast.tw10071425047366480233 : Unit := ()
noncomputable def PySem.W.Fast.tw10152386871913715444 : Unit := ()
noncomputable def PySem.W.Fast.tw1017654203661688391 : Unit := ()
noncomputable def PySem.W.Fast.tw10241425279094602929 : Unit := ()
noncomputable def PySem.W.Fast.tw10348122835648042723 : Unit := ()
noncomputable def PySem.W.Fast.tw10382378260219347817 : Unit := ()
noncomputable def PySem.W.Fast.tw10407144274628308179 : Unit := ()
noncomputable def PySem.W.Fast.tw10853960600048527708 : Unit := ()
noncomputable def PySem.W.Fast.tw10878073605628549052 : Unit := ()
noncomputable def PySem.W.Fast.tw10985277148027446994 : Unit := ()
noncomputable def PySem.W.Fast.tw11001480778747803624 : Unit := ()
noncomputable def PySem.W.Fast.tw11098659622149623397 : Unit := ()
noncomputable def PySem.W.Fast.tw11108857167009368360 : Unit := ()
noncomputable def PySem.W.Fast.tw11166407148221934274 : Unit := ()
noncomputable def PySem.W.Fast.tw11222456881569005066 : Unit := ()
noncomputable def PySem.W.Fast.tw11836576999263552898 : Unit := ()
noncomputable def PySem.W.Fast.tw11890669865829845602 : Unit := ()
noncomputable def PySem.W.Fast.tw11982285148890697227 : Unit := ()
noncomputable def PySem.W.Fast.tw1204983648380601631 : Unit := ()
noncomputable def PySem.W.Fast.tw12174113748045992075 : Unit := ()
noncomputable def PySem.W.Fast.tw12461973736451425605 : Unit := ()
noncomputable def PySem.W.Fast.tw12518756302115246746 : Unit := ()
noncomputable def PySem.W.Fast.tw1259963953627268785 : Unit := ()
noncomputable def PySem.W.Fast.tw12611500461359674859 : Unit := ()
noncomputable def PySem.W.Fast.tw12657095389777724772 : Unit := ()
noncomputable def PySem.W.Fast.tw12779070498486524165 : Unit := ()
noncomputable def PySem.W.Fast.tw12842656472113398943 : Unit := ()
noncomputable def PySem.W.Fast.tw12974287267848159724 : Unit := ()
noncomputable def PySem.W.Fast.tw12988881265677702078 : Unit := ()
noncomputable def PySem.W.Fast.tw13141252209220879863 : Unit := ()
noncomputable def PySem.W.Fast.tw13182738331132396794 : Unit := ()
noncomputable def PySem.W.Fast.tw13239259310571603999 : Unit := ()
noncomputable def PySem.W.Fast.tw1346614981283858802 : Unit := ()
noncomputable def PySem.W.Fast.tw13543695092099572613 : Unit := ()
noncomputable def PySem.W.Fast.tw13645541379397964420 : Unit := ()
noncomputable def PySem.W.Fast.tw14018534233119586098 : Unit := ()
noncomputable def PySem.W.Fast.tw14051212368148837371 : Unit := ()
noncomputable def PySem.W.Fast.tw14064663195841676512 : Unit := ()
noncomputable def PySem.W.Fast.tw14096650836578441129 : Unit := ()
noncomputable def PySem.W.Fast.tw14101493039949521860 : Unit := ()
noncomputable def PySem.W.Fast.tw14389177889138942401 : Unit := ()
noncomputable def PySem.W.Fast.tw14436812033649763524 : Unit := ()
noncomputable def PySem.W.Fast.tw14658280385150491507 : Unit := ()
noncomputable def PySem.W.Fast.tw14866187137792482375 : Unit := ()
noncomputable def PySem.W.Fast.tw15036741847157533604 : Unit := ()
noncomputable def PySem.W.Fast.tw15284918100855845433 : Unit := ()
noncomputable def PySem.W.Fast.tw15441920524432864344 : Unit := ()
noncomputable def PySem.W.Fast.tw15526708275886678610 : Unit := ()
noncomputable def PySem.W.Fast.tw15535799384752159412 : Unit := ()
noncomputable def PySem.W.Fast.tw15605921262606158446 : Unit := ()
noncomputable def PySem.W.Fast.tw1560962272498022873 : Unit := ()
noncomputable def PySem.W.Fast.tw15835210950865602976 : Unit := ()
noncomputable def PySem.W.Fast.tw1601347101058728559 : Unit := ()
noncomputable def PySem.W.Fast.tw16031757112743276809 : Unit := ()
noncomputable def PySem.W.Fast.tw16150608077861568605 : Unit := ()
noncomputable def PySem.W.Fast.tw16321709319929381506 : Unit := ()
noncomputable def PySem.W.Fast.tw1638839986806745901 : Unit := ()
noncomputable def PySem.W.Fast.tw16738759160440978164 : Unit := ()
noncomputable def PySem.W.Fast.tw16849662568387534499 : Unit := ()
noncomputable def PySem.W.Fast.tw16959747270492304795 : Unit := ()
noncomputable def PySem.W.Fast.tw17059830715639632286 : Unit := ()
noncomputable def PySem.W.Fast.tw17156834169147521073 : Unit := ()
noncomputable def PySem.W.Fast.tw17320438675305535335 : Unit := ()
noncomputable def PySem.W.Fast.tw17508600356756646660 : Unit := ()
noncomputable def PySem.W.Fast.tw17580468252616189672 : Unit := ()
noncomputable def PySem.W.Fast.tw17654804445357553276 : Unit := ()
noncomputable def PySem.W.Fast.tw1803152107063399362 : Unit := ()
noncomputable def PySem.W.Fast.tw18061517599373154020 : Unit := ()
noncomputable def PySem.W.Fast.tw18197306933638841938 : Unit := ()
noncomputable def PySem.W.Fast.tw18323208412921233177 : Unit := ()
noncomputable def PySem.W.Fast.tw18348145085327923578 : Unit := ()
noncomputable def PySem.W.Fast.tw18417824214188169610 : Unit := ()
noncomputable def PySem.W.Fast.tw1937500419712830838 : Unit := ()
noncomputable def PySem.W.Fast.tw2021854003558883637 : Unit := ()
noncomputable def PySem.W.Fast.tw2022673709935901826 : Unit := ()
noncomputable def PySem.W.Fast.tw2089818013058359925 : Unit := ()
noncomputable def PySem.W.Fast.tw2096057848238341577 : Unit := ()
noncomputable def PySem.W.Fast.tw2205991375721558504 : Unit := ()
noncomputable def PySem.W.Fast.tw2354589078776279719 : Unit := ()
noncomputable def PySem.W.Fast.tw2582457996933563253 : Unit := ()
noncomputable def PySem.W.Fast.tw2733706538501219857 : Unit := ()
noncomputable def PySem.W.Fast.tw2828424881360395632 : Unit := ()
noncomputable def PySem.W.Fast.tw2890655636214881386 : Unit := ()
noncomputable def PySem.W.Fast.tw2907453885129128317 : Unit := ()
noncomputable def PySem.W.Fast.tw2939860152799287050 : Unit := ()
noncomputable def PySem.W.Fast.tw2958046208768916071 : Unit := ()
noncomputable def PySem.W.Fast.tw305627512508854389 : Unit := ()
noncomputable def PySem.W.Fast.tw3188108561864549609 : Unit := ()
noncomputable def PySem.W.Fast.tw328391447276046028 : Unit := ()
noncomputable def PySem.W.Fast.tw3443485360053853884 : Unit := ()
noncomputable def PySem.W.Fast.tw3573150688840726274 : Unit := ()
noncomputable def PySem.W.Fast.tw3684150576175313681 : Unit := ()
noncomputable def PySem.W.Fast.tw3867427748286519295 : Unit := ()
noncomputable def PySem.W.Fast.tw3868552171929329249 : Unit := ()
noncomputable def PySem.W.Fast.tw3895381213075628832 : Unit := ()
noncomputable def PySem.W.Fast.tw4196018302526647444 : Unit := ()
noncomputable def PySem.W.Fast.tw4346833699081989093 : Unit := ()
noncomputable def PySem.W.Fast.tw4360060464090022851 : Unit := ()
noncomputable def PySem.W.Fast.tw439622050940787030 : Unit := ()
noncomputable def PySem.W.Fast.tw4676271796051207753 : Unit := ()
noncomputable def PySem.W.Fast.tw4763039363962505190 : Unit := ()
noncomputable def PySem.W.Fast.tw4774198960771145986 : Unit := ()
noncomputable def PySem.W.Fast.tw4795192655174098545 : Unit := ()
noncomputable def PySem.W.Fast.tw48659804867447948 : Unit := ()
noncomputable def PySem.W.Fast.tw4869230855152828678 : Unit := ()
noncomputable def PySem.W.Fast.tw4908435588710151635 : Unit := ()
noncomputable def PySem.W.Fast.tw4951473206913010684 : Unit := ()
noncomputable def PySem.W.Fast.tw4986966565277890003 : Unit := ()
noncomputable def PySem.W.Fast.tw5025428441795017047 : Unit := ()
noncomputable def PySem.W.Fast.tw5136459543641890970 : Unit := ()
noncomputable def PySem.W.Fast.tw515144148675446078 : Unit := ()
noncomputable def PySem.W.Fast.tw5356901366322310088 : Unit := ()
noncomputable def PySem.W.Fast.tw5445190241219412487 : Unit := ()
noncomputable def PySem.W.Fast.tw5527153547095643876 : Unit := ()
noncomputable def PySem.W.Fast.tw5584997481231590964 : Unit := ()
noncomputable def PySem.W.Fast.tw5629119662403198102 : Unit := ()
noncomputable def PySem.W.Fast.tw5838602585504791519 : Unit := ()
noncomputable def PySem.W.Fast.tw5891525036001826573 : Unit := ()
noncomputable def PySem.W.Fast.tw5924807029123654111 : Unit := ()
noncomputable def PySem.W.Fast.tw5937438130502132961 : Unit := ()
noncomputable def PySem.W.Fast.tw5990661636620912466 : Unit := ()
noncomputable def PySem.W.Fast.tw6181083320701787244 : Unit := ()
noncomputable def PySem.W.Fast.tw6228022379633279768 : Unit := ()
noncomputable def PySem.W.Fast.tw6231848083405199513 : Unit := ()
noncomputable def PySem.W.Fast.tw6498001201684599065 : Unit := ()
noncomputable def PySem.W.Fast.tw6503207045465686657 : Unit := ()
noncomputable def PySem.W.Fast.tw6566678779578259555 : Unit := ()
noncomputable def PySem.W.Fast.tw6607923131459611656 : Unit := ()
noncomputable def PySem.W.Fast.tw66177183059635245 : Unit := ()
noncomputable def PySem.W.Fast.tw6622395382654496792 : Unit := ()
noncomputable def PySem.W.Fast.tw6732679169695983101 : Unit := ()
noncomputable def PySem.W.Fast.tw687986549783713375 : Unit := ()
noncomputable def PySem.W.Fast.tw7097239834988932094 : Unit := ()
noncomputable def PySem.W.Fast.tw7180543083571491246 : Unit := ()
noncomputable def PySem.W.Fast.tw7188588924115841271 : Unit := ()
noncomputable def PySem.W.Fast.tw7222658757652416253 : Unit := ()
noncomputable def PySem.W.Fast.tw7346065587896392993 : Unit := ()
noncomputable def PySem.W.Fast.tw7349801273943628791 : Unit := ()
noncomputable def PySem.W.Fast.tw7380066566738682133 : Unit := ()
noncomputable def PySem.W.Fast.tw7660501006493242932 : Unit := ()
noncomputable def PySem.W.Fast.tw7789049129792958685 : Unit := ()
noncomputable def PySem.W.Fast.tw7855600129890169556 : Unit := ()
noncomputable def PySem.W.Fast.tw7988343698737609480 : Unit := ()
noncomputable def PySem.W.Fast.tw799571955846486321 : Unit := ()
noncomputable def PySem.W.Fast.tw8036189128381773262 : Unit := ()
noncomputable def PySem.W.Fast.tw8170351908915277750 : Unit := ()
noncomputable def PySem.W.Fast.tw8256905093492505505 : Unit := ()
noncomputable def PySem.W.Fast.tw8295799202239209392 : Unit := ()
noncomputable def PySem.W.Fast.tw8458696712060689395 : Unit := ()
noncomputable def PySem.W.Fast.tw846849573733630704 : Unit := ()
noncomputable def PySem.W.Fast.tw8500572226004126158 : Unit := ()
noncomputable def PySem.W.Fast.tw8581401869870420530 : Unit := ()
noncomputable def PySem.W.Fast.tw9204143083729844025 : Unit := ()
noncomputable def PySem.W.Fast.tw9313821952851973345 : Unit := ()
noncomputable def PySem.W.Fast.tw9466795778487401098 : Unit := ()
noncomputable def PySem.W.Fast.tw9546017199907282502 : Unit := ()
noncomputable def PySem.W.Fast.tw9613391881778400063 : Unit := ()
noncomputable def PySem.W.Fast.tw9860827377198996856 : Unit := ()
noncomputable def PySem.W.Fast.tw9998205050259744115 : Unit := ()
open PySem PySem.W PyProof.Rows L2 L3 KK
set_option maxRecDepth 100000 in
set_option maxHeartbeats 0 in
theorem PySem.Challenge.cw_weightrooms_k76_weights_back_holds : PySem.Challenge.rw_weightrooms_k76_weights_back.Holds := by
 w_on; o_law; k_head; (case hw => w_witness2)
 k_fill
 refine L2.walk_lawD (l := PySem.Challenge.rw_weightrooms_k76_weights_back) (x := "_law_script") (k := 7) rfl rfl ⟨rfl, by decide, by decide⟩ (fun w h Y => PySem.W.kIn_of Y) ?F ?D
 case F =>
  intro w mg h KX G base kb nb
  have TT := by
   refine' zr KX G ?m_NoBox ?m_NoFraction ?n_abs ?n_all ?n_any ?n_bool ?n_int ?n_isinstance ?n_len ?n_list ?n_range ?n_tuple ?n_zip ?gs_ ?tk_ ?x_NoFraction ?k_NoFraction_cls ?k_NoFraction_ga ?k_NoFraction_gt ?k_NoFraction_at ?k_NoFraction_mo ?k_NoFraction_mb ?x_NoBox ?k_NoBox_cls ?k_NoBox_ga ?k_NoBox_gt ?k_NoBox_at ?k_NoBox_mo ?k_NoBox_mb ?i0 ?i1 ?i2 ?i3 ?i4 ?i5 ?i6 ?i7 ?i8 ?i9 ?i10 ?i11 ?i12 ?i13 ?i14 ?i15 ?i16 ?i17 ?i18 ?i19 ?i20 ?i21 ?i22 ?i23 ?i24 ?i25 ?i26 ?i27
   (case m_NoBox => k_is)
   (case m_NoFraction => k_is)
   (case n_abs => k_is)
   (case n_all => k_is)
   (case n_any => k_is)
   (case n_bool => k_is)
   (case n_int => k_is)
   (case n_isinstance => k_is)
   (case n_len => k_is)
   (case n_list => k_is)
   (case n_range => k_is)
   (case n_tuple => k_is)
   (case n_zip => k_is)
   (case gs_ => k_is)
   (case tk_ => k_is)
   (case x_NoFraction => k_exc)
   (case k_NoFraction_cls => exact Option.isSome_iff_exists.mpr ⟨_, by k_is⟩)
   (case k_NoFraction_ga => k_is)
   (case k_NoFraction_gt => k_is)
   (case k_NoFraction_at => k_is)
   (case k_NoFraction_mo => k_is)
   (case k_NoFraction_mb => k_is)
   (case x_NoBox => k_exc)
   (case k_NoBox_cls => exact Option.isSome_iff_exists.mpr ⟨_, by k_is⟩)
   (case k_NoBox_ga => k_is)
   (case k_NoBox_gt => k_is)
   (case k_NoBox_at => k_is)
   (case k_NoBox_mo => k_is)
   (case k_NoBox_mb => k_is)
   (case i0 => kit_is)
   (case i1 => kit_is)
   (case i2 => kit_is)
   (case i3 => kit_is)
   (case i4 => kit_is)
   (case i5 => kit_is)
   (case i6 => kit_is)
   (case i7 => kit_is)
   (case i8 => kit_is)
   (case i9 => kit_is)
   (case i10 => kit_is)
   (case i11 => kit_is)
   (case i12 => kit_is)
   (case i13 => kit_is)
   (case i14 => kit_is)
   (case i15 => kit_is)
   (case i16 => kit_is)
   (case i17 => kit_is)
   (case i18 => kit_is)
   (case i19 => kit_is)
   (case i20 => kit_is)
   (case i21 => kit_is)
   (case i22 => kit_is)
   (case i23 => kit_is)
   (case i24 => kit_is)
   (case i25 => kit_is)
   (case i26 => kit_is)
   (case i27 => kit_is)
  have D_law_feed := by
   refine' bh (x := "_law_feed") (st := gB) KX G ?a ?l ?c ?k
   (case a => k_is); (case l => k_is); (case c => k_is); (case k => k_is)
  have D_law_draw := by
   refine' bh (x := "_law_draw") (st := gw) KX G ?a ?l ?c ?k
   (case a => k_is); (case l => k_is); (case c => k_is); (case k => k_is)
  have D_law_low := by
   refine' bh (x := "_law_low") (st := iz) KX G ?a ?l ?c ?k
   (case a => k_is); (case l => k_is); (case c => k_is); (case k => k_is)
  have D_law_great := by
   refine' bh (x := "_law_great") (st := fy) KX G ?a ?l ?c ?k
   (case a => k_is); (case l => k_is); (case c => k_is); (case k => k_is)
  have D_law_side := by
   refine' bh (x := "_law_side") (st := gF) KX G ?a ?l ?c ?k
   (case a => k_is); (case l => k_is); (case c => k_is); (case k => k_is)
  have D_law_box := by
   refine' bh (x := "_law_box") (st := fi) KX G ?a ?l ?c ?k
   (case a => k_is); (case l => k_is); (case c => k_is); (case k => k_is)
  have D_is_whole := by
   refine' bh (x := "is_whole") (st := gq) KX G ?a ?l ?c ?k
   (case a => k_is); (case l => k_is); (case c => k_is); (case k => k_is)
  have D_common_divisor := by
   refine' bh (x := "common_divisor") (st := dn) KX G ?a ?l ?c ?k
   (case a => k_is); (case l => k_is); (case c => k_is); (case k => k_is)
  have D_is_fraction := by
   refine' bh (x := "is_fraction") (st := eF) KX G ?a ?l ?c ?k
   (case a => k_is); (case l => k_is); (case c => k_is); (case k => k_is)
  have D_is_box := by
   refine' bh (x := "is_box") (st := gO) KX G ?a ?l ?c ?k
   (case a => k_is); (case l => k_is); (case c => k_is); (case k => k_is)
  have D_check_box := by
   refine' bh (x := "check_box") (st := fE) KX G ?a ?l ?c ?k
   (case a => k_is); (case l => k_is); (case c => k_is); (case k => k_is)
  have D_fraction := by
   refine' bh (x := "fraction") (st := gA) KX G ?a ?l ?c ?k
   (case a => k_is); (case l => k_is); (case c => k_is); (case k => k_is)
  have D_times := by
   refine' bh (x := "times") (st := ko) KX G ?a ?l ?c ?k
   (case a => k_is); (case l => k_is); (case c => k_is); (case k => k_is)
  have D_area := by
   refine' bh (x := "area") (st := nG) KX G ?a ?l ?c ?k
   (case a => k_is); (case l => k_is); (case c => k_is); (case k => k_is)
  have D_weights_back := by
   refine' bh (x := "weights_back") (st := bS) KX G ?a ?l ?c ?k
   (case a => k_is); (case l => k_is); (case c => k_is); (case k => k_is)
  have D_law_times := by
   refine' bh (x := "_law_times") (st := fD) KX G ?a ?l ?c ?k
   (case a => k_is); (case l => k_is); (case c => k_is); (case k => k_is)
  have D_law_divisor := by
   refine' bh (x := "_law_divisor") (st := eB) KX G ?a ?l ?c ?k
   (case a => k_is); (case l => k_is); (case c => k_is); (case k => k_is)
  have D_law := by
   refine' bh (x := "law") (st := jb) KX G ?a ?l ?c ?k
   (case a => k_is); (case l => k_is); (case c => k_is); (case k => k_is)
  have c_law_feed := mZ (P := PySem.Challenge.rw_weightrooms_k76_weights_back.prog) (w := w) (base := base) TT D_law_feed
  have c_law_draw := nB (P := PySem.Challenge.rw_weightrooms_k76_weights_back.prog) (w := w) (base := base) TT D_law_draw
  have c_law_low := nU (P := PySem.Challenge.rw_weightrooms_k76_weights_back.prog) (w := w) (base := base) TT D_law_low
  have c_law_great := lL (P := PySem.Challenge.rw_weightrooms_k76_weights_back.prog) (w := w) (base := base) TT D_law_great c_law_draw
  have c_law_side := mY (P := PySem.Challenge.rw_weightrooms_k76_weights_back.prog) (w := w) (base := base) TT D_law_side c_law_draw c_law_low c_law_great
  have c_law_box := nX (P := PySem.Challenge.rw_weightrooms_k76_weights_back.prog) (w := w) (base := base) TT D_law_box c_law_low c_law_draw c_law_side
  have c_is_whole := nN (P := PySem.Challenge.rw_weightrooms_k76_weights_back.prog) (w := w) (base := base) TT D_is_whole
  have c_common_divisor := iB (P := PySem.Challenge.rw_weightrooms_k76_weights_back.prog) (w := w) (base := base) TT D_common_divisor
  have c_is_fraction := j4 (P := PySem.Challenge.rw_weightrooms_k76_weights_back.prog) (w := w) (base := base) TT D_is_fraction c_is_whole c_common_divisor
  have c_is_box := pv (P := PySem.Challenge.rw_weightrooms_k76_weights_back.prog) (w := w) (base := base) TT D_is_box c_is_fraction
  have c_check_box := lQ (P := PySem.Challenge.rw_weightrooms_k76_weights_back.prog) (w := w) (base := base) TT D_check_box c_is_box
  have c_fraction := mr (P := PySem.Challenge.rw_weightrooms_k76_weights_back.prog) (w := w) (base := base) TT D_fraction c_common_divisor
  have c_times := rQ (P := PySem.Challenge.rw_weightrooms_k76_weights_back.prog) (w := w) (base := base) TT D_times c_fraction
  have c_area := u7 (P := PySem.Challenge.rw_weightrooms_k76_weights_back.prog) (w := w) (base := base) TT D_area c_check_box c_times
  have c_weights_back := jj (P := PySem.Challenge.rw_weightrooms_k76_weights_back.prog) (w := w) (base := base) TT D_weights_back c_area c_common_divisor
  have c_law_times := lO (P := PySem.Challenge.rw_weightrooms_k76_weights_back.prog) (w := w) (base := base) TT D_law_times c_law_low
  have c_law_divisor := jU (P := PySem.Challenge.rw_weightrooms_k76_weights_back.prog) (w := w) (base := base) TT D_law_divisor
  have c_law := xU (P := PySem.Challenge.rw_weightrooms_k76_weights_back.prog) (w := w) (base := base) TT D_law c_law_feed c_law_draw c_law_box c_weights_back c_law_times c_law_divisor
  exact sE c_law (law3 jL rfl zf)
 case D =>
  intro w mg h KX G
  refine ⟨jb, ?_, (fun _ _ _ _ _ _ => ar1 fun _ => rfl)⟩
  refine' bh KX G ?a ?l ?c ?k
  (case a => k_is); (case l => k_is); (case c => k_is); (case k => k_is)
